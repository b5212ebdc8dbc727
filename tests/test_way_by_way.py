"""worst, unknown and known beside a search that writes out every way of driving and tries each.

The chases are drawn from a source that begins with the same number each time, so each run sees the same.
"""

import itertools
import random
import unittest

from roadbehind.chase import answers
from tests.calls import begins, joined, known, may, news, road, unknown, worst

NEVER = 10 ** 9


class Drawn:
    """A chase as it was drawn: where each place can be come to from each."""

    def __init__(self, source, places, how_many_news, how_many_parts, landing):
        self.places = places
        self.car = source.randrange(places)
        self.landing = source.randint(0, landing)
        # A tree of roads first, so that seldom a place can't be come to.
        ends = [(place, source.randrange(place)) for place in range(1, places)]
        ends += [source.sample(range(places), 2) for more in range(source.randrange(3)) if places > 1]
        if source.random() < 0.1:
            ends = ends[1:]
        self.roads = [(place, other, source.randint(1, 9)) for place, other in ends]
        self.landing_places = sorted(source.sample(range(places), source.randint(1, places)))
        minutes = sorted(source.randint(0, self.landing) for number in range(how_many_news))
        self.news = [(minute, [source.randrange(how_many_parts) for place in range(places)]) for minute in minutes]
        self.drives = [[self.drive(place, other) for other in range(places)] for place in range(places)]

    def drive(self, place, other):
        """The shortest of all drives that come to no place twice."""
        between = [one for one in range(self.places) if one not in (place, other)]
        drives = [
            self.drive_over([place, *via, other])
            for count in range(len(between) + 1)
            for via in itertools.permutations(between, count)
        ]
        return 0 if place == other else min(drives)

    def drive_over(self, stations):
        return sum(self.straight(one, other) for one, other in zip(stations, stations[1:]))

    def straight(self, one, other):
        return min([minutes for place, end, minutes in self.roads if {place, end} == {one, other}], default=NEVER)

    def calls(self, *asked):
        told = [begins(self.places, self.car, self.landing), may(*self.landing_places)]
        told += [road(*one) for one in self.roads] + [news(minute, *parts) for minute, parts in self.news]
        return joined(*told, *asked), len(told)

    def answered(self, *asked):
        calls, count = self.calls(*asked)
        return answers(calls)[2 * count:]


def ways(drawn, all_news, place, minute, heard, left):
    """Every way that can be, from a place at a minute on: what is heard next (or None), the place, and
    for each part that may be heard of the way from there on."""
    in_time = [goal for goal in range(drawn.places) if minute + drawn.drives[place][goal] <= drawn.landing]
    for goal in in_time:
        if all(drawn.drives[goal][end] < NEVER for end in left):
            yield None, goal, {}
    for number in range(heard, len(all_news)):
        news_minute, parts = all_news[number]
        groups = {}
        for end in left:
            groups.setdefault(parts[end], []).append(end)
        for goal in in_time:
            if minute + drawn.drives[place][goal] <= news_minute:
                behind = [ways(drawn, all_news, goal, news_minute, number + 1, group) for group in groups.values()]
                for chosen in itertools.product(*behind):
                    yield number, goal, dict(zip(groups, chosen))


def late_by(drawn, all_news, way, end):
    number, place, behind = way
    while number is not None:
        number, place, behind = behind[all_news[number][1][end]]
    return drawn.drives[place][end]


def found_way_by_way(drawn, all_news):
    """What worst answers, were all_news the news."""
    found = []
    for way in ways(drawn, all_news, drawn.car, 0, 0, drawn.landing_places):
        late = max(late_by(drawn, all_news, way, end) for end in drawn.landing_places)
        minute = drawn.landing if way[0] is None else all_news[way[0]][0]
        # Of the same minute a news comes ahead of the landing, and an earlier told one ahead of a later.
        number = len(all_news) if way[0] is None else way[0]
        found.append((late, number, way[1], minute))
    if not found:
        return [-6]
    late, number, place, minute = min(found)
    return [late, place, minute]


class WayByWay(unittest.TestCase):
    def compare(self, chases, *form):
        source = random.Random(len(form) * 1000 + sum(form))
        for number in range(chases):
            drawn = Drawn(source, *form)
            with self.subTest(calls=drawn.calls(worst(), unknown(), known())[0]):
                of_worst = found_way_by_way(drawn, drawn.news)
                of_unknown = found_way_by_way(drawn, [])[:1]
                of_known = found_way_by_way(drawn, [(0, list(range(drawn.places)))])[:1]
                given = [len(of_worst), *of_worst, 1, *of_unknown, 1, *of_known]
                self.assertEqual(drawn.answered(worst(), unknown(), known()), given)

    def test_without_news(self):
        for places in range(1, 7):
            self.compare(20, places, 0, 1, 30)

    def test_one_news(self):
        for places in range(1, 5):
            self.compare(60, places, 1, 3, 25)

    def test_one_news_with_many_places(self):
        self.compare(15, 5, 1, 2, 30)
        self.compare(15, 6, 1, 2, 30)

    def test_two_news(self):
        self.compare(60, 2, 2, 2, 20)
        self.compare(60, 3, 2, 2, 20)
        self.compare(30, 4, 2, 2, 12)

    def test_three_news(self):
        self.compare(60, 2, 3, 2, 20)
        self.compare(30, 3, 3, 2, 14)


if __name__ == "__main__":
    unittest.main()
