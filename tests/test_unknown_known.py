"""The calls unknown and known: the least at the worst without news, and with all known at minute 0."""

import unittest

from roadbehind.chase import answers
from tests.calls import MOST, CallsTest, ReadOnlyList, begins, far, fork, joined, known, may, may_number, news, road
from tests.calls import told, unknown, worst


def wheel(landing, *landing_places):
    """Places 1 to 5, each 10 minutes from place 0, where the car is; 1 and 2 are 4 minutes from each other."""
    roads = told(*[road(0, place, 10) for place in range(1, 6)], road(1, 2, 4))
    return [(begins(6, 0, landing), 0), *roads, (may(*landing_places), 0)]


class BesideWorst(CallsTest):
    def test_ahead_of_any_begins(self):
        self.check((worst(), [0, 0, 0]), (unknown(), 0), (known(), 0))

    def test_without_news(self):
        self.check(*fork(30), (worst(), [10, 1, 30]), (unknown(), 10), (known(), 0))

    def test_with_news_that_tell_all_in_time(self):
        self.check(*fork(30), (news(20, 0, 0, 1, 2), 1), (worst(), [0, 1, 20]), (unknown(), 10), (known(), 0))

    def test_with_news_that_tell_nothing(self):
        self.check(*fork(30), (news(20, 0, 0, 0, 0), 1), (worst(), [10, 0, 20]), (unknown(), 10), (known(), 0))

    def test_with_news_that_come_too_late(self):
        self.check(*fork(30), (news(30, 0, 0, 1, 2), 1), (worst(), [10, 1, 30]), (unknown(), 10), (known(), 0))

    def test_with_news_that_tell_something(self):
        self.check(
            *wheel(20, 1, 2, 3),
            (worst(), [10, 0, 20]),
            (news(10, 0, 1, 1, 2, 2, 2), 1),
            (worst(), [4, 0, 10]),
            (unknown(), 10),
            (known(), 0),
        )

    def test_with_two_and_three_news(self):
        self.check(
            *wheel(20, 1, 2, 3),
            *told(news(5, 0, 1, 1, 2, 2, 2), news(8, 0, 1, 1, 2, 2, 2)),
            (worst(), [4, 0, 5]),
            (unknown(), 10),
            (known(), 0),
            (news(10, 0, 1, 2, 2, 2, 2), 3),
            (worst(), [0, 0, 5]),
            (unknown(), 10),
            (known(), 0),
        )

    def test_with_news_at_minute_0_that_tell_all(self):
        for landing, late in ((0, 20), (9, 20), (10, 10), (19, 10), (20, 0), (1000, 0)):
            self.check(*fork(landing), (news(0, 0, 0, 1, 2), 1), (worst(), [late, 0, 0]), (known(), late))

    def test_till_how_far_one_comes_by_the_landing(self):
        self.check(*fork(0), (unknown(), 20), (known(), 20))
        self.check(*fork(9), (unknown(), 20), (known(), 20))
        self.check(*fork(10), (unknown(), 10), (known(), 10))
        self.check(*fork(19), (unknown(), 10), (known(), 10))
        self.check(*fork(20), (unknown(), 10), (known(), 0))

    def test_the_most_over_all_places_where_it_may_land(self):
        # Place 1 lies on the one side, place 3 on the other; by the landing one comes to either, not beyond.
        roads = told(road(0, 1, 10), road(1, 2, 30), road(0, 3, 7), road(3, 4, 30))
        start = [(begins(5, 0, 10), 0), *roads]
        self.check(*start, (known(), 30), (unknown(), 40))
        self.check(*start, (may(0, 3), 0), (known(), 0), (unknown(), 7))
        self.check(*start, (may(2), 0), (known(), 30), (unknown(), 30))
        self.check(*start, (may(4, 3), 0), (known(), 30), (unknown(), 30))
        self.check(*start, (may(2, 4), 0), (known(), 30), (unknown(), 40), (worst(), [40, 0, 10]))

    def test_one_place_where_it_may_land_is_as_good_as_known(self):
        for landing, late in ((9, 20), (10, 10), (20, 0)):
            self.check(*fork(landing), (may(3), 0), (unknown(), late), (known(), late))

    def test_on_the_road_one_is_nowhere(self):
        self.check((begins(2, 0, 999), 0), (road(0, 1, 1000), 1), (may(1), 0), (unknown(), 1000), (known(), 1000))
        self.check((begins(2, 0, 1000), 0), (road(0, 1, 1000), 1), (may(1), 0), (unknown(), 0), (known(), 0))

    def test_known_where_the_best_place_differs_for_each_landing(self):
        # Each of 1 to 5 is come to in time, but one must know which.
        self.check(*wheel(10, 1, 2, 3, 4, 5), (unknown(), 10), (known(), 0), (worst(), [10, 0, 10]))
        self.check(*wheel(10, 1, 2), (unknown(), 4), (known(), 0), (worst(), [4, 1, 10]))

    def test_the_last_may_that_was_not_refused(self):
        self.check(
            *wheel(10, 1, 2),
            (may_number(0), -1),
            (may(6), -1),
            (may_number(MOST), -1),
            (unknown(), 4),
            (may(1, 3), 0),
            (unknown(), 10),
            (may(0), 0),
            (unknown(), 0),
        )


class NothingIsChanged(CallsTest):
    def test_worst_answers_the_same_behind_them(self):
        self.check(
            *fork(30),
            (news(20, 0, 0, 1, 2), 1),
            (worst(), [0, 1, 20]),
            (unknown(), 10),
            (worst(), [0, 1, 20]),
            (known(), 0),
            (worst(), [0, 1, 20]),
            (unknown(), 10),
        )

    def test_roads_and_news_are_counted_on(self):
        self.check(
            *fork(30),
            (unknown(), 10),
            (known(), 0),
            (news(20, 0, 0, 1, 2), 1),
            (unknown(), 10),
            (known(), 0),
            (news(19, 0, 0, 1, 2), -1),
            (news(21, 0, 0, 1, 2), 2),
            (road(0, 2, 50), 4),
            (far(0, 2), 20),
            (worst(), [0, 1, 20]),
            (unknown(), 10),
            (news(30, 0, 0, 1, 2), 3),
            (news(30, 0, 0, 1, 2), -5),
        )

    def test_may_stays(self):
        self.check(*fork(30), (may(2), 0), (known(), 0), (unknown(), 0), (worst(), [0, 2, 30]))

    def test_begins_in_the_middle_forgets_roads_news_and_may(self):
        self.check(
            *fork(30),
            (news(20, 0, 0, 1, 2), 1),
            (begins(2, 1, 5), 0),
            (unknown(), -6),
            (known(), -6),
            (road(0, 1, 9), 1),
            (unknown(), 9),
            (known(), 9),
            (worst(), [9, 1, 5]),
            (news(0, 1, 1), 1),
        )


class NoWayCanBe(CallsTest):
    def test_a_place_where_it_may_land_that_can_not_be_come_to(self):
        self.check((begins(2, 0, 10), 0), (worst(), -6), (unknown(), -6), (known(), -6))
        all_but_0 = told(*[road(5, place, 1) for place in range(1, 5)])
        self.check((begins(6, 5, 10), 0), *all_but_0, (worst(), -6), (unknown(), -6), (known(), -6))

    def test_as_may_changes(self):
        start = [(begins(4, 0, 10), 0), *told(road(0, 1, 10), road(2, 3, 10))]
        self.check(*start, (unknown(), -6), (may(0, 1), 0), (unknown(), 10), (may(1, 3), 0), (unknown(), -6))
        self.check(*start, (known(), -6), (may(0, 1), 0), (known(), 0), (may(1, 3), 0), (known(), -6))
        self.check(*start, (may(2), 0), (unknown(), -6), (known(), -6), (may(1), 0), (unknown(), 0), (known(), 0))

    def test_as_roads_are_told(self):
        start = [(begins(3, 0, 10), 0), (road(1, 2, 5), 1), (may(2), 0)]
        self.check(*start, (unknown(), -6), (known(), -6), (road(0, 1, 20), 2), (unknown(), 25), (known(), 25))

    def test_all_is_as_it_was(self):
        self.check(
            (begins(2, 0, 10), 0),
            (news(5, 1, 2), 1),
            (unknown(), -6),
            (known(), -6),
            (news(4, 1, 2), -1),
            (news(5, 1, 2), 2),
            (road(0, 1, 5), 1),
            (worst(), [0, 0, 5]),
            (unknown(), 5),
            (known(), 0),
        )


class HowManyNumbers(unittest.TestCase):
    def test_worst_answers_three_and_all_else_one(self):
        calls = joined(begins(2, 0, 10), road(0, 1, 10), far(0, 1), worst(), unknown(), known())
        self.assertEqual(answers(calls), [1, 0, 1, 1, 1, 10, 3, 10, 0, 10, 1, 10, 1, 0])

    def test_a_refusal_is_one_alone(self):
        calls = joined(begins(2, 0, 10), far(0, 1), far(0, 2), worst(), unknown(), known())
        self.assertEqual(answers(calls), [1, 0, 1, -6, 1, -2, 1, -6, 1, -6, 1, -6])

    def test_whole_numbers_in_a_plain_list(self):
        given = answers(joined(begins(2, 0, 10), road(0, 1, 10), news(0, 1, 2), far(0, 0), worst(), unknown(), known()))
        self.assertIs(type(given), list)
        self.assertEqual({type(number) for number in given}, {int})

    def test_the_calls_as_they_stand_in_the_document(self):
        self.assertEqual(answers([4, 2, 0, 0, 0, 5, 0, 0, 6, 0, 0, 7, 0, 0]), [1, 0, 3, 0, 0, 0, 1, 0, 1, 0])


class TheMost(CallsTest):
    halves = told(news(1, 0, 1, 1, 1, 2, 2), news(2, 0, 1, 1, 2, 3, 4), news(3, 0, 1, 2, 1, 1, 1))
    roads = told(*[road(0, place, 10) for place in range(1, 6)] * 2, road(1, 2, 30), road(4, 5, 20))

    def test_all_at_once(self):
        start = [(begins(6, 0, 13), 0), *self.roads, (may(1, 2, 3, 4, 5), 0), *self.halves]
        asked = [(worst(), [0, 0, 1]), (unknown(), 10), (known(), 0)] * 2
        fars = [(far(1, 5), 20), (far(0, 3), 10), (road(0, 1, 1), -5), (news(13, 1, 1, 1, 1, 1, 1), -5)] * 9
        lines = [*start, *asked, *fars, (begins(0, 0, 0), -1)]
        self.assertEqual(len(lines), 60)
        self.check(*lines)

    def test_six_of_worst(self):
        start = [(begins(6, 0, 1000), 0), *self.roads]
        three = told(*[news(minute, 1, 2, 3, 4, 5, 6) for minute in (300, 600, 900)])
        self.check(*start, *three, *[(worst(), [0, 0, 300])] * 6)
        same = told(*[news(minute, 1, 1, 1, 1, 1, 1) for minute in (300, 600, 900)])
        self.check(*start, *same, *[(worst(), [10, 0, 300])] * 6)


class NothingElseChanges(unittest.TestCase):
    calls = joined(
        begins(4, 0, 30),
        road(0, 1, 10),
        road(1, 2, 10),
        road(1, 3, 10),
        may(2, 3),
        news(20, 0, 0, 1, 2),
        far(0, 2),
        worst(),
        unknown(),
        known(),
    )
    wanted = [1, 0, 1, 1, 1, 2, 1, 3, 1, 0, 1, 1, 1, 20, 3, 0, 1, 20, 1, 10, 1, 0]

    def test_the_list_handed_in_stays_as_it_was(self):
        handed_in = ReadOnlyList(self.calls)
        self.assertEqual(answers(handed_in), self.wanted)
        self.assertEqual(handed_in, self.calls)

    def test_the_same_is_answered_each_time(self):
        for time in range(3):
            self.assertEqual(answers(list(self.calls)), self.wanted)

    def test_one_time_leaves_nothing_for_the_next(self):
        answers(list(self.calls))
        self.assertEqual(answers(joined(far(0, 1), worst(), unknown(), known())), [1, -2, 3, 0, 0, 0, 1, 0, 1, 0])


if __name__ == "__main__":
    unittest.main()
