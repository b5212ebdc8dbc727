"""The ways of driving on a chase, and the least that one is late at the worst by them.

A stop is one of the news, by its place among those told, or the landing, which comes behind them
all. From every place that the car comes to there must be a drive to wherever it may land.
"""


class Ways:
    def __init__(self, drives, landing, news_told):
        self.drives = drives
        self.landing = landing
        self.news_told = news_told

    def best(self, car, minute, first_stop, landing_places):
        """The least at the worst for a car that stands in a place at a minute, with the stops from
        first_stop on still to come; then where to drive first and by what minute."""
        found = []
        for stop in range(first_stop, len(self.news_told) + 1):
            by = self.minute_of(stop)
            for place in range(len(self.drives)):
                if minute + self.drives[car][place] <= by:
                    late = self.late_behind(stop, place, landing_places)
                    # Earlier stops and lower places are tried first, so of ways as little late the first stands.
                    if len(found) == 0 or late < found[0]:
                        found = [late, place, by]
        return found

    def minute_of(self, stop):
        if stop == len(self.news_told):
            return self.landing
        return self.news_told[stop][0]

    def late_behind(self, stop, place, landing_places):
        """The least at the worst for a car that is in a place at a stop."""
        if stop == len(self.news_told):
            return max([self.drives[place][landing_place] for landing_place in landing_places])
        minute = self.news_told[stop][0]
        parts = self.news_told[stop][1]
        return max([self.best(place, minute, stop + 1, left)[0] for left in parted(landing_places, parts)])


def parted(landing_places, parts):
    """The places where it may land, a list of them for each part that one may hear of."""
    by_part = {}
    for place in landing_places:
        by_part.setdefault(parts[place], []).append(place)
    return list(by_part.values())
