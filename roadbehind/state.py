"""What has been told of one chase: its places, its roads, where the balloon may land, its news.

The methods that bear a call's name answer a number, worst a list of numbers. A number below 0 is a
refusal, and then all is as it was. Where several refusals fit, the first that the document tells
is answered, so they are asked for in its order.
"""

from roadbehind.drives import NO_DRIVE, shortest_drives
from roadbehind.ways import Ways

MOST_PLACES = 6
MOST_ROADS = 12
MOST_NEWS = 3
LATEST_LANDING = 1000
LONGEST_ROAD = 1000


class Chase:
    def __init__(self):
        self.begin_anew(1, 0, 0)

    def begin_anew(self, places, car, landing):
        self.places = places
        self.car = car
        self.landing = landing
        self.landing_places = list(range(places))
        self.roads = []
        self.news_told = []

    def begins(self, places, car, landing):
        if places < 1 or places > MOST_PLACES or car >= places or landing > LATEST_LANDING:
            return -1
        self.begin_anew(places, car, landing)
        return 0

    def road(self, place, other, minutes):
        if place >= self.places or other >= self.places:
            return -2
        if place == other:
            return -4
        if minutes < 1 or minutes > LONGEST_ROAD:
            return -1
        if len(self.roads) == MOST_ROADS:
            return -5
        self.roads.append((place, other, minutes))
        return len(self.roads)

    def may(self, places):
        # What is left above the places' own bits stands for a place that isn't there.
        if places == 0 or places >> self.places > 0:
            return -1
        self.landing_places = [place for place in range(self.places) if (places >> place) & 1 == 1]
        return 0

    def news(self, minute, parts):
        if len(parts) != self.places or minute < self.last_news_minute() or minute > self.landing:
            return -1
        if len(self.news_told) == MOST_NEWS:
            return -5
        self.news_told.append((minute, list(parts)))
        return len(self.news_told)

    def last_news_minute(self):
        if len(self.news_told) == 0:
            # The first news may come at any minute, and none is earlier than this.
            return 0
        return self.news_told[-1][0]

    def far(self, place, other):
        if place >= self.places or other >= self.places:
            return -2
        minutes = shortest_drives(self.places, self.roads)[place][other]
        if minutes == NO_DRIVE:
            return -6
        return minutes

    def worst(self):
        if self.no_way_can_be():
            return [-6]
        return self.ways_with(self.news_told).best(self.car, 0, 0, self.landing_places)

    def unknown(self):
        if self.no_way_can_be():
            return -6
        return self.least_without_news(self.landing_places)

    def known(self):
        if self.no_way_can_be():
            return -6
        return max([self.least_without_news([place]) for place in self.landing_places])

    def least_without_news(self, landing_places):
        return self.ways_with([]).best(self.car, 0, 0, landing_places)[0]

    def ways_with(self, news_told):
        return Ways(shortest_drives(self.places, self.roads), self.landing, news_told)

    def no_way_can_be(self):
        # Roads lead either way: from wherever the car comes to, it comes to what it could come to at first.
        return any([self.far(self.car, place) < 0 for place in self.landing_places])
