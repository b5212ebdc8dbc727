"""The call worst: the least at the worst, where to drive first and by what minute."""

import unittest

from tests.calls import MOST, CallsTest, begins, far, fork, may, may_number, news, road, told, worst


def row(landing, car):
    """Places 0, 1 and 2 in a row, 10 minutes from one to the next."""
    return [(begins(3, car, landing), 0), *told(road(0, 1, 10), road(1, 2, 10))]


def wheel(landing, car, *landing_places):
    """Places 1 to 5, each 10 minutes from place 0 and so 20 from each other."""
    roads = told(*[road(0, place, 10) for place in range(1, 6)])
    return [(begins(6, car, landing), 0), *roads, (may(*landing_places), 0)]


def two_forks(landing):
    """The car in 0; on one side 1 with 2 and 3 behind it, on the other 4 with 5 behind it; each road is 10."""
    roads = told(road(0, 1, 10), road(1, 2, 10), road(1, 3, 10), road(0, 4, 10), road(4, 5, 10))
    return [(begins(6, 0, landing), 0), *roads, (may(2, 3, 5), 0)]


class WithoutNews(CallsTest):
    def test_ahead_of_any_begins(self):
        self.check((worst(), [0, 0, 0]))

    def test_one_place(self):
        self.check((begins(1, 0, 0), 0), (worst(), [0, 0, 0]))
        self.check((begins(1, 0, 1000), 0), (worst(), [0, 0, 1000]))

    def test_the_place_from_which_the_farthest_is_nearest(self):
        self.check(*row(30, 0), (worst(), [10, 1, 30]))
        self.check(*row(30, 2), (worst(), [10, 1, 30]))

    def test_only_where_it_may_land_matters(self):
        self.check(*row(30, 0), (may(0), 0), (worst(), [0, 0, 30]), (may(1), 0), (worst(), [0, 1, 30]))
        self.check(*row(30, 0), (may(2), 0), (worst(), [0, 2, 30]), (may(0, 2), 0), (worst(), [10, 1, 30]))

    def test_to_be_there_at_the_very_minute_and_a_minute_too_late(self):
        self.check(*row(10, 0), (worst(), [10, 1, 10]))
        self.check(*row(9, 0), (worst(), [20, 0, 9]))
        self.check(*row(20, 0), (may(2), 0), (worst(), [0, 2, 20]))
        self.check(*row(19, 0), (may(2), 0), (worst(), [10, 1, 19]))

    def test_on_the_road_one_is_nowhere(self):
        # At the landing the car is still in 0: half of the road isn't driven ahead of it.
        self.check((begins(2, 0, 5), 0), (road(0, 1, 10), 1), (may(1), 0), (worst(), [10, 0, 5]))

    def test_a_landing_at_minute_0(self):
        self.check(*row(0, 0), (worst(), [20, 0, 0]))
        self.check(*row(0, 1), (worst(), [10, 1, 0]))
        self.check(*row(0, 2), (may(2), 0), (worst(), [0, 2, 0]))

    def test_a_landing_at_minute_1000(self):
        long_road = [(road(0, 1, 1000), 1), (may(1), 0)]
        self.check((begins(2, 0, 1000), 0), *long_road, (worst(), [0, 1, 1000]))
        self.check((begins(2, 0, 999), 0), *long_road, (worst(), [1000, 0, 999]))

    def test_late_by_the_longest_drive_there_is(self):
        roads = told(*[road(place, place + 1, 1000) for place in range(5)])
        self.check((begins(6, 0, 999), 0), *roads, (worst(), [5000, 0, 999]))
        self.check((begins(6, 0, 1000), 0), *roads, (worst(), [4000, 1, 1000]))

    def test_by_the_shortest_drive(self):
        roads = told(road(0, 2, 30), road(0, 1, 9), road(1, 2, 9), road(1, 2, 12))
        self.check((begins(3, 0, 18), 0), *roads, (may(2), 0), (worst(), [0, 2, 18]))
        self.check((begins(3, 0, 0), 0), *roads, (may(2), 0), (worst(), [18, 0, 0]))

    def test_of_places_that_are_as_good_the_lowest(self):
        # Each place is 10 from each other; the car's is not the lowest.
        roads = told(road(0, 1, 10), road(1, 2, 10), road(2, 0, 10))
        self.check((begins(3, 2, 30), 0), *roads, (worst(), [10, 0, 30]))
        self.check((begins(3, 2, 9), 0), *roads, (worst(), [10, 2, 9]))
        self.check((begins(3, 2, 30), 0), *roads, (may(1, 2), 0), (worst(), [10, 0, 30]))


class OneNews(CallsTest):
    def test_worth_waiting_for_where_the_car_is(self):
        start = [*row(30, 1), (may(0, 2), 0)]
        self.check(*start, (worst(), [10, 1, 30]), (news(20, 1, 1, 2), 1), (worst(), [0, 1, 20]))

    def test_worth_waiting_for_in_another_place_than_the_cars(self):
        # Heard in 0 they'd leave 10: one would come no farther than 1 by the landing.
        self.check(*fork(30), (worst(), [10, 1, 30]), (news(20, 0, 0, 1, 2), 1), (worst(), [0, 1, 20]))

    def test_heard_at_the_very_minute_and_a_minute_too_early(self):
        self.check(*fork(20), (news(10, 0, 0, 1, 2), 1), (worst(), [0, 1, 10]))
        self.check(*fork(19), (news(9, 0, 0, 1, 2), 1), (worst(), [10, 0, 9]))

    def test_in_time_for_the_landing_and_a_minute_too_late(self):
        self.check(*fork(30), (news(20, 0, 0, 1, 2), 1), (worst(), [0, 1, 20]))
        self.check(*fork(30), (news(21, 0, 0, 1, 2), 1), (worst(), [10, 1, 21]))

    def test_not_heard_because_the_car_is_on_the_road(self):
        # Whoever stays in 0 to hear them comes too late to 1.
        self.check((begins(2, 0, 10), 0), (road(0, 1, 10), 1), (may(1), 0), (news(5, 1, 2), 1), (worst(), [0, 1, 10]))
        self.check((begins(2, 0, 15), 0), (road(0, 1, 10), 1), (may(1), 0), (news(5, 1, 2), 1), (worst(), [0, 0, 5]))

    def test_not_heard_though_they_tell_all(self):
        # 0 to 1 takes 20, and 1 is 10 from 2 and 3; heard in 0 at minute 5 they leave the car there.
        roads = told(road(0, 1, 20), road(1, 2, 10), road(1, 3, 10))
        start = [(begins(4, 0, 20), 0), *roads, (may(2, 3), 0)]
        self.check(*start, (news(5, 0, 0, 1, 2), 1), (worst(), [10, 1, 20]))

    def test_heard_though_the_place_without_them_would_be_nearer(self):
        # To wait in 0 and hear leaves 5 in each case; to drive to 1 unheard leaves 8.
        roads = told(road(0, 1, 10), road(0, 2, 5), road(0, 3, 5), road(1, 2, 8), road(1, 3, 8))
        start = [(begins(4, 0, 10), 0), *roads, (may(2, 3), 0)]
        self.check(*start, (worst(), [5, 0, 10]), (news(6, 0, 0, 1, 2), 1), (worst(), [5, 0, 6]))
        self.check(*start, (news(5, 0, 0, 1, 2), 1), (worst(), [0, 0, 5]))

    def test_that_do_not_help(self):
        # Heard in 0 at minute 20, it's still time to come to 1 by the landing; 0 is the lowest such place.
        self.check(*row(30, 1), (may(0, 2), 0), (news(20, 7, 7, 7), 1), (worst(), [10, 0, 20]))
        self.check(*row(30, 1), (may(0, 2), 0), (news(21, 7, 7, 7), 1), (worst(), [10, 1, 21]))

    def test_that_part_only_places_where_it_may_not_land(self):
        self.check(*wheel(30, 0, 1, 2), (news(20, 3, 8, 8, 4, 5, 6), 1), (worst(), [10, 0, 20]))
        self.check(*wheel(30, 0, 1, 2), (news(20, 3, 8, 9, 4, 5, 6), 1), (worst(), [0, 0, 20]))

    def test_at_minute_0(self):
        self.check(*fork(20), (news(0, 0, 0, 1, 2), 1), (worst(), [0, 0, 0]))
        self.check(*fork(19), (news(0, 0, 0, 1, 2), 1), (worst(), [10, 0, 0]))

    def test_at_minute_0_they_are_heard_where_the_car_is_alone(self):
        # Place 0 would be as good and lower, but the car is in 2.
        self.check(*row(40, 2), (news(0, 1, 1, 1), 1), (worst(), [10, 2, 0]))

    def test_at_the_very_minute_of_the_landing(self):
        # They're heard, but there's no time left to drive.
        self.check(*fork(20), (news(20, 0, 0, 1, 2), 1), (worst(), [10, 1, 20]))
        self.check(*fork(9), (news(9, 0, 0, 1, 2), 1), (worst(), [20, 0, 9]))

    def test_at_minute_0_that_is_the_landing_too(self):
        self.check(*fork(0), (news(0, 0, 0, 1, 2), 1), (worst(), [20, 0, 0]))

    def test_after_which_several_parts_are_left(self):
        self.check(*wheel(20, 0, 1, 2, 3, 4, 5), (news(10, 9, 1, 2, 3, 4, 5), 1), (worst(), [0, 0, 10]))

    def test_after_which_one_part_holds_several_places(self):
        # In the part of 1 and 2 one stays between them; 4 is the most in any part, whatever the others leave.
        self.check(
            *wheel(20, 0, 1, 2, 3, 4, 5),
            (road(1, 2, 4), 6),
            (news(10, 9, 6, 6, 3, 4, 5), 1),
            (worst(), [4, 0, 10]),
            (may(3, 4, 5), 0),
            (worst(), [0, 0, 10]),
            (may(2, 3, 4, 5), 0),
            (worst(), [0, 0, 10]),
        )

    def test_the_worst_of_the_parts_counts_wherever_it_stands(self):
        for parts in ((9, 1, 1, 2, 3, 4), (9, 2, 3, 1, 1, 4), (9, 2, 3, 4, 1, 1), (9, 1, 2, 3, 4, 1)):
            self.check(*wheel(20, 0, 1, 2, 3, 4, 5), (news(10, *parts), 1), (worst(), [10, 0, 10]))

    def test_parts_up_to_the_highest_number(self):
        self.check(*fork(30), (news(20, MOST, MOST, MOST, MOST - 1), 1), (worst(), [0, 1, 20]))
        self.check(*fork(30), (news(20, 0, MOST, MOST, 0), 1), (worst(), [0, 1, 20]))
        self.check(*fork(30), (news(21, 0, 1, MOST, MOST), 1), (worst(), [10, 1, 21]))

    def test_at_the_landing_at_minute_1000(self):
        roads = told(road(0, 1, 500), road(1, 2, 500), road(1, 3, 500))
        start = [(begins(4, 0, 1000), 0), *roads, (may(2, 3), 0)]
        self.check(*start, (news(500, 0, 0, 1, 2), 1), (worst(), [0, 1, 500]))
        self.check(*start, (news(501, 0, 0, 1, 2), 1), (worst(), [500, 1, 501]))
        self.check(*start, (news(1000, 0, 0, 1, 2), 1), (worst(), [500, 1, 1000]))


class TwoNews(CallsTest):
    def test_the_second_and_not_the_first(self):
        # Whoever waits in 0 for the first comes too late to 1 for the second.
        roads = told(road(0, 1, 20), road(1, 2, 10), road(1, 3, 10))
        start = [(begins(4, 0, 30), 0), *roads, (may(2, 3), 0)]
        self.check(*start, *told(news(5, 1, 1, 1, 1), news(20, 1, 1, 2, 3)), (worst(), [0, 1, 20]))
        self.check(*start, *told(news(5, 1, 1, 2, 3), news(20, 1, 1, 2, 3)), (worst(), [0, 1, 20]))

    def test_what_was_not_heard_is_not_learned_later(self):
        # Only both together tell all. Whoever hears the first in 0 doesn't come to 1 till the landing.
        roads = told(road(0, 1, 20), road(1, 2, 10), road(1, 3, 10), road(1, 4, 10))
        start = [(begins(5, 0, 30), 0), *roads, (may(2, 3, 4), 0)]
        both = told(news(11, 0, 0, 1, 2, 2), news(20, 0, 0, 1, 1, 2))
        self.check(*start, *both, (worst(), [10, 1, 20]))
        # A car that stands in 1 from the beginning hears both there.
        at_1 = [(begins(5, 1, 30), 0), *roads, (may(2, 3, 4), 0)]
        self.check(*at_1, *both, (worst(), [0, 1, 11]))

    def test_the_first_and_not_the_second(self):
        # With the first one drives at once: the second would come while the car is on the road.
        self.check(*fork(25), *told(news(5, 1, 1, 2, 3), news(16, 1, 1, 2, 3)), (worst(), [0, 0, 5]))

    def test_both_are_needed(self):
        both = told(news(5, 0, 1, 2, 2, 2, 2), news(10, 0, 1, 1, 2, 2, 2))
        self.check(*wheel(20, 0, 1, 2, 3), *both, (worst(), [0, 0, 5]))
        self.check(*wheel(20, 0, 1, 2, 3, 4), *both, (worst(), [10, 0, 5]))

    def test_where_the_second_is_heard_hangs_on_the_first(self):
        # On the one side one waits in 1 for the second, on the other one drives to 5 at once.
        first = news(5, 1, 1, 1, 1, 2, 2)
        second = news(20, 0, 0, 1, 2, 3, 3)
        self.check(*two_forks(30), *told(first, second), (worst(), [0, 0, 5]))
        self.check(*two_forks(30), *told(first), (worst(), [10, 0, 5]))
        self.check(*two_forks(30), *told(second), (worst(), [10, 0, 20]))

    def test_the_second_is_heard_by_one_part_and_not_by_the_other(self):
        # Whoever learns of 4 is on the road till the landing, whoever learns of 2 and 3 hears it in 1.
        roads = told(road(0, 1, 10), road(1, 2, 10), road(1, 3, 10), road(0, 4, 20))
        start = [(begins(5, 0, 30), 0), *roads, (may(2, 3, 4), 0)]
        self.check(*start, *told(news(10, 1, 1, 1, 1, 2), news(20, 0, 0, 1, 2, 1)), (worst(), [0, 0, 10]))

    def test_at_the_same_minute(self):
        both = told(news(10, 0, 1, 2, 2, 2, 2), news(10, 0, 1, 1, 2, 2, 2))
        self.check(*wheel(20, 0, 1, 2, 3), *both, (worst(), [0, 0, 10]))
        turned = told(news(10, 0, 1, 1, 2, 2, 2), news(10, 0, 1, 2, 2, 2, 2))
        self.check(*wheel(20, 0, 1, 2, 3), *turned, (worst(), [0, 0, 10]))
        self.check(*wheel(20, 0, 1, 2, 3), (news(10, 0, 1, 2, 2, 2, 2), 1), (worst(), [10, 0, 10]))

    def test_both_at_minute_0(self):
        both = told(news(0, 0, 1, 2, 2, 2, 2), news(0, 0, 1, 1, 2, 2, 2))
        self.check(*wheel(10, 0, 1, 2, 3), *both, (worst(), [0, 0, 0]))
        self.check(*wheel(9, 0, 1, 2, 3), *both, (worst(), [10, 0, 0]))

    def test_both_at_the_landing(self):
        both = told(news(20, 0, 1, 2, 2, 2, 2), news(20, 0, 1, 1, 2, 2, 2))
        self.check(*wheel(20, 3, 1, 2, 3), *both, (worst(), [10, 0, 20]))

    def test_the_same_told_twice(self):
        self.check(*fork(30), *told(news(15, 0, 0, 1, 2), news(20, 0, 0, 1, 2)), (worst(), [0, 1, 15]))


class ThreeNews(CallsTest):
    halves = [news(1, 0, 1, 1, 1, 2, 2), news(2, 0, 1, 1, 2, 3, 4), news(3, 0, 1, 2, 1, 1, 1)]

    def test_all_are_needed(self):
        self.check(*wheel(13, 0, 1, 2, 3, 4, 5), *told(*self.halves), (worst(), [0, 0, 1]))
        for left_out in range(3):
            two = self.halves[:left_out] + self.halves[left_out + 1:]
            first_minute = 2 if left_out == 0 else 1
            # Places 3 and 4, or 2 and 3, or 1 and 2 are told apart no more.
            late = 0 if left_out == 0 else 10
            self.check(*wheel(13, 0, 1, 2, 3, 4, 5), *told(*two), (worst(), [late, 0, first_minute]))

    def test_the_third_comes_too_late(self):
        self.check(*wheel(12, 0, 1, 2, 3, 4, 5), *told(*self.halves), (worst(), [10, 0, 1]))

    def test_the_third_alone_is_worth_hearing(self):
        # 40 minutes to 1: whoever stops for the first or the second isn't there for the third.
        roads = told(road(0, 1, 40), road(1, 2, 10), road(1, 3, 10))
        start = [(begins(4, 0, 50), 0), *roads, (may(2, 3), 0)]
        three = told(news(5, 0, 0, 1, 2), news(10, 0, 0, 1, 2), news(40, 0, 0, 1, 2))
        self.check(*start, *three, (worst(), [0, 1, 40]))

    def test_the_first_and_the_third(self):
        # From 0 at minute 5 one comes to 1 at 25, past the second; it's the third that parts 2 and 3.
        roads = told(road(0, 1, 20), road(1, 2, 10), road(1, 3, 10), road(0, 4, 10))
        start = [(begins(5, 0, 35), 0), *roads, (may(2, 3, 4), 0)]
        three = told(news(5, 1, 1, 1, 1, 2), news(15, 1, 1, 2, 3, 3), news(25, 1, 1, 2, 3, 3))
        self.check(*start, *three, (worst(), [0, 0, 5]))
        self.check(*start, *three[:2], (worst(), [10, 0, 5]))

    def test_all_at_the_same_minute(self):
        three = [news(10, 0, 1, 1, 1, 2, 2), news(10, 0, 1, 1, 2, 1, 2), news(10, 0, 1, 2, 1, 1, 1)]
        self.check(*wheel(20, 0, 1, 2, 3, 4, 5), *told(*three), (worst(), [0, 0, 10]))
        self.check(*wheel(20, 0, 1, 2, 3, 4, 5), *told(*three[:2]), (worst(), [10, 0, 10]))
        self.check(*wheel(19, 0, 1, 2, 3, 4, 5), *told(*three), (worst(), [10, 0, 10]))

    def test_at_minute_0_between_and_at_the_landing(self):
        three = told(news(0, 0, 1, 1, 1, 2, 2), news(5, 0, 1, 1, 2, 3, 4), news(20, 0, 1, 2, 1, 1, 1))
        self.check(*wheel(20, 0, 1, 2, 3, 4, 5), *three, (worst(), [10, 0, 0]))
        self.check(*wheel(20, 0, 1, 3, 4, 5), *three, (worst(), [0, 0, 0]))

    def test_a_fourth_that_is_refused_is_not_heard(self):
        same = told(news(1, 1, 1, 1, 1), news(1, 1, 1, 1, 1), news(1, 1, 1, 1, 1))
        self.check(*fork(30), *same, (news(20, 1, 1, 2, 3), -5), (worst(), [10, 0, 1]))


class WhereToDriveFirst(CallsTest):
    def test_the_earliest_news_that_a_best_way_hears_first(self):
        # All are in time in 1 at minutes 12, 15 and 20.
        three = told(news(12, 0, 0, 1, 2), news(15, 0, 0, 1, 2), news(20, 0, 0, 1, 2))
        self.check(*fork(30), *three, (worst(), [0, 1, 12]))

    def test_the_earliest_though_a_later_one_has_a_lower_place(self):
        # At minute 3 only the car's place 2 can be heard in, at minute 20 places 0 and 1 too.
        self.check(*row(40, 2), *told(news(3, 1, 1, 1), news(20, 1, 1, 1)), (worst(), [10, 2, 3]))
        self.check(*row(40, 2), *told(news(20, 1, 1, 1)), (worst(), [10, 0, 20]))

    def test_news_that_do_not_help_come_ahead_of_the_landing(self):
        self.check(*row(40, 0), (worst(), [10, 1, 40]), (news(40, 1, 1, 1), 1), (worst(), [10, 1, 40]))
        self.check(*row(41, 0), (worst(), [10, 1, 41]), (news(40, 1, 1, 1), 1), (worst(), [10, 1, 40]))
        self.check(*row(60, 0), (worst(), [10, 1, 60]), (news(40, 1, 1, 1), 1), (worst(), [10, 0, 40]))

    def test_the_landing_if_no_best_way_hears_any(self):
        # At minute 1 one can hear in 0 alone, and would then be too late for 1.
        self.check(*row(10, 0), (news(1, 1, 1, 1), 1), (worst(), [10, 1, 10]))
        self.check(*row(11, 0), (news(1, 1, 1, 1), 1), (worst(), [10, 0, 1]))

    def test_a_news_at_the_landing_is_heard_where_one_is_to_be(self):
        self.check(*row(10, 0), *told(news(1, 1, 1, 1), news(10, 1, 1, 1)), (worst(), [10, 1, 10]))

    def test_the_lowest_of_the_places_to_hear_them_in(self):
        # From each of 0, 1 and 3 one is in time in 4 or in 5; the car is in 3.
        roads = told(*[road(place, end, 10) for place in (0, 1, 3) for end in (4, 5)], road(3, 0, 5), road(3, 1, 5))
        start = [(begins(6, 3, 30), 0), *roads, (may(4, 5), 0)]
        parts = (0, 0, 0, 0, 1, 2)
        self.check(*start, (news(20, *parts), 1), (worst(), [0, 0, 20]))
        self.check(*start, (news(4, *parts), 1), (worst(), [0, 3, 4]))
        self.check(*start, (news(5, *parts), 1), (worst(), [0, 0, 5]))

    def test_not_a_lower_place_from_which_one_is_later_at_the_worst(self):
        self.check(*fork(30), (news(20, 0, 0, 1, 2), 1), (far(0, 2), 20), (worst(), [0, 1, 20]))

    def test_a_place_that_can_not_be_come_to_is_not_driven_to(self):
        # Place 0 has no road.
        roads = told(road(1, 2, 10), road(2, 3, 10))
        self.check((begins(4, 3, 30), 0), *roads, (may(1, 3), 0), (worst(), [10, 2, 30]))
        self.check((begins(4, 3, 30), 0), *roads, (may(1), 0), (news(5, 1, 1, 1, 1), 1), (worst(), [0, 3, 5]))


class WhatWasTold(CallsTest):
    def test_all_the_places_from_begins_on(self):
        self.check(*row(30, 0), (worst(), [10, 1, 30]), (may_number(7), 0), (worst(), [10, 1, 30]))

    def test_the_last_may_that_was_not_refused(self):
        self.check(
            *row(30, 0),
            (may(2), 0),
            (worst(), [0, 2, 30]),
            (may_number(0), -1),
            (may(0, 3), -1),
            (may_number(MOST), -1),
            (worst(), [0, 2, 30]),
            (may(0, 1), 0),
            (may(1), 0),
            (worst(), [0, 1, 30]),
        )

    def test_may_behind_news_and_ahead_of_roads(self):
        self.check(
            (begins(4, 0, 30), 0),
            (may(2, 3), 0),
            (news(20, 0, 0, 1, 2), 1),
            *told(road(0, 1, 10), road(1, 2, 10), road(1, 3, 10)),
            (worst(), [0, 1, 20]),
            (may(0, 1), 0),
            (worst(), [10, 0, 20]),
        )

    def test_roads_and_news_that_were_refused_do_not_count(self):
        self.check(
            *fork(30),
            (road(0, 2, 0), -1),
            (road(0, 0, 1), -4),
            (road(0, 4, 1), -2),
            (news(31, 0, 0, 1, 2), -1),
            (news(20, 0, 0, 1), -1),
            (worst(), [10, 1, 30]),
            (news(20, 0, 0, 1, 2), 1),
            (news(19, 0, 0, 1, 1), -1),
            (worst(), [0, 1, 20]),
        )

    def test_begins_in_the_middle_forgets_roads_news_and_may(self):
        self.check(
            *row(30, 1),
            (may(2), 0),
            (news(20, 1, 1, 2), 1),
            (worst(), [0, 1, 20]),
            (begins(3, 0, 40), 0),
            (worst(), -6),
            *told(road(0, 1, 10), road(1, 2, 10)),
            (worst(), [10, 1, 40]),
            *told(news(20, 1, 1, 2)),
            (worst(), [10, 0, 20]),
        )

    def test_a_begins_that_is_refused_forgets_nothing(self):
        before = [*row(30, 1), (may(0, 2), 0), (news(20, 1, 1, 2), 1)]
        for refused in (begins(7, 0, 5), begins(0, 0, 5), begins(3, 3, 30), begins(3, 0, 1001)):
            self.check(*before, (refused, -1), (worst(), [0, 1, 20]))

    def test_asking_changes_nothing(self):
        self.check(
            *fork(30),
            (news(20, 0, 0, 1, 2), 1),
            *[(worst(), [0, 1, 20])] * 6,
            (road(0, 2, 50), 4),
            (news(20, 0, 0, 1, 2), 2),
            (news(19, 0, 0, 1, 2), -1),
        )


class NoWayCanBe(CallsTest):
    def test_a_place_where_it_may_land_that_can_not_be_come_to(self):
        self.check((begins(2, 0, 10), 0), (worst(), -6), (road(0, 1, 50), 1), (worst(), [50, 0, 10]))

    def test_as_may_changes(self):
        roads = told(road(0, 1, 10), road(2, 3, 10))
        self.check(
            (begins(4, 0, 10), 0),
            *roads,
            (worst(), -6),
            (may(0, 1), 0),
            (worst(), [10, 0, 10]),
            (may(1, 2), 0),
            (worst(), -6),
            (may_number(0), -1),
            (worst(), -6),
            (may(1), 0),
            (worst(), [0, 1, 10]),
            (may(3), 0),
            (worst(), -6),
        )

    def test_a_car_that_can_not_come_to_the_places_that_lie_together(self):
        self.check((begins(3, 0, 10), 0), (road(1, 2, 5), 1), (may(1, 2), 0), (worst(), -6))
        self.check((begins(3, 1, 10), 0), (road(1, 2, 5), 1), (may(1, 2), 0), (worst(), [5, 1, 10]))

    def test_news_do_not_help(self):
        start = [(begins(3, 0, 10), 0), (road(0, 1, 5), 1)]
        self.check(*start, (news(0, 1, 2, 3), 1), (worst(), -6), (may(0, 1), 0), (worst(), [0, 0, 0]))

    def test_all_is_as_it_was(self):
        self.check(
            (begins(3, 0, 30), 0),
            (road(0, 1, 10), 1),
            (news(20, 1, 1, 2), 1),
            (worst(), -6),
            (road(1, 2, 10), 2),
            (worst(), [10, 0, 20]),
            (news(19, 1, 1, 2), -1),
            (news(20, 1, 1, 2), 2),
        )


if __name__ == "__main__":
    unittest.main()
