"""The call far: the shortest drive from one place to another."""

import unittest

from tests.calls import MOST, CallsTest, begins, far, may, may_number, news, road, told


class Far(CallsTest):
    def test_ahead_of_any_begins(self):
        self.check((far(0, 0), 0), (far(0, 1), -2), (far(1, 0), -2))

    def test_a_place_to_itself(self):
        self.check((begins(6, 3, 10), 0), *[(far(place, place), 0) for place in range(6)])
        self.check((begins(2, 0, 10), 0), (road(0, 1, 5), 1), (far(0, 0), 0), (far(1, 1), 0))

    def test_one_road_either_way(self):
        self.check((begins(2, 0, 10), 0), (road(0, 1, 7), 1), (far(0, 1), 7), (far(1, 0), 7))
        self.check((begins(2, 0, 10), 0), (road(1, 0, 7), 1), (far(0, 1), 7), (far(1, 0), 7))

    def test_roads_of_1_and_1000_minutes(self):
        self.check((begins(3, 0, 10), 0), (road(0, 1, 1), 1), (road(1, 2, 1000), 2), (far(0, 1), 1), (far(2, 1), 1000))

    def test_the_shortest_of_several_roads_between_two_places(self):
        for first, second, third in ((5, 8, 9), (8, 5, 9), (9, 8, 5)):
            self.check(
                (begins(2, 0, 10), 0),
                (road(0, 1, first), 1),
                (road(1, 0, second), 2),
                (road(0, 1, third), 3),
                (far(0, 1), 5),
                (far(1, 0), 5),
            )

    def test_a_road_told_later_shortens_the_drive(self):
        self.check(
            (begins(3, 0, 10), 0),
            (road(0, 1, 9), 1),
            (far(0, 1), 9),
            (road(0, 2, 3), 2),
            (far(0, 1), 9),
            (road(2, 1, 4), 3),
            (far(0, 1), 7),
            (road(1, 0, 6), 4),
            (far(0, 1), 6),
            (road(0, 1, 20), 5),
            (far(0, 1), 6),
        )

    def test_a_drive_by_more_roads_that_is_shorter_than_the_straight_one(self):
        self.check(
            (begins(3, 0, 10), 0),
            (road(0, 2, 10), 1),
            (road(0, 1, 4), 2),
            (road(1, 2, 5), 3),
            (far(0, 2), 9),
            (far(2, 0), 9),
        )

    def test_a_drive_by_more_roads_that_is_longer_than_the_straight_one(self):
        self.check((begins(3, 0, 10), 0), (road(0, 2, 8), 1), (road(0, 1, 4), 2), (road(1, 2, 5), 3), (far(0, 2), 8))

    def test_a_drive_over_all_of_6_places(self):
        self.check(
            (begins(6, 0, 10), 0),
            (road(4, 5, 1000), 1),
            (road(3, 1, 1000), 2),
            (road(1, 5, 1000), 3),
            (road(2, 0, 1000), 4),
            (road(2, 4, 1000), 5),
            (far(0, 3), 5000),
            (far(3, 0), 5000),
            (far(0, 1), 4000),
            (far(5, 2), 2000),
        )

    def test_a_drive_over_all_of_6_places_beside_long_straight_roads(self):
        chain = [road(3, 1, 10), road(1, 4, 11), road(4, 2, 12), road(2, 5, 13)]
        straight = [road(0, 3, 60), road(5, 0, 61), road(0, 2, 900), road(0, 4, 39), road(5, 3, 99)]
        drives = [(far(3, 5), 46), (far(5, 3), 46), (far(0, 3), 60), (far(0, 1), 50), (far(0, 5), 61), (far(0, 2), 51)]
        self.check((begins(6, 0, 10), 0), *told(*chain, *straight), *drives)

    def test_a_place_that_is_not_there(self):
        self.check(
            (begins(3, 0, 10), 0),
            (road(0, 1, 5), 1),
            (far(3, 0), -2),
            (far(0, 3), -2),
            (far(3, 3), -2),
            (far(MOST, 0), -2),
            (far(0, MOST), -2),
            (far(MOST, MOST), -2),
            (begins(6, 0, 10), 0),
            (far(6, 0), -2),
            (far(0, 6), -2),
        )

    def test_no_drive(self):
        self.check((begins(2, 0, 10), 0), (far(0, 1), -6), (far(1, 0), -6))

    def test_no_drive_between_places_that_have_roads(self):
        self.check(
            (begins(5, 0, 10), 0),
            (road(0, 1, 5), 1),
            (road(2, 3, 5), 2),
            (far(0, 2), -6),
            (far(3, 1), -6),
            (far(4, 0), -6),
            (far(2, 3), 5),
            (road(1, 2, 1), 3),
            (far(3, 0), 11),
            (far(4, 0), -6),
        )

    def test_of_both_refusals_the_one_told_first(self):
        # Place 1 can't be come to, place 2 isn't there.
        self.check((begins(2, 0, 10), 0), (far(1, 2), -2), (far(2, 1), -2), (far(0, 2), -2), (far(1, 0), -6))

    def test_neither_car_nor_landing_nor_may_matter(self):
        self.check(
            (begins(3, 2, 0), 0),
            (road(0, 1, 500), 1),
            (may(2), 0),
            (news(0, 1, 1, 1), 1),
            (far(0, 1), 500),
            (far(2, 0), -6),
        )

    def test_begins_in_the_middle_forgets_roads(self):
        self.check((begins(2, 0, 10), 0), (road(0, 1, 5), 1), (begins(2, 0, 10), 0), (far(0, 1), -6))

    def test_refused_calls_leave_roads_as_they_were(self):
        self.check(
            (begins(2, 0, 10), 0),
            (road(0, 1, 5), 1),
            (road(0, 1, 0), -1),
            (road(0, 2, 1), -2),
            (road(1, 1, 1), -4),
            (begins(7, 0, 10), -1),
            (may_number(0), -1),
            (news(11, 1, 1), -1),
            (far(0, 2), -2),
            (far(0, 1), 5),
            (far(1, 1), 0),
        )

    def test_a_thirteenth_road_is_not_driven(self):
        twelve = told(*[road(0, 1, minutes) for minutes in range(49, 37, -1)])
        refused = [(road(0, 1, 1), -5), (road(1, 2, 1), -5)]
        self.check((begins(3, 0, 10), 0), *twelve, *refused, (far(0, 1), 38), (far(1, 2), -6))

    def test_nothing_is_changed_by_asking(self):
        self.check(
            (begins(3, 0, 10), 0),
            (road(0, 1, 5), 1),
            (far(0, 1), 5),
            (far(0, 2), -6),
            (far(0, 3), -2),
            (far(0, 1), 5),
            (road(1, 2, 5), 2),
            (far(0, 2), 10),
        )


if __name__ == "__main__":
    unittest.main()
