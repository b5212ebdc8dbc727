"""What a chase holds after begins, road, may and news: the part that their answers don't show."""

import unittest

from roadbehind.state import Chase


def held(chase):
    return {
        "places": chase.places,
        "car": chase.car,
        "landing": chase.landing,
        "landing_places": list(chase.landing_places),
        "roads": list(chase.roads),
        "news": list(chase.news_told),
    }


def told_chase():
    chase = Chase()
    chase.begins(4, 2, 50)
    chase.road(3, 1, 8)
    chase.road(1, 3, 9)
    chase.may(10)
    chase.news(20, [7, 7, 0, 4294967295])
    chase.news(20, [1, 2, 1, 2])
    return chase


class StateTest(unittest.TestCase):
    def test_at_the_beginning(self):
        nothing_told = {"places": 1, "car": 0, "landing": 0, "landing_places": [0], "roads": [], "news": []}
        self.assertEqual(held(Chase()), nothing_told)

    def test_all_that_was_told_is_held(self):
        self.assertEqual(held(told_chase()), {
            "places": 4,
            "car": 2,
            "landing": 50,
            "landing_places": [1, 3],
            "roads": [(3, 1, 8), (1, 3, 9)],
            "news": [(20, [7, 7, 0, 4294967295]), (20, [1, 2, 1, 2])],
        })

    def test_begins_makes_all_new(self):
        chase = told_chase()
        chase.begins(3, 1, 40)
        anew = {"places": 3, "car": 1, "landing": 40, "landing_places": [0, 1, 2], "roads": [], "news": []}
        self.assertEqual(held(chase), anew)

    def test_may_takes_the_place_of_the_may_before(self):
        chase = told_chase()
        chase.may(5)
        self.assertEqual(chase.landing_places, [0, 2])
        chase.may(15)
        self.assertEqual(chase.landing_places, [0, 1, 2, 3])

    def test_the_parts_handed_in_are_copied(self):
        chase = told_chase()
        parts = [1, 2, 3, 4]
        chase.news(30, parts)
        parts[0] = 9
        self.assertEqual(chase.news_told[2], (30, [1, 2, 3, 4]))

    def check_refused(self, chase, asked, answer):
        before = held(chase)
        self.assertEqual(asked(chase), answer)
        self.assertEqual(held(chase), before)

    def test_a_refusal_leaves_all_as_it_was(self):
        self.check_refused(told_chase(), lambda chase: chase.begins(0, 0, 5), -1)
        self.check_refused(told_chase(), lambda chase: chase.begins(7, 0, 5), -1)
        self.check_refused(told_chase(), lambda chase: chase.begins(3, 3, 5), -1)
        self.check_refused(told_chase(), lambda chase: chase.begins(3, 0, 1001), -1)
        self.check_refused(told_chase(), lambda chase: chase.road(0, 4, 5), -2)
        self.check_refused(told_chase(), lambda chase: chase.road(1, 1, 5), -4)
        self.check_refused(told_chase(), lambda chase: chase.road(0, 1, 0), -1)
        self.check_refused(told_chase(), lambda chase: chase.may(0), -1)
        self.check_refused(told_chase(), lambda chase: chase.may(17), -1)
        self.check_refused(told_chase(), lambda chase: chase.news(30, [1, 2, 3]), -1)
        self.check_refused(told_chase(), lambda chase: chase.news(19, [1, 2, 3, 4]), -1)
        self.check_refused(told_chase(), lambda chase: chase.news(51, [1, 2, 3, 4]), -1)

    def test_a_refusal_of_one_more_leaves_all_as_it_was(self):
        chase = told_chase()
        chase.news(30, [1, 2, 3, 4])
        self.check_refused(chase, lambda chase: chase.news(30, [1, 2, 3, 4]), -5)
        for more in range(10):
            chase.road(0, 1, 5)
        self.check_refused(chase, lambda chase: chase.road(0, 1, 5), -5)


if __name__ == "__main__":
    unittest.main()
