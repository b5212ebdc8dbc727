"""The calls begins, road, may and news, as they are handed in and answered."""

import unittest

from roadbehind.chase import UnknownCall, answers
from tests.calls import MOST, CallsTest, ReadOnlyList, begins, joined, may, may_number, news, road

# For two places or more, and for one place; each call with what it answers.
TWELVE_ROADS = [(road(0, 1, 5), count) for count in range(1, 13)]
THREE_NEWS = [(news(5, 1), 1), (news(6, 1), 2), (news(7, 1), 3)]


class ListForm(unittest.TestCase):
    def test_one_call_of_each_kind(self):
        self.assertEqual(answers([0, 3, 2, 1, 30, 0]), [1, 0])
        self.assertEqual(answers([1, 3, 0, 0, 5, 0]), [1, -4])
        self.assertEqual(answers([2, 1, 1, 0]), [1, 0])
        self.assertEqual(answers([3, 2, 0, 7, 0]), [1, 1])

    def test_several_calls_one_behind_another(self):
        calls = [
            0, 3, 3, 0, 60, 0,
            1, 3, 0, 1, 10, 0,
            1, 3, 1, 2, 20, 0,
            2, 1, 6, 0,
            3, 4, 15, 1, 1, 2, 0,
            3, 1, 15, 0,
            3, 4, 40, 1, 2, 2, 0,
        ]
        self.assertEqual(answers(calls), [1, 0, 1, 1, 1, 2, 1, 0, 1, 1, 1, -1, 1, 2])

    def test_news_with_from_no_parts_to_eight(self):
        self.assertEqual(answers([3, 1, 0, 0, 2, 1, 1, 0]), [1, -1, 1, 0])
        self.assertEqual(answers([3, 9, 0, 1, 2, 3, 4, 5, 6, 7, 8, 0, 2, 1, 1, 0]), [1, -1, 1, 0])

    def test_the_list_may_be_handed_in_by_its_name(self):
        self.assertEqual(answers(calls=[2, 1, 1, 0]), [1, 0])

    def test_sixty_calls(self):
        calls = joined(*[begins(6, 5, 1000), road(0, 5, 1)] * 30)
        self.assertEqual(answers(calls), [1, 0, 1, 1] * 30)

    def test_whole_numbers_in_a_plain_list(self):
        given = answers(joined(begins(2, 0, 5), road(0, 1, 3), may(1), news(5, 1, 1), news(4, 1, 1)))
        self.assertIs(type(given), list)
        self.assertEqual([type(number) for number in given], [int] * 10)

    def test_a_call_that_there_is_not_is_not_passed_over(self):
        with self.assertRaises(UnknownCall):
            answers([8, 0, 0])


class AtTheBeginning(CallsTest):
    def test_there_is_one_place(self):
        self.check((road(0, 1, 5), -2), (road(0, 0, 5), -4), (may(0), 0), (may(1), -1))

    def test_it_lands_at_minute_0(self):
        self.check((news(1, 4), -1), (news(0, 4), 1))

    def test_there_are_no_news(self):
        self.check((news(0, 4), 1), (news(0, 5), 2), (news(0, 6), 3), (news(0, 7), -5))


class Begins(CallsTest):
    def test_one_to_six_places(self):
        for places in range(1, 7):
            self.check((begins(places, 0, 10), 0), (may(places - 1), 0), (may(places), -1))

    def test_no_places_or_more_than_six(self):
        self.check((begins(0, 0, 10), -1), (begins(7, 0, 10), -1), (begins(MOST, 0, 10), -1))

    def test_the_car_in_each_place(self):
        for car in range(6):
            self.check((begins(6, car, 10), 0))

    def test_the_car_in_none_of_the_places(self):
        self.check((begins(1, 1, 10), -1), (begins(3, 3, 10), -1), (begins(6, 6, 10), -1), (begins(3, MOST, 10), -1))

    def test_minutes_0_to_1000(self):
        self.check((begins(2, 0, 0), 0), (news(0, 1, 2), 1), (news(1, 1, 2), -1))
        self.check((begins(2, 0, 1000), 0), (news(1000, 1, 2), 1), (news(1001, 1, 2), -1))

    def test_a_minute_above_1000(self):
        self.check((begins(2, 0, 1001), -1), (begins(2, 0, MOST), -1))

    def test_all_that_is_refused_at_once(self):
        self.check((begins(0, 0, 1001), -1), (begins(MOST, MOST, MOST), -1))

    def test_once_more_in_the_middle(self):
        self.check(
            (begins(3, 2, 20), 0),
            (road(0, 1, 5), 1),
            (road(1, 2, 5), 2),
            (news(15, 1, 2, 3), 1),
            (begins(2, 0, 30), 0),
            (road(1, 2, 5), -2),
            (road(0, 1, 5), 1),
            (may(2), -1),
            (news(14, 1, 2, 3), -1),
            (news(14, 1, 2), 1),
            (news(30, 1, 2), 2),
        )

    def test_a_refusal_leaves_all_as_it_was(self):
        for refused in (begins(7, 0, 5), begins(0, 0, 5), begins(2, 2, 5), begins(2, 0, 1001)):
            self.check(
                (begins(3, 0, 20), 0),
                (road(0, 1, 5), 1),
                (news(10, 1, 2, 3), 1),
                (refused, -1),
                (road(1, 2, 5), 2),
                (may(2), 0),
                (may(3), -1),
                (news(9, 1, 2, 3), -1),
                (news(21, 1, 2, 3), -1),
                (news(20, 1, 2, 3), 2),
            )

    def test_a_refusal_ahead_of_any_other_call(self):
        self.check((begins(7, 0, 5), -1), (may(1), -1), (news(1, 1), -1), (news(0, 1), 1))


class Road(CallsTest):
    def test_answers_how_many_there_are(self):
        self.check((begins(3, 0, 20), 0), (road(0, 1, 5), 1), (road(2, 1, 7), 2), (road(2, 0, 9), 3))

    def test_roads_of_1_and_1000_minutes(self):
        self.check((begins(2, 0, 20), 0), (road(0, 1, 1), 1), (road(0, 1, 1000), 2))

    def test_several_between_the_same_two_places(self):
        same_two = [(road(0, 1, 5), 1), (road(0, 1, 5), 2), (road(1, 0, 5), 3), (road(0, 1, 4), 4)]
        self.check((begins(2, 0, 20), 0), *same_two)

    def test_a_place_that_is_not_there(self):
        self.check(
            (begins(3, 0, 20), 0),
            (road(3, 0, 5), -2),
            (road(0, 3, 5), -2),
            (road(MOST, 0, 5), -2),
            (road(0, MOST, 5), -2),
            (road(2, 1, 5), 1),
        )

    def test_both_are_the_same(self):
        self.check((begins(3, 0, 20), 0), (road(0, 0, 5), -4), (road(2, 2, 5), -4))

    def test_not_1_to_1000_minutes(self):
        self.check((begins(3, 0, 20), 0), (road(0, 1, 0), -1), (road(0, 1, 1001), -1), (road(0, 1, MOST), -1))

    def test_twelve_and_a_thirteenth(self):
        self.check((begins(2, 0, 20), 0), *TWELVE_ROADS, (road(0, 1, 5), -5), (road(1, 0, 1), -5))

    def test_of_several_refusals_the_one_told_first(self):
        full = [(begins(2, 0, 20), 0), *TWELVE_ROADS]
        self.check((begins(2, 0, 20), 0), (road(2, 2, 5), -2), (road(2, 2, 0), -2), (road(0, 2, 1001), -2))
        self.check((begins(2, 0, 20), 0), (road(1, 1, 0), -4), (road(1, 1, 1001), -4))
        self.check(*full, (road(2, 2, 0), -2), (road(0, 2, 5), -2), (road(1, 1, 5), -4), (road(1, 1, 0), -4))
        self.check(*full, (road(0, 1, 0), -1), (road(0, 1, 1001), -1))

    def test_a_refusal_leaves_all_as_it_was(self):
        for refused, answer in ((road(0, 2, 5), -2), (road(1, 1, 5), -4), (road(0, 1, 0), -1), (road(0, 1, 1001), -1)):
            self.check((begins(2, 0, 20), 0), (road(0, 1, 5), 1), (refused, answer), (road(0, 1, 5), 2))

    def test_roads_are_full_until_it_begins_once_more(self):
        self.check((begins(2, 0, 20), 0), *TWELVE_ROADS, (road(0, 1, 5), -5), (begins(2, 0, 20), 0), *TWELVE_ROADS)


class May(CallsTest):
    def test_any_places_that_are_there(self):
        every = [(may_number(places), 0) for places in range(1, 8)]
        self.check((begins(3, 0, 20), 0), *every)

    def test_one_place_and_six(self):
        self.check((begins(1, 0, 20), 0), (may_number(1), 0))
        self.check((begins(6, 0, 20), 0), (may_number(63), 0), (may_number(32), 0))

    def test_no_place(self):
        self.check((may_number(0), -1), (begins(6, 0, 20), 0), (may_number(0), -1))

    def test_a_place_that_is_not_there(self):
        self.check((begins(3, 0, 20), 0), (may(3), -1), (may(0, 3), -1), (may(31), -1), (may_number(MOST), -1))
        self.check((begins(6, 0, 20), 0), (may(6), -1), (may(0, 1, 2, 3, 4, 5, 6), -1), (may_number(MOST), -1))

    def test_neither_roads_nor_news_are_changed(self):
        self.check(
            (begins(2, 0, 20), 0),
            (road(0, 1, 5), 1),
            (news(7, 1, 2), 1),
            (may(1), 0),
            (may_number(0), -1),
            (road(0, 1, 5), 2),
            (news(6, 1, 2), -1),
            (news(7, 1, 2), 2),
        )


class News(CallsTest):
    def test_answers_how_many_there_are(self):
        self.check((begins(2, 0, 20), 0), (news(5, 1, 2), 1), (news(6, 1, 1), 2), (news(8, 2, 1), 3))

    def test_a_part_for_each_of_1_to_6_places(self):
        for places in range(1, 7):
            self.check((begins(places, 0, 20), 0), (news(5, *range(places)), 1))

    def test_any_number_is_a_part(self):
        self.check((begins(3, 0, 20), 0), (news(5, 0, MOST, MOST), 1), (news(5, 0, 0, 0), 2))

    def test_too_few_parts_too_many_and_none(self):
        self.check(
            (begins(3, 0, 20), 0),
            (news(5, 1, 2), -1),
            (news(5, 1, 2, 3, 4), -1),
            (news(5, 1, 2, 3, 4, 5, 6, 7, 8), -1),
            (news(5), -1),
            (news(5, 1, 2, 3), 1),
        )
        self.check((begins(6, 0, 20), 0), (news(5, *range(5)), -1), (news(5, *range(7)), -1), (news(5, *range(8)), -1))

    def test_the_first_news_at_any_minute_till_the_landing(self):
        self.check((begins(1, 0, 20), 0), (news(0, 1), 1))
        self.check((begins(1, 0, 20), 0), (news(20, 1), 1))

    def test_at_the_minute_of_the_news_before_and_at_the_landing(self):
        self.check((begins(1, 0, 20), 0), (news(5, 1), 1), (news(5, 2), 2), (news(20, 3), 3))
        self.check((begins(1, 0, 20), 0), (news(20, 1), 1), (news(20, 2), 2), (news(20, 3), 3))

    def test_earlier_than_the_news_before(self):
        self.check((begins(1, 0, 20), 0), (news(5, 1), 1), (news(4, 1), -1), (news(0, 1), -1))
        self.check((begins(1, 0, 20), 0), (news(5, 1), 1), (news(9, 1), 2), (news(8, 1), -1), (news(5, 1), -1))

    def test_later_than_the_landing(self):
        self.check((begins(1, 0, 20), 0), (news(21, 1), -1), (news(1000, 1), -1), (news(MOST, 1), -1))

    def test_a_fourth(self):
        self.check((begins(1, 0, 20), 0), *THREE_NEWS, (news(7, 1), -5), (news(20, 1), -5))

    def test_of_several_refusals_the_one_told_first(self):
        for refused in (news(7, 1, 2), news(7), news(6, 1), news(21, 1)):
            self.check((begins(1, 0, 20), 0), *THREE_NEWS, (refused, -1))

    def test_a_refusal_leaves_all_as_it_was(self):
        for refused in (news(19), news(19, 1), news(19, 1, 2, 3), news(4, 1, 2), news(21, 1, 2)):
            self.check((begins(2, 0, 20), 0), (news(5, 1, 2), 1), (refused, -1), (news(5, 1, 2), 2), (news(5, 1, 2), 3))

    def test_a_fourth_leaves_all_as_it_was(self):
        self.check((begins(1, 0, 20), 0), *THREE_NEWS, (news(9, 1), -5), (news(8, 1), -5), (news(6, 1), -1))

    def test_news_are_full_until_it_begins_once_more(self):
        self.check((begins(1, 0, 20), 0), *THREE_NEWS, (news(9, 1), -5), (begins(1, 0, 20), 0), *THREE_NEWS)


class NothingElseChanges(unittest.TestCase):
    calls = joined(
        begins(2, 0, 20),
        road(0, 1, 5),
        road(0, 2, 5),
        may(1),
        may_number(0),
        news(5, 1, 2),
        news(4, 1, 2),
        begins(7, 0, 0),
    )
    wanted = [1, 0, 1, 1, 1, -2, 1, 0, 1, -1, 1, 1, 1, -1, 1, -1]

    def test_the_list_handed_in_stays_as_it_was(self):
        handed_in = list(self.calls)
        self.assertEqual(answers(handed_in), self.wanted)
        self.assertEqual(handed_in, self.calls)

    def test_the_list_handed_in_is_not_changed_for_a_while_either(self):
        self.assertEqual(answers(ReadOnlyList(self.calls)), self.wanted)

    def test_the_same_is_answered_each_time(self):
        for time in range(3):
            self.assertEqual(answers(list(self.calls)), self.wanted)

    def test_one_time_leaves_nothing_for_the_next(self):
        answers(joined(begins(6, 5, 1000), road(0, 5, 3), may(5), news(900, 1, 2, 3, 4, 5, 6)))
        self.assertEqual(answers(joined(may(1), road(0, 5, 3), news(1, 1), news(0, 1))), [1, -1, 1, -2, 1, -1, 1, 1])

    def test_what_was_given_back_is_not_held(self):
        answers(list(self.calls)).clear()
        self.assertEqual(answers(list(self.calls)), self.wanted)


if __name__ == "__main__":
    unittest.main()
