"""The calls in the form in which `roadbehind.chase.answers` takes them, and checks of what they answer."""

import unittest

from roadbehind.chase import answers

MOST = 4294967295


def begins(places, car, minute):
    return [0, 3, places, car, minute, 0]


def road(place, other, minutes):
    return [1, 3, place, other, minutes, 0]


def may(*places):
    return may_number(sum(2 ** place for place in places))


def may_number(places):
    return [2, 1, places, 0]


def news(minute, *parts):
    return [3, 1 + len(parts), minute, *parts, 0]


def far(place, other):
    return [4, 2, place, other, 0]


def worst():
    return [5, 0, 0]


def unknown():
    return [6, 0, 0]


def known():
    return [7, 0, 0]


def joined(*calls):
    return [number for call in calls for number in call]


def answered(*calls):
    """For each call the list of what it answers."""
    given = answers(joined(*calls))
    each = []
    at = 0
    while at < len(given):
        end = at + 1 + given[at]
        each.append(given[at + 1:end])
        at = end
    if at != len(given):
        raise AssertionError(f"the last call answers less than it says: {given}")
    return each


def told(*calls):
    """Calls that answer how many there are then, each with that."""
    return [(call, count) for count, call in enumerate(calls, 1)]


def fork(landing):
    """The car in 0; from there 10 minutes to 1, and from 1 as many to 2 or to 3, where it may land."""
    return [(begins(4, 0, landing), 0), *told(road(0, 1, 10), road(1, 2, 10), road(1, 3, 10)), (may(2, 3), 0)]


class CallsTest(unittest.TestCase):
    def check(self, *calls_and_answers):
        """Each is a call and what it is to answer, one number or a list; all are handed in as one list."""
        calls = [call for call, answer in calls_and_answers]
        wanted = [answer if isinstance(answer, list) else [answer] for call, answer in calls_and_answers]
        self.assertEqual(answered(*calls), wanted)


class ReadOnlyList(list):
    """A list that tells when it is changed, were it only for a while."""

    def refuse(self, *told, **named):
        raise AssertionError("the list handed in was changed")

    append = clear = extend = insert = pop = remove = reverse = sort = refuse
    __setitem__ = __delitem__ = __iadd__ = __imul__ = refuse
