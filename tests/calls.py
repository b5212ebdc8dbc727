"""The calls in the form in which `roadbehind.chase.answers` takes them."""

from roadbehind.chase import answers

MOST = 4294967295


def begins(places, car, minute):
    return [0, 3, places, car, minute, 0]


def road(place, other, minutes):
    return [1, 3, place, other, minutes, 0]


def may(*places):
    return may_number(sum(2 ** place for place in places))


def may_number(places):
    return [2, 1, places, 0]


def news(minute, *parts):
    return [3, 1 + len(parts), minute, *parts, 0]


def joined(*calls):
    return [number for call in calls for number in call]


def numbers_answered(test, *calls):
    """What each call answers, where each answers one number alone; the list's form is checked."""
    given = answers(joined(*calls))
    test.assertEqual(given[0::2], [1] * len(calls))
    test.assertEqual(len(given), 2 * len(calls))
    return given[1::2]
