"""The calls about a chase, handed in as one list of whole numbers, and what they answer."""

from roadbehind.state import Chase

BEGINS = 0
ROAD = 1
MAY = 2
NEWS = 3
FAR = 4
WORST = 5
UNKNOWN = 6
KNOWN = 7


class UnknownCall(ValueError):
    pass


def answers(calls):
    chase = Chase()
    given = []
    at = 0
    while at < len(calls):
        numbers_end = at + 2 + calls[at + 1]
        answer = answer_of(chase, calls[at], calls[at + 2:numbers_end])
        given.append(len(answer))
        given.extend(answer)
        # A call ends with how many lists it has, and none has any: one 0 to step over.
        at = numbers_end + 1
    return given


def answer_of(chase, call, numbers):
    if call == BEGINS:
        return [chase.begins(numbers[0], numbers[1], numbers[2])]
    if call == ROAD:
        return [chase.road(numbers[0], numbers[1], numbers[2])]
    if call == MAY:
        return [chase.may(numbers[0])]
    if call == NEWS:
        return [chase.news(numbers[0], numbers[1:])]
    if call == FAR:
        return [chase.far(numbers[0], numbers[1])]
    if call == WORST:
        return chase.worst()
    if call == UNKNOWN:
        return [chase.unknown()]
    if call == KNOWN:
        return [chase.known()]
    raise UnknownCall(f"there is no call {call}")
