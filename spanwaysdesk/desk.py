"""The desk: calls on one object, one behind another, and what they answer."""

from spanwaysdesk.spans import Spans

BEGIN = 0
TELL = 1
FREE = 2
MANY = 3
PICTURE = 4
MAY = 5
THROUGH = 6
TURNED = 7
LIES = 8

# How many numbers stand behind the number of each call.
GIVEN = (1, 3, 2, 0, 0, 2, 2, 1, 4)


def answer_of(spans, call, given):
    if call == BEGIN:
        return spans.begin(given[0])
    if call == TELL:
        return spans.tell(given[0], given[1], given[2])
    if call == FREE:
        return spans.free(given[0], given[1])
    if call == MANY:
        return spans.many()
    if call == PICTURE:
        return spans.picture()
    if call == MAY:
        return spans.may(given[0], given[1])
    if call == THROUGH:
        return spans.through(given[0], given[1])
    if call == TURNED:
        return spans.turned(given[0])
    return spans.lies((given[0], given[1]), (given[2], given[3]))


def answers(calls):
    spans = Spans()
    answered = []
    at = 0
    while at < len(calls):
        call = calls[at]
        behind = at + 1 + GIVEN[call]
        numbers = answer_of(spans, call, calls[at + 1:behind])
        answered.append(len(numbers))
        answered.extend(numbers)
        at = behind
    return answered
