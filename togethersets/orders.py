"""A line of calls, in numbers, and what is answered to it."""

from togethersets.sayings import Sayings

TO_START = 0
TO_SAY = 1
TO_WHY = 2
TO_MANY = 3
TO_ORDER = 4
TO_BETWEEN = 5

# How many numbers follow a call's own number, by that number.
NUMBERS_BEHIND = (1, 1, 1, 0, 0, 3)


def answers(calls):
    """For each call on a new object, in order: how many numbers are answered, and these."""
    listener = Sayings()
    given = []
    at = 0
    while at < len(calls):
        behind = at + 1 + NUMBERS_BEHIND[calls[at]]
        answer = answer_of(listener, calls[at], calls[at + 1:behind])
        given.append(len(answer))
        given.extend(answer)
        at = behind
    return given


def answer_of(listener, call, numbers):
    if call == TO_START:
        return listener.to_start(numbers[0])
    if call == TO_SAY:
        return listener.to_say(numbers[0])
    if call == TO_WHY:
        return listener.to_why(numbers[0])
    if call == TO_MANY:
        return listener.to_many()
    if call == TO_ORDER:
        return listener.to_order()
    return listener.to_between(numbers[0], numbers[1], numbers[2])
