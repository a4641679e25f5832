"""The calls on one ship, one behind another, and what is answered to them."""

from gangwaycards.changes import CHANGES
from gangwaycards.limits import LAST_MINUTE, MOST_PERSONS
from gangwaycards.questions import QUESTIONS
from gangwaycards.refusals import WRONG_NUMBER
from gangwaycards.ship import Ship

START = 0

# Under each call's number: how many whole numbers stand behind it.
HOW_MANY_GIVEN = (2, 0, 0, 1, 1, 1, 2, 2, 1, 1, 1, 2, 1, 1, 0)


def can_start(most, sail):
    return most >= 1 and most <= MOST_PERSONS and sail <= LAST_MINUTE


def call_with(handler, ship, given):
    if len(given) == 0:
        return handler(ship)
    if len(given) == 1:
        return handler(ship, given[0])
    return handler(ship, given[0], given[1])


def answer_one(ship, number, given):
    if number in CHANGES:
        return call_with(CHANGES[number], ship, given)
    return call_with(QUESTIONS[number], ship, given)


def answers(calls):
    """Answer each of the calls: how many numbers, then these."""
    told = []
    ship = None
    place = 0
    while place < len(calls):
        number = calls[place]
        end = place + 1 + HOW_MANY_GIVEN[number]
        given = calls[place + 1:end]
        if number != START:
            answer = answer_one(ship, number, given)
        elif can_start(given[0], given[1]):
            ship = Ship(given[0], given[1])
            answer = [0]
        else:
            answer = [WRONG_NUMBER]
        told.append(len(answer))
        told.extend(answer)
        place = end
    return told
