"""The calls on one ship, one behind another, and what is answered to them."""

from gangwaycards.changes import CHANGES
from gangwaycards.limits import LAST_MINUTE, MOST_PERSONS
from gangwaycards.questions import QUESTIONS
from gangwaycards.refusals import WRONG_NUMBER
from gangwaycards.ship import Ship, copied_ship
from gangwaycards.voyage import VOYAGE_CALLS, Voyage, keep_change

START = 0

# Under each call's number: how many whole numbers stand behind it.
HOW_MANY_GIVEN = (2, 0, 0, 1, 1, 1, 2, 2, 1, 1, 1, 2, 1, 1, 0, 0, 0, 1, 1, 0, 0, 1, 0, 0, 1, 0, 0, 0, 0)


def can_start(most, sail):
    return most >= 1 and most <= MOST_PERSONS and sail <= LAST_MINUTE


def call_with(handler, ship, given):
    if len(given) == 0:
        return handler(ship)
    if len(given) == 1:
        return handler(ship, given[0])
    return handler(ship, given[0], given[1])


def change(voyage, number, given):
    changed = copied_ship(voyage.ship)
    answer = call_with(CHANGES[number], changed, given)
    if answer[0] >= 0:
        keep_change(voyage, changed)
    return answer


def answer_one(voyage, number, given):
    if number in CHANGES:
        return change(voyage, number, given)
    if number in QUESTIONS:
        return call_with(QUESTIONS[number], voyage.ship, given)
    return VOYAGE_CALLS[number](voyage)


def answers(calls):
    """Answer each of the calls: how many numbers, then these."""
    told = []
    voyage = None
    place = 0
    while place < len(calls):
        number = calls[place]
        end = place + 1 + HOW_MANY_GIVEN[number]
        given = calls[place + 1:end]
        if number != START:
            answer = answer_one(voyage, number, given)
        elif can_start(given[0], given[1]):
            voyage = Voyage(Ship(given[0], given[1]))
            answer = [0]
        else:
            answer = [WRONG_NUMBER]
        told.append(len(answer))
        told.extend(answer)
        place = end
    return told
