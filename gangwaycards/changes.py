"""The calls that change something.

Each answers the list of its numbers; a refusal is its number alone. All that
could refuse a call is looked at, in the order it's told, before anything is
changed, so that a refused call leaves all as it was.
"""

from gangwaycards.limits import LAST_MINUTE, LONGEST_STEP, MOST_CARDS, MOST_GATES, MOST_PASSAGES, MOST_PERSONS
from gangwaycards.refusals import MAY_NOT, NO_MORE_OF_THEM, NO_ROOM_ABOARD, NONE_THERE
from gangwaycards.refusals import NOT_AS_THINGS_ARE, SO_ALREADY, TOO_LATE, WRONG_NUMBER
from gangwaycards.ship import ABOARD, ASHORE, GONE, Gate, Person
from gangwaycards.ship import as_bits, children_of, count_open_gates, find_gate, find_holder, find_person
from gangwaycards.ship import has_passed, is_full, may_go_ashore, overdue_visitors

WENT_OUT = 0
CAME_IN = 1
SHOWN_IN_VAIN = 2


def give_card(ship):
    """Give the next card's number; no card is ever given twice."""
    card = ship.cards_given
    ship.cards_given = card + 1
    return card


def is_no_coming_minute(ship, t):
    return has_passed(ship, t) or t > LAST_MINUTE


def add_gate(ship):
    if len(ship.gates) >= MOST_GATES:
        return [NO_MORE_OF_THEM]
    ship.gates.append(Gate())
    return [len(ship.gates) - 1]


def take_aboard(ship, guardian, off_by):
    """Add one more of whatever sort, with the refusals that all sorts share."""
    if len(ship.persons) >= MOST_PERSONS:
        return [NO_MORE_OF_THEM]
    if is_full(ship):
        return [NO_ROOM_ABOARD]
    person = Person(len(ship.persons), give_card(ship), ship.minute, guardian, off_by)
    ship.persons.append(person)
    return [person.number, person.card]


def add_person(ship):
    return take_aboard(ship, None, None)


def add_child(ship, p):
    guardian = find_person(ship, p)
    if guardian is None:
        return [NONE_THERE]
    if guardian.guardian is not None or guardian.off_by is not None:
        return [WRONG_NUMBER]
    if guardian.place == ASHORE:
        return [NOT_AS_THINGS_ARE]
    return take_aboard(ship, p, None)


def add_visitor(ship, t):
    if is_no_coming_minute(ship, t):
        return [WRONG_NUMBER]
    if count_open_gates(ship) == 0:
        return [NOT_AS_THINGS_ARE]
    return take_aboard(ship, None, t)


def change_card(ship, p):
    person = find_person(ship, p)
    if person is None:
        return [NONE_THERE]
    if ship.cards_given >= MOST_CARDS:
        return [NO_MORE_OF_THEM]
    person.card = give_card(ship)
    return [person.card]


def turn_gate(ship, g, opened):
    gate = find_gate(ship, g)
    if gate is None:
        return [NONE_THERE]
    if opened > 1:
        return [WRONG_NUMBER]
    wanted = opened == 1
    if gate.opened == wanted:
        return [SO_ALREADY]
    before = count_open_gates(ship)
    gate.opened = wanted
    return [before]


def move(ship, person, place):
    person.place = place
    person.since = ship.minute


def come_aboard(ship, gate, person):
    if is_full(ship):
        return [NO_ROOM_ABOARD]
    move(ship, person, ABOARD)
    gate.came_in = gate.came_in + 1
    return [CAME_IN, person.number]


def go_ashore(ship, gate, person):
    if not may_go_ashore(ship, person):
        return [MAY_NOT]
    move(ship, person, ASHORE)
    gate.went_out = gate.went_out + 1
    return [WENT_OUT, person.number]


def has_counted_enough(ship, gate):
    """Tell whether any of the three counts is used up, whichever this card would add to."""
    return max(gate.went_out, gate.came_in, ship.cards_shown_in_vain) >= MOST_PASSAGES


def scan_card(ship, g, card):
    gate = find_gate(ship, g)
    if gate is None:
        return [NONE_THERE]
    if not gate.opened:
        return [NOT_AS_THINGS_ARE]
    if has_counted_enough(ship, gate):
        return [NO_MORE_OF_THEM]
    person = find_holder(ship, card)
    if person is None:
        ship.cards_shown_in_vain = ship.cards_shown_in_vain + 1
        return [SHOWN_IN_VAIN, 0]
    if person.place == ASHORE:
        return come_aboard(ship, gate, person)
    return go_ashore(ship, gate, person)


def leave_for_good(ship, p):
    person = find_person(ship, p)
    if person is None:
        return [NONE_THERE]
    if person.place == ABOARD:
        return [NOT_AS_THINGS_ARE]
    if len(children_of(ship, person)) > 0:
        return [MAY_NOT]
    person.place = GONE
    return [ship.minute - person.since]


def let_minutes_pass(ship, n):
    if n < 1 or n > LONGEST_STEP:
        return [WRONG_NUMBER]
    if ship.minute + n > LAST_MINUTE:
        return [TOO_LATE]
    ship.minute = ship.minute + n
    return [ship.minute, as_bits(overdue_visitors(ship))]


def set_sail(ship, t):
    if is_no_coming_minute(ship, t):
        return [WRONG_NUMBER]
    before = ship.sail
    ship.sail = t
    return [before]


def give_more_time(ship, p, t):
    person = find_person(ship, p)
    if person is None:
        return [NONE_THERE]
    if person.off_by is None:
        return [NOT_AS_THINGS_ARE]
    if t < person.off_by or t > LAST_MINUTE:
        return [WRONG_NUMBER]
    before = person.off_by
    person.off_by = t
    return [before]


CHANGES = {
    1: add_gate,
    2: add_person,
    3: add_child,
    4: add_visitor,
    5: change_card,
    6: turn_gate,
    7: scan_card,
    8: leave_for_good,
    9: let_minutes_pass,
    10: set_sail,
    11: give_more_time,
}
