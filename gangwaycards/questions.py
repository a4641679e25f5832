"""The calls that ask and change nothing; each answers the list of its numbers."""

from gangwaycards.refusals import NOBODY_MISSING, NONE_THERE
from gangwaycards.ship import ABOARD, ASHORE, GONE
from gangwaycards.ship import as_bits, children_of, count_open_gates, find_gate, find_holder, find_person
from gangwaycards.ship import is_guardian_ashore, may_go_ashore, missing_persons, overdue_visitors
from gangwaycards.ship import persons_aboard, persons_in, visitors_aboard


def one_more_or_zero(number):
    """Make room for nobody and never, which are answered as 0."""
    if number is None:
        return 0
    return number + 1


def one_if(truth):
    """Give a whole number, as True and False are never answered."""
    return 1 if truth else 0


def told_as_bits(persons):
    return [len(persons), as_bits(persons)]


def who_has(ship, card):
    person = find_holder(ship, card)
    if person is None:
        return [NONE_THERE]
    return [person.number, person.place]


def where_is(ship, p):
    person = find_person(ship, p)
    if person is None:
        return [NONE_THERE]
    stay = ship.minute - person.since
    return [person.place, stay, person.card, one_more_or_zero(person.guardian), one_more_or_zero(person.off_by)]


def count_aboard(ship):
    aboard = persons_aboard(ship)
    return [len(aboard), as_bits(aboard), ship.most - len(aboard)]


def who_is_missing(ship):
    return told_as_bits(missing_persons(ship))


def which_visitors(ship):
    visitors = visitors_aboard(ship)
    return [len(visitors), as_bits(visitors), as_bits(overdue_visitors(ship))]


def which_children(ship, p):
    person = find_person(ship, p)
    if person is None:
        return [NONE_THERE]
    return told_as_bits(children_of(ship, person))


def which_group(ship, p):
    """Tell the person, wherever they are, and those of their children that are aboard."""
    person = find_person(ship, p)
    if person is None:
        return [NONE_THERE]
    children = [child for child in children_of(ship, person) if child.place == ABOARD]
    return told_as_bits([person] + children)


def children_in(ship, place):
    return [person for person in persons_in(ship, place) if person.guardian is not None]


def who_is_alone(ship):
    return told_as_bits([child for child in children_in(ship, ABOARD) if is_guardian_ashore(ship, child)])


def who_is_lost(ship):
    return told_as_bits([child for child in children_in(ship, ASHORE) if not is_guardian_ashore(ship, child)])


def may_they_go(ship, p):
    person = find_person(ship, p)
    if person is None:
        return [NONE_THERE]
    return [one_if(may_go_ashore(ship, person))]


def is_ready(ship):
    missing = len(missing_persons(ship))
    visitors = len(visitors_aboard(ship))
    gates = count_open_gates(ship)
    may_sail = missing == 0 and visitors == 0 and gates == 0
    return [one_if(may_sail), missing, visitors, gates, max(ship.sail - ship.minute, 0)]


def missing_for_longest(ship):
    missing = missing_persons(ship)
    if len(missing) == 0:
        return [NOBODY_MISSING]
    longest = missing[0]
    for person in missing:
        # They come by their numbers: of like ones the least is kept.
        if person.since < longest.since:
            longest = person
    return [longest.number, ship.minute - longest.since]


def look_at_gate(ship, g):
    gate = find_gate(ship, g)
    if gate is None:
        return [NONE_THERE]
    return [one_if(gate.opened), gate.went_out, gate.came_in]


def sum_up(ship):
    aboard = len(persons_aboard(ship))
    ashore = len(persons_in(ship, ASHORE))
    gone = len(persons_in(ship, GONE))
    return [len(ship.persons), aboard, ashore, gone, ship.cards_given, ship.cards_shown_in_vain]


QUESTIONS = {
    12: who_has,
    13: where_is,
    14: count_aboard,
    15: who_is_missing,
    16: which_visitors,
    17: which_children,
    18: which_group,
    19: who_is_alone,
    20: who_is_lost,
    21: may_they_go,
    22: is_ready,
    23: missing_for_longest,
    24: look_at_gate,
    25: sum_up,
}
