"""The calls that ask and change nothing; each answers the list of its numbers."""

from gangwaycards.refusals import NONE_THERE
from gangwaycards.ship import as_bits, find_holder, find_person, persons_aboard


def one_more_or_zero(number):
    """Make room for nobody and never, which are answered as 0."""
    if number is None:
        return 0
    return number + 1


def who_has(ship, card):
    person = find_holder(ship, card)
    if person is None:
        return [NONE_THERE]
    return [person.number, person.place]


def where_is(ship, p):
    person = find_person(ship, p)
    if person is None:
        return [NONE_THERE]
    stay = ship.minute - person.since
    return [person.place, stay, person.card, one_more_or_zero(person.guardian), one_more_or_zero(person.off_by)]


def count_aboard(ship):
    aboard = persons_aboard(ship)
    return [len(aboard), as_bits(aboard), ship.most - len(aboard)]


QUESTIONS = {
    12: who_has,
    13: where_is,
    14: count_aboard,
}
