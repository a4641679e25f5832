"""What is known of a ship, its gates and its persons, and plain looks at it."""

# One place a person, so that nobody can be in two of them at once.
# gw_who and gw_where answer the first two as they stand here.
ABOARD = 0
ASHORE = 1
GONE = 2


class Gate:
    """A gate, shut at first, and how many went through it."""

    def __init__(self):
        self.opened = False
        self.went_out = 0
        self.came_in = 0


class Person:
    """A person; guardian is None but for a child, off_by None but for a visitor."""

    def __init__(self, number, card, since, guardian, off_by):
        self.number = number
        self.card = card
        self.place = ABOARD
        self.since = since
        self.guardian = guardian
        self.off_by = off_by


class Ship:
    """A ship as at first: nobody, no gates, minute 0."""

    def __init__(self, most, sail):
        self.most = most
        self.sail = sail
        self.minute = 0
        self.gates = []
        self.persons = []
        self.cards_given = 0
        self.cards_shown_in_vain = 0


def find_gate(ship, g):
    """Give the gate of this number, or None."""
    if g >= len(ship.gates):
        return None
    return ship.gates[g]


def find_person(ship, p):
    """Give the person of this number, or None if there's none or they're gone."""
    if p >= len(ship.persons):
        return None
    person = ship.persons[p]
    if person.place == GONE:
        return None
    return person


def find_holder(ship, card):
    """Give the one for whom the card counts, or None."""
    for person in ship.persons:
        if person.card == card and person.place != GONE:
            return person
    return None


def persons_aboard(ship):
    return [person for person in ship.persons if person.place == ABOARD]


def is_full(ship):
    return len(persons_aboard(ship)) >= ship.most


def has_passed(ship, t):
    """Tell whether minute t was before this one; the present minute wasn't."""
    return t < ship.minute


def may_go_ashore(ship, person):
    if person.place != ABOARD:
        return False
    if person.guardian is None:
        return True
    return ship.persons[person.guardian].place == ASHORE


def has_child(ship, person):
    """Tell whether a child that isn't gone must be with this person."""
    for other in ship.persons:
        if other.guardian == person.number and other.place != GONE:
            return True
    return False


def overdue_visitors(ship):
    """Give the visitors aboard who should have been off before this minute."""
    visitors = [person for person in persons_aboard(ship) if person.off_by is not None]
    return [visitor for visitor in visitors if has_passed(ship, visitor.off_by)]


def as_bits(persons):
    bits = 0
    for person in persons:
        bits = bits | (1 << person.number)
    return bits
