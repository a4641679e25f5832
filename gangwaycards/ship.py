"""What is known of a ship, its gates and its persons, and plain looks at it."""

# One place a person, so that nobody can be in two of them at once.
# gw_who and gw_where answer the first two as they stand here.
ABOARD = 0
ASHORE = 1
GONE = 2


class Gate:
    """A gate, shut at first, and how many went through it."""

    def __init__(self):
        self.opened = False
        self.went_out = 0
        self.came_in = 0


class Person:
    """A person; guardian is None but for a child, off_by None but for a visitor."""

    def __init__(self, number, card, since, guardian, off_by):
        self.number = number
        self.card = card
        self.place = ABOARD
        self.since = since
        self.guardian = guardian
        self.off_by = off_by


class Ship:
    """A ship as at first: nobody, no gates, minute 0."""

    def __init__(self, most, sail):
        self.most = most
        self.sail = sail
        self.minute = 0
        self.gates = []
        self.persons = []
        self.cards_given = 0
        self.cards_shown_in_vain = 0


def copied_gate(gate):
    copied = Gate()
    copied.opened = gate.opened
    copied.went_out = gate.went_out
    copied.came_in = gate.came_in
    return copied


def copied_person(person):
    copied = Person(person.number, person.card, person.since, person.guardian, person.off_by)
    copied.place = person.place
    return copied


def copied_ship(ship):
    """Give a ship that is as this one, and shares nothing with it that can change."""
    copied = Ship(ship.most, ship.sail)
    copied.minute = ship.minute
    copied.gates = [copied_gate(gate) for gate in ship.gates]
    copied.persons = [copied_person(person) for person in ship.persons]
    copied.cards_given = ship.cards_given
    copied.cards_shown_in_vain = ship.cards_shown_in_vain
    return copied


def find_gate(ship, g):
    """Give the gate of this number, or None."""
    if g >= len(ship.gates):
        return None
    return ship.gates[g]


def find_person(ship, p):
    """Give the person of this number, or None if there's none or they're gone."""
    if p >= len(ship.persons):
        return None
    person = ship.persons[p]
    if person.place == GONE:
        return None
    return person


def find_holder(ship, card):
    """Give the one for whom the card counts, or None."""
    for person in ship.persons:
        if person.card == card and person.place != GONE:
            return person
    return None


def count_open_gates(ship):
    return len([gate for gate in ship.gates if gate.opened])


def persons_in(ship, place):
    return [person for person in ship.persons if person.place == place]


def persons_aboard(ship):
    return persons_in(ship, ABOARD)


def visitors_aboard(ship):
    return [person for person in persons_aboard(ship) if person.off_by is not None]


def missing_persons(ship):
    return [person for person in persons_in(ship, ASHORE) if person.off_by is None]


def is_full(ship):
    return len(persons_aboard(ship)) >= ship.most


def has_passed(ship, t):
    """Tell whether minute t was before this one; the present minute wasn't."""
    return t < ship.minute


def is_guardian_ashore(ship, child):
    """Tell whether the one the child must be with is ashore; one who is gone isn't."""
    return ship.persons[child.guardian].place == ASHORE


def may_go_ashore(ship, person):
    if person.place != ABOARD:
        return False
    return person.guardian is None or is_guardian_ashore(ship, person)


def children_of(ship, person):
    """Give the children that must be with this person and aren't gone."""
    children = [other for other in ship.persons if other.guardian == person.number]
    return [child for child in children if child.place != GONE]


def overdue_visitors(ship):
    """Give the visitors aboard who should have been off before this minute."""
    return [visitor for visitor in visitors_aboard(ship) if has_passed(ship, visitor.off_by)]


def as_bits(persons):
    bits = 0
    for person in persons:
        bits = bits | (1 << person.number)
    return bits
