"""What can be taken back and done again, and the calls that tell and do so."""

from gangwaycards.limits import MOST_TAKEN_BACK
from gangwaycards.refusals import NONE_THERE


class Voyage:
    """The ship as it is now, and as it was on both sides of now.

    earlier holds it as it was ahead of each change that can be taken back, later
    as it was behind each that can be done again; the nearest to now stands last.
    A ship that is kept here is changed no more: a change makes another.
    """

    def __init__(self, ship):
        self.ship = ship
        self.earlier = []
        self.later = []


def keep_change(voyage, changed):
    """Go on with the changed ship."""
    voyage.earlier.append(voyage.ship)
    if len(voyage.earlier) > MOST_TAKEN_BACK:
        voyage.earlier.pop(0)
    voyage.later = []
    voyage.ship = changed


def take_back(voyage):
    if len(voyage.earlier) == 0:
        return [NONE_THERE]
    voyage.later.append(voyage.ship)
    voyage.ship = voyage.earlier.pop()
    return [len(voyage.earlier)]


def do_again(voyage):
    if len(voyage.later) == 0:
        return [NONE_THERE]
    voyage.earlier.append(voyage.ship)
    voyage.ship = voyage.later.pop()
    return [len(voyage.later)]


def tell_state(voyage):
    ship = voyage.ship
    return [ship.minute, len(ship.gates), ship.sail, ship.most, len(voyage.earlier), len(voyage.later)]


VOYAGE_CALLS = {
    26: take_back,
    27: do_again,
    28: tell_state,
}
