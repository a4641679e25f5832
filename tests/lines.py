"""What the tests share: calls written by name, and answers taken apart."""

import unittest

from gangwaycards.gangway import answers

BIGGEST = 4294967295

NUMBER_AND_ARGUMENTS = {
    "start": (0, 2),
    "gate": (1, 0),
    "person": (2, 0),
    "child": (3, 1),
    "visitor": (4, 1),
    "card": (5, 1),
    "open": (6, 2),
    "scan": (7, 2),
    "leave": (8, 1),
    "minutes": (9, 1),
    "sail": (10, 1),
    "more": (11, 2),
    "who": (12, 1),
    "where": (13, 1),
    "count": (14, 0),
}


def written(calls):
    """Write calls such as "scan 0 1" as one list of whole numbers."""
    row = []
    for call in calls:
        words = call.split()
        number, arguments = NUMBER_AND_ARGUMENTS[words[0]]
        if len(words) != arguments + 1:
            raise ValueError(call)
        row.append(number)
        row.extend(int(word) for word in words[1:])
    return row


def taken_apart(row):
    told = []
    place = 0
    while place < len(row):
        end = place + 1 + row[place]
        told.append(row[place + 1:end])
        place = end
    if place != len(row):
        raise ValueError("the last answer is cut short")
    return told


def told(*calls):
    """Make the calls; give a list of numbers for each."""
    answered = taken_apart(answers(written(calls)))
    if len(answered) != len(calls):
        raise ValueError("not as many answers as calls")
    return answered


def minutes_up_to(minute):
    """The calls by which so many minutes go by."""
    calls = ["minutes 1440"] * (minute // 1440)
    if minute % 1440:
        calls.append(f"minutes {minute % 1440}")
    return calls


# Between them these tell all that a ship knows, but what gates have counted.
PROBES = (
    ["count"]
    + [f"where {p}" for p in range(25)]
    + [f"who {card}" for card in range(40)]
    + ["sail 100000"]
    + [f"card {p}" for p in range(24)]
    + [f"open {g} 1" for g in range(3)]
    + ["gate", "minutes 1", "person"]
)


class LineTest(unittest.TestCase):
    """A test of what is answered to calls."""

    def assert_last(self, calls, expected):
        """The last of the calls is answered so."""
        self.assertEqual(told(*calls)[-1], expected)

    def assert_refused(self, before, call, refusal):
        """The call is refused so, and all is as it was."""
        answered = told(*before, call, *PROBES)
        self.assertEqual(answered[len(before)], [refusal])
        self.assertEqual(answered[len(before) + 1:], told(*before, *PROBES)[len(before):])
