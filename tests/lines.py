"""What the tests share: calls written by name, and answers taken apart."""

import random
import unittest

from gangwaycards.gangway import answers

BIGGEST = 4294967295

NUMBER_AND_ARGUMENTS = {
    "start": (0, 2),
    "gate": (1, 0),
    "person": (2, 0),
    "child": (3, 1),
    "visitor": (4, 1),
    "card": (5, 1),
    "open": (6, 2),
    "scan": (7, 2),
    "leave": (8, 1),
    "minutes": (9, 1),
    "sail": (10, 1),
    "more": (11, 2),
    "who": (12, 1),
    "where": (13, 1),
    "count": (14, 0),
    "missing": (15, 0),
    "visitors": (16, 0),
    "children": (17, 1),
    "group": (18, 1),
    "alone": (19, 0),
    "lost": (20, 0),
    "may": (21, 1),
    "ready": (22, 0),
    "longest": (23, 0),
    "look": (24, 1),
    "sums": (25, 0),
    "back": (26, 0),
    "again": (27, 0),
    "state": (28, 0),
}


def written(calls):
    """Write calls such as "scan 0 1" as one list of whole numbers."""
    row = []
    for call in calls:
        words = call.split()
        number, arguments = NUMBER_AND_ARGUMENTS[words[0]]
        if len(words) != arguments + 1:
            raise ValueError(call)
        row.append(number)
        row.extend(int(word) for word in words[1:])
    return row


def taken_apart(row):
    told = []
    place = 0
    while place < len(row):
        end = place + 1 + row[place]
        told.append(row[place + 1:end])
        place = end
    if place != len(row):
        raise ValueError("the last answer is cut short")
    return told


def told(*calls):
    """Make the calls; give a list of numbers for each."""
    answered = taken_apart(answers(written(calls)))
    if len(answered) != len(calls):
        raise ValueError("not as many answers as calls")
    return answered


def minutes_up_to(minute):
    """The calls by which so many minutes go by."""
    calls = ["minutes 1440"] * (minute // 1440)
    if minute % 1440:
        calls.append(f"minutes {minute % 1440}")
    return calls


CHANGES = ("gate", "person", "child", "visitor", "card", "open", "scan", "leave", "minutes", "sail", "more")

# Between them these tell all that a ship knows.
QUESTIONS = (
    [f"{word} {p}" for word in ("where", "children", "group", "may") for p in range(25)]
    + [f"who {card}" for card in range(40)]
    + [f"look {g}" for g in range(4)]
    + ["count", "missing", "visitors", "alone", "lost", "ready", "longest", "sums", "state"]
)

# And these, besides, what it would know with changes done again and taken back.
PROBES = QUESTIONS + ["again"] * 31 + QUESTIONS + ["back", *QUESTIONS] * 2 + ["back"] * 31 + QUESTIONS


def one_mixed_call(chance):
    """A call that changes something, mostly such that it isn't refused."""
    small = chance.randint(0, 11)
    return chance.choice([
        "gate", "person", f"child {small // 4}", f"visitor {chance.randint(0, 90)}",
        f"card {small}", f"open {small % 3} {chance.randint(0, 1)}", "open 0 1",
        f"scan 0 {small}", f"scan 0 {small}", f"scan 0 {small * 2}", f"scan {small % 3} {small}",
        f"leave {small}", f"minutes {chance.randint(0, 9)}", f"more {small} {chance.randint(0, 99)}",
        f"sail {chance.randint(0, 900)}",
    ])


def mixed_calls(seed, count, taking_back=False):
    """So many calls of every sort behind a start; the same for the same seed."""
    chance = random.Random(seed)
    calls = [f"start {chance.randint(1, 12)} 500", "gate", "open 0 1"]
    while len(calls) < count:
        dice = chance.randint(1, 60) if taking_back else 60
        if dice == 1:
            calls.append(f"start {chance.randint(0, 25)} {chance.randint(0, 150000)}")
        elif dice <= 4:
            calls += [chance.choice(["back", "again"]) for _ in range(chance.randint(1, 12))]
        elif dice == 5:
            calls += ["back"] * chance.randint(1, 33) + ["again"] * chance.randint(0, 33)
        else:
            calls.append(one_mixed_call(chance))
    return calls[:count]


class LineTest(unittest.TestCase):
    """A test of what is answered to calls."""

    def assert_last(self, calls, expected):
        """The last of the calls is answered so."""
        self.assertEqual(told(*calls)[-1], expected)

    def assert_refused(self, before, call, refusal):
        """The call is refused so, and all is as it was."""
        self.assert_nothing_changed(before, call, [refusal])

    def assert_nothing_changed(self, before, call, expected):
        """The call is answered so, and all is as it was, what can be taken back and done again too."""
        for calls in (before, [*before, "sail 100000", "back"]):
            answered = told(*calls, call, *PROBES)
            self.assertEqual(answered[len(calls)], expected)
            self.assertEqual(answered[len(calls) + 1:], told(*calls, *PROBES)[len(calls):])
