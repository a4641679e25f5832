"""What holds, whatever is called: looked at after each call of many mixed lines."""

import random
import unittest

from tests.lines import told

CARDS = 50
ASK_ALL = [f"where {p}" for p in range(24)] + [f"who {card}" for card in range(CARDS)] + ["count"]


def mixed_calls(seed):
    """Calls of every sort, mostly such that they are not refused; the same for the same seed."""
    chance = random.Random(seed)
    calls = [f"start {chance.randint(1, 12)} 500", "gate", "open 0 1"]
    for _ in range(80):
        small = chance.randint(0, 11)
        calls.append(chance.choice([
            "gate", "person", f"child {small // 4}", f"visitor {chance.randint(0, 90)}",
            f"card {small}", f"open {small % 3} {chance.randint(0, 1)}", "open 0 1",
            f"scan 0 {small}", f"scan 0 {small}", f"scan 0 {small * 2}", f"scan {small % 3} {small}",
            f"leave {small}", f"minutes {chance.randint(1, 9)}", f"more {small} {chance.randint(0, 99)}",
        ]))
    return calls


class Seen:
    """What the ship tells of itself behind some call."""

    def __init__(self, answered):
        self.places = {p: where for p, where in enumerate(answered[:24]) if where != [-2]}
        self.holders = {card: who for card, who in enumerate(answered[24:-1]) if who != [-2]}
        self.count = answered[-1]

    def those(self, place):
        return [p for p, where in self.places.items() if where[0] == place]


class Step:
    """A call with its answer, and what was seen before and behind it."""

    def __init__(self, call, answer, before, behind):
        self.call = call.split()
        self.answer = answer
        self.before = before
        self.behind = behind

    def is_passage(self):
        return self.call[0] == "scan" and self.answer[0] in (0, 1)


def steps_of(calls):
    """The steps of a line behind its gw_start."""
    row = []
    for call in calls:
        row += [call, *ASK_ALL]
    answered = told(*row)
    size = 1 + len(ASK_ALL)
    seen = [Seen(answered[place + 1:place + size]) for place in range(0, len(answered), size)]
    return [Step(calls[k], answered[k * size], seen[k - 1], seen[k]) for k in range(1, len(calls))]


class WhatHoldsTest(unittest.TestCase):

    @classmethod
    def setUpClass(cls):
        cls.lines = [steps_of(mixed_calls(seed)) for seed in range(60)]
        cls.steps = [step for line in cls.lines for step in line]

    def test_one_card_one_person(self):
        for step in self.steps:
            places = step.behind.places
            cards = [where[2] for where in places.values()]
            self.assertEqual(len(cards), len(set(cards)))
            self.assertEqual({where[2]: [p, where[0]] for p, where in places.items()}, step.behind.holders)

    def test_count_tells_who_is_aboard_and_never_too_many(self):
        for step in self.steps:
            aboard = step.behind.those(0)
            most = step.before.count[0] + step.before.count[2]
            self.assertEqual(step.behind.count, [len(aboard), sum(1 << p for p in aboard), most - len(aboard)])
            self.assertLessEqual(len(aboard), most)

    def test_no_child_goes_first(self):
        children = 0
        for step in self.steps:
            if step.is_passage() and step.answer[0] == 0:
                guardian = step.before.places[step.answer[1]][3] - 1
                if guardian >= 0:
                    self.assertIn(guardian, step.before.those(1))
                    children += 1
        self.assertGreater(children, 0)

    def test_refused_calls_change_nothing(self):
        refused = [step for step in self.steps if step.answer[0] < 0]
        self.assertGreater(len(refused), 0)
        for step in refused:
            self.assertEqual(len(step.answer), 1)
            self.assertEqual(vars(step.before), vars(step.behind), step.call)

    def test_places_change_by_scans_and_leaving_alone(self):
        for step in self.steps:
            before = {p: where[0] for p, where in step.before.places.items()}
            behind = {p: where[0] for p, where in step.behind.places.items()}
            moved = [p for p in before if before[p] != behind.get(p)]
            expected = []
            if step.is_passage():
                expected = [step.answer[1]]
            if step.call[0] == "leave" and step.answer[0] >= 0:
                expected = [int(step.call[1])]
            self.assertEqual(moved, expected, step.call)

    def test_out_less_in_are_those_ashore_and_gone(self):
        for line in self.lines:
            ever = 0
            outside = 0
            for step in line:
                if step.call[0] in ("person", "child", "visitor") and step.answer[0] >= 0:
                    ever += 1
                if step.is_passage():
                    outside += 1 - 2 * step.answer[0]
                gone = ever - len(step.behind.places)
                self.assertEqual(outside, len(step.behind.those(1)) + gone)

    def test_a_shut_gate_lets_nobody_through(self):
        passages = 0
        for line in self.lines:
            opened = {0: False, 1: False, 2: False}
            for step in line:
                if step.call[0] == "open" and step.answer[0] >= 0:
                    opened[int(step.call[1])] = step.call[2] == "1"
                if step.is_passage():
                    self.assertTrue(opened[int(step.call[1])])
                    passages += 1
        self.assertGreater(passages, 0)
