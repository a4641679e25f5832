"""What holds, whatever is called: looked at after each call of many mixed lines."""

import unittest

from tests.lines import CHANGES, QUESTIONS, mixed_calls, told


def bits(persons):
    return sum(1 << p for p in persons)


class Seen:
    """What the ship tells of itself behind some call."""

    def __init__(self, answered):
        self.told = dict(zip(QUESTIONS, answered))
        self.places = self.not_refused("where")
        self.holders = self.not_refused("who")
        self.gates = self.not_refused("look")
        self.minute = self.told["state"][0]
        self.most = self.told["state"][3]

    def not_refused(self, word):
        """The answers under the number that was asked of."""
        pairs = [(question.split(), answer) for question, answer in self.told.items()]
        return {int(words[1]): answer for words, answer in pairs if words[0] == word and answer != [-2]}

    def those(self, place):
        return [p for p, where in self.places.items() if where[0] == place]

    def guardian(self, p):
        return self.places[p][3] - 1

    def is_visitor(self, p):
        return self.places[p][4] > 0

    def missing(self):
        return [p for p in self.those(1) if not self.is_visitor(p)]

    def visitors(self):
        return [p for p in self.those(0) if self.is_visitor(p)]

    def children(self, p):
        return [child for child in self.places if self.guardian(child) == p]

    def knows(self):
        """All but what can be taken back and done again."""
        return {**self.told, "state": self.told["state"][:4]}


class Step:
    """A call with its answer, and what was seen before and behind it."""

    def __init__(self, call, answer, before, behind):
        self.call = call.split()
        self.answer = answer
        self.before = before
        self.behind = behind

    def is_passage(self):
        return self.call[0] == "scan" and self.answer[0] in (0, 1)


def steps_of(calls):
    """The steps of a line behind its gw_start."""
    row = []
    for call in calls:
        row += [call, *QUESTIONS]
    answered = told(*row)
    size = 1 + len(QUESTIONS)
    seen = [Seen(answered[place + 1:place + size]) for place in range(0, len(answered), size)]
    return [Step(calls[k], answered[k * size], seen[k - 1], seen[k]) for k in range(1, len(calls))]


class WhatHoldsTest(unittest.TestCase):

    @classmethod
    def setUpClass(cls):
        cls.lines = [steps_of(mixed_calls(seed, 90)) for seed in range(40)]
        cls.lines += [steps_of(mixed_calls(seed, 140, taking_back=True)) for seed in range(100, 140)]
        cls.steps = [step for line in cls.lines for step in line]

    def assert_told(self, seen, question, persons):
        """How many they are is answered, then who, as bits."""
        self.assertEqual(seen.told[question], [len(persons), bits(persons)], question)

    def test_one_card_one_person(self):
        for step in self.steps:
            places = step.behind.places
            cards = [where[2] for where in places.values()]
            self.assertEqual(len(cards), len(set(cards)))
            self.assertEqual({where[2]: [p, where[0]] for p, where in places.items()}, step.behind.holders)

    def test_everybody_is_somewhere(self):
        gone_ones = 0
        for step in self.steps:
            seen = step.behind
            ever, aboard, ashore, gone = seen.told["sums"][:4]
            self.assertEqual(aboard + ashore + gone, ever)
            self.assertEqual([aboard, ashore], [len(seen.those(0)), len(seen.those(1))])
            self.assertEqual(gone, ever - len(seen.places))
            self.assertLess(max(seen.places, default=-1), ever)
            gone_ones += gone
        self.assertGreater(gone_ones, 0)

    def test_gates_count_right(self):
        outside = 0
        for step in self.steps:
            gates = step.behind.gates.values()
            away = sum(gate[1] for gate in gates) - sum(gate[2] for gate in gates)
            self.assertEqual(away, sum(step.behind.told["sums"][2:4]))
            outside += away
        self.assertGreater(outside, 0)

    def test_a_passage_is_counted_at_its_gate_alone(self):
        for step in self.steps:
            if step.call[0] in CHANGES:
                expected = {g: gate[1:] for g, gate in step.before.gates.items()}
                if step.call[0] == "gate" and step.answer[0] >= 0:
                    expected[step.answer[0]] = [0, 0]
                if step.is_passage():
                    expected[int(step.call[1])][step.answer[0]] += 1
                self.assertEqual({g: gate[1:] for g, gate in step.behind.gates.items()}, expected)

    def test_no_child_goes_first(self):
        children = 0
        for step in self.steps:
            if step.is_passage() and step.answer[0] == 0:
                guardian = step.before.guardian(step.answer[1])
                if guardian >= 0:
                    self.assertIn(guardian, step.before.those(1))
                    children += 1
        self.assertGreater(children, 0)

    def test_who_may_go_ashore(self):
        for step in self.steps:
            seen = step.behind
            for p in seen.places:
                may = p in seen.those(0) and (seen.guardian(p) < 0 or seen.guardian(p) in seen.those(1))
                self.assertEqual(seen.told[f"may {p}"], [int(may)])
            if step.is_passage() and step.answer[0] == 0:
                self.assertEqual(step.before.told[f"may {step.answer[1]}"], [1])

    def test_whoever_is_told_missing_is(self):
        for step in self.steps:
            seen = step.behind
            missing = seen.missing()
            self.assert_told(seen, "missing", missing)
            longest = [-6]
            if missing:
                stay = max(seen.places[p][1] for p in missing)
                longest = [min(p for p in missing if seen.places[p][1] == stay), stay]
            self.assertEqual(seen.told["longest"], longest)

    def test_the_ship_may_sail_only_if_all_is_well(self):
        ready = []
        for step in self.steps:
            seen = step.behind
            reasons = [len(seen.missing()), len(seen.visitors()), sum(gate[0] for gate in seen.gates.values())]
            sails_in = max(0, seen.told["state"][2] - seen.minute)
            self.assertEqual(seen.told["ready"], [int(reasons == [0, 0, 0]), *reasons, sails_in])
            ready.append(seen.told["ready"][0])
        self.assertEqual(set(ready), {0, 1})

    def test_never_too_many_aboard(self):
        full = 0
        for step in self.steps:
            aboard = step.behind.those(0)
            self.assertEqual(step.behind.told["count"], [len(aboard), bits(aboard), step.behind.most - len(aboard)])
            self.assertLessEqual(len(aboard), step.behind.most)
            full += len(aboard) == step.behind.most
        self.assertGreater(full, 0)

    def test_visitors(self):
        for step in self.steps:
            seen = step.behind
            visitors = seen.visitors()
            over = [p for p in visitors if seen.places[p][4] - 1 < seen.minute]
            self.assertEqual(seen.told["visitors"], [len(visitors), bits(visitors), bits(over)])
            if step.call[0] == "minutes" and step.answer[0] >= 0:
                self.assertEqual(step.answer, [seen.minute, bits(over)])

    def test_a_shut_gate_lets_nobody_through(self):
        passages = 0
        for step in self.steps:
            if step.is_passage():
                self.assertEqual(step.before.gates[int(step.call[1])][0], 1)
                passages += 1
            if step.call[0] == "scan" and step.before.gates.get(int(step.call[1]), [1])[0] == 0:
                self.assertEqual(step.answer, [-16])
        self.assertGreater(passages, 0)

    def test_a_whole_group_is_told(self):
        for step in self.steps:
            seen = step.behind
            for p in seen.places:
                children = seen.children(p)
                self.assert_told(seen, f"children {p}", children)
                self.assert_told(seen, f"group {p}", [p] + [child for child in children if child in seen.those(0)])

    def test_children_alone_and_lost(self):
        some = {"alone": 0, "lost": 0}
        for step in self.steps:
            seen = step.behind
            children = [p for p in seen.places if seen.guardian(p) >= 0]
            away = [p for p in children if seen.guardian(p) in seen.those(1)]
            self.assert_told(seen, "alone", [p for p in away if p in seen.those(0)])
            self.assert_told(seen, "lost", [p for p in children if p in seen.those(1) and p not in away])
            for word in some:
                some[word] += seen.told[word][0]
        self.assertGreater(min(some.values()), 0)

    def test_all_can_be_taken_back_and_done_again(self):
        made = 0
        for line in self.lines:
            for step, following in zip(line, line[1:]):
                if step.call[0] in CHANGES and step.answer[0] >= 0:
                    self.assertEqual(step.behind.told["state"][4:], [min(step.before.told["state"][4] + 1, 30), 0])
                    if following.call == ["back"]:
                        self.assertEqual(following.behind.knows(), step.before.knows())
                        made += 1
                if [step.call, following.call] == [["back"], ["again"]] and step.answer[0] >= 0:
                    self.assertEqual(following.behind.told, step.before.told)
                    made += 1
        self.assertGreater(made, 20)

    def test_refused_calls_change_nothing(self):
        refused = [step for step in self.steps if step.answer[0] < 0]
        self.assertLessEqual({*CHANGES, "start", "back", "again"}, {step.call[0] for step in refused})
        for step in refused:
            self.assertEqual(len(step.answer), 1)
            self.assertEqual(step.before.told, step.behind.told, step.call)

    def test_places_change_by_scans_and_leaving_alone(self):
        for step in self.steps:
            if step.call[0] in CHANGES:
                before = {p: where[0] for p, where in step.before.places.items()}
                behind = {p: where[0] for p, where in step.behind.places.items()}
                moved = [p for p in before if before[p] != behind.get(p)]
                expected = []
                if step.is_passage():
                    expected = [step.answer[1]]
                if step.call[0] == "leave" and step.answer[0] >= 0:
                    expected = [int(step.call[1])]
                self.assertEqual(moved, expected, step.call)

    def test_cards_shown_and_given_are_counted(self):
        for step in self.steps:
            if step.call[0] in CHANGES:
                accepted = step.answer[0] >= 0
                given = accepted and step.call[0] in ("person", "child", "visitor", "card")
                vain = step.call[0] == "scan" and step.answer == [2, 0]
                before = step.before.told["sums"][4:]
                self.assertEqual(step.behind.told["sums"][4:], [before[0] + given, before[1] + vain])
