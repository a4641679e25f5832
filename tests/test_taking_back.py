"""gw_back, gw_again, gw_state: point 8, and of point 1 what a change is."""

from tests.lines import CHANGES, LineTest, QUESTIONS, mixed_calls, minutes_up_to, told

OPEN = ["gate", "open 0 1"]
FAMILY = ["start 9 50", *OPEN, "person", "child 0", "visitor 20", "person"]

# Each of the eleven changes, with each way in which it can go: what is ahead of it, and it.
EACH_CHANGE = (
    (["start 5 9"], "gate"),
    (["start 5 9", "gate", "gate"], "gate"),
    (["start 5 9"], "person"),
    (["start 5 9", "minutes 3", "person"], "person"),
    (["start 5 9", "person"], "child 0"),
    ([*FAMILY, "minutes 3"], "visitor 4"),
    (["start 5 9", "person"], "card 0"),
    ([*FAMILY, "scan 0 0", "card 1"], "card 0"),
    (["start 5 9", "gate"], "open 0 1"),
    (["start 5 9", *OPEN, "gate", "open 1 1"], "open 0 0"),
    ([*FAMILY, "minutes 3"], "scan 0 0"),
    ([*FAMILY, "scan 0 0", "minutes 3"], "scan 0 0"),
    ([*FAMILY, "scan 0 0", "minutes 3"], "scan 0 1"),
    ([*FAMILY, "scan 0 2", "minutes 3"], "scan 0 2"),
    (FAMILY, "scan 0 4"),
    ([*FAMILY, "scan 0 0", "scan 0 1", "minutes 3"], "leave 1"),
    ([*FAMILY, "scan 0 2"], "leave 2"),
    ([*FAMILY, "scan 0 3", "minutes 3"], "leave 3"),
    (FAMILY, "minutes 1"),
    ([*FAMILY, "scan 0 0"], "minutes 1440"),
    (["start 5 9"], "sail 10"),
    ([*FAMILY, "minutes 3"], "sail 3"),
    (FAMILY, "more 2 21"),
    ([*FAMILY, "minutes 30", "scan 0 2"], "more 2 40"),
)
ALIKE_BEFORE_AND_BEHIND = (
    (["start 5 9"], "sail 9"),
    (FAMILY, "more 2 20"),
)


def asked(*calls):
    """What is answered to every question behind the calls: what can be taken back and done again by itself."""
    answered = told(*calls, *QUESTIONS)[len(calls):]
    return answered[:-1] + [answered[-1][:4]], answered[-1][4:]


class EachChangeTest(LineTest):

    def test_eleven(self):
        self.assertEqual({change.split()[0] for before, change in EACH_CHANGE}, set(CHANGES))
        self.assertEqual(len(CHANGES), 11)

    def test_behind_back_all_is_as_ahead_of_the_change(self):
        for before, change in EACH_CHANGE + ALIKE_BEFORE_AND_BEHIND:
            knows, (made, undone) = asked(*before)
            self.assertEqual((made, undone), (len(before) - 1, 0))
            self.assertEqual(told(*before, change, "back")[-1], [made], change)
            self.assertEqual(asked(*before, change, "back"), (knows, [made, 1]), change)

    def test_behind_again_all_is_as_behind_the_change(self):
        for before, change in EACH_CHANGE + ALIKE_BEFORE_AND_BEHIND:
            knows, (made, undone) = asked(*before, change)
            self.assertEqual((made, undone), (len(before), 0))
            self.assertEqual(told(*before, change, "back", "again")[-1], [0], change)
            self.assertEqual(asked(*before, change, "back", "again"), (knows, [made, 0]), change)

    def test_back_and_again_many_times(self):
        for before, change in EACH_CHANGE:
            behind = asked(*before, change)
            ahead = asked(*before, change, "back")
            self.assertNotEqual(ahead[0], behind[0], change)
            self.assertEqual(asked(*before, change, *["back", "again"] * 4), behind, change)
            self.assertEqual(asked(*before, change, *["back", "again"] * 4, "back"), ahead, change)

    def test_made_anew_it_is_answered_likewise(self):
        for before, change in EACH_CHANGE:
            answered = told(*before, change, "back", change)
            self.assertEqual(answered[-1], answered[len(before)], change)
            self.assertEqual(asked(*before, change, "back", change), asked(*before, change))

    def test_every_change_of_a_line_back_and_again(self):
        for before, change in EACH_CHANGE:
            line = [*before, change]
            changes = len(line) - 1
            for some in range(changes + 1):
                knows = asked(*line[:len(line) - some])[0]
                self.assertEqual(asked(*line, *["back"] * some), (knows, [changes - some, some]))
                self.assertEqual(asked(*line, *["back"] * changes, *["again"] * (changes - some)),
                                 (knows, [changes - some, some]))


class BackTest(LineTest):

    def test_nothing_to_take_back(self):
        self.assert_last(["start 5 9", "back"], [-2])
        self.assert_last(["start 5 9", "person", "back", "back"], [-2])
        self.assertEqual(asked("start 5 9", "person", "back", "back"), asked("start 5 9", "person", "back"))
        self.assertEqual(asked("start 5 9", "back"), asked("start 5 9"))

    def test_refused_leaves_what_can_be_done_again(self):
        self.assertEqual(told("start 5 9", "person", "gate", "back", "back", "back", "again", "again", "again")[3:],
                         [[1], [0], [-2], [1], [0], [-2]])

    def test_how_many_can_still_be(self):
        calls = ["start 5 9", "gate", "person", "sail 3", "back", "back", "back"]
        self.assertEqual(told(*calls)[-3:], [[2], [1], [0]])

    def test_the_last_one_is_taken_back(self):
        calls = ["start 5 9", "sail 3", "sail 4", "sail 5"]
        self.assertEqual(told(*calls, "back", "state", "back", "state", "back", "state")[5::2],
                         [[0, 0, 4, 5, 2, 1], [0, 0, 3, 5, 1, 2], [0, 0, 9, 5, 0, 3]])

    def test_minutes_come_back(self):
        calls = ["start 5 9", "minutes 8", "minutes 7", "back", "state"]
        self.assert_last(calls, [8, 0, 9, 5, 1, 1])
        self.assertEqual(told("start 5 9", *minutes_up_to(100000), "minutes 1", "back", "minutes 640")[-3:],
                         [[-75], [29], [100000, 0]])

    def test_numbers_and_cards_are_given_anew(self):
        calls = ["start 5 9", "person", "person", "back", "person", "card 0", "back", "card 1", "gate", "back", "gate"]
        self.assertEqual(told(*calls)[1:], [[0, 0], [1, 1], [1], [1, 1], [2], [2], [2], [0], [3], [0]])

    def test_the_card_they_had_counts_again(self):
        calls = ["start 5 9", "person", "card 0", "back", "who 0", "who 1", "again", "who 0", "who 1"]
        self.assertEqual(told(*calls)[4:], [[0, 0], [-2], [0], [-2], [0, 0]])

    def test_who_left_is_there_again(self):
        calls = ["start 5 9", *OPEN, "person", "scan 0 0", "minutes 6", "leave 0", "back", "where 0", "leave 0"]
        self.assertEqual(told(*calls)[-2:], [[1, 6, 0, 0, 0], [6]])

    def test_refusals_go_by_what_is_there_now(self):
        calls = ["start 1 9", "person", "person", "back", "person", "scan 0 0", "gate", "open 0 1", "back", "scan 0 0"]
        self.assertEqual(told(*calls)[1:], [[0, 0], [-62], [0], [0, 0], [-2], [0], [0], [2], [-16]])


class AgainTest(LineTest):

    def test_nothing_to_be_done_again(self):
        self.assert_last(["start 5 9", "again"], [-2])
        self.assert_last(["start 5 9", "person", "again"], [-2])
        self.assert_last(["start 5 9", "person", "back", "again", "again"], [-2])
        self.assertEqual(asked("start 5 9", "person", "again"), asked("start 5 9", "person"))

    def test_how_many_there_still_are(self):
        calls = ["start 5 9", "gate", "person", "sail 3", "back", "back", "back", "again", "again", "again"]
        self.assertEqual(told(*calls)[-3:], [[2], [1], [0]])

    def test_the_one_that_was_taken_back_last(self):
        calls = ["start 5 9", "sail 3", "sail 4", "sail 5", "back", "back", "back"]
        self.assertEqual(told(*calls, "again", "state", "again", "state", "again", "state")[8::2],
                         [[0, 0, 3, 5, 1, 2], [0, 0, 4, 5, 2, 1], [0, 0, 5, 5, 3, 0]])

    def test_what_was_done_again_can_be_taken_back(self):
        calls = ["start 5 9", "sail 3", "sail 4", "back", "back", "again", "back", "back", "again", "state"]
        self.assertEqual(told(*calls)[3:], [[1], [0], [1], [0], [-2], [1], [0, 0, 3, 5, 1, 1]])

    def test_another_change_leaves_nothing_to_be_done_again(self):
        for before, change in EACH_CHANGE + ALIKE_BEFORE_AND_BEHIND:
            for undone in (1, 2, 3):
                calls = [*before, *["sail 100000"] * undone, *["back"] * undone, change]
                self.assertEqual(told(*calls, "again", "state")[-2], [-2], change)
                self.assertEqual(asked(*calls), asked(*before, change))
                self.assertEqual(asked(*calls, "again"), asked(*before, change))

    def test_another_change_behind_a_gw_again(self):
        calls = ["start 5 9", "sail 3", "sail 4", "sail 5", "back", "back", "back", "again", "sail 6"]
        self.assertEqual(told(*calls, "again", "state", "back", "state")[-4:],
                         [[-2], [0, 0, 6, 5, 2, 0], [1], [0, 0, 3, 5, 1, 1]])


class ThirtyTest(LineTest):
    """More changes than can be taken back; behind the k-th the ship sails at minute k."""

    def sails(self, count):
        return ["start 5 0"] + [f"sail {k}" for k in range(1, count + 1)]

    def test_30(self):
        answered = told(*self.sails(30), *["back"] * 31, "state")
        self.assertEqual(answered[31:], [[k] for k in range(29, -1, -1)] + [[-2], [0, 0, 0, 5, 0, 30]])

    def test_more_than_30(self):
        for more in (1, 2, 9, 30, 31, 65):
            calls = self.sails(30 + more)
            answered = told(*calls, "state", *["back"] * 31, "state")
            self.assertEqual(answered[len(calls):],
                             [[0, 0, 30 + more, 5, 30, 0]] + [[k] for k in range(29, -1, -1)]
                             + [[-2], [0, 0, more, 5, 0, 30]])

    def test_each_that_is_taken_back_and_done_again(self):
        answered = told(*self.sails(40), *["back", "state"] * 30, *["again", "state"] * 30, "again")
        self.assertEqual(answered[42:101:2], [[0, 0, 40 - k, 5, 30 - k, k] for k in range(1, 31)])
        self.assertEqual(answered[101:160:2], [[k] for k in range(29, -1, -1)])
        self.assertEqual(answered[102:161:2], [[0, 0, 10 + k, 5, k, 30 - k] for k in range(1, 31)])
        self.assertEqual(answered[161], [-2])

    def test_back_and_again_and_still_30(self):
        calls = [*self.sails(33), *["back"] * 30, *["again"] * 30]
        self.assert_last([*calls, "state"], [0, 0, 33, 5, 30, 0])
        self.assert_last([*calls, "sail 99", "state"], [0, 0, 99, 5, 30, 0])
        self.assert_last([*calls, "sail 99", *["back"] * 30, "state"], [0, 0, 4, 5, 0, 30])

    def test_a_change_behind_some_taken_back(self):
        calls = [*self.sails(40), *["back"] * 5, "sail 99"]
        self.assertEqual(told(*calls, "state", "again", *["back"] * 26, "state", "back")[len(calls):],
                         [[0, 0, 99, 5, 26, 0], [-2]] + [[k] for k in range(25, -1, -1)]
                         + [[0, 0, 10, 5, 0, 26], [-2]])

    def test_a_change_behind_all_taken_back(self):
        calls = [*self.sails(40), *["back"] * 30, "sail 99"]
        self.assertEqual(told(*calls, "again", "state", "back", "back", "state")[len(calls):],
                         [[-2], [0, 0, 99, 5, 1, 0], [0], [-2], [0, 0, 10, 5, 0, 1]])


class NoChangeTest(LineTest):

    def test_questions_between(self):
        calls = ["start 9 9", *OPEN, "person", "scan 0 0", "back", "back"]
        self.assertEqual(told(*calls, *QUESTIONS, "again", *QUESTIONS, "again", *QUESTIONS, "again", "back")[-2:],
                         [[-2], [3]])
        for question in QUESTIONS:
            self.assertEqual(asked(*calls, question), asked(*calls))
            self.assertEqual(asked(*calls, question, "again"), asked(*calls, "again"))
            self.assertEqual(asked(*calls, question, "back"), asked(*calls, "back"))

    def test_refused_calls_between(self):
        calls = ["start 1 9", "gate", "gate", *OPEN, "person", "sail 4", "back"]
        refused = {
            "start 0 0": -22, "gate": -28, "person": -62, "child 0": -62, "visitor 1": -62, "card 1": -2,
            "open 0 1": -17, "scan 1 0": -16, "leave 0": -16, "minutes 0": -22, "sail 100001": -22, "more 0 9": -16,
            "longest": -6, "look 3": -2,
        }
        for call, refusal in refused.items():
            self.assert_last([*calls, call], [refusal])
            self.assertEqual(asked(*calls, call), asked(*calls), call)
            self.assertEqual(asked(*calls, call, "again"), asked(*calls, "again"), call)
            self.assertEqual(asked(*calls, call, "back"), asked(*calls, "back"), call)


class StartTest(LineTest):

    def test_answered_0_it_leaves_no_changes(self):
        calls = ["start 5 9", "person", "gate", "sail 4", "back", "start 6 8"]
        self.assertEqual(told(*calls, "state", "back", "again", "state")[-4:],
                         [[0, 0, 8, 6, 0, 0], [-2], [-2], [0, 0, 8, 6, 0, 0]])
        self.assertEqual(asked(*calls), asked("start 6 8"))
        self.assertEqual(asked(*calls, "person", "back", "back"), asked("start 6 8", "person", "back", "back"))

    def test_refused_it_leaves_all(self):
        calls = ["start 5 9", "person", "gate", "sail 4", "back"]
        for start in ("start 0 8", "start 25 8", "start 6 100001"):
            self.assertEqual(asked(*calls, start), asked(*calls))
            self.assertEqual(told(*calls, start, "again", "again", "back", "back", "back", "back")[-6:],
                             [[0], [-2], [2], [1], [0], [-2]])

    def test_refused_ahead_of_the_first(self):
        self.assertEqual(asked("start 0 8", "start 25 8", "start 6 8"), asked("start 6 8"))


class StateTest(LineTest):

    def test_as_at_first(self):
        self.assert_last(["start 5 9", "state"], [0, 0, 9, 5, 0, 0])
        self.assert_last(["start 24 100000", "state"], [0, 0, 100000, 24, 0, 0])
        self.assert_last(["start 1 0", "state"], [0, 0, 0, 1, 0, 0])

    def test_ordinary(self):
        calls = ["start 5 9", "gate", "gate", "person", "minutes 7", "sail 30", "minutes 8", "back"]
        self.assert_last([*calls, "state"], [7, 2, 30, 5, 5, 1])

    def test_the_last_minute(self):
        self.assert_last(["start 5 9", *minutes_up_to(100000), "state"], [100000, 0, 9, 5, 30, 0])

    def test_asking_changes_nothing(self):
        self.assert_nothing_changed(["start 5 9", "gate", "person"], "count", [1, 1, 4])
        self.assertEqual(told("start 5 9", "gate", "person", "back", "state", "state")[-2:], [[0, 1, 9, 5, 1, 1]] * 2)


class FollowedLine:
    """Which changes a line amounts to, going by its answers alone."""

    def __init__(self, start):
        self.start = start
        self.made = []
        self.undone = []
        self.able = 0

    def follow(self, call, answer):
        word = call.split()[0]
        if answer[0] < 0:
            return
        if word == "start":
            FollowedLine.__init__(self, call)
        elif word == "back":
            self.undone.append(self.made.pop())
            self.able -= 1
        elif word == "again":
            self.made.append(self.undone.pop())
            self.able += 1
        elif word in CHANGES:
            self.made.append(call)
            self.undone = []
            self.able = min(self.able + 1, 30)

    def due(self, call):
        """What gw_back or gw_again is to be answered."""
        left = self.able if call == "back" else len(self.undone)
        return [left - 1] if left else [-2]


class MixedLinesTest(LineTest):

    def test_a_line_is_as_one_without_what_was_taken_back(self):
        seen = {"back": [], "again": []}
        for seed in range(20):
            calls = mixed_calls(seed, 200, taking_back=True)
            row = []
            for call in calls:
                row += [call, *QUESTIONS]
            answered = told(*row)
            followed = FollowedLine(calls[0])
            for k, call in enumerate(calls):
                place = k * (1 + len(QUESTIONS))
                if call in seen:
                    self.assertEqual(answered[place], followed.due(call))
                    seen[call].append(answered[place][0])
                followed.follow(call, answered[place])
                if call in seen or k == len(calls) - 1:
                    behind = answered[place + 1:place + 1 + len(QUESTIONS)]
                    knows = behind[:-1] + [behind[-1][:4]]
                    self.assertEqual(knows, asked(followed.start, *followed.made)[0], calls[:k + 1])
                    self.assertEqual(behind[-1][4:], [followed.able, len(followed.undone)])
        for word in seen:
            self.assertIn(-2, seen[word])
            self.assertGreater(max(seen[word]), 20)
