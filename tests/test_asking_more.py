"""gw_missing of point 5, and point 6: gw_visitors, gw_children, gw_group, gw_alone, gw_lost, gw_may."""

from tests.lines import BIGGEST, LineTest, told

OPEN = ["gate", "open 0 1"]
# 0 with the children 1 and 3; 2 with the child 4; 5 a visitor till minute 20.
FAMILIES = ["start 9 0", *OPEN, "person", "child 0", "person", "child 0", "child 2", "visitor 20"]


class OfAPersonTest(LineTest):
    """What gw_children, gw_group and gw_may have in common."""

    def test_nobody_there(self):
        for call in ("children", "group", "may"):
            self.assert_refused(["start 5 0"], f"{call} 0", -2)
            for p in (1, 24, 31, 32, BIGGEST):
                self.assert_refused(["start 5 0", "person"], f"{call} {p}", -2)

    def test_one_who_is_gone(self):
        before = ["start 5 0", *OPEN, "person", "person", "child 1", "visitor 9", "scan 0 0", "leave 0",
                  "scan 0 1", "scan 0 2", "leave 2", "leave 1", "scan 0 3", "leave 3"]
        for call in ("children", "group", "may"):
            for p in range(4):
                self.assert_refused(before, f"{call} {p}", -2)


class MissingTest(LineTest):

    def test_nobody(self):
        self.assert_last(["start 5 0", "missing"], [0, 0])
        self.assert_last([*FAMILIES, "missing"], [0, 0])

    def test_those_ashore(self):
        calls = [*FAMILIES, "scan 0 2", "missing"]
        self.assert_last(calls, [1, 0b100])
        self.assert_last([*calls, "scan 0 0", "missing"], [2, 0b101])

    def test_children_too(self):
        self.assert_last([*FAMILIES, "scan 0 0", "scan 0 1", "missing"], [2, 0b11])
        self.assert_last([*FAMILIES, "scan 0 0", "scan 0 1", "scan 0 0", "missing"], [1, 0b10])

    def test_visitors_are_left_out(self):
        self.assert_last([*FAMILIES, "scan 0 5", "missing"], [0, 0])
        self.assert_last([*FAMILIES, "scan 0 5", "minutes 21", "missing"], [0, 0])
        self.assert_last([*FAMILIES, "scan 0 5", "scan 0 2", "missing"], [1, 0b100])

    def test_gone_ones_are_left_out(self):
        calls = [*FAMILIES, "scan 0 2", "scan 0 4", "leave 4"]
        self.assert_last([*calls, "missing"], [1, 0b100])
        self.assert_last([*calls, "leave 2", "missing"], [0, 0])

    def test_back_aboard(self):
        self.assert_last([*FAMILIES, "scan 0 2", "scan 0 2", "missing"], [0, 0])

    def test_all_24(self):
        calls = ["start 24 0", *OPEN] + ["person"] * 24 + [f"scan 0 {card}" for card in range(24)]
        self.assert_last([*calls, "missing"], [24, 16777215])


class VisitorsTest(LineTest):

    def test_none(self):
        self.assert_last(["start 5 0", "visitors"], [0, 0, 0])
        self.assert_last(["start 5 0", *OPEN, "person", "child 0", "minutes 9", "visitors"], [0, 0, 0])

    def test_whose_minute_is_over(self):
        calls = ["start 5 0", *OPEN, "person", "visitor 3", "visitor 4", "visitor 5", "minutes 3"]
        told_of = told(*calls, "visitors", "minutes 1", "visitors", "minutes 1", "visitors", "minutes 1", "visitors")
        self.assertEqual(told_of[len(calls)::2],
                         [[3, 0b1110, 0], [3, 0b1110, 0b10], [3, 0b1110, 0b110], [3, 0b1110, 0b1110]])

    def test_minute_0(self):
        self.assert_last(["start 5 0", *OPEN, "visitor 0", "visitors"], [1, 1, 0])
        self.assert_last(["start 5 0", *OPEN, "visitor 0", "minutes 1", "visitors"], [1, 1, 1])

    def test_ashore_and_gone_are_left_out(self):
        calls = ["start 5 0", *OPEN, "visitor 3", "visitor 3", "visitor 9", "minutes 4", "scan 0 1"]
        self.assert_last([*calls, "visitors"], [2, 0b101, 0b1])
        self.assert_last([*calls, "leave 1", "visitors"], [2, 0b101, 0b1])
        self.assert_last([*calls, "scan 0 1", "visitors"], [3, 0b111, 0b11])

    def test_with_more_time(self):
        calls = ["start 5 0", *OPEN, "visitor 3", "minutes 5"]
        self.assert_last([*calls, "more 0 4", "visitors"], [1, 1, 1])
        self.assert_last([*calls, "more 0 5", "visitors"], [1, 1, 0])


class ChildrenTest(LineTest):

    def test_some_and_none(self):
        self.assertEqual(told(*FAMILIES, *[f"children {p}" for p in range(6)])[len(FAMILIES):],
                         [[2, 0b1010], [0, 0], [1, 0b10000], [0, 0], [0, 0], [0, 0]])

    def test_wherever_they_are(self):
        calls = [*FAMILIES, "scan 0 0", "scan 0 1"]
        self.assert_last([*calls, "children 0"], [2, 0b1010])
        self.assert_last([*calls, "scan 0 0", "children 0"], [2, 0b1010])

    def test_gone_ones_are_left_out(self):
        calls = [*FAMILIES, "scan 0 0", "scan 0 1", "leave 1"]
        self.assert_last([*calls, "children 0"], [1, 0b1000])
        self.assert_last([*calls, "scan 0 3", "leave 3", "children 0"], [0, 0])

    def test_23_children(self):
        self.assert_last(["start 24 0", "person"] + ["child 0"] * 23 + ["children 0"], [23, 16777214])


class GroupTest(LineTest):

    def test_with_and_without_children(self):
        self.assertEqual(told(*FAMILIES, *[f"group {p}" for p in range(6)])[len(FAMILIES):],
                         [[3, 0b1011], [1, 0b10], [2, 0b10100], [1, 0b1000], [1, 0b10000], [1, 0b100000]])

    def test_children_ashore_are_left_out(self):
        calls = [*FAMILIES, "scan 0 0", "scan 0 1", "scan 0 0"]
        self.assert_last([*calls, "group 0"], [2, 0b1001])
        self.assert_last([*calls, "scan 0 1", "group 0"], [3, 0b1011])

    def test_they_themself_wherever_they_are(self):
        calls = [*FAMILIES, "scan 0 0"]
        self.assert_last([*calls, "group 0"], [3, 0b1011])
        self.assert_last([*calls, "scan 0 1", "group 0"], [2, 0b1001])
        self.assert_last([*calls, "scan 0 1", "scan 0 3", "group 0"], [1, 0b1])
        self.assert_last([*calls, "scan 0 1", "group 1"], [1, 0b10])
        self.assert_last([*FAMILIES, "scan 0 5", "group 5"], [1, 0b100000])

    def test_gone_children_are_left_out(self):
        calls = [*FAMILIES, "scan 0 0", "scan 0 1", "leave 1", "scan 0 0"]
        self.assert_last([*calls, "group 0"], [2, 0b1001])

    def test_a_group_of_24(self):
        self.assert_last(["start 24 0", "person"] + ["child 0"] * 23 + ["group 0"], [24, 16777215])


class AloneTest(LineTest):

    def test_none(self):
        self.assert_last(["start 5 0", "alone"], [0, 0])
        self.assert_last([*FAMILIES, "alone"], [0, 0])
        self.assert_last([*FAMILIES, "scan 0 5", "alone"], [0, 0])

    def test_guardian_ashore(self):
        self.assert_last([*FAMILIES, "scan 0 0", "alone"], [2, 0b1010])
        self.assert_last([*FAMILIES, "scan 0 2", "alone"], [1, 0b10000])
        self.assert_last([*FAMILIES, "scan 0 2", "scan 0 0", "alone"], [3, 0b11010])

    def test_guardian_back(self):
        self.assert_last([*FAMILIES, "scan 0 0", "scan 0 0", "alone"], [0, 0])

    def test_children_ashore_or_gone_are_not(self):
        calls = [*FAMILIES, "scan 0 0", "scan 0 1"]
        self.assert_last([*calls, "alone"], [1, 0b1000])
        self.assert_last([*calls, "leave 1", "alone"], [1, 0b1000])
        self.assert_last([*calls, "scan 0 1", "alone"], [2, 0b1010])

    def test_persons_of_no_children_are_not(self):
        self.assert_last(["start 5 0", *OPEN, "person", "person", "visitor 9", "scan 0 0", "alone"], [0, 0])


class LostTest(LineTest):

    def test_none(self):
        self.assert_last(["start 5 0", "lost"], [0, 0])
        self.assert_last([*FAMILIES, "lost"], [0, 0])
        self.assert_last([*FAMILIES, "scan 0 0", "scan 0 1", "scan 0 3", "lost"], [0, 0])

    def test_guardian_aboard(self):
        calls = [*FAMILIES, "scan 0 0", "scan 0 1", "scan 0 3", "scan 0 0"]
        self.assert_last([*calls, "lost"], [2, 0b1010])
        self.assert_last([*calls, "scan 0 3", "lost"], [1, 0b10])
        self.assert_last([*calls, "scan 0 3", "scan 0 1", "lost"], [0, 0])

    def test_guardian_ashore_again(self):
        self.assert_last([*FAMILIES, "scan 0 0", "scan 0 1", "scan 0 0", "scan 0 0", "lost"], [0, 0])

    def test_gone_children_are_not(self):
        calls = [*FAMILIES, "scan 0 0", "scan 0 1", "scan 0 3", "scan 0 0", "leave 1"]
        self.assert_last([*calls, "lost"], [1, 0b1000])

    def test_persons_and_visitors_ashore_are_not(self):
        self.assert_last([*FAMILIES, "scan 0 0", "scan 0 5", "lost"], [0, 0])

    def test_of_two_families(self):
        calls = [*FAMILIES, "scan 0 0", "scan 0 1", "scan 0 2", "scan 0 4", "scan 0 2"]
        self.assert_last([*calls, "lost"], [1, 0b10000])
        self.assert_last([*calls, "alone"], [1, 0b1000])


class MayTest(LineTest):

    def test_aboard(self):
        self.assertEqual(told(*FAMILIES, *[f"may {p}" for p in range(6)])[len(FAMILIES):],
                         [[1], [0], [1], [0], [0], [1]])

    def test_children_when_their_guardian_is_ashore(self):
        calls = [*FAMILIES, "scan 0 0"]
        self.assertEqual(told(*calls, *[f"may {p}" for p in range(6)])[len(calls):],
                         [[0], [1], [1], [1], [0], [1]])
        self.assert_last([*calls, "scan 0 0", "may 1"], [0])

    def test_ashore(self):
        calls = [*FAMILIES, "scan 0 0", "scan 0 1", "scan 0 5"]
        self.assertEqual(told(*calls, "may 0", "may 1", "may 5")[len(calls):], [[0], [0], [0]])

    def test_all_gates_shut(self):
        self.assert_last(["start 5 0", "person", "may 0"], [1])

    def test_a_visitor_whose_minute_is_over(self):
        self.assert_last([*FAMILIES, "minutes 21", "may 5"], [1])


class NothingChangesTest(LineTest):

    def test_asking_changes_nothing(self):
        before = [*FAMILIES, "scan 0 0", "scan 0 1", "minutes 30", "scan 0 0"]
        for call, expected in (
            ("missing", [1, 0b10]), ("visitors", [1, 0b100000, 0b100000]), ("children 0", [2, 0b1010]),
            ("group 0", [2, 0b1001]), ("alone", [0, 0]), ("lost", [1, 0b10]), ("may 0", [1]), ("may 3", [0]),
        ):
            self.assert_nothing_changed(before, call, expected)
