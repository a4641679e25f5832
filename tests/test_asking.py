"""gw_who, gw_where, gw_count: of point 5."""

from tests.lines import BIGGEST, LineTest, told

OPEN = ["gate", "open 0 1"]


class WhoTest(LineTest):

    def test_aboard_and_ashore(self):
        calls = ["start 5 0", *OPEN, "person", "person", "scan 0 1"]
        self.assertEqual(told(*calls, "who 0", "who 1")[6:], [[0, 0], [1, 1]])
        self.assert_last([*calls, "scan 0 1", "who 1"], [1, 0])

    def test_child_and_visitor(self):
        calls = ["start 5 0", *OPEN, "person", "child 0", "visitor 4", "card 1"]
        self.assertEqual(told(*calls, "who 3", "who 2")[7:], [[1, 0], [2, 0]])

    def test_card_that_was_never_given(self):
        for card in (1, 100000, BIGGEST):
            self.assert_refused(["start 5 0", "person"], f"who {card}", -2)
        self.assert_refused(["start 5 0"], "who 0", -2)

    def test_card_that_counts_no_more(self):
        self.assert_refused(["start 5 0", "person", "card 0"], "who 0", -2)
        self.assert_last(["start 5 0", "person", "card 0", "who 1"], [0, 0])

    def test_card_of_one_who_is_gone(self):
        calls = ["start 5 0", *OPEN, "person", "card 0", "scan 0 1", "leave 0"]
        self.assert_refused(calls, "who 1", -2)
        self.assert_refused(calls, "who 0", -2)


class WhereTest(LineTest):

    def test_every_sort(self):
        calls = ["start 5 0", *OPEN, "person", "person", "minutes 2", "child 1", "visitor 40", "minutes 3"]
        self.assertEqual(told(*calls, "where 0", "where 1", "where 2", "where 3")[9:],
                         [[0, 5, 0, 0, 0], [0, 5, 1, 0, 0], [0, 3, 2, 2, 0], [0, 3, 3, 0, 41]])

    def test_ashore(self):
        calls = ["start 5 0", *OPEN, "person", "child 0", "visitor 40", "minutes 2", "scan 0 0", "minutes 3",
                 "scan 0 1", "scan 0 2", "minutes 4"]
        self.assertEqual(told(*calls, "where 0", "where 1", "where 2")[len(calls):],
                         [[1, 7, 0, 0, 0], [1, 4, 1, 1, 0], [1, 4, 2, 0, 41]])

    def test_another_card(self):
        self.assert_last(["start 5 0", "person", "minutes 6", "card 0", "where 0"], [0, 6, 1, 0, 0])

    def test_nobody_there(self):
        self.assert_refused(["start 5 0"], "where 0", -2)
        for p in (1, 24, BIGGEST):
            self.assert_refused(["start 5 0", "person"], f"where {p}", -2)

    def test_one_who_is_gone(self):
        self.assert_refused(["start 5 0", *OPEN, "person", "scan 0 0", "leave 0"], "where 0", -2)


class CountTest(LineTest):

    def test_nobody(self):
        self.assert_last(["start 7 0", "count"], [0, 0, 7])

    def test_every_sort(self):
        self.assert_last(["start 7 0", *OPEN, "person", "child 0", "visitor 4", "count"], [3, 7, 4])

    def test_ashore_and_gone_are_left_out(self):
        calls = ["start 7 0", *OPEN, "person", "person", "person", "person", "scan 0 1", "scan 0 2", "leave 1"]
        self.assert_last([*calls, "count"], [2, 0b1001, 5])

    def test_as_many_as_may_be(self):
        self.assert_last(["start 1 0", "person", "count"], [1, 1, 0])
        self.assert_last(["start 24 0"] + ["person"] * 24 + ["count"], [24, 16777215, 0])


class NothingChangesTest(LineTest):

    def test_asking_changes_nothing(self):
        before = ["start 5 90", *OPEN, "person", "child 0", "visitor 8", "scan 0 0", "minutes 9", "card 1"]
        for ask in ("who 0", "who 3", "where 0", "where 2", "count"):
            self.assert_nothing_changed(before, ask, told(*before, ask)[-1])
