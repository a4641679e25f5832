"""gw_card, gw_open, gw_scan: point 3."""

from tests.lines import BIGGEST, LineTest, told

OPEN = ["gate", "open 0 1"]


class CardTest(LineTest):

    def test_another_card(self):
        self.assertEqual(told("start 5 0", "person", "person", "card 0", "card 0", "card 1", "where 0", "where 1")[3:],
                         [[2], [3], [4], [0, 0, 3, 0, 0], [0, 0, 4, 0, 0]])

    def test_the_old_one_counts_no_more(self):
        calls = ["start 5 0", "person", "card 0", "card 0"]
        self.assert_last(calls + ["who 0"], [-2])
        self.assert_last(calls + ["who 1"], [-2])
        self.assert_last(calls + ["who 2"], [0, 0])

    def test_of_one_ashore_a_child_and_a_visitor(self):
        calls = ["start 5 0", *OPEN, "person", "child 0", "visitor 9", "scan 0 0"]
        self.assertEqual(told(*calls, "card 0", "card 1", "card 2")[-3:], [[3], [4], [5]])
        self.assert_last([*calls, "minutes 4", "card 0", "where 0"], [1, 4, 3, 0, 0])

    def test_nobody_there(self):
        for p in (1, 24, BIGGEST):
            self.assert_refused(["start 5 0", "person"], f"card {p}", -2)
        self.assert_refused(["start 5 0"], "card 0", -2)

    def test_one_who_is_gone(self):
        self.assert_refused(["start 5 0", *OPEN, "person", "scan 0 0", "leave 0"], "card 0", -2)

    def test_100000_cards(self):
        # Lists as long as this aren't handed in, but nothing nearer reaches the limit.
        calls = ["start 5 0", "person"] + ["card 0"] * 99999
        answered = told(*calls, "card 0", "where 0", "card 1")
        self.assertEqual(answered[-4:], [[99999], [-28], [0, 0, 99999, 0, 0], [-2]])


class OpenTest(LineTest):

    def test_how_many_were_open_before(self):
        self.assertEqual(
            told("start 5 0", "gate", "gate", "gate", "open 1 1", "open 0 1", "open 2 1",
                 "open 1 0", "open 2 0", "open 0 0")[4:],
            [[0], [1], [2], [3], [2], [1]],
        )

    def test_no_such_gate(self):
        self.assert_refused(["start 5 0"], "open 0 1", -2)
        for g in (1, 3, BIGGEST):
            self.assert_refused(["start 5 0", "gate"], f"open {g} 1", -2)

    def test_neither_open_nor_shut(self):
        for opened in (2, 3, BIGGEST):
            self.assert_refused(["start 5 0", "gate"], f"open 0 {opened}", -22)
            self.assert_refused(["start 5 0", *OPEN], f"open 0 {opened}", -22)

    def test_it_is_so(self):
        self.assert_refused(["start 5 0", "gate"], "open 0 0", -17)
        self.assert_refused(["start 5 0", *OPEN], "open 0 1", -17)
        self.assert_refused(["start 5 0", *OPEN, "open 0 0"], "open 0 0", -17)

    def test_no_such_gate_comes_before_the_rest(self):
        self.assert_refused(["start 5 0", "gate"], "open 1 2", -2)
        self.assert_refused(["start 5 0", "gate"], f"open {BIGGEST} {BIGGEST}", -2)
        self.assert_refused(["start 5 0", "gate"], "open 1 0", -2)


class ScanTest(LineTest):

    def test_out_and_in(self):
        self.assertEqual(
            told("start 5 0", *OPEN, "person", "person", "scan 0 1", "where 1", "where 0", "count",
                 "scan 0 1", "where 1", "count")[5:],
            [[0, 1], [1, 0, 1, 0, 0], [0, 0, 0, 0, 0], [1, 1, 4], [1, 1], [0, 0, 1, 0, 0], [2, 3, 3]],
        )

    def test_since_the_minute_of_the_scan(self):
        self.assertEqual(
            told("start 5 0", *OPEN, "person", "minutes 5", "scan 0 0", "where 0", "minutes 7", "where 0",
                 "scan 0 0", "where 0", "minutes 2", "where 0")[5:],
            [[0, 0], [1, 0, 0, 0, 0], [12, 0], [1, 7, 0, 0, 0], [1, 0], [0, 0, 0, 0, 0], [14, 0], [0, 2, 0, 0, 0]],
        )

    def test_out_by_one_gate_in_by_another(self):
        self.assertEqual(
            told("start 5 0", "gate", "gate", "open 0 1", "open 1 1", "person", "scan 0 0", "scan 1 0")[6:],
            [[0, 0], [1, 0]],
        )

    def test_by_the_new_card(self):
        self.assertEqual(
            told("start 5 0", *OPEN, "person", "person", "card 0", "scan 0 2", "scan 0 2")[6:], [[0, 0], [1, 0]])

    def test_a_visitor_goes_and_comes(self):
        calls = ["start 5 0", *OPEN, "visitor 3", "minutes 9", "scan 0 0", "where 0", "scan 0 0"]
        self.assertEqual(told(*calls)[5:], [[0, 0], [1, 0, 0, 0, 4], [1, 0]])

    def test_no_such_gate(self):
        self.assert_refused(["start 5 0", "person"], "scan 0 0", -2)
        for g in (1, 3, BIGGEST):
            self.assert_refused(["start 5 0", *OPEN, "person"], f"scan {g} 0", -2)

    def test_gate_shut(self):
        self.assert_refused(["start 5 0", "gate", "person"], "scan 0 0", -16)
        self.assert_refused(["start 5 0", *OPEN, "person", "open 0 0"], "scan 0 0", -16)
        self.assert_refused(["start 5 0", *OPEN, "gate", "person"], "scan 1 0", -16)

    def test_card_that_was_never_given(self):
        for card in (1, 100000, BIGGEST):
            calls = ["start 5 0", *OPEN, "person", f"scan 0 {card}"]
            self.assert_last(calls, [2, 0])
            self.assert_last([*calls, "where 0"], [0, 0, 0, 0, 0])
        self.assert_last(["start 5 0", *OPEN, "scan 0 0"], [2, 0])

    def test_card_that_counts_no_more(self):
        calls = ["start 5 0", *OPEN, "person", "card 0", "scan 0 0"]
        self.assert_last(calls, [2, 0])
        self.assert_last([*calls, "where 0"], [0, 0, 1, 0, 0])

    def test_card_that_counts_no_more_of_one_ashore(self):
        calls = ["start 5 0", *OPEN, "person", "scan 0 0", "card 0", "scan 0 0"]
        self.assert_last(calls, [2, 0])
        self.assert_last([*calls, "where 0"], [1, 0, 1, 0, 0])

    def test_card_of_one_who_is_gone(self):
        calls = ["start 5 0", *OPEN, "person", "person", "scan 0 1", "leave 1", "scan 0 1"]
        self.assert_last(calls, [2, 0])
        self.assert_last([*calls, "where 1"], [-2])
        self.assert_last([*calls, "count"], [1, 1, 4])

    def test_a_card_that_does_not_count_is_shown_though_it_is_full(self):
        self.assert_last(["start 1 0", *OPEN, "person", "scan 0 7"], [2, 0])

    def test_full(self):
        calls = ["start 1 0", *OPEN, "person", "scan 0 0", "person"]
        self.assert_refused(calls, "scan 0 0", -62)
        self.assert_last([*calls, "scan 0 1", "scan 0 0"], [1, 0])

    def test_full_with_more_than_one(self):
        calls = ["start 3 0", *OPEN, "person", "scan 0 0", "person", "person"]
        self.assert_last([*calls, "scan 0 0", "count"], [3, 7, 0])
        self.assert_refused([*calls, "person"], "scan 0 0", -62)

    def test_a_child_stays_while_its_person_is_aboard(self):
        self.assert_refused(["start 5 0", *OPEN, "person", "child 0"], "scan 0 1", -33)
        self.assert_refused(["start 5 0", *OPEN, "person", "child 0", "scan 0 0", "scan 0 0"], "scan 0 1", -33)

    def test_a_child_goes_when_its_person_is_ashore(self):
        calls = ["start 5 0", *OPEN, "person", "child 0", "scan 0 0", "scan 0 1"]
        self.assert_last(calls, [0, 1])
        self.assert_last([*calls, "where 1"], [1, 0, 1, 1, 0])

    def test_another_person_ashore_does_not_help(self):
        calls = ["start 5 0", *OPEN, "person", "person", "child 1", "child 0", "scan 0 0"]
        self.assert_refused(calls, "scan 0 2", -33)
        self.assert_last([*calls, "scan 0 3"], [0, 3])

    def test_a_child_comes_back_whether_its_person_is_ashore_or_aboard(self):
        calls = ["start 5 0", *OPEN, "person", "child 0", "scan 0 0", "scan 0 1"]
        self.assert_last([*calls, "scan 0 1"], [1, 1])
        self.assert_last([*calls, "scan 0 0", "scan 0 1"], [1, 1])

    def test_a_child_and_its_person_gone(self):
        calls = ["start 5 0", *OPEN, "person", "child 0", "scan 0 0", "scan 0 1", "leave 1", "leave 0"]
        self.assertEqual(told(*calls, "scan 0 1", "scan 0 0")[-4:], [[0], [0], [2, 0], [2, 0]])

    def test_no_such_gate_comes_first(self):
        self.assert_refused(["start 5 0", *OPEN, "person", "child 0"], "scan 1 1", -2)
        self.assert_refused(["start 5 0", *OPEN], f"scan {BIGGEST} {BIGGEST}", -2)
        self.assert_refused(["start 1 0", *OPEN, "person", "scan 0 0", "person"], "scan 1 0", -2)

    def test_gate_shut_comes_before_the_card(self):
        self.assert_refused(["start 5 0", "gate"], f"scan 0 {BIGGEST}", -16)
        self.assert_refused(["start 5 0", "gate", "person", "child 0"], "scan 0 1", -16)
        self.assert_refused(["start 1 0", *OPEN, "person", "scan 0 0", "person", "open 0 0"], "scan 0 0", -16)


class FullCountTest(LineTest):
    """Lists as long as these aren't handed in, but nothing nearer reaches the limits."""

    def test_100000_cards_that_do_not_count(self):
        calls = ["start 1 0", *OPEN, "gate", "person"] + ["scan 0 1"] * 100000
        answered = told(*calls, "scan 0 1", "scan 0 0", "where 0", "scan 1 0", "scan 2 0")
        self.assertEqual(answered[-6:], [[2, 0], [-28], [-28], [0, 0, 0, 0, 0], [-16], [-2]])

    def test_100000_out(self):
        calls = ["start 1 0", *OPEN, "gate", "open 1 1", "person"] + ["scan 0 0", "scan 1 0"] * 99999
        answered = told(*calls, "scan 0 0", "scan 0 0", "scan 0 9", "where 0", "scan 1 0", "scan 1 0",
                        "open 0 0", "scan 0 0")
        self.assertEqual(answered[-8:], [[0, 0], [-28], [-28], [1, 0, 0, 0, 0], [1, 0], [-28], [2], [-16]])

    def test_100000_in(self):
        calls = ["start 1 0", *OPEN, "gate", "open 1 1", "person"] + ["scan 1 0", "scan 0 0"] * 100000
        answered = told(*calls, "scan 0 0", "where 0")
        self.assertEqual(answered[-4:], [[0, 0], [1, 0], [-28], [0, 0, 0, 0, 0]])

    def test_100000_in_and_full(self):
        calls = ["start 1 0", *OPEN, "gate", "open 1 1", "gate", "open 2 1", "person"]
        calls += ["scan 1 0", "scan 0 0"] * 100000 + ["scan 2 0", "person", "scan 0 0", "scan 2 0"]
        self.assertEqual(told(*calls)[-4:], [[0, 0], [1, 1], [-28], [-62]])
