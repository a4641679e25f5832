"""gw_ready, gw_longest, gw_look, gw_sums: point 7."""

from tests.lines import BIGGEST, LineTest, minutes_up_to, told

OPEN = ["gate", "open 0 1"]


class ReadyTest(LineTest):

    def test_as_at_first(self):
        self.assert_last(["start 5 300", "ready"], [1, 0, 0, 0, 300])

    def test_all_aboard_and_shut(self):
        calls = ["start 5 300", *OPEN, "person", "child 0", "scan 0 0", "scan 0 0", "gate", "open 0 0"]
        self.assert_last([*calls, "ready"], [1, 0, 0, 0, 300])

    def test_an_open_gate(self):
        calls = ["start 5 300", *OPEN, "person"]
        self.assert_last([*calls, "ready"], [0, 0, 0, 1, 300])
        self.assert_last([*calls, "gate", "gate", "open 2 1", "ready"], [0, 0, 0, 2, 300])
        self.assert_last([*calls, "open 0 0", "ready"], [1, 0, 0, 0, 300])

    def test_somebody_missing(self):
        calls = ["start 5 300", *OPEN, "person", "child 0", "person", "scan 0 0", "open 0 0"]
        self.assert_last([*calls, "ready"], [0, 1, 0, 0, 300])
        self.assert_last([*calls, "open 0 1", "scan 0 1", "scan 0 2", "open 0 0", "ready"], [0, 3, 0, 0, 300])
        self.assert_last([*calls, "open 0 1", "scan 0 1", "scan 0 0", "open 0 0", "ready"], [0, 1, 0, 0, 300])

    def test_gone_ones_are_not_missing(self):
        calls = ["start 5 300", *OPEN, "person", "scan 0 0", "leave 0", "open 0 0", "ready"]
        self.assert_last(calls, [1, 0, 0, 0, 300])

    def test_a_visitor_aboard(self):
        calls = ["start 5 300", *OPEN, "visitor 400", "visitor 400", "open 0 0"]
        self.assert_last([*calls, "ready"], [0, 0, 2, 0, 300])

    def test_visitors_ashore_do_not_matter(self):
        calls = ["start 5 300", *OPEN, "visitor 400", "scan 0 0", "open 0 0"]
        self.assert_last([*calls, "ready"], [1, 0, 0, 0, 300])
        self.assert_last([*calls, "leave 0", "ready"], [1, 0, 0, 0, 300])

    def test_all_three_reasons(self):
        calls = ["start 5 300", *OPEN, "person", "visitor 400", "scan 0 0", "ready"]
        self.assert_last(calls, [0, 1, 1, 1, 300])

    def test_whatever_time_it_is(self):
        calls = ["start 5 12", "person", "minutes 11"]
        self.assertEqual(told(*calls, "ready", "minutes 1", "ready", "minutes 1", "ready", "minutes 90", "ready")[3::2],
                         [[1, 0, 0, 0, 1], [1, 0, 0, 0, 0], [1, 0, 0, 0, 0], [1, 0, 0, 0, 0]])

    def test_another_minute_to_sail(self):
        self.assert_last(["start 5 12", "minutes 20", "sail 25", "ready"], [1, 0, 0, 0, 5])
        self.assert_last(["start 5 12", "minutes 20", "sail 20", "ready"], [1, 0, 0, 0, 0])
        self.assert_last(["start 5 0", "sail 100000", "ready"], [1, 0, 0, 0, 100000])
        self.assert_last(["start 5 100000", *minutes_up_to(100000), "ready"], [1, 0, 0, 0, 0])

    def test_all_24(self):
        calls = ["start 24 0", *OPEN] + ["person"] * 24 + [f"scan 0 {card}" for card in range(24)]
        self.assert_last([*calls, "ready"], [0, 24, 0, 1, 0])


class LongestTest(LineTest):

    def test_nobody_missing(self):
        self.assert_refused(["start 5 0"], "longest", -6)
        self.assert_refused(["start 5 0", *OPEN, "person"], "longest", -6)
        self.assert_refused(["start 5 0", *OPEN, "person", "scan 0 0", "scan 0 0"], "longest", -6)

    def test_gone_ones_and_visitors_are_not_missing(self):
        self.assert_refused(["start 5 0", *OPEN, "person", "scan 0 0", "leave 0"], "longest", -6)
        self.assert_refused(["start 5 0", *OPEN, "visitor 9", "scan 0 0"], "longest", -6)

    def test_one(self):
        calls = ["start 5 0", *OPEN, "person", "person", "minutes 4", "scan 0 1"]
        self.assert_last([*calls, "longest"], [1, 0])
        self.assert_last([*calls, "minutes 7", "longest"], [1, 7])

    def test_who_is_ashore_since_earlier(self):
        calls = ["start 5 0", *OPEN, "person", "person", "person", "scan 0 2", "minutes 3", "scan 0 0", "minutes 2",
                 "scan 0 1", "minutes 4"]
        self.assert_last([*calls, "longest"], [2, 9])
        self.assert_last([*calls, "scan 0 2", "longest"], [0, 6])
        self.assert_last([*calls, "leave 2", "longest"], [0, 6])
        self.assert_last([*calls, "scan 0 0", "scan 0 0", "scan 0 2", "longest"], [1, 4])

    def test_of_like_ones_the_least(self):
        calls = ["start 5 0", *OPEN, "person", "person", "person", "minutes 3", "scan 0 2", "scan 0 1", "minutes 1"]
        self.assert_last([*calls, "longest"], [1, 1])
        self.assert_last([*calls, "scan 0 0", "minutes 1", "longest"], [1, 2])
        self.assert_last(["start 5 0", *OPEN, "person", "person", "scan 0 1", "scan 0 0", "longest"], [0, 0])

    def test_gone_ones_and_visitors_are_passed_over(self):
        calls = ["start 5 0", *OPEN, "visitor 9", "person", "person", "scan 0 0", "scan 0 1", "leave 1", "minutes 5",
                 "scan 0 2", "minutes 6"]
        self.assert_last([*calls, "longest"], [2, 6])

    def test_a_child(self):
        calls = ["start 5 0", *OPEN, "person", "child 0", "scan 0 0", "scan 0 1", "minutes 5", "scan 0 0"]
        self.assert_last([*calls, "longest"], [1, 5])

    def test_another_card_does_not_matter(self):
        calls = ["start 5 0", *OPEN, "person", "scan 0 0", "minutes 5", "card 0", "minutes 1"]
        self.assert_last([*calls, "longest"], [0, 6])


class LookTest(LineTest):

    def test_no_such_gate(self):
        self.assert_refused(["start 5 0"], "look 0", -2)
        for g in (1, 3, BIGGEST):
            self.assert_refused(["start 5 0", "gate"], f"look {g}", -2)
        self.assert_refused(["start 5 0", "gate", "gate", "gate"], "look 3", -2)

    def test_shut_and_open(self):
        self.assert_last(["start 5 0", "gate", "look 0"], [0, 0, 0])
        self.assert_last(["start 5 0", "gate", "open 0 1", "look 0"], [1, 0, 0])
        self.assert_last(["start 5 0", "gate", "open 0 1", "open 0 0", "look 0"], [0, 0, 0])

    def test_each_gate_counts_for_itself(self):
        calls = ["start 5 0", *OPEN, "gate", "open 1 1", "gate", "person", "person", "scan 0 0", "scan 0 1",
                 "scan 1 0", "scan 1 0", "scan 0 0"]
        self.assertEqual(told(*calls, "look 0", "look 1", "look 2")[len(calls):], [[1, 2, 1], [1, 1, 1], [0, 0, 0]])

    def test_shut_again_it_still_tells(self):
        calls = ["start 5 0", *OPEN, "person", "scan 0 0", "open 0 0"]
        self.assert_last([*calls, "look 0"], [0, 1, 0])

    def test_who_does_not_go_through_is_not_counted(self):
        calls = ["start 1 0", *OPEN, "person", "scan 0 0", "person", "scan 0 0", "scan 0 7"]
        self.assertEqual(told(*calls, "look 0")[-3:], [[-62], [2, 0], [1, 1, 0]])
        calls = ["start 5 0", *OPEN, "person", "child 0", "scan 0 1", "look 0"]
        self.assertEqual(told(*calls)[-2:], [[-33], [1, 0, 0]])

    def test_leaving_for_good_is_not_counted(self):
        self.assert_last(["start 5 0", *OPEN, "person", "scan 0 0", "leave 0", "look 0"], [1, 1, 0])


class SumsTest(LineTest):

    def test_as_at_first(self):
        self.assert_last(["start 5 0", "sums"], [0, 0, 0, 0, 0, 0])

    def test_every_sort(self):
        self.assert_last(["start 5 0", *OPEN, "person", "child 0", "visitor 9", "sums"], [3, 3, 0, 0, 3, 0])

    def test_ashore_and_gone(self):
        calls = ["start 9 0", *OPEN, "person", "child 0", "visitor 9", "person", "visitor 9", "person"]
        calls += ["scan 0 0", "scan 0 1", "scan 0 2", "scan 0 3", "leave 2"]
        self.assert_last([*calls, "sums"], [6, 2, 3, 1, 6, 0])
        self.assert_last([*calls, "leave 3", "leave 1", "leave 0", "sums"], [6, 2, 0, 4, 6, 0])

    def test_cards_given(self):
        calls = ["start 5 0", "person", "person", "card 0", "card 1", "card 0"]
        self.assert_last([*calls, "sums"], [2, 2, 0, 0, 5, 0])

    def test_cards_that_did_not_count(self):
        calls = ["start 5 0", *OPEN, "gate", "open 1 1", "person", "card 0", "scan 0 0", "scan 1 7", "scan 0 1"]
        self.assert_last([*calls, "sums"], [1, 0, 1, 0, 2, 2])
        self.assert_last([*calls, "leave 0", "scan 1 1", "sums"], [1, 0, 0, 1, 2, 3])

    def test_a_refused_scan_does_not_count(self):
        calls = ["start 5 0", *OPEN, "gate", "person", "child 0", "scan 0 1", "scan 1 7", "scan 2 7", "who 7"]
        self.assert_last([*calls, "sums"], [2, 2, 0, 0, 2, 0])

    def test_refused_persons_are_not_counted(self):
        calls = ["start 1 0", "person", "person", "child 0", "visitor 5"]
        self.assert_last([*calls, "sums"], [1, 1, 0, 0, 1, 0])

    def test_all_24(self):
        self.assert_last(["start 24 0"] + ["person"] * 25 + ["sums"], [24, 24, 0, 0, 24, 0])


class NothingChangesTest(LineTest):

    def test_asking_changes_nothing(self):
        before = ["start 5 90", *OPEN, "person", "child 0", "visitor 8", "scan 0 0", "minutes 9", "scan 0 7"]
        for call, expected in (
            ("ready", [0, 1, 1, 1, 81]), ("longest", [0, 9]), ("look 0", [1, 1, 0]),
            ("sums", [3, 2, 1, 0, 3, 1]),
        ):
            self.assert_nothing_changed(before, call, expected)
