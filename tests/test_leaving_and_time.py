"""gw_leave, gw_minutes, gw_sail, gw_more: point 4."""

from tests.lines import BIGGEST, LineTest, minutes_up_to, told

OPEN = ["gate", "open 0 1"]


class LeaveTest(LineTest):

    def test_for_how_long_they_were_ashore(self):
        calls = ["start 5 0", *OPEN, "person", "minutes 5", "scan 0 0", "minutes 70", "leave 0"]
        self.assert_last(calls, [70])
        self.assertEqual(told(*calls, "where 0", "who 0", "count")[-3:], [[-2], [-2], [0, 0, 5]])

    def test_at_once(self):
        self.assert_last(["start 5 0", *OPEN, "minutes 5", "person", "scan 0 0", "leave 0"], [0])

    def test_a_visitor_and_a_child(self):
        self.assert_last(["start 5 0", *OPEN, "visitor 3", "scan 0 0", "minutes 9", "leave 0"], [9])
        self.assert_last(
            ["start 5 0", *OPEN, "person", "child 0", "scan 0 0", "minutes 2", "scan 0 1", "minutes 9", "leave 1"],
            [9])

    def test_nobody_there(self):
        self.assert_refused(["start 5 0"], "leave 0", -2)
        for p in (1, 24, BIGGEST):
            self.assert_refused(["start 5 0", *OPEN, "person", "scan 0 0"], f"leave {p}", -2)

    def test_gone_already(self):
        self.assert_refused(["start 5 0", *OPEN, "person", "scan 0 0", "leave 0"], "leave 0", -2)

    def test_aboard(self):
        self.assert_refused(["start 5 0", "person"], "leave 0", -16)
        self.assert_refused(["start 5 0", *OPEN, "person", "scan 0 0", "scan 0 0"], "leave 0", -16)

    def test_a_child_must_be_with_them(self):
        calls = ["start 5 0", *OPEN, "person", "child 0", "scan 0 0"]
        self.assert_refused(calls, "leave 0", -33)
        self.assert_refused([*calls, "scan 0 1"], "leave 0", -33)

    def test_one_child_of_two_gone(self):
        calls = ["start 5 0", *OPEN, "person", "child 0", "child 0", "scan 0 0", "scan 0 1", "scan 0 2"]
        self.assert_refused([*calls, "leave 1"], "leave 0", -33)
        self.assert_refused([*calls, "leave 2"], "leave 0", -33)
        self.assert_last([*calls, "leave 1", "leave 2", "minutes 3", "leave 0"], [3])

    def test_a_child_of_another_is_no_hindrance(self):
        calls = ["start 5 0", *OPEN, "person", "person", "child 1", "scan 0 0", "leave 0"]
        self.assert_last(calls, [0])

    def test_aboard_comes_before_a_child(self):
        self.assert_refused(["start 5 0", "person", "child 0"], "leave 0", -16)


class MinutesTest(LineTest):

    def test_ordinary(self):
        self.assertEqual(told("start 5 0", "minutes 10", "minutes 32"), [[0], [10, 0], [42, 0]])

    def test_edges_of_n(self):
        self.assertEqual(told("start 5 0", "minutes 1", "minutes 1440"), [[0], [1, 0], [1441, 0]])

    def test_n_that_is_not_1_to_1440(self):
        for n in (0, 1441, 100000, BIGGEST):
            self.assert_refused(["start 5 0", "person", "minutes 3"], f"minutes {n}", -22)

    def test_up_to_the_last_minute(self):
        self.assert_last(["start 5 0", *minutes_up_to(100000)], [100000, 0])
        self.assert_last(["start 5 0", *minutes_up_to(98560), "minutes 1440"], [100000, 0])
        self.assert_last(["start 5 0", *minutes_up_to(99999), "minutes 1"], [100000, 0])

    def test_later_than_the_last_minute(self):
        # Told by hand: the probes let a minute go by, and here there is none.
        for minute, n in ((100000, 1), (100000, 1440), (99999, 2), (98561, 1440)):
            calls = ["start 5 0", "person", *minutes_up_to(minute)]
            self.assertEqual(told(*calls, f"minutes {n}", "where 0")[-2:], [[-75], [0, minute, 0, 0, 0]])

    def test_wrong_n_comes_before_too_late(self):
        calls = ["start 5 0", *minutes_up_to(100000)]
        for n in (0, 1441, BIGGEST):
            self.assert_last([*calls, f"minutes {n}"], [-22])

    def test_visitors_whose_minute_is_over(self):
        calls = ["start 9 0", *OPEN, "person", "visitor 5", "visitor 6", "child 0", "visitor 5"]
        self.assertEqual(
            told(*calls, "minutes 4", "minutes 1", "minutes 1", "minutes 1")[len(calls):],
            [[4, 0], [5, 0], [6, 0b10010], [7, 0b10110]],
        )

    def test_visitor_of_minute_0(self):
        self.assert_last(["start 9 0", *OPEN, "visitor 0", "minutes 1"], [1, 1])

    def test_visitor_number_23(self):
        self.assert_last(["start 24 0", *OPEN] + ["person"] * 23 + ["visitor 0", "minutes 1"], [1, 1 << 23])

    def test_visitors_ashore_and_gone_are_left_out(self):
        calls = ["start 9 0", *OPEN, "visitor 5", "visitor 5", "visitor 5", "scan 0 0", "scan 0 1", "leave 1"]
        self.assert_last([*calls, "minutes 20"], [20, 0b100])
        self.assert_last([*calls, "scan 0 0", "minutes 20"], [20, 0b101])


class SailTest(LineTest):

    def test_when_it_would_have(self):
        self.assertEqual(told("start 5 600", "sail 700", "sail 5", "sail 5", "sail 0")[1:],
                         [[600], [700], [5], [5]])

    def test_edges(self):
        self.assertEqual(told("start 5 600", "minutes 40", "sail 40", "sail 100000", "sail 41")[2:],
                         [[600], [40], [100000]])

    def test_the_ship_should_have_sailed(self):
        self.assertEqual(told("start 5 3", "minutes 40", "sail 50")[2:], [[3]])

    def test_at_the_last_minute(self):
        calls = ["start 5 3", *minutes_up_to(100000)]
        self.assertEqual(told(*calls, "sail 99999", "sail 100000", "sail 100000")[-3:], [[-22], [3], [100000]])

    def test_a_minute_that_was(self):
        for t in (0, 39):
            self.assert_refused(["start 5 600", "minutes 40"], f"sail {t}", -22)

    def test_above_100000(self):
        for t in (100001, BIGGEST):
            self.assert_refused(["start 5 600"], f"sail {t}", -22)


class MoreTest(LineTest):

    def test_by_when_it_was(self):
        calls = ["start 5 0", *OPEN, "person", "visitor 20"]
        self.assertEqual(told(*calls, "more 1 30", "where 1", "more 1 31")[5:],
                         [[20], [0, 0, 1, 0, 31], [30]])

    def test_edges(self):
        calls = ["start 5 0", *OPEN, "visitor 20"]
        self.assertEqual(told(*calls, "more 0 20", "more 0 100000", "more 0 100000", "where 0")[4:],
                         [[20], [20], [100000], [0, 0, 0, 0, 100001]])

    def test_a_minute_that_was_but_is_not_before_theirs(self):
        calls = ["start 5 0", *OPEN, "visitor 20", "minutes 90"]
        self.assertEqual(told(*calls, "more 0 21", "where 0", "minutes 1")[5:], [[20], [0, 90, 0, 0, 22], [91, 1]])

    def test_not_over_any_more(self):
        calls = ["start 5 0", *OPEN, "visitor 20", "minutes 21", "more 0 22", "minutes 1"]
        self.assertEqual(told(*calls, "minutes 1")[4:], [[21, 1], [20], [22, 0], [23, 1]])

    def test_a_visitor_ashore(self):
        self.assert_last(["start 5 0", *OPEN, "visitor 20", "scan 0 0", "more 0 21"], [20])

    def test_nobody_there(self):
        for p in (1, 24, BIGGEST):
            self.assert_refused(["start 5 0", *OPEN, "visitor 20"], f"more {p} 30", -2)
        self.assert_refused(["start 5 0", *OPEN, "visitor 20", "scan 0 0", "leave 0"], "more 0 30", -2)

    def test_no_visitor(self):
        calls = ["start 5 0", "person", "child 0"]
        self.assert_refused(calls, "more 0 30", -16)
        self.assert_refused(calls, "more 1 30", -16)

    def test_before_theirs(self):
        for t in (0, 19):
            self.assert_refused(["start 5 0", *OPEN, "visitor 20"], f"more 0 {t}", -22)

    def test_above_100000(self):
        for t in (100001, BIGGEST):
            self.assert_refused(["start 5 0", *OPEN, "visitor 20"], f"more 0 {t}", -22)

    def test_nobody_comes_before_the_minute(self):
        self.assert_refused(["start 5 0", *OPEN, "visitor 20"], f"more 1 {BIGGEST}", -2)
        self.assert_refused(["start 5 0", *OPEN, "visitor 20", "scan 0 0", "leave 0"], "more 0 3", -2)

    def test_no_visitor_comes_before_the_minute(self):
        self.assert_refused(["start 5 0", "person"], "more 0 100001", -16)
        self.assert_refused(["start 5 0", "person"], f"more 0 {BIGGEST}", -16)
