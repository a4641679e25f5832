"""gw_start: point 1, and the row ahead of it."""

from tests.lines import BIGGEST, LineTest, told

BUSY = [
    "start 5 300", "gate", "open 0 1", "person", "child 0", "visitor 40", "card 0",
    "minutes 7", "scan 0 3", "sail 200",
]


class StartTest(LineTest):

    def test_ordinary(self):
        self.assertEqual(told("start 10 600", "count"), [[0], [0, 0, 10]])

    def test_edges_of_most(self):
        self.assertEqual(told("start 1 600", "count"), [[0], [0, 0, 1]])
        self.assertEqual(told("start 24 600", "count"), [[0], [0, 0, 24]])

    def test_most_that_is_not_1_to_24(self):
        for most in (0, 25, 4294967294, BIGGEST):
            self.assertEqual(told(f"start {most} 600"), [[-22]])

    def test_edges_of_sail(self):
        self.assertEqual(told("start 10 0", "sail 5"), [[0], [0]])
        self.assertEqual(told("start 10 100000", "sail 5"), [[0], [100000]])

    def test_sail_above_100000(self):
        for sail in (100001, BIGGEST):
            self.assertEqual(told(f"start 10 {sail}"), [[-22]])

    def test_both_wrong(self):
        self.assertEqual(told("start 0 100001"), [[-22]])
        self.assertEqual(told(f"start {BIGGEST} {BIGGEST}"), [[-22]])

    def test_refused_ones_ahead_of_the_first(self):
        self.assertEqual(
            told("start 0 0", "start 25 0", "start 3 100001", "start 3 9", "count", "sail 4"),
            [[-22], [-22], [-22], [0], [0, 0, 3], [9]],
        )

    def test_refused_later_all_stays_as_it_was(self):
        for start in ("start 0 5", "start 25 5", "start 7 100001", f"start {BIGGEST} {BIGGEST}"):
            self.assert_refused(BUSY, start, -22)

    def test_again_all_is_as_at_first(self):
        probes = [
            "count", "where 0", "who 0", "who 3", "scan 0 0", "sail 9", "gate", "visitor 0",
            "open 0 1", "visitor 0", "person", "where 0", "where 1", "minutes 1", "count",
        ]
        again = told(*BUSY, "start 9 77", *probes)
        self.assertEqual(again[len(BUSY):], told("start 9 77", *probes))
        self.assertEqual(again[len(BUSY):], [
            [0], [0, 0, 9], [-2], [-2], [-2], [-2], [77], [0], [-16],
            [0], [0, 0], [1, 1], [0, 0, 0, 0, 1], [0, 0, 1, 0, 0], [1, 1], [2, 3, 7],
        ])

    def test_again_with_the_same_numbers(self):
        self.assertEqual(told("start 2 3", "person", "start 2 3", "count", "person"),
                         [[0], [0, 0], [0], [0, 0, 2], [0, 0]])
