"""What is asked of gangwaycards.gangway.answers itself."""

import contextlib
import io
import time
import unittest

from gangwaycards.gangway import answers
from tests.lines import BIGGEST, QUESTIONS, mixed_calls, told, written

CALLS = [
    "start 0 0", "start 6 400", "gate", "gate", "open 0 1", "person", "person", "child 1", "visitor 30",
    "scan 0 2", "scan 0 1", "scan 0 2", "card 1", "minutes 31", "scan 0 1", "scan 0 4", "sail 31",
    "more 3 30", "who 3", "where 2", "count", "scan 0 2", "scan 0 0", "minutes 1440", "leave 0", "who 0",
    "back", "back", *QUESTIONS, "again", *QUESTIONS, "sail 2000", "again", *QUESTIONS,
    "start 25 0", "start 2 100000", "person", "count",
]


class UntouchableList(list):
    """A list that refuses to be changed, be it for a while only."""

    def refuse(self, *arguments, **named):
        raise AssertionError("the list that was handed in was changed")

    append = clear = extend = insert = pop = remove = reverse = sort = refuse
    __setitem__ = __delitem__ = __iadd__ = __imul__ = refuse


class InterfaceTest(unittest.TestCase):

    def test_example_of_the_readme(self):
        self.assertEqual(answers([0, 10, 600, 1, 6, 0, 1, 2, 9, 15, 7, 0, 0, 13, 0]),
                         [1, 0, 1, 0, 1, 0, 2, 0, 0, 2, 15, 0, 2, 0, 0, 5, 1, 0, 0, 0, 0])

    def test_numbers_of_the_calls_and_form_of_the_answers(self):
        calls = [
            0, 5, 50,
            1,
            6, 0, 1,
            2,
            3, 0,
            4, 9,
            5, 0,
            7, 0, 3,
            9, 7,
            10, 60,
            11, 2, 10,
            12, 3,
            13, 0,
            14,
            7, 0, 1,
            8, 1,
            8, 0,
            14,
            15,
            16,
            17, 2,
            18, 2,
            19,
            20,
            21, 2,
            22,
            23,
            2,
            7, 0, 4,
            23,
            24, 0,
            25,
            26,
            28,
            27,
            28,
        ]
        self.assertEqual(answers(calls), [
            1, 0,
            1, 0,
            1, 0,
            2, 0, 0,
            2, 1, 1,
            2, 2, 2,
            1, 3,
            2, 0, 0,
            2, 7, 0,
            1, 50,
            1, 9,
            2, 0, 1,
            5, 1, 7, 3, 0, 0,
            3, 2, 6, 3,
            2, 0, 1,
            1, 0,
            1, 7,
            3, 1, 4, 4,
            2, 0, 0,
            3, 1, 4, 0,
            2, 0, 0,
            2, 1, 4,
            2, 0, 0,
            2, 0, 0,
            1, 1,
            5, 0, 0, 1, 1, 53,
            1, -6,
            2, 3, 4,
            2, 0, 3,
            2, 3, 0,
            3, 1, 3, 0,
            6, 4, 1, 1, 2, 5, 0,
            1, 14,
            6, 7, 1, 60, 5, 14, 1,
            1, 0,
            6, 7, 1, 60, 5, 15, 0,
        ])

    def test_a_refusal_is_its_number_alone(self):
        self.assertEqual(answers([0, 0, 0]), [1, -22])
        self.assertEqual(answers([0, 1, 0, 2, 2, 3, 9, 4, 7, 7, 0, 0, 9, 0, 12, 5, 13, 5]),
                         [1, 0, 2, 0, 0, 1, -62, 1, -2, 1, -16, 1, -2, 1, -22, 1, -2, 1, -2])

    def test_biggest_number_for_every_argument(self):
        big = BIGGEST
        start = [0, 5, 50, 1, 6, 0, 1, 2, 4, 9]
        for call, expected in (
            ([0, big, big], -22), ([0, 5, big], -22), ([0, big, 5], -22), ([3, big], -2), ([4, big], -22),
            ([5, big], -2), ([6, big, 0], -2), ([6, 0, big], -22), ([7, big, 0], -2), ([8, big], -2),
            ([9, big], -22), ([10, big], -22), ([11, big, 9], -2), ([11, 1, big], -22), ([12, big], -2),
            ([13, big], -2), ([17, big], -2), ([18, big], -2), ([21, big], -2), ([24, big], -2),
        ):
            self.assertEqual(answers(start + call)[-2:], [1, expected], call)
        self.assertEqual(answers(start + [7, 0, big])[-3:], [2, 2, 0])

    def test_the_list_is_afterwards_as_it_was(self):
        row = written(CALLS)
        answers(row)
        self.assertEqual(row, written(CALLS))

    def test_the_list_is_never_changed(self):
        self.assertEqual(answers(UntouchableList(written(CALLS))), answers(written(CALLS)))

    def test_a_second_time_gives_the_same(self):
        row = written(CALLS)
        first = answers(row)
        self.assertEqual(answers(row), first)

    def test_nothing_is_kept_from_another_line(self):
        before = told("start 3 9", "gate", "person", "count")
        told(*CALLS)
        self.assertEqual(told("start 3 9", "gate", "person", "count"), before)

    def test_what_is_given_back_is_new_each_time(self):
        first = answers([0, 5, 50])
        first.append(7)
        self.assertEqual(answers([0, 5, 50]), [1, 0])

    def test_a_list_of_whole_numbers(self):
        row = answers(written(CALLS))
        self.assertIs(type(row), list)
        self.assertEqual({type(number) for number in row}, {int})

    def test_nothing_is_printed(self):
        printed = io.StringIO()
        with contextlib.redirect_stdout(printed), contextlib.redirect_stderr(printed):
            answers(written(CALLS))
        self.assertEqual(printed.getvalue(), "")

    def test_a_thousand_calls(self):
        calls = ["start 3 9", "gate", "open 0 1", "person"] + ["scan 0 0"] * 996
        self.assertEqual(told(*calls)[4:], [[0, 0], [1, 0]] * 498)

    def test_lines_of_a_thousand_calls_with_24_persons_in_good_time(self):
        crowd = ["start 24 9", "gate", "open 0 1", "person"] + ["child 0"] * 22 + ["visitor 1"]
        rest = 1000 - len(crowd)
        lines = [crowd + (some * rest)[:rest] for some in (
            ["scan 0 0"], ["card 23"], ["minutes 1"], ["lost"], ["longest"], ["group 0"], ["sums"],
            ["scan 0 0", "scan 0 1", "alone"], ["sail 99", "back", "again", "state"], ["sail 99"] * 30 + ["back"] * 30,
            mixed_calls(7, rest, taking_back=True)[3:],
        )]
        begun = time.perf_counter()
        for line in lines:
            self.assertEqual(len(told(*line)), 1000)
        self.assertLess(time.perf_counter() - begun, 2 * len(lines))
