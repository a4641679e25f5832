"""gw_gate, gw_person, gw_child, gw_visitor: point 2."""

from tests.lines import BIGGEST, LineTest, minutes_up_to, told

OPEN = ["gate", "open 0 1"]
ALL_PERSONS = ["person"] * 24


def gone(first, last):
    """Each of these comes, goes ashore and leaves for good; their cards are their numbers."""
    calls = []
    for number in range(first, last + 1):
        calls += ["person", f"scan 0 {number}", f"leave {number}"]
    return calls


class GateTest(LineTest):

    def test_three_gates(self):
        self.assertEqual(told("start 1 0", "gate", "gate", "gate"), [[0], [0], [1], [2]])

    def test_a_fourth(self):
        self.assert_refused(["start 3 0", "gate", "gate", "gate"], "gate", -28)
        self.assertEqual(told("start 1 0", "gate", "gate", "gate", "gate", "gate")[-2:], [[-28], [-28]])

    def test_shut_at_first(self):
        calls = ["start 1 0", "gate", "gate", "person"]
        self.assert_last(calls + ["scan 0 0"], [-16])
        self.assert_last(calls + ["scan 1 0"], [-16])
        self.assert_last(calls + ["open 1 0"], [-17])
        self.assert_last(calls + ["open 1 1"], [0])


class PersonTest(LineTest):

    def test_numbers_and_cards(self):
        self.assertEqual(told("start 5 0", "person", "person", "card 0", "person"),
                         [[0], [0, 0], [1, 1], [2], [2, 3]])

    def test_aboard_since_this_minute(self):
        self.assertEqual(told("start 5 0", "minutes 8", "person", "where 0", "minutes 3", "where 0")[3:],
                         [[0, 0, 0, 0, 0], [11, 0], [0, 3, 0, 0, 0]])

    def test_as_many_aboard_as_may_be(self):
        self.assert_refused(["start 1 0", "person"], "person", -62)
        self.assert_refused(["start 3 0", "person", "person", "person"], "person", -62)
        self.assert_last(["start 3 0", "person", "person", "person"], [2, 2])

    def test_room_again_when_one_goes_ashore(self):
        calls = ["start 1 0", *OPEN, "person", "scan 0 0"]
        self.assert_last(calls + ["person"], [1, 1])
        self.assert_refused(calls + ["person"], "person", -62)

    def test_24_ever(self):
        calls = ["start 24 0", *ALL_PERSONS]
        self.assertEqual(told(*calls)[1:], [[number, number] for number in range(24)])
        self.assert_refused(calls, "person", -28)

    def test_24_ever_with_those_ashore(self):
        calls = ["start 24 0", *OPEN, *ALL_PERSONS, "scan 0 0", "scan 0 1"]
        self.assert_refused(calls, "person", -28)

    def test_24_ever_gone_ones_counted(self):
        calls = ["start 1 0", *OPEN, *gone(0, 22), "person"]
        self.assert_last(calls, [23, 23])
        self.assert_last([*calls, "scan 0 23", "leave 23", "count"], [0, 0, 1])
        self.assert_refused([*calls, "scan 0 23", "leave 23"], "person", -28)

    def test_of_24_ever_and_full_the_first(self):
        self.assert_refused(["start 1 0", *OPEN, *gone(0, 22), "person"], "person", -28)

    def test_all_sorts_count_among_the_24(self):
        calls = ["start 24 0", *OPEN, "person"] + ["child 0"] * 11 + ["visitor 5"] * 12
        self.assert_last(calls, [23, 23])
        for call in ("person", "child 0", "visitor 5"):
            self.assert_refused(calls, call, -28)


class ChildTest(LineTest):

    def test_ordinary(self):
        self.assertEqual(told("start 5 0", "person", "person", "child 1", "where 2", "child 1", "where 1"),
                         [[0], [0, 0], [1, 1], [2, 2], [0, 0, 2, 2, 0], [3, 3], [0, 0, 1, 0, 0]])

    def test_with_the_first_person(self):
        self.assert_last(["start 5 0", "person", "child 0", "where 1"], [0, 0, 1, 1, 0])

    def test_card_is_the_next_one(self):
        self.assert_last(["start 5 0", "person", "card 0", "card 0", "child 0"], [1, 3])

    def test_nobody_there(self):
        for p in (0, 1, 23, 24, BIGGEST):
            self.assert_refused(["start 5 0"], f"child {p}", -2)
        for p in (1, 24, BIGGEST):
            self.assert_refused(["start 5 0", "person"], f"child {p}", -2)

    def test_person_gone(self):
        self.assert_refused(["start 5 0", *OPEN, *gone(0, 0)], "child 0", -2)

    def test_gone_child_or_visitor_is_none(self):
        child = ["start 5 0", *OPEN, "person", "child 0", "scan 0 0", "scan 0 1", "leave 1"]
        self.assert_refused(child, "child 1", -2)
        visitor = ["start 5 0", *OPEN, "visitor 9", "scan 0 0", "leave 0"]
        self.assert_refused(visitor, "child 0", -2)

    def test_with_a_child(self):
        self.assert_refused(["start 5 0", "person", "child 0"], "child 1", -22)

    def test_with_a_child_of_person_0_or_of_another(self):
        self.assert_refused(["start 5 0", "person", "person", "child 1"], "child 2", -22)

    def test_with_a_visitor(self):
        self.assert_refused(["start 5 0", *OPEN, "visitor 9"], "child 0", -22)
        self.assert_refused(["start 5 0", *OPEN, "visitor 0"], "child 0", -22)

    def test_person_ashore(self):
        self.assert_refused(["start 5 0", *OPEN, "person", "scan 0 0"], "child 0", -16)

    def test_person_back_aboard(self):
        self.assert_last(["start 5 0", *OPEN, "person", "scan 0 0", "scan 0 0", "child 0"], [1, 1])

    def test_24_ever(self):
        self.assert_refused(["start 24 0", *ALL_PERSONS], "child 0", -28)
        self.assert_last(["start 24 0", *ALL_PERSONS[1:], "child 22"], [23, 23])

    def test_full(self):
        self.assert_refused(["start 1 0", "person"], "child 0", -62)
        self.assert_refused(["start 2 0", "person", "child 0"], "child 0", -62)
        self.assert_last(["start 2 0", "person", "child 0", "count"], [2, 3, 0])

    def test_none_comes_before_24_ever_and_full(self):
        self.assert_refused(["start 24 0", *ALL_PERSONS], "child 24", -2)
        self.assert_refused(["start 1 0", "person"], "child 1", -2)
        self.assert_refused(["start 1 0", *OPEN, *gone(0, 0), "person"], "child 0", -2)

    def test_wrong_sort_comes_before_ashore(self):
        child = ["start 5 0", *OPEN, "person", "child 0", "scan 0 0", "scan 0 1"]
        self.assert_refused(child, "child 1", -22)
        self.assert_refused(["start 5 0", *OPEN, "visitor 9", "scan 0 0"], "child 0", -22)

    def test_wrong_sort_comes_before_24_ever_and_full(self):
        self.assert_refused(["start 24 0", "person", "child 0"] + ["person"] * 22, "child 1", -22)
        self.assert_refused(["start 2 0", "person", "child 0"], "child 1", -22)
        self.assert_refused(["start 1 0", *OPEN, "visitor 9"], "child 0", -22)

    def test_ashore_comes_before_24_ever_and_full(self):
        self.assert_refused(["start 24 0", *OPEN, *ALL_PERSONS, "scan 0 3"], "child 3", -16)
        self.assert_refused(["start 1 0", *OPEN, "person", "scan 0 0", "person"], "child 0", -16)

    def test_24_ever_comes_before_full(self):
        self.assert_refused(["start 1 0", *OPEN, *gone(0, 22), "person"], "child 23", -28)


class VisitorTest(LineTest):

    def test_ordinary(self):
        self.assertEqual(told("start 5 0", *OPEN, "person", "visitor 30", "where 1", "visitor 31", "where 2")[3:],
                         [[0, 0], [1, 1], [0, 0, 1, 0, 31], [2, 2], [0, 0, 2, 0, 32]])

    def test_since_this_minute(self):
        self.assert_last(["start 5 0", *OPEN, "minutes 6", "visitor 30", "minutes 4", "where 0"],
                         [0, 4, 0, 0, 31])

    def test_card_is_the_next_one(self):
        self.assert_last(["start 5 0", *OPEN, "person", "card 0", "visitor 3"], [1, 2])

    def test_this_minute(self):
        self.assertEqual(told("start 5 0", *OPEN, "visitor 0", "where 0")[3:], [[0, 0], [0, 0, 0, 0, 1]])
        self.assertEqual(told("start 5 0", *OPEN, "minutes 50", "visitor 50", "where 0")[4:],
                         [[0, 0], [0, 0, 0, 0, 51]])

    def test_a_minute_that_was(self):
        calls = ["start 5 0", *OPEN, "minutes 50"]
        for t in (0, 1, 49):
            self.assert_refused(calls, f"visitor {t}", -22)

    def test_the_last_minute(self):
        self.assert_last(["start 5 0", *OPEN, "visitor 100000", "where 0"], [0, 0, 0, 0, 100001])
        late = ["start 5 0", *OPEN, *minutes_up_to(100000)]
        self.assert_last([*late, "visitor 100000", "where 0"], [0, 0, 0, 0, 100001])
        self.assert_last([*late, "visitor 99999"], [-22])

    def test_above_100000(self):
        for t in (100001, BIGGEST):
            self.assert_refused(["start 5 0", *OPEN], f"visitor {t}", -22)

    def test_no_gate_open(self):
        self.assert_refused(["start 5 0"], "visitor 9", -16)
        self.assert_refused(["start 5 0", "gate", "gate"], "visitor 9", -16)
        self.assert_refused(["start 5 0", *OPEN, "open 0 0"], "visitor 9", -16)

    def test_any_gate_will_do(self):
        self.assert_last(["start 5 0", "gate", "gate", "gate", "open 2 1", "visitor 9"], [0, 0])

    def test_24_ever(self):
        self.assert_refused(["start 24 0", *OPEN, *ALL_PERSONS, "scan 0 0"], "visitor 9", -28)
        self.assert_last(["start 24 0", *OPEN, *ALL_PERSONS[1:], "visitor 9"], [23, 23])

    def test_full(self):
        self.assert_refused(["start 1 0", *OPEN, "visitor 9"], "visitor 9", -62)
        self.assert_refused(["start 2 0", *OPEN, "person", "visitor 9"], "visitor 9", -62)

    def test_wrong_minute_comes_first(self):
        self.assert_refused(["start 5 0"], "visitor 100001", -22)
        self.assert_refused(["start 5 0", "minutes 1"], "visitor 0", -22)
        self.assert_refused(["start 24 0", *OPEN, *ALL_PERSONS], "visitor 100001", -22)
        self.assert_refused(["start 1 0", *OPEN, "person"], "visitor 100001", -22)

    def test_no_gate_open_comes_before_24_ever_and_full(self):
        self.assert_refused(["start 24 0", *ALL_PERSONS], "visitor 9", -16)
        self.assert_refused(["start 1 0", "person"], "visitor 9", -16)

    def test_24_ever_comes_before_full(self):
        self.assert_refused(["start 24 0", *OPEN, *ALL_PERSONS], "visitor 9", -28)
