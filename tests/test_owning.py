"""Point 2: real, realstrewn, lost, owned, greatest, rings, closed."""

import unittest

from helper import GREATEST, ask_behind

# Company j is holder 1 + j.
RING_OF_TWO = (
    ("begin", 1, 2),
    ("hold", 0, 0, 1, 2), ("hold", 2, 0, 1, 2),
    ("hold", 1, 1, 1, 3),
)
# Companies 0 and 1 hold one another wholly, 0 holds half of 2 and all of 3.
ALL_LOST = (
    ("begin", 1, 5),
    ("hold", 2, 0, 1, 1), ("hold", 1, 1, 1, 1),
    ("hold", 1, 2, 1, 2), ("hold", 0, 2, 1, 4),
    ("hold", 1, 3, 1, 1),
    ("hold", 4, 4, 1, 3), ("hold", 3, 4, 1, 3),
)
# Of the ring of 0 and 1 half goes to a person, and half to 2, which holds itself wholly.
PART_COMES_OUT = (
    ("begin", 1, 3),
    ("hold", 2, 0, 1, 2), ("hold", 3, 0, 1, 2),
    ("hold", 1, 1, 1, 2), ("hold", 0, 1, 1, 2),
    ("hold", 3, 2, 1, 1),
)


class Real(unittest.TestCase):
    def test_straight(self):
        before = (("begin", 2, 2), ("hold", 1, 0, 2, 7))
        told = ask_behind(before, ("real", 1, 0), ("real", 0, 0), ("real", 1, 1), ("realstrewn", 0), ("lost", 0))
        self.assertEqual(told, [[0, 2, 7], [0, 0, 1], [0, 0, 1], [0, 5, 7], [0, 0, 1]])

    def test_by_way_of_companies(self):
        before = (
            ("begin", 2, 3), ("hold", 0, 0, 1, 2), ("hold", 2, 1, 1, 2), ("hold", 1, 1, 1, 3), ("hold", 3, 2, 1, 5),
            ("hold", 2, 2, 1, 5), ("hold", 0, 2, 1, 10),
        )
        told = ask_behind(
            before, ("real", 0, 2), ("real", 1, 2), ("realstrewn", 2), ("real", 0, 1), ("realstrewn", 1), ("lost", 2))
        self.assertEqual(told, [[0, 1, 4], [0, 1, 15], [0, 41, 60], [0, 1, 4], [0, 5, 12], [0, 0, 1]])

    def test_by_way_of_companies_with_greater_numbers(self):
        before = (("begin", 1, 5), ("hold", 0, 4, 1, 2)) + tuple(("hold", 2 + j, j, 1, 2) for j in range(4))
        told = ask_behind(before, *[("real", 0, j) for j in range(5)], ("realstrewn", 0))
        self.assertEqual(told, [[0, 1, 32], [0, 1, 16], [0, 1, 8], [0, 1, 4], [0, 1, 2], [0, 31, 32]])

    def test_ring_of_two(self):
        told = ask_behind(
            RING_OF_TWO, ("real", 0, 0), ("real", 0, 1), ("realstrewn", 0), ("realstrewn", 1), ("lost", 0),
            ("lost", 1), ("rings",), ("closed",),
        )
        self.assertEqual(told, [[0, 3, 5], [0, 1, 5], [0, 2, 5], [0, 4, 5], [0, 0, 1], [0, 0, 1], [0], [0]])

    def test_ring_of_five(self):
        before = (("begin", 1, 5), ("hold", 0, 2, 1, 100)) + tuple(
            ("hold", 1 + (j + 1) % 5, j, 99 if j == 2 else 1, 100 if j == 2 else 1) for j in range(5))
        told = ask_behind(before, *[("real", 0, j) for j in range(5)], ("rings",), ("closed",), ("lost", 3))
        self.assertEqual(told, [[0, 1, 1]] * 5 + [[0], [0], [0, 0, 1]])

    def test_rings_within_rings(self):
        before = (
            ("begin", 1, 3), ("hold", 2, 0, 1, 3), ("hold", 3, 0, 1, 3), ("hold", 1, 1, 1, 3), ("hold", 3, 1, 1, 3),
            ("hold", 1, 2, 1, 3), ("hold", 2, 2, 1, 3), ("hold", 0, 2, 1, 3),
        )
        told = ask_behind(before, ("owned", 0), ("realstrewn", 0), ("realstrewn", 1), ("realstrewn", 2))
        self.assertEqual(told, [[3, 1, 4, 1, 4, 1, 2], [0, 3, 4], [0, 3, 4], [0, 1, 2]])

    def test_a_company_with_parts_of_itself(self):
        before = (("begin", 1, 1), ("hold", 1, 0, 1, 2), ("hold", 0, 0, 1, 8))
        told = ask_behind(before, ("real", 0, 0), ("realstrewn", 0), ("lost", 0), ("rings",), ("closed",))
        self.assertEqual(told, [[0, 1, 4], [0, 3, 4], [0, 0, 1], [0], [0]])

    def test_a_company_with_all_but_a_bit_of_itself(self):
        before = (("begin", 1, 1), ("hold", 1, 0, 99, 100), ("hold", 0, 0, 1, 100))
        told = ask_behind(before, ("real", 0, 0), ("realstrewn", 0), ("lost", 0))
        self.assertEqual(told, [[0, 1, 1], [0, 0, 1], [0, 0, 1]])

    def test_refusals(self):
        told = ask_behind(
            RING_OF_TWO, ("real", 1, 0), ("real", 0, 2), ("real", GREATEST, GREATEST), ("realstrewn", 2),
            ("realstrewn", GREATEST), ("lost", 2), ("lost", GREATEST),
        )
        self.assertEqual(told, [[-2]] * 7)

    def test_a_company_is_no_person(self):
        before = (("begin", 2, 2), ("hold", 2, 1, 1, 1))
        self.assertEqual(ask_behind(before, ("real", 2, 1), ("owned", 2), ("owned", 3)), [[-2]] * 3)

    def test_answers_change_nothing(self):
        told = ask_behind(RING_OF_TWO, ("holders", 0), ("real", 0, 0), ("rings",), ("owned", 0), ("holders", 0))
        self.assertEqual(told[0], [2, 0, 1, 2, 2, 1, 2])
        self.assertEqual(told[4], told[0])


class Lost(unittest.TestCase):
    def test_a_ring_of_which_all_is_lost(self):
        told = ask_behind(ALL_LOST, *[("lost", j) for j in range(5)])
        self.assertEqual(told, [[0, 1, 1], [0, 1, 1], [0, 1, 2], [0, 1, 1], [0, 1, 2]])

    def test_rings_and_closed(self):
        self.assertEqual(ask_behind(ALL_LOST, ("rings",), ("closed",)), [[5, 0, 1, 2, 3, 4], [3, 0, 1, 3]])

    def test_what_else_is_told_where_some_is_lost(self):
        told = ask_behind(ALL_LOST, ("owned", 0), *[("realstrewn", j) for j in range(5)])
        self.assertEqual(told[0], [5, 0, 1, 0, 1, 1, 4, 0, 1, 1, 12])
        self.assertEqual(told[1:], [[0, 0, 1], [0, 0, 1], [0, 1, 4], [0, 0, 1], [0, 5, 12]])

    def test_a_ring_from_which_only_a_part_comes_out(self):
        told = ask_behind(PART_COMES_OUT, ("owned", 0), ("lost", 0), ("lost", 1), ("lost", 2), ("rings",), ("closed",))
        self.assertEqual(told, [
            [3, 1, 3, 2, 3, 0, 1], [0, 2, 3], [0, 1, 3], [0, 1, 1], [3, 0, 1, 2], [1, 2],
        ])

    def test_a_company_that_holds_itself_wholly(self):
        before = (("begin", 2, 2), ("hold", 3, 1, 1, 1))
        told = ask_behind(before, ("lost", 1), ("lost", 0), ("rings",), ("closed",), ("real", 0, 1), ("realstrewn", 1))
        self.assertEqual(told, [[0, 1, 1], [0, 0, 1], [1, 1], [1, 1], [0, 0, 1], [0, 0, 1]])

    def test_a_ring_with_a_bit_strewn_is_not_lost(self):
        before = (("begin", 1, 2), ("hold", 2, 0, 1, 1), ("hold", 1, 1, 99, 100))
        told = ask_behind(before, ("rings",), ("closed",), ("realstrewn", 0), ("lost", 0))
        self.assertEqual(told, [[0], [0], [0, 1, 1], [0, 0, 1]])

    def test_two_rings(self):
        before = (
            ("begin", 1, 5), ("hold", 2, 0, 1, 1), ("hold", 1, 1, 1, 1), ("hold", 4, 2, 1, 1), ("hold", 3, 3, 1, 1),
            ("hold", 1, 4, 1, 2), ("hold", 3, 4, 1, 2),
        )
        told = ask_behind(before, ("rings",), ("closed",), ("lost", 4))
        self.assertEqual(told, [[5, 0, 1, 2, 3, 4], [5, 0, 1, 2, 3, 4], [0, 1, 1]])

    def test_nothing_held(self):
        told = ask_behind((("begin", 1, 2),), ("rings",), ("closed",), ("lost", 1), ("realstrewn", 1))
        self.assertEqual(told, [[0], [0], [0, 0, 1], [0, 1, 1]])


class Owned(unittest.TestCase):
    def test_each_company(self):
        self.assertEqual(ask_behind(RING_OF_TWO, ("owned", 0)), [[2, 3, 5, 1, 5]])

    def test_each_person(self):
        before = (("begin", 4, 1), ("hold", 3, 0, 1, 2), ("hold", 1, 0, 1, 3))
        told = ask_behind(before, *[("owned", p) for p in range(5)], ("owned", GREATEST))
        self.assertEqual(told, [[1, 0, 1], [1, 1, 3], [1, 0, 1], [1, 1, 2], [-2], [-2]])


class Greatest(unittest.TestCase):
    def test_who_owns_most(self):
        before = (("begin", 3, 2), ("hold", 0, 0, 1, 5), ("hold", 2, 0, 2, 5), ("hold", 1, 0, 1, 4))
        self.assertEqual(ask_behind(before, ("greatest", 0)), [[2, 2, 5]])

    def test_really_not_straight(self):
        before = (("begin", 2, 2), ("hold", 0, 0, 1, 3), ("hold", 3, 0, 2, 3), ("hold", 1, 1, 1, 1))
        self.assertEqual(ask_behind(before, ("greatest", 0), ("greatest", 1)), [[1, 2, 3], [1, 1, 1]])

    def test_of_like_ones_the_first(self):
        before = (
            ("begin", 4, 2), ("hold", 0, 0, 1, 10), ("hold", 2, 0, 1, 5), ("hold", 1, 0, 1, 10), ("hold", 5, 0, 1, 5),
            ("hold", 1, 1, 1, 2),
        )
        self.assertEqual(ask_behind(before, ("greatest", 0), ("owned", 1)), [[1, 1, 5], [2, 1, 5, 1, 2]])

    def test_nobody(self):
        self.assertEqual(ask_behind(ALL_LOST, ("greatest", 0), ("greatest", 2)), [[-33], [0, 1, 4]])
        self.assertEqual(ask_behind((("begin", 1, 1),), ("greatest", 0)), [[-33]])

    def test_no_such_company(self):
        self.assertEqual(ask_behind(RING_OF_TWO, ("greatest", 2), ("greatest", GREATEST)), [[-2], [-2]])


if __name__ == "__main__":
    unittest.main()
