"""Point 4: together, least, weight."""

import unittest

from helper import GREATEST, ask_behind

# Of company 0 the people have 30, 30, 30 and 10 of 100; it holds half of 1, of which person 3 has a tenth.
FOUR = (
    ("begin", 4, 3), ("hold", 0, 0, 3, 10), ("hold", 1, 0, 3, 10), ("hold", 2, 0, 3, 10), ("hold", 3, 0, 1, 10),
    ("hold", 4, 1, 1, 2), ("hold", 3, 1, 1, 10),
)


class Together(unittest.TestCase):
    def test_each_set(self):
        told = ask_behind(FOUR, *[("together", s) for s in range(16)])
        alone = [0]
        self.assertEqual(told, [
            alone, alone, alone, [1, 0], alone, [1, 0], [1, 0], [1, 0],
            alone, alone, alone, [2, 0, 1], alone, [2, 0, 1], [2, 0, 1], [2, 0, 1],
        ])

    def test_first_number_that_is_no_set(self):
        for m in range(1, 5):
            told = ask_behind(
                (("begin", m, 1),), ("together", 0), ("together", 2 ** m - 1), ("together", 2 ** m),
                ("together", GREATEST))
            self.assertEqual(told, [[0], [0], [-22], [-22]])

    def test_one_person_as_rules(self):
        before = (("begin", 2, 2), ("hold", 1, 0, 3, 5), ("hold", 2, 1, 3, 5))
        told = ask_behind(before, ("together", 2), ("rules", 1), ("together", 1), ("together", 3))
        self.assertEqual(told, [[2, 0, 1], [2, 0, 1], [0], [2, 0, 1]])

    def test_by_way_of_what_each_rules(self):
        before = (
            ("begin", 2, 3), ("hold", 0, 0, 1, 1), ("hold", 1, 1, 1, 1), ("hold", 2, 2, 3, 10), ("hold", 3, 2, 3, 10))
        told = ask_behind(before, ("together", 1), ("together", 2), ("together", 3))
        self.assertEqual(told, [[1, 0], [1, 1], [3, 0, 1, 2]])

    def test_nobody_rules_nothing_even_a_ring(self):
        before = (("begin", 1, 2), ("hold", 2, 0, 1, 1), ("hold", 1, 1, 1, 1))
        self.assertEqual(ask_behind(before, ("together", 0), ("together", 1), ("selfruled",)), [[0], [0], [2, 0, 1]])

    def test_the_quorum_told_anew(self):
        told = ask_behind(FOUR, ("quorum", 7, 10), ("together", 3), ("together", 7), ("together", 11))
        self.assertEqual(told, [[0], [0], [1, 0], [1, 0]])


class Least(unittest.TestCase):
    def test_two_of_three(self):
        self.assertEqual(ask_behind(FOUR, ("least", 0)), [[3, 3, 5, 6]])

    def test_somebody_who_is_always_needed(self):
        self.assertEqual(ask_behind(FOUR, ("least", 1)), [[3, 11, 13, 14]])

    def test_none(self):
        told = ask_behind(FOUR, ("least", 2), ("hold", 6, 2, 1, 1), ("least", 2))
        self.assertEqual(told, [[0], [0, 0, 1], [0]])

    def test_one_alone_and_without_them_others(self):
        before = (
            ("begin", 3, 2), ("hold", 0, 0, 3, 5), ("hold", 1, 0, 1, 5), ("hold", 2, 0, 1, 5), ("hold", 3, 1, 1, 2),
            ("hold", 1, 1, 1, 4), ("hold", 2, 1, 1, 4))
        told = ask_behind(before, ("least", 0), ("least", 1), ("quorum", 51, 100), ("least", 1))
        self.assertEqual(told, [[1, 1], [2, 3, 5], [0], [2, 3, 5]])

    def test_all_are_needed(self):
        before = (("begin", 4, 1), ("quorum", 1, 1)) + tuple(("hold", p, 0, 1, 4) for p in range(4))
        self.assertEqual(ask_behind(before, ("least", 0)), [[1, 15]])

    def test_no_such_company(self):
        self.assertEqual(ask_behind(FOUR, ("least", 3), ("least", GREATEST)), [[-2], [-2]])


class Weight(unittest.TestCase):
    def test_two_of_three(self):
        told = ask_behind(FOUR, *[("weight", p, 0) for p in range(4)])
        self.assertEqual(told, [[4], [4], [4], [0]])

    def test_somebody_who_is_always_needed(self):
        told = ask_behind(FOUR, *[("weight", p, 1) for p in range(4)])
        self.assertEqual(told, [[2], [2], [2], [4]])

    def test_alone_with_all_sets_of_others(self):
        before = (("begin", 4, 1), ("hold", 2, 0, 1, 1))
        self.assertEqual(ask_behind(before, ("weight", 2, 0), ("weight", 0, 0)), [[8], [0]])

    def test_one_person(self):
        before = (("begin", 1, 2), ("hold", 0, 0, 3, 5))
        self.assertEqual(ask_behind(before, ("weight", 0, 0), ("weight", 0, 1)), [[1], [0]])

    def test_no_votes(self):
        before = (("begin", 2, 1), ("hold", 2, 0, 1, 1))
        self.assertEqual(ask_behind(before, ("weight", 0, 0), ("least", 0)), [[0], [0]])

    def test_no_such_person_or_company(self):
        told = ask_behind(
            FOUR, ("weight", 4, 0), ("weight", 0, 3), ("weight", GREATEST, 0), ("weight", 0, GREATEST),
            ("weight", 4, 3), ("weight", 3, 2))
        self.assertEqual(told, [[-2]] * 5 + [[0]])


if __name__ == "__main__":
    unittest.main()
