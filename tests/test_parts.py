"""Point 1: hold, part, strewn, holders, state."""

import unittest

from helper import GREATEST, ask, ask_behind

TWO_THREE = (("begin", 2, 3),)


class Hold(unittest.TestCase):
    def test_answers_what_it_was(self):
        told = ask_behind(
            TWO_THREE, ("hold", 0, 1, 1, 2), ("hold", 0, 1, 1, 3), ("hold", 0, 1, 0, 7), ("hold", 0, 1, 1, 1),
            ("part", 0, 1),
        )
        self.assertEqual(told, [[0, 0, 1], [0, 1, 2], [0, 1, 3], [0, 0, 1], [0, 1, 1]])

    def test_told_with_nothing_in_common(self):
        told = ask_behind(
            TWO_THREE, ("hold", 0, 0, 6, 8), ("part", 0, 0), ("hold", 0, 0, 100, 100), ("part", 0, 0),
            ("hold", 0, 0, 0, 100), ("part", 0, 0), ("hold", 0, 0, 99, 100), ("part", 0, 0),
        )
        self.assertEqual(told, [
            [0, 0, 1], [0, 3, 4], [0, 3, 4], [0, 1, 1], [0, 1, 1], [0, 0, 1], [0, 0, 1], [0, 99, 100],
        ])

    def test_lower_numbers_from_1_to_100(self):
        for a, b in ((0, 1), (1, 1), (0, 100), (1, 100), (100, 100)):
            self.assertEqual(ask_behind(TWO_THREE, ("hold", 0, 0, a, b))[0][0], 0)
        for a, b in ((0, 0), (1, 0), (0, 101), (1, 101), (1, GREATEST), (GREATEST, GREATEST), (0, GREATEST)):
            told = ask_behind(TWO_THREE, ("hold", 0, 0, a, b), ("part", 0, 0))
            self.assertEqual(told, [[-22], [0, 0, 1]])

    def test_upper_number_above_the_lower(self):
        for a, b in ((2, 1), (101, 100), (4, 3), (GREATEST, 1), (GREATEST, 100)):
            told = ask_behind(TWO_THREE, ("hold", 0, 0, a, b), ("part", 0, 0))
            self.assertEqual(told, [[-22], [0, 0, 1]])

    def test_no_such_holder_or_company(self):
        for h, j in ((5, 0), (0, 3), (5, 3), (GREATEST, 0), (0, GREATEST), (4294967291, 0)):
            told = ask_behind(TWO_THREE, ("hold", h, j, 1, 2), ("part", h, j))
            self.assertEqual(told, [[-2], [-2]])
        self.assertEqual(ask_behind(TWO_THREE, ("hold", 4, 2, 1, 2))[0], [0, 0, 1])

    def test_all_parts_just_1_and_just_above(self):
        before = TWO_THREE + (("hold", 0, 0, 1, 3), ("hold", 3, 0, 1, 6))
        told = ask_behind(
            before, ("hold", 1, 0, 51, 100), ("part", 1, 0), ("strewn", 0), ("hold", 1, 0, 1, 2), ("strewn", 0),
            ("hold", 2, 0, 1, 100), ("hold", 2, 0, 0, 1), ("part", 2, 0),
        )
        self.assertEqual(told, [
            [-33], [0, 0, 1], [0, 1, 2], [0, 0, 1], [0, 0, 1], [-33], [0, 0, 1], [0, 0, 1],
        ])

    def test_what_one_had_makes_room(self):
        before = TWO_THREE + (("hold", 0, 0, 1, 2), ("hold", 1, 0, 1, 2))
        told = ask_behind(
            before, ("hold", 0, 0, 1, 2), ("hold", 0, 0, 51, 100), ("part", 0, 0), ("hold", 0, 0, 49, 100),
            ("strewn", 0),
        )
        self.assertEqual(told, [[0, 1, 2], [-33], [0, 1, 2], [0, 1, 2], [0, 1, 100]])

    def test_parts_of_another_company_do_not_count(self):
        before = TWO_THREE + (("hold", 0, 0, 1, 1),)
        self.assertEqual(ask_behind(before, ("hold", 0, 1, 1, 1), ("hold", 1, 2, 1, 1)), [[0, 0, 1], [0, 0, 1]])

    def test_of_several_refusals_the_first(self):
        before = TWO_THREE + (("hold", 0, 0, 1, 1),)
        told = ask_behind(
            before, ("hold", 5, 0, 1, 0), ("hold", 0, 3, 2, 1), ("hold", 5, 0, 1, 1), ("hold", 1, 0, 2, 1),
            ("hold", 1, 0, 1, 101), ("hold", 1, 0, 1, 1), ("holders", 0),
        )
        self.assertEqual(told, [[-2], [-2], [-2], [-22], [-22], [-33], [1, 0, 1, 1]])

    def test_a_company_holds_itself(self):
        before = TWO_THREE + (("hold", 3, 1, 1, 4),)
        told = ask_behind(before, ("part", 3, 1), ("strewn", 1), ("hold", 3, 1, 1, 1), ("strewn", 1))
        self.assertEqual(told, [[0, 1, 4], [0, 3, 4], [0, 1, 4], [0, 0, 1]])


class Part(unittest.TestCase):
    def test_people_first_then_companies(self):
        for m in (1, 4):
            for n in (1, 5):
                for h in range(m + n):
                    before = (("begin", m, n), ("hold", h, n - 1, 1, 7))
                    told = ask_behind(before, *[("part", k, n - 1) for k in range(m + n)])
                    self.assertEqual(told, [[0, 1, 7] if k == h else [0, 0, 1] for k in range(m + n)])
                self.assertEqual(ask_behind((("begin", m, n),), ("part", m + n, 0), ("part", 0, n)), [[-2], [-2]])

    def test_each_company_by_itself(self):
        before = TWO_THREE + (("hold", 1, 0, 1, 2), ("hold", 1, 1, 1, 3), ("hold", 1, 2, 1, 4))
        told = ask_behind(before, ("part", 1, 0), ("part", 1, 1), ("part", 1, 2), ("part", 0, 1))
        self.assertEqual(told, [[0, 1, 2], [0, 1, 3], [0, 1, 4], [0, 0, 1]])


class Strewn(unittest.TestCase):
    def test_what_is_left(self):
        before = TWO_THREE + (("hold", 0, 0, 1, 2), ("hold", 3, 0, 1, 3), ("hold", 0, 1, 1, 1))
        told = ask_behind(before, ("strewn", 0), ("strewn", 1), ("strewn", 2), ("strewn", 3), ("strewn", GREATEST))
        self.assertEqual(told, [[0, 1, 6], [0, 0, 1], [0, 1, 1], [-2], [-2]])

    def test_many_lower_numbers(self):
        before = (("begin", 4, 5),) + tuple(
            ("hold", h, 2, 1, b) for h, b in enumerate((97, 89, 83, 79, 73, 71, 67, 61, 59)))
        told = ask_behind(before, ("strewn", 2))[0]
        lower = 97 * 89 * 83 * 79 * 73 * 71 * 67 * 61 * 59
        upper = lower - sum(lower // b for b in (97, 89, 83, 79, 73, 71, 67, 61, 59))
        self.assertEqual(told, [0, upper, lower])


class Holders(unittest.TestCase):
    def test_those_who_have_some_by_their_numbers(self):
        before = TWO_THREE + (
            ("hold", 4, 1, 1, 5), ("hold", 1, 1, 2, 4), ("hold", 3, 1, 1, 10), ("hold", 0, 1, 1, 5),
            ("hold", 0, 1, 0, 1), ("hold", 0, 0, 1, 1),
        )
        told = ask_behind(before, ("holders", 1), ("holders", 0), ("holders", 2))
        self.assertEqual(told, [[3, 1, 1, 2, 3, 1, 10, 4, 1, 5], [1, 0, 1, 1], [0]])

    def test_no_such_company(self):
        self.assertEqual(ask_behind(TWO_THREE, ("holders", 3), ("holders", GREATEST)), [[-2], [-2]])


class State(unittest.TestCase):
    def test_people_then_companies(self):
        self.assertEqual(ask(("begin", 4, 1), ("state",), ("begin", 1, 5), ("state",)), [[0], [4, 1], [0], [1, 5]])


if __name__ == "__main__":
    unittest.main()
