"""Points 1 and 3: own, books, worths, bookworths."""

import unittest

from helper import GREATEST, ask_behind

# Company j is holder 2 + j. Company 0 holds half of 1, and 1 a third of 0; person 0 and 1 have some of each.
RING = (
    ("begin", 2, 2), ("hold", 2, 1, 1, 2), ("hold", 3, 0, 1, 3), ("hold", 0, 0, 1, 3), ("hold", 1, 1, 1, 4),
    ("own", [100, 50]),
)
# Company 0 and 1 hold one another wholly, and half of 2.
ALL_LOST = (
    ("begin", 1, 3), ("hold", 2, 0, 1, 1), ("hold", 1, 1, 1, 1), ("hold", 1, 2, 1, 2), ("hold", 0, 2, 1, 4))


class Own(unittest.TestCase):
    def test_at_first_0(self):
        before = (("begin", 1, 2), ("hold", 0, 0, 1, 1))
        told = ask_behind(before, ("books",), ("worths",), ("bookworths",))
        self.assertEqual(told, [[2, 0, 1, 0, 1], [1, 0, 1], [1, 0, 1]])

    def test_a_number_for_each(self):
        for right in ([0, 0, 0], [1000, 1000, 1000], [0, 1000, 7]):
            told = ask_behind((("begin", 1, 3),), ("own", right), ("books",))
            self.assertEqual(told, [[0], [3, right[0], 1, right[1], 1, right[2], 1]])

    def test_too_few_too_many_none_too_great(self):
        wrong = (
            [], [1], [1, 2], [1, 2, 3, 4], [1] * 255, [1001, 0, 0], [0, 1001, 0], [0, 0, 1001], [0, 0, GREATEST],
            [GREATEST] * 3,
        )
        for given in wrong:
            told = ask_behind((("begin", 1, 3), ("own", [4, 5, 6])), ("own", given), ("books",))
            self.assertEqual(told, [[-22], [3, 4, 1, 5, 1, 6, 1]])

    def test_told_anew_and_by_a_begin(self):
        told = ask_behind(
            (("begin", 1, 1), ("own", [9])), ("books",), ("own", [8]), ("books",), ("begin", 1, 2), ("books",),
            ("own", [1]), ("own", [1, 2]), ("books",))
        self.assertEqual(told, [[1, 9, 1], [0], [1, 8, 1], [0], [2, 0, 1, 0, 1], [-22], [0], [2, 1, 1, 2, 1]])

    def test_one_and_five_companies(self):
        self.assertEqual(ask_behind((("begin", 1, 1),), ("own", [1000]), ("own", [])), [[0], [-22]])
        self.assertEqual(ask_behind((("begin", 4, 5),), ("own", [1] * 5), ("own", [1] * 4)), [[0], [-22]])

    def test_is_not_the_prices(self):
        before = (("begin", 1, 1), ("own", [7]), ("prices", [9]))
        told = ask_behind(before, ("books",), ("cheapest", 0, 0), ("own", [3]), ("cheapest", 0, 0), ("books",))
        self.assertEqual(told, [[1, 7, 1], [1, 27, 5, 0, 3, 5], [0], [1, 27, 5, 0, 3, 5], [1, 3, 1]])


class Books(unittest.TestCase):
    def test_what_it_has_itself_and_its_part_of_others(self):
        before = (("begin", 1, 3), ("hold", 1, 1, 1, 4), ("hold", 2, 2, 1, 5), ("own", [10, 20, 30]))
        self.assertEqual(ask_behind(before, ("books",)), [[3, 33, 2, 26, 1, 30, 1]])

    def test_a_ring(self):
        self.assertEqual(ask_behind(RING, ("books",)), [[2, 150, 1, 100, 1]])

    def test_of_itself_too(self):
        before = (("begin", 1, 2), ("hold", 1, 0, 1, 3), ("hold", 1, 1, 1, 2), ("own", [10, 4]))
        self.assertEqual(ask_behind(before, ("books",)), [[2, 18, 1, 4, 1]])

    def test_cannot_be_told(self):
        self.assertEqual(ask_behind(ALL_LOST, ("own", [1, 0, 0]), ("books",), ("bookworths",)), [[0], [-33], [-33]])

    def test_cannot_be_told_for_more_than_one_row_of_such(self):
        told = ask_behind(ALL_LOST, ("books",), ("bookworths",), ("own", [0, 0, 5]), ("books",), ("bookworths",))
        self.assertEqual(told, [[-33], [-33], [0], [-33], [-33]])

    def test_a_company_that_holds_itself_wholly_or_nearly(self):
        before = (("begin", 1, 2), ("hold", 2, 1, 1, 1), ("own", [3, 0]))
        told = ask_behind(before, ("books",), ("hold", 2, 1, 99, 100), ("own", [3, 2]), ("books",))
        self.assertEqual(told, [[-33], [0, 1, 1], [0], [2, 3, 1, 200, 1]])

    def test_a_ring_with_a_bit_strewn(self):
        before = (("begin", 1, 2), ("hold", 2, 0, 1, 1), ("hold", 1, 1, 99, 100), ("own", [1, 1]))
        self.assertEqual(ask_behind(before, ("books",)), [[2, 199, 1, 200, 1]])

    def test_a_closed_ring_behind_others(self):
        before = (
            ("begin", 1, 4), ("hold", 0, 0, 1, 2), ("hold", 1, 1, 1, 2), ("hold", 4, 2, 1, 1), ("hold", 3, 3, 1, 1))
        self.assertEqual(ask_behind(before, ("books",), ("worths",)), [[-33], [1, 0, 1]])


class Worths(unittest.TestCase):
    def test_by_real_parts(self):
        before = (
            ("begin", 3, 2), ("hold", 0, 0, 1, 2), ("hold", 3, 1, 1, 2), ("hold", 1, 1, 1, 4), ("own", [100, 1000]))
        self.assertEqual(ask_behind(before, ("worths",)), [[3, 300, 1, 250, 1, 0, 1]])

    def test_a_ring_alike_by_books(self):
        self.assertEqual(ask_behind(RING, ("worths",), ("bookworths",)), [[2, 50, 1, 25, 1], [2, 50, 1, 25, 1]])

    def test_where_some_is_lost(self):
        told = ask_behind(ALL_LOST, ("own", [1000, 1000, 10]), ("worths",))
        self.assertEqual(told, [[0], [1, 5, 2]])

    def test_by_books_what_they_hold_of_it(self):
        before = (
            ("begin", 2, 2), ("hold", 0, 0, 1, 2), ("hold", 1, 1, 1, 4), ("hold", 2, 1, 3, 4), ("own", [1, 2]))
        self.assertEqual(ask_behind(before, ("books",), ("bookworths",)), [[2, 5, 2, 2, 1], [2, 5, 4, 1, 2]])

    def test_handed_out_and_settled_as_well(self):
        for call in (("hand", 0), ("hand", 1), ("settle",), ("cancel", 0)):
            told = ask_behind(RING, call, ("worths",), ("bookworths",))
            self.assertEqual(told[1:], [[2, 50, 1, 25, 1]] * 2)


if __name__ == "__main__":
    unittest.main()
