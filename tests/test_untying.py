"""Point 5: sell, cancel, hand, inring, holding, plain, wouldhand, settle."""

import unittest

from helper import GREATEST, ask_behind

# Company j is holder 2 + j. Companies 0 and 1 hold some of one another and of themselves; 0 some of 2.
RING = (
    ("begin", 2, 3), ("hold", 2, 0, 1, 5), ("hold", 3, 0, 2, 5), ("hold", 0, 0, 1, 5),
    ("hold", 2, 1, 1, 2), ("hold", 1, 1, 1, 4), ("hold", 2, 2, 1, 3), ("hold", 0, 2, 1, 6),
)
# Company 0 and 1 hold one another wholly; 1 holds half of 2.
ALL_LOST = (("begin", 1, 3), ("hold", 2, 0, 1, 1), ("hold", 1, 1, 1, 1), ("hold", 2, 2, 1, 2), ("hold", 0, 2, 1, 4))


class Sell(unittest.TestCase):
    BEFORE = (("begin", 2, 2), ("hold", 0, 1, 1, 2), ("hold", 2, 1, 1, 3))

    def test_goes_from_one_to_the_other(self):
        told = ask_behind(
            self.BEFORE, ("sell", 0, 1, 1, 1, 8), ("holders", 1), ("sell", 2, 3, 1, 1, 4), ("holders", 1), ("strewn", 1))
        self.assertEqual(told, [
            [0, 3, 8, 1, 8], [3, 0, 3, 8, 1, 1, 8, 2, 1, 3],
            [0, 1, 12, 1, 4], [4, 0, 3, 8, 1, 1, 8, 2, 1, 12, 3, 1, 4], [0, 1, 6],
        ])

    def test_to_one_that_has_some_and_to_the_company_itself(self):
        told = ask_behind(self.BEFORE, ("sell", 2, 0, 1, 1, 6), ("sell", 0, 3, 1, 2, 3), ("votes", 1))
        self.assertEqual(told, [[0, 1, 6, 2, 3], [0, 0, 1, 2, 3], [0, 1, 3]])

    def test_all_of_it_and_more_than_all(self):
        told = ask_behind(
            self.BEFORE, ("sell", 0, 1, 1, 51, 100), ("sell", 0, 1, 1, 50, 100), ("sell", 0, 1, 1, 1, 100),
            ("sell", 0, 1, 1, 0, 100), ("holders", 1))
        self.assertEqual(told, [[-33], [0, 0, 1, 1, 2], [-33], [0, 0, 1, 1, 2], [2, 1, 1, 2, 2, 1, 3]])

    def test_nothing_is_no_change(self):
        told = ask_behind(self.BEFORE, ("sell", 0, 1, 1, 0, 1), ("sell", 1, 0, 0, 0, 1), ("back",))
        self.assertEqual(told, [[0, 1, 2, 0, 1], [0, 0, 1, 0, 1], [1]])

    def test_not_right(self):
        wrong = (
            (0, 1, 1, 0, 0), (0, 1, 1, 0, 101), (0, 1, 1, 2, 1), (0, 1, 1, 101, 100), (0, 0, 1, 0, 1), (3, 3, 1, 0, 1),
            (0, 1, 1, GREATEST, 1), (0, 1, 1, 0, GREATEST),
        )
        for given in wrong:
            told = ask_behind(self.BEFORE, ("sell", *given), ("holders", 1), ("back",))
            self.assertEqual(told, [[-22], [2, 0, 1, 2, 2, 1, 3], [1]])
        for a, b in ((0, 1), (0, 100), (1, 100), (1, 2), (50, 100)):
            self.assertEqual(ask_behind(self.BEFORE, ("sell", 0, 1, 1, a, b))[0][0], 0)

    def test_no_such_holder_or_company(self):
        wrong = ((4, 0, 1), (0, 4, 1), (0, 1, 2), (GREATEST, 0, 1), (0, GREATEST, 1), (0, 1, GREATEST), (4, 4, 2))
        for given in wrong:
            told = ask_behind(self.BEFORE, ("sell", *given, 0, 1), ("holders", 1), ("back",))
            self.assertEqual(told, [[-2], [2, 0, 1, 2, 2, 1, 3], [1]])
        self.assertEqual(ask_behind(self.BEFORE, ("sell", 0, 3, 1, 1, 2)), [[0, 0, 1, 1, 2]])

    def test_of_several_refusals_the_first(self):
        told = ask_behind(
            self.BEFORE, ("sell", 4, 4, 1, 1, 0), ("sell", 0, 1, 2, 2, 1), ("sell", 1, 1, 1, 1, 1),
            ("sell", 1, 0, 1, 2, 1), ("sell", 1, 0, 1, 1, 1))
        self.assertEqual(told, [[-2], [-2], [-22], [-22], [-33]])


class Cancel(unittest.TestCase):
    def test_all_others_are_divided(self):
        told = ask_behind(RING, ("cancel", 0), ("holders", 0), ("strewn", 0), ("votes", 0), ("holders", 1))
        self.assertEqual(told, [
            [0, 1, 5], [2, 0, 1, 4, 3, 1, 2], [0, 1, 4], [0, 1, 1], [2, 1, 1, 4, 2, 1, 2],
        ])

    def test_nobody_gains_or_loses(self):
        told = ask_behind(RING, ("owned", 0), ("owned", 1), ("cancel", 0), ("owned", 0), ("owned", 1))
        self.assertEqual(told[3:], told[:2])

    def test_none_of_itself_is_no_change(self):
        told = ask_behind(RING, ("cancel", 1), ("holders", 1), ("back",))
        self.assertEqual(told, [[0, 0, 1], [2, 1, 1, 4, 2, 1, 2], [6]])

    def test_wholly_and_nearly(self):
        before = (("begin", 1, 1), ("hold", 1, 0, 1, 1))
        told = ask_behind(
            before, ("cancel", 0), ("holders", 0), ("hold", 1, 0, 99, 100), ("hold", 0, 0, 1, 100), ("cancel", 0),
            ("holders", 0))
        self.assertEqual(told, [[-33], [1, 1, 1, 1], [0, 1, 1], [0, 0, 1], [0, 99, 100], [1, 0, 1, 1]])

    def test_no_such_company(self):
        self.assertEqual(
            ask_behind(RING, ("cancel", 3), ("cancel", GREATEST), ("cancel", 2)), [[-2], [-2], [0, 0, 1]])


class Hand(unittest.TestCase):
    def test_to_its_own_holders(self):
        before = (
            ("begin", 2, 3), ("hold", 0, 0, 1, 2), ("hold", 4, 0, 1, 4), ("hold", 2, 1, 1, 2), ("hold", 0, 1, 1, 10))
        told = ask_behind(before, ("hand", 0), ("holders", 1), ("strewn", 1), ("holders", 0))
        self.assertEqual(told, [[1], [2, 0, 7, 20, 4, 1, 8], [0, 21, 40], [2, 0, 1, 2, 4, 1, 4]])

    def test_its_own_parts_are_cancelled_first(self):
        told = ask_behind(RING, ("hand", 0), ("holders", 0), ("holders", 1), ("holders", 2), ("strewn", 1))
        self.assertEqual(told, [
            [2], [2, 0, 1, 4, 3, 1, 2], [3, 0, 1, 8, 1, 1, 4, 3, 1, 4], [2, 0, 1, 4, 3, 1, 6], [0, 3, 8],
        ])

    def test_only_parts_of_itself(self):
        before = (("begin", 1, 2), ("hold", 1, 0, 1, 2), ("hold", 0, 0, 1, 4))
        told = ask_behind(before, ("hand", 0), ("holders", 0), ("back",))
        self.assertEqual(told, [[0], [1, 0, 1, 2], [2]])

    def test_nothing_to_hand_out_is_no_change(self):
        told = ask_behind(RING, ("hand", 2), ("holders", 2), ("back",))
        self.assertEqual(told, [[0], [2, 0, 1, 6, 2, 1, 3], [6]])

    def test_what_is_strewn_takes_all(self):
        before = (("begin", 1, 2), ("hold", 1, 1, 1, 1))
        told = ask_behind(before, ("hand", 0), ("holders", 1), ("strewn", 1), ("back",), ("holders", 1))
        self.assertEqual(told, [[1], [0], [0, 1, 1], [1], [1, 1, 1, 1]])

    def test_wholly(self):
        before = (("begin", 1, 2), ("hold", 1, 0, 1, 1), ("hold", 1, 1, 1, 2))
        told = ask_behind(before, ("hand", 0), ("holders", 1), ("hold", 1, 0, 99, 100), ("hand", 0), ("holders", 1))
        self.assertEqual(told, [[-33], [1, 1, 1, 2], [0, 1, 1], [1], [0]])

    def test_no_such_company(self):
        self.assertEqual(ask_behind(RING, ("hand", 3), ("hand", GREATEST), ("hand", 1)), [[-2], [-2], [1]])


class InRing(unittest.TestCase):
    def test_each(self):
        told = ask_behind(RING, ("inring", 0), ("inring", 1), ("inring", 2), ("inring", 3), ("inring", GREATEST))
        self.assertEqual(told, [[1], [1], [0], [-2], [-2]])

    def test_of_itself(self):
        before = (("begin", 1, 2), ("hold", 1, 0, 1, 100), ("hold", 1, 1, 1, 1))
        self.assertEqual(ask_behind(before, ("inring", 0), ("inring", 1)), [[1], [0]])

    def test_five_and_one_link_less(self):
        links = tuple(("hold", 1 + (3 * j + 1) % 5, (3 * j + 3) % 5, 1, 9) for j in range(5))
        before = (("begin", 1, 5),) + links
        for link in links:
            told = ask_behind(before, *[("inring", j) for j in range(5)], (*link[:3], 0, 1), ("inring", 0))
            self.assertEqual(told, [[1]] * 5 + [[0, 1, 9], [0]])

    def test_one_that_holds_a_ring_and_one_that_is_held_by_it(self):
        before = (
            ("begin", 1, 4), ("hold", 1, 1, 1, 2), ("hold", 3, 1, 1, 2), ("hold", 2, 2, 1, 2), ("hold", 3, 3, 1, 2))
        self.assertEqual(ask_behind(before, *[("inring", j) for j in range(4)]), [[0], [1], [1], [0]])


class Holding(unittest.TestCase):
    def test_each(self):
        told = ask_behind(RING, ("holding",), ("plain",), ("hand", 0), ("holding",), ("plain",))
        self.assertEqual(told, [[2, 0, 1], [0], [2], [1, 1], [0]])

    def test_of_itself_alone_does_not_count(self):
        before = (("begin", 1, 2), ("hold", 1, 0, 1, 2), ("hold", 0, 1, 1, 1))
        told = ask_behind(before, ("holding",), ("plain",), ("hold", 1, 1, 0, 9), ("plain",))
        self.assertEqual(told, [[0], [1], [0, 0, 1], [1]])

    def test_nobody_and_all(self):
        before = (("begin", 1, 5),)
        told = ask_behind(before, ("holding",), ("plain",))
        self.assertEqual(told, [[0], [1]])
        told = ask_behind(before + tuple(("hold", 1 + j, (j + 1) % 5, 1, 100) for j in range(5)), ("holding",), ("plain",))
        self.assertEqual(told, [[5, 0, 1, 2, 3, 4], [0]])


class WouldHand(unittest.TestCase):
    def test_what_each_would_have(self):
        told = ask_behind(RING, ("wouldhand", 0, 1), ("wouldhand", 0, 2), ("wouldhand", 1, 0), ("wouldhand", 2, 0))
        self.assertEqual(told, [
            [5, 1, 8, 1, 4, 0, 1, 1, 4, 0, 1], [5, 1, 4, 0, 1, 0, 1, 1, 6, 0, 1],
            [5, 1, 5, 1, 10, 2, 5, 0, 1, 0, 1], [5, 1, 5, 0, 1, 1, 5, 2, 5, 0, 1],
        ])

    def test_of_itself(self):
        self.assertEqual(ask_behind(RING, ("wouldhand", 0, 0)), [[5, 1, 4, 0, 1, 0, 1, 1, 2, 0, 1]])

    def test_changes_nothing(self):
        told = ask_behind(RING, ("wouldhand", 0, 1), ("holders", 0), ("holders", 1), ("back",))
        self.assertEqual(told[1:], [[3, 0, 1, 5, 2, 1, 5, 3, 2, 5], [2, 1, 1, 4, 2, 1, 2], [6]])

    def test_as_handed_out_then(self):
        for j in range(3):
            told = ask_behind(RING, ("wouldhand", 0, j), ("hand", 0), *[("part", h, j) for h in range(5)])
            self.assertEqual(told[0], [5] + sum([answer[1:] for answer in told[2:]], []))

    def test_refusals(self):
        before = (("begin", 1, 2), ("hold", 1, 0, 1, 1), ("hold", 1, 1, 1, 2))
        told = ask_behind(
            before, ("wouldhand", 2, 0), ("wouldhand", 1, 2), ("wouldhand", GREATEST, 0), ("wouldhand", 0, 2),
            ("wouldhand", 0, 1), ("wouldhand", 0, 0), ("wouldhand", 1, 1), ("wouldhand", 1, 0))
        self.assertEqual(told, [[-2]] * 4 + [[-33]] * 2 + [[3, 0, 1, 1, 2, 0, 1], [3, 0, 1, 1, 1, 0, 1]])


class Settle(unittest.TestCase):
    def test_each_has_straight_what_they_really_owned(self):
        really = ask_behind(RING, *[("real", p, j) for j in range(3) for p in range(2)])
        told = ask_behind(RING, ("settle",), *[("part", p, j) for j in range(3) for p in range(2)], ("plain",))
        self.assertEqual(told[0], [0])
        self.assertEqual(told[1:-1], really)
        self.assertEqual(told[-1], [1])

    def test_but_those_that_hold_themselves_wholly_by_then(self):
        told = ask_behind(
            ALL_LOST, ("settle",), ("holding",), ("holders", 0), ("holders", 1), ("holders", 2), ("settle",), ("back",))
        self.assertEqual(told, [
            [1], [1, 1], [1, 2, 1, 1], [1, 2, 1, 1], [2, 0, 1, 4, 2, 1, 2], [1], [4],
        ])

    def test_two_that_hold_themselves_wholly(self):
        before = (
            ("begin", 1, 5), ("hold", 1, 0, 1, 1), ("hold", 2, 1, 1, 1), ("hold", 1, 2, 1, 2), ("hold", 2, 3, 1, 2),
            ("hold", 4, 4, 1, 2))
        told = ask_behind(before, ("settle",), ("holding",), ("holders", 4), ("lost", 4))
        self.assertEqual(told, [[2], [2, 0, 1], [1, 2, 1, 4], [0, 1, 4]])

    def test_is_one_change(self):
        told = ask_behind(RING, ("settle",), ("back",), ("holders", 1))
        self.assertEqual(told, [[0], [7], [2, 1, 1, 4, 2, 1, 2]])

    def test_nothing_to_settle_is_no_change(self):
        before = (("begin", 1, 2), ("hold", 0, 0, 1, 2))
        self.assertEqual(ask_behind(before, ("settle",), ("back",), ("back",)), [[0], [0], [-6]])

    def test_parts_of_itself_are_cancelled(self):
        before = (("begin", 1, 1), ("hold", 1, 0, 1, 2), ("hold", 0, 0, 1, 4))
        self.assertEqual(ask_behind(before, ("settle",), ("holders", 0)), [[0], [1, 0, 1, 2]])


if __name__ == "__main__":
    unittest.main()
