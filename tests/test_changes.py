"""Point 1: back. What is a change, what is refused, and what can be taken back then; parts with too great numbers."""

import unittest
from math import lcm

from helper import GREATEST, ask, ask_behind, everything
from wholeowns.holdings import Holdings

# Company j is holder 2 + j. Company 2 holds itself wholly.
BEFORE = (
    ("begin", 2, 3), ("hold", 2, 0, 1, 5), ("hold", 3, 0, 2, 5), ("hold", 0, 0, 1, 5), ("hold", 2, 1, 1, 2),
    ("hold", 1, 1, 1, 4), ("hold", 4, 2, 1, 1),
)
SOME_CHANGE = (("hold", 0, 1, 1, 9), ("sell", 0, 1, 0, 1, 9), ("cancel", 0), ("hand", 1), ("settle",), ("take", 0, 0))
NO_CHANGE = (
    ("hold", 0, 0, 20, 100), ("hold", 0, 1, 0, 5), ("sell", 0, 1, 0, 0, 7), ("cancel", 1), ("quorum", 2, 3),
    ("prices", [1, 2, 3]), ("own", [1, 2, 3]), ("wouldhand", 0, 1), ("cheapest", 0, 0), ("lacking", 0, 0), ("books",),
    ("worths",), ("bookworths",), ("together", 3), ("least", 0), ("weight", 0, 0), ("inring", 0), ("holding",),
    ("plain",), ("state",), ("part", 0, 0), ("holders", 0), ("begin", 5, 1), ("begin", 1, 0),
)
REFUSED = (
    ("begin", 5, 3), ("begin", 2, 6), ("hold", 5, 0, 0, 1), ("hold", 0, 3, 0, 1), ("hold", 0, 0, 0, 101),
    ("hold", 0, 0, 2, 1), ("hold", 0, 2, 1, 100), ("part", 5, 0), ("quorum", 1, 2), ("quorum", 101, 101),
    ("prices", [1, 2]), ("prices", [1, 2, 1001]), ("own", [1, 2]), ("own", [1, 2, 1001]), ("own", [1, 2, 3, 4]),
    ("together", 4), ("least", 3), ("weight", 2, 0), ("weight", 0, 3), ("cheapest", 2, 0), ("cheapest", 0, 3),
    ("cheapest", 0, 2), ("lacking", 2, 0), ("lacking", 0, 3), ("sell", 5, 0, 0, 0, 1), ("sell", 0, 5, 0, 0, 1),
    ("sell", 0, 1, 3, 0, 1), ("sell", 0, 1, 0, 0, 101), ("sell", 0, 1, 0, 2, 1), ("sell", 0, 0, 0, 1, 5),
    ("sell", 0, 1, 0, 21, 100), ("cancel", 3), ("cancel", 2), ("hand", 3), ("hand", 2), ("inring", 3),
    ("wouldhand", 3, 0), ("wouldhand", 0, 3), ("wouldhand", 2, 0), ("take", 2, 0), ("take", 0, 3), ("take", 0, 2),
    ("books",), ("bookworths",), ("ruler", 2), ("greatest", 2), ("rules", GREATEST),
)


class Back(unittest.TestCase):
    def test_nothing_to_take_back(self):
        self.assertEqual(ask(("begin", 1, 1), ("back",), ("back",)), [[0], [-6], [-6]])

    def test_each_change_by_itself(self):
        for change in SOME_CHANGE:
            told = ask_behind(BEFORE, *everything(2, 3), ("back",), BEFORE[-1], change, ("back",), *everything(2, 3))
            count = len(everything(2, 3))
            self.assertEqual(told[count], [5])
            self.assertGreaterEqual(told[count + 2][0], 0, change)
            self.assertEqual(told[count + 3], [6], change)
            self.assertEqual(told[count + 4:], told[:count], change)

    def test_one_behind_another(self):
        told = ask_behind(
            (("begin", 1, 1),), ("hold", 0, 0, 1, 2), ("hold", 0, 0, 1, 3), ("back",), ("part", 0, 0),
            ("hold", 0, 0, 1, 4), ("back",), ("part", 0, 0), ("back",), ("part", 0, 0), ("back",))
        self.assertEqual(told, [
            [0, 0, 1], [0, 1, 2], [1], [0, 1, 2], [0, 1, 2], [1], [0, 1, 2], [0], [0, 0, 1], [-6],
        ])

    def test_the_last_ten_and_no_more(self):
        for count in (9, 10, 11, 20):
            holds = [("hold", 0, 0, a, 100) for a in range(1, count + 1)]
            told = ask_behind((("begin", 1, 1),), *holds, *[("back",)] * 11, ("part", 0, 0))
            most = min(count, 10)
            self.assertEqual(told[count:-1], [[left] for left in range(most - 1, -1, -1)] + [[-6]] * (11 - most))
            self.assertEqual(told[-1][:2], [0, 0] if count <= 10 else [0, *told[count - 10][1:2]])

    def test_ten_again_behind_some_taken_back(self):
        holds = [("hold", 0, 0, a, 97) for a in range(1, 16)]
        told = ask_behind(
            (("begin", 1, 1),), *holds, ("back",), ("back",), ("hold", 0, 0, 50, 97), ("hold", 0, 0, 51, 97),
            ("hold", 0, 0, 52, 97), *[("back",)] * 11, ("part", 0, 0))
        self.assertEqual(told[15:17], [[9], [8]])
        self.assertEqual(told[20:], [[left] for left in range(9, -1, -1)] + [[-6], [0, 6, 97]])

    def test_a_begin_that_answers_0(self):
        told = ask_behind(BEFORE, ("begin", 2, 3), ("back",), ("hold", 0, 0, 1, 2), ("back",), ("holders", 0), ("back",))
        self.assertEqual(told, [[0], [-6], [0, 0, 1], [0], [0], [-6]])

    def test_a_begin_that_is_refused(self):
        self.assertEqual(ask_behind(BEFORE, ("begin", 0, 3), ("back",)), [[-22], [5]])

    def test_what_changes_nothing_is_no_change(self):
        for call in NO_CHANGE:
            told = ask_behind(BEFORE, call, ("back",), ("part", 4, 2))
            self.assertEqual(told[1:], [[5], [0, 0, 1]], call)

    def test_what_else_is_told_stays(self):
        told = ask_behind(
            (("begin", 1, 1), ("hold", 0, 0, 1, 10)), ("quorum", 1, 1), ("prices", [7]), ("own", [9]), ("back",),
            ("cheapest", 0, 0), ("books",))
        self.assertEqual(told[3:], [[0], [1, 7, 1, 0, 1, 1], [1, 9, 1]])

    def test_before_a_begin(self):
        self.assertEqual(ask(("back",), ("settle",), ("begin", 0, 1), ("back",)), [[-11], [-11], [-22], [-11]])


class Refused(unittest.TestCase):
    KEPT = BEFORE[:-1] + (
        ("quorum", 7, 10), ("prices", [11, 12, 13]), ("own", [21, 22, 23]), BEFORE[-1])

    def test_changes_nothing(self):
        questions = everything(2, 2) + [("holders", 2), ("worths",), ("wouldhand", 0, 1)]
        # The books can be told again when company 2 has nothing of itself.
        behind = [("back",), ("books",), ("bookworths",), ("cheapest", 1, 2), ("back",)]
        before = ask_behind(self.KEPT, *questions, *behind)
        self.assertEqual(before[-5], [5])
        self.assertEqual(before[-4][0], 3)
        for call in REFUSED:
            told = ask_behind(self.KEPT, call, *questions, *behind)
            self.assertEqual(len(told[0]), 1, call)
            self.assertLess(told[0][0], 0, call)
            self.assertEqual(told[1:], before, call)

    def test_all_at_once(self):
        calls = self.KEPT + REFUSED[:30]
        told = ask(*calls, *everything(2, 3)[:8])
        self.assertEqual(told[len(calls):], ask_behind(self.KEPT, *everything(2, 3)[:8]))

    def test_back_itself(self):
        told = ask(("begin", 1, 1), ("quorum", 1, 1), ("own", [5]), ("back",), ("books",), ("lacking", 0, 0))
        self.assertEqual(told[3:], [[-6], [1, 5, 1], [0, 1, 1]])


# Each holds a number with nothing in common with the others: sold one behind another they are multiplied.
POWERS = (97, 89, 83, 79, 73, 71, 67, 61, 59, 53, 47, 43, 41, 37, 31, 29, 23, 19, 13, 11, 49, 25, 81, 64)


def sold(m, n, k, left_out=()):
    """Person 0 has all of company 0 and sells so much of it to holder k that 17 alone is missing in the lower one."""
    return (("begin", m, n), ("hold", 0, 0, 1, 1)) + tuple(
        ("sell", 0, k, 0, 1, b) for b in POWERS if b not in left_out)


def own_and_cancel(a, b):
    return (("hold", 1, 0, a, b), ("cancel", 0))


# The part of person 0 is 33 by 100; 16 times 50, 4 times 80 and 64 come below: 10 to the power of 40, less 25 times.
TENS = (("begin", 1, 1), ("hold", 0, 0, 33, 100)) + (
    own_and_cancel(1, 51) * 16 + own_and_cancel(1, 81) * 4 + own_and_cancel(3, 67))


class TooGreat(unittest.TestCase):
    LOWER = lcm(*POWERS)

    def test_the_first_lower_number_that_is_too_great(self):
        for lower, wrong in ((10 ** 40, False), (10 ** 40 + 1, True), (10 ** 40 - 1, False), (1, False)):
            for h in range(3):
                holdings = Holdings(1, 2)
                holdings.set_part(h, 1, (1, lower))
                self.assertIs(holdings.has_too_great(), wrong)

    def test_how_great_the_parts_are(self):
        self.assertLess(2 * self.LOWER, 10 ** 40)
        self.assertGreater(3 * self.LOWER, 10 ** 40)
        told = ask_behind(sold(1, 2, 2), ("part", 2, 0), ("part", 0, 0))
        self.assertEqual([answer[2] for answer in told], [self.LOWER] * 2)

    def test_cancel_at_the_edge(self):
        told = ask_behind(TENS, ("hold", 1, 0, 2, 27), ("cancel", 0), ("part", 0, 0), ("part", 1, 0))
        self.assertEqual(told[1], [0, 2, 27])
        self.assertEqual(told[2][2], 10 ** 40)
        self.assertEqual(told[3], [0, 0, 1])

    def test_cancel_just_above(self):
        told = ask_behind(TENS, ("hold", 1, 0, 3, 29), ("cancel", 0), ("part", 1, 0), ("back",))
        self.assertEqual(told, [[0, 0, 1], [-75], [0, 3, 29], [9]])

    def test_sell_behind_the_edge(self):
        before = TENS + own_and_cancel(2, 27)
        told = ask_behind(before, ("sell", 0, 1, 0, 1, 3), ("back",))
        self.assertEqual(told, [[-75], [9]])
        told = ask_behind(before, ("sell", 0, 1, 0, 1, 10), ("part", 1, 0))
        self.assertEqual((told[0][2], told[1]), (10 ** 40, [0, 1, 10]))

    def test_sell(self):
        before = sold(2, 1, 1)
        told = ask_behind(before, ("part", 0, 0), ("part", 1, 0), ("sell", 0, 1, 0, 1, 17), ("part", 0, 0), ("part", 1, 0))
        self.assertEqual(told[2], [-75])
        self.assertEqual(told[3:], told[:2])
        told = ask_behind(before, ("sell", 0, 1, 0, 1, 17), ("back",), ("sell", 0, 1, 0, 1, 10), ("back",))
        self.assertEqual((told[0], told[1], told[2][0], told[3]), ([-75], [9], 0, [9]))

    def test_sell_of_too_much_comes_first(self):
        self.assertEqual(ask_behind(sold(2, 1, 1), ("sell", 0, 1, 0, 16, 17)), [[-33]])

    def test_hand_and_settle(self):
        for call in (("hand", 1), ("settle",)):
            before = sold(1, 2, 2) + (("hold", 0, 0, 0, 1),)
            for a, b, answer in ((1, 1, None), (1, 2, None), (1, 3, -75), (1, 17, -75)):
                told = ask_behind(before, ("hold", 0, 1, a, b), ("part", 2, 0), call, ("part", 2, 0), ("back",))
                if answer is None:
                    self.assertEqual(told[3:], [[0, 0, 1], [9]], (call, b))
                else:
                    self.assertEqual(told[2:], [[answer], told[1], [9]], (call, b))

    def test_would_hand_is_not_refused(self):
        told = ask_behind(sold(1, 2, 2), ("hold", 0, 0, 0, 1), ("hold", 0, 1, 1, 17), ("wouldhand", 1, 0))
        self.assertEqual(told[2][2], 17 * self.LOWER)

    def test_settle_too_great_in_between_but_not_at_the_end(self):
        # Company 1 has the great part of 0; company 2 would have a third of it, but is itself wholly strewn.
        before = sold(1, 3, 2) + (("hold", 0, 0, 0, 1), ("hold", 3, 1, 1, 3))
        told = ask_behind(before, ("hand", 1), ("settle",), ("holders", 0), ("strewn", 0))
        self.assertEqual(told, [[-75], [0], [0], [0, 1, 1]])

    def test_take(self):
        before = sold(4, 1, 2) + (("hold", 0, 0, 0, 1), ("hold", 1, 0, 1, 4))
        told = ask_behind(before, ("quorum", 10, 17), ("take", 3, 0), ("ruler", 0), ("part", 3, 0), ("back",))
        self.assertEqual(told[1:], [[-75], [2], [0, 0, 1], [9]])
        told = ask_behind(before, ("take", 3, 0), ("ruler", 0), ("part", 3, 0), ("back",))
        self.assertEqual(told, [[1, 60, 1], [3], [0, 3, 5], [9]])

    def test_a_great_lower_number_of_what_is_strewn_is_no_part(self):
        before = sold(2, 2, 3, (64, 81)) + (("hold", 0, 0, 1, 64), ("hold", 1, 0, 1, 17), ("hold", 2, 0, 1, 81))
        told = ask_behind(before, ("strewn", 0), ("sell", 0, 1, 0, 1, 64), ("part", 0, 0), ("strewn", 0))
        self.assertEqual(told[0][2], 17 * self.LOWER)
        self.assertEqual(told[1:3], [[0, 0, 1, 81, 1088], [0, 0, 1]])
        self.assertEqual(told[3], told[0])


if __name__ == "__main__":
    unittest.main()
