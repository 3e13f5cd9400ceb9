"""The corners that the document names behind point 6."""

import unittest

from helper import ask_behind

# Company j is holder 2 + j.
# Of company 0, which holds 3 by 5 of company 1, company 1 holds 3 by 5.
HELD_BY_WHAT_IT_HOLDS = (
    ("begin", 2, 2), ("hold", 2, 1, 3, 5), ("hold", 3, 0, 3, 5), ("hold", 1, 1, 1, 10), ("prices", [100, 10]))
# Companies 0 and 1 rule one another; person 0 owns the rest of 0, person 1 the rest of 1.
RULES_ITSELF = (
    ("begin", 2, 3), ("hold", 3, 0, 3, 5), ("hold", 0, 0, 2, 5), ("hold", 2, 1, 3, 5), ("hold", 1, 1, 2, 5),
    ("hold", 2, 2, 3, 5), ("own", [100, 300, 40]),
)


class Corners(unittest.TestCase):
    def test_a_company_taken_by_way_of_one_that_it_holds(self):
        told = ask_behind(
            HELD_BY_WHAT_IT_HOLDS, ("cheapest", 0, 0), ("take", 0, 0), ("holders", 1), ("holders", 0), ("ruler", 0),
            ("ruler", 1))
        # Company 0 itself sells half of company 1 behind person 1, and is ruled by way of it then.
        self.assertEqual(told, [
            [1, 6, 1, 1, 3, 5], [1, 6, 1], [2, 0, 3, 5, 2, 1, 10], [1, 3, 3, 5], [0], [0],
        ])

    def test_taken_and_taken_back(self):
        questions = (("holders", 0), ("holders", 1), ("rules", 0), ("lacking", 0, 0), ("cheapest", 0, 0), ("selfruled",))
        before = ask_behind(HELD_BY_WHAT_IT_HOLDS, *questions)
        told = ask_behind(HELD_BY_WHAT_IT_HOLDS, ("take", 0, 0), ("back",), *questions, ("take", 0, 0), ("ruler", 0))
        self.assertEqual(told[:2], [[1, 6, 1], [3]])
        self.assertEqual(told[2:-2], before)
        self.assertEqual(told[-2:], [[1, 6, 1], [0]])

    def test_settled_and_nothing_rules_by_way_of_another_one(self):
        before = (
            ("begin", 2, 3), ("hold", 0, 0, 3, 5), ("hold", 2, 1, 3, 5), ("hold", 3, 2, 3, 5), ("hold", 1, 0, 2, 5))
        told = ask_behind(
            before, ("rules", 0), ("settle",), ("plain",), ("rules", 0), ("rules", 1), ("holders", 1), ("holders", 2),
            ("selfruled",), ("free",))
        self.assertEqual(told, [
            [3, 0, 1, 2], [0], [1], [1, 0], [0], [2, 0, 9, 25, 1, 6, 25], [2, 0, 27, 125, 1, 18, 125], [0], [2, 1, 2],
        ])

    def test_a_ring_that_rules_itself_and_is_owned_by_others(self):
        told = ask_behind(
            RULES_ITSELF, ("selfruled",), ("rules", 0), ("together", 3), ("least", 0), ("owned", 0), ("owned", 1),
            ("lost", 0), ("worths",), ("bookworths",))
        self.assertEqual(told, [
            [3, 0, 1, 2], [0], [0], [0], [3, 5, 8, 3, 8, 3, 8], [3, 3, 8, 5, 8, 9, 40], [0, 0, 1],
            [2, 190, 1, 234, 1], [2, 190, 1, 234, 1],
        ])

    def test_such_a_ring_settled_and_taken(self):
        told = ask_behind(
            RULES_ITSELF, ("settle",), ("selfruled",), ("rules", 0), ("rules", 1), ("worths",), ("back",),
            ("take", 0, 0), ("rules", 0), ("selfruled",))
        self.assertEqual(told, [
            [0], [0], [1, 0], [1, 1], [2, 190, 1, 234, 1], [5], [1, 20, 1], [3, 0, 1, 2], [0],
        ])

    def test_the_quorum_told_anew(self):
        before = (("begin", 1, 2), ("hold", 0, 0, 3, 5), ("hold", 1, 1, 1, 1))
        told = ask_behind(
            before, ("rules", 0), ("quorum", 61, 100), ("rules", 0), ("lacking", 0, 0), ("take", 0, 1), ("quorum", 3, 5),
            ("rules", 0), ("back",), ("rules", 0))
        self.assertEqual(told, [
            [2, 0, 1], [0], [0], [0, 1, 100], [1, 1, 1], [0], [2, 0, 1], [2], [2, 0, 1],
        ])

    def test_a_company_that_holds_itself(self):
        before = (("begin", 2, 1), ("hold", 2, 0, 1, 2), ("hold", 0, 0, 3, 10), ("hold", 1, 0, 1, 5), ("own", [30]))
        questions = (("ruler", 0), ("real", 0, 0), ("worths",), ("bookworths",), ("books",), ("inring", 0), ("plain",))
        told = ask_behind(before, *questions, ("cancel", 0), ("holders", 0), *questions)
        alike = [[0], [0, 3, 5], [2, 18, 1, 12, 1], [2, 18, 1, 12, 1]]
        self.assertEqual(told[:7], alike + [[1, 60, 1], [1], [1]])
        self.assertEqual(told[7:], [[0, 1, 2], [2, 0, 3, 5, 1, 2, 5]] + alike + [[1, 30, 1], [0], [1]])

    def test_a_price_of_0(self):
        told = ask_behind(
            HELD_BY_WHAT_IT_HOLDS, ("prices", [0, 0]), ("cheapest", 0, 0), ("take", 0, 1), ("holders", 0), ("rules", 0))
        self.assertEqual(told, [[0], [1, 0, 1, 0, 3, 5], [1, 0, 1], [1, 0, 3, 5], [2, 0, 1]])

    def test_nothing_to_hand_out_is_no_change(self):
        told = ask_behind((("begin", 1, 2), ("hold", 0, 0, 1, 2)), ("hand", 0), ("hand", 1), ("back",), ("hand", 0), ("back",))
        self.assertEqual(told, [[0], [0], [0], [0], [-6]])


if __name__ == "__main__":
    unittest.main()
