"""Point 4: quorum, prices, votes, rules, ruler, selfruled, free."""

import unittest

from helper import GREATEST, ask_behind


def held_by_one(a, b):
    return (("begin", 1, 1), ("hold", 0, 0, a, b))


class Quorum(unittest.TestCase):
    def test_at_first_three_fifths(self):
        self.assertEqual(ask_behind(held_by_one(3, 5), ("rules", 0)), [[1, 0]])
        self.assertEqual(ask_behind(held_by_one(59, 99), ("rules", 0)), [[0]])

    def test_right_ones(self):
        for a, b in ((51, 100), (1, 1), (100, 100), (2, 3), (50, 99)):
            self.assertEqual(ask_behind((("begin", 1, 1),), ("quorum", a, b)), [[0]])

    def test_wrong_ones_change_nothing(self):
        wrong = (
            (1, 2), (50, 100), (49, 99), (0, 1), (0, 0), (1, 0), (101, 101), (52, 101), (2, 1), (101, 100),
            (GREATEST, GREATEST), (GREATEST, 1), (1, GREATEST),
        )
        for a, b in wrong:
            told = ask_behind(held_by_one(3, 5), ("quorum", a, b), ("rules", 0), ("hold", 0, 0, 59, 100), ("rules", 0))
            self.assertEqual(told, [[-22], [1, 0], [0, 3, 5], [0]])

    def test_just_above_one_half(self):
        told = ask_behind(
            held_by_one(51, 100), ("rules", 0), ("quorum", 51, 100), ("rules", 0), ("hold", 0, 0, 50, 100),
            ("rules", 0),
        )
        self.assertEqual(told, [[0], [0], [1, 0], [0, 51, 100], [0]])

    def test_of_1(self):
        told = ask_behind(
            held_by_one(99, 100), ("rules", 0), ("quorum", 1, 1), ("rules", 0), ("hold", 0, 0, 1, 1), ("rules", 0))
        self.assertEqual(told, [[1, 0], [0], [0], [0, 99, 100], [1, 0]])

    def test_told_anew(self):
        told = ask_behind(
            held_by_one(2, 3), ("quorum", 7, 10), ("ruler", 0), ("free",), ("quorum", 66, 99), ("ruler", 0), ("free",))
        self.assertEqual(told, [[0], [-33], [1, 0], [0], [0], [0]])


class Prices(unittest.TestCase):
    def test_a_number_for_each(self):
        before = (("begin", 1, 3),)
        for right in ([0, 0, 0], [1000, 1000, 1000], [0, 1000, 7]):
            self.assertEqual(ask_behind(before, ("prices", right), ("state",)), [[0], [1, 3]])

    def test_too_few_too_many_none_too_great(self):
        before = (("begin", 1, 3),)
        wrong = (
            [], [1], [1, 2], [1, 2, 3, 4], [1] * 255, [1001, 0, 0], [0, 1001, 0], [0, 0, 1001], [0, 0, GREATEST],
            [GREATEST] * 3,
        )
        for given in wrong:
            self.assertEqual(ask_behind(before, ("prices", given), ("state",)), [[-22], [1, 3]])

    def test_one_and_five_companies(self):
        self.assertEqual(ask_behind((("begin", 1, 1),), ("prices", [1000]), ("prices", [])), [[0], [-22]])
        self.assertEqual(ask_behind((("begin", 4, 5),), ("prices", [1] * 5), ("prices", [1] * 4)), [[0], [-22]])

    def test_by_the_companies_there_are_now(self):
        told = ask_behind(
            (("begin", 1, 2),), ("prices", [1, 2]), ("begin", 1, 3), ("prices", [1, 2]), ("prices", [1, 2, 3]))
        self.assertEqual(told, [[0], [0], [-22], [0]])


class Votes(unittest.TestCase):
    def test_less_what_it_holds_of_itself(self):
        before = (("begin", 2, 3), ("hold", 3, 1, 1, 4), ("hold", 0, 1, 1, 2), ("hold", 4, 2, 1, 1), ("hold", 3, 0, 1, 3))
        told = ask_behind(before, ("votes", 0), ("votes", 1), ("votes", 2), ("votes", 3), ("votes", GREATEST))
        self.assertEqual(told, [[0, 1, 1], [0, 3, 4], [0, 0, 1], [-2], [-2]])


class Rules(unittest.TestCase):
    def test_of_its_votes(self):
        before = (("begin", 1, 1), ("hold", 1, 0, 1, 2), ("hold", 0, 0, 30, 100))
        told = ask_behind(before, ("rules", 0), ("hold", 0, 0, 29, 100), ("rules", 0))
        self.assertEqual(told, [[1, 0], [0, 3, 10], [0]])

    def test_its_own_parts_have_no_vote(self):
        before = (("begin", 2, 1), ("hold", 2, 0, 3, 5), ("hold", 0, 0, 1, 5), ("hold", 1, 0, 1, 5))
        told = ask_behind(before, ("rules", 0), ("ruler", 0), ("selfruled",), ("free",))
        self.assertEqual(told, [[0], [-33], [0], [1, 0]])

    def test_votes_of_0(self):
        before = (("begin", 1, 2), ("hold", 1, 0, 1, 1))
        told = ask_behind(before, ("rules", 0), ("ruler", 0), ("selfruled",), ("free",), ("votes", 0))
        self.assertEqual(told, [[0], [-33], [0], [2, 0, 1], [0, 0, 1]])

    def test_by_way_of_several(self):
        before = (
            ("begin", 2, 4), ("hold", 1, 0, 3, 5), ("hold", 1, 1, 1, 1), ("hold", 2, 2, 3, 10), ("hold", 3, 2, 3, 10),
            ("hold", 4, 3, 1, 2), ("hold", 1, 3, 1, 10),
        )
        told = ask_behind(before, ("rules", 1), ("rules", 0), ("ruler", 3), ("free",))
        self.assertEqual(told, [[4, 0, 1, 2, 3], [0], [1], [0]])

    def test_without_one_of_them_not(self):
        before = (
            ("begin", 2, 4), ("hold", 1, 0, 59, 100), ("hold", 1, 1, 1, 1), ("hold", 2, 2, 3, 10),
            ("hold", 3, 2, 3, 10), ("hold", 4, 3, 1, 2), ("hold", 1, 3, 1, 10),
        )
        told = ask_behind(before, ("rules", 1), ("ruler", 3), ("free",))
        self.assertEqual(told, [[1, 1], [-33], [3, 0, 2, 3]])

    def test_step_by_step_down_the_numbers(self):
        before = (("begin", 1, 5), ("hold", 0, 4, 1, 1)) + tuple(("hold", 2 + j, j, 3, 5) for j in range(4))
        told = ask_behind(before, ("rules", 0), *[("ruler", j) for j in range(5)])
        self.assertEqual(told, [[5, 0, 1, 2, 3, 4]] + [[0]] * 5)

    def test_what_is_really_owned_does_not_rule(self):
        before = (("begin", 1, 3), ("hold", 0, 0, 1, 2), ("hold", 0, 1, 1, 2), ("hold", 2, 0, 1, 2), ("hold", 1, 1, 1, 2))
        told = ask_behind(before, ("real", 0, 0), ("rules", 0), ("selfruled",))
        self.assertEqual(told, [[0, 1, 1], [0], [0]])

    def test_parts_in_itself_only_lessen_its_votes(self):
        before = (("begin", 1, 2), ("hold", 0, 0, 59, 100), ("hold", 1, 0, 1, 100), ("hold", 2, 0, 39, 100))
        told = ask_behind(before, ("rules", 0), ("hold", 1, 0, 2, 100), ("rules", 0))
        self.assertEqual(told, [[0], [0, 1, 100], [1, 0]])

    def test_refusals(self):
        before = (("begin", 2, 3),)
        told = ask_behind(
            before, ("rules", 2), ("rules", GREATEST), ("ruler", 3), ("ruler", GREATEST), ("rules", 1), ("ruler", 2))
        self.assertEqual(told, [[-2], [-2], [-2], [-2], [0], [-33]])

    def test_rulers_of_several(self):
        before = (("begin", 4, 3), ("hold", 3, 0, 3, 5), ("hold", 2, 0, 2, 5), ("hold", 2, 1, 1, 1), ("hold", 0, 2, 1, 2))
        told = ask_behind(before, ("ruler", 0), ("ruler", 1), ("ruler", 2), ("rules", 2), ("rules", 3), ("free",))
        self.assertEqual(told, [[3], [2], [-33], [1, 1], [1, 0], [1, 2]])


class SelfRuled(unittest.TestCase):
    RING = (
        ("begin", 1, 3), ("hold", 2, 0, 3, 5), ("hold", 0, 0, 2, 5), ("hold", 1, 1, 3, 5), ("hold", 0, 1, 2, 5))

    def test_a_ring_that_rules_itself_and_is_owned_by_others(self):
        told = ask_behind(self.RING, ("selfruled",), ("rules", 0), ("ruler", 0), ("free",), ("owned", 0))
        self.assertEqual(told, [[2, 0, 1], [0], [-33], [1, 2], [3, 1, 1, 1, 1, 0, 1]])

    def test_with_what_the_ring_holds(self):
        told = ask_behind(self.RING + (("hold", 1, 2, 3, 5),), ("selfruled",), ("free",))
        self.assertEqual(told, [[3, 0, 1, 2], [0]])

    def test_the_quorum_told_anew(self):
        told = ask_behind(self.RING, ("quorum", 61, 100), ("selfruled",), ("free",), ("quorum", 3, 5), ("selfruled",))
        self.assertEqual(told, [[0], [0], [3, 0, 1, 2], [0], [2, 0, 1]])

    def test_three_together_and_none_without_one(self):
        before = (("begin", 1, 3),) + tuple(
            ("hold", 1 + i, j, 3, 10) for i in range(3) for j in range(3) if i != j)
        told = ask_behind(before, ("selfruled",), ("hold", 1, 1, 29, 100), ("selfruled",), ("free",))
        self.assertEqual(told, [[3, 0, 1, 2], [0, 3, 10], [0], [3, 0, 1, 2]])

    def test_left_out_step_by_step(self):
        before = (("begin", 1, 5),) + tuple(("hold", 1 + j, j + 1, 1, 1) for j in range(4))
        told = ask_behind(before, ("selfruled",), ("hold", 5, 0, 3, 5), ("selfruled",))
        self.assertEqual(told, [[0], [0, 0, 1], [5, 0, 1, 2, 3, 4]])

    def test_by_itself_alone_is_not_self_ruled(self):
        before = (("begin", 1, 2), ("hold", 1, 0, 99, 100), ("hold", 2, 1, 1, 1))
        self.assertEqual(ask_behind(before, ("selfruled",), ("free",)), [[0], [2, 0, 1]])

    def test_of_its_votes(self):
        before = (("begin", 1, 2), ("hold", 1, 0, 9, 10), ("hold", 2, 0, 6, 100), ("hold", 1, 1, 3, 5))
        told = ask_behind(before, ("selfruled",), ("hold", 2, 0, 5, 100), ("selfruled",))
        self.assertEqual(told, [[2, 0, 1], [0, 3, 50], [0]])

    def test_votes_of_0_hold_but_are_not_held(self):
        before = (("begin", 1, 2), ("hold", 1, 0, 1, 1), ("hold", 1, 1, 1, 1))
        self.assertEqual(ask_behind(before, ("selfruled",), ("free",)), [[0], [2, 0, 1]])


class Free(unittest.TestCase):
    def test_nobody_holds_anything(self):
        self.assertEqual(ask_behind((("begin", 1, 5),), ("free",)), [[5, 0, 1, 2, 3, 4]])

    def test_ruled_self_ruled_and_free(self):
        before = (
            ("begin", 1, 5), ("hold", 0, 1, 1, 1), ("hold", 2, 4, 3, 5), ("hold", 4, 2, 3, 5), ("hold", 3, 3, 3, 5))
        told = ask_behind(before, ("rules", 0), ("selfruled",), ("free",))
        self.assertEqual(told, [[2, 1, 4], [2, 2, 3], [1, 0]])


if __name__ == "__main__":
    unittest.main()
