"""Point 4: lacking, cheapest, take."""

import unittest

from helper import GREATEST, ask_behind

# Company j is holder 2 + j. Companies 0 and 1 hold 30 of 100 of company 2 each.
TWO_STEPS = (("begin", 2, 3), ("hold", 2, 2, 3, 10), ("hold", 3, 2, 3, 10))


class Lacking(unittest.TestCase):
    def test_the_quorum_less_what_they_hold(self):
        before = (("begin", 2, 1), ("hold", 0, 0, 1, 4))
        told = ask_behind(before, ("lacking", 0, 0), ("lacking", 1, 0), ("quorum", 1, 1), ("lacking", 0, 0))
        self.assertEqual(told, [[0, 7, 20], [0, 3, 5], [0], [0, 3, 4]])

    def test_just_enough_and_more_than_enough(self):
        told = ask_behind(
            (("begin", 1, 1),), ("hold", 0, 0, 59, 100), ("lacking", 0, 0), ("hold", 0, 0, 3, 5), ("lacking", 0, 0),
            ("hold", 0, 0, 1, 1), ("lacking", 0, 0))
        self.assertEqual(told[1::2], [[0, 1, 100], [0, 0, 1], [0, 0, 1]])

    def test_of_its_votes(self):
        before = (("begin", 1, 1), ("hold", 1, 0, 1, 2), ("hold", 0, 0, 1, 10))
        self.assertEqual(ask_behind(before, ("lacking", 0, 0)), [[0, 1, 5]])

    def test_what_companies_hold_that_they_rule(self):
        before = TWO_STEPS + (("hold", 0, 0, 3, 5), ("hold", 1, 1, 1, 1))
        told = ask_behind(before, ("lacking", 0, 2), ("lacking", 1, 2), ("hold", 0, 0, 59, 100), ("lacking", 0, 2))
        self.assertEqual(told, [[0, 3, 10], [0, 3, 10], [0, 3, 5], [0, 3, 5]])

    def test_but_not_itself(self):
        before = (("begin", 1, 2), ("hold", 0, 0, 1, 2), ("hold", 1, 0, 1, 4), ("hold", 2, 0, 1, 4))
        told = ask_behind(before, ("rules", 0), ("lacking", 0, 0), ("hold", 0, 0, 2, 5), ("lacking", 0, 0))
        self.assertEqual(told, [[1, 0], [0, 0, 1], [0, 1, 2], [0, 1, 20]])

    def test_no_votes(self):
        before = (("begin", 1, 1), ("hold", 1, 0, 1, 1))
        self.assertEqual(ask_behind(before, ("lacking", 0, 0)), [[0, 0, 1]])

    def test_no_such_person_or_company(self):
        told = ask_behind(
            TWO_STEPS, ("lacking", 2, 0), ("lacking", 0, 3), ("lacking", GREATEST, 0), ("lacking", 0, GREATEST),
            ("lacking", 1, 2))
        self.assertEqual(told, [[-2]] * 4 + [[0, 3, 5]])


class Cheapest(unittest.TestCase):
    def test_straight(self):
        before = (("begin", 1, 2), ("hold", 0, 1, 1, 10))
        self.assertEqual(ask_behind(before, ("cheapest", 0, 1)), [[1, 50, 1, 1, 1, 2]])

    def test_by_way_of_one_that_holds_it(self):
        before = (("begin", 1, 2), ("hold", 2, 0, 3, 5), ("prices", [100, 99]))
        self.assertEqual(ask_behind(before, ("cheapest", 0, 0)), [[1, 297, 5, 1, 3, 5]])

    def test_by_way_of_two_where_that_costs_less(self):
        told = ask_behind(TWO_STEPS, ("prices", [49, 50, 100]), ("cheapest", 0, 2))
        self.assertEqual(told[1], [2, 297, 5, 0, 3, 5, 1, 3, 5])

    def test_the_rest_of_it_itself(self):
        told = ask_behind(TWO_STEPS, ("prices", [10, 90, 100]), ("cheapest", 0, 2))
        self.assertEqual(told[1], [2, 36, 1, 0, 3, 5, 2, 3, 10])

    def test_of_like_costs_the_fewest_companies(self):
        told = ask_behind(TWO_STEPS, ("prices", [50, 50, 100]), ("cheapest", 0, 2))
        self.assertEqual(told[1], [1, 60, 1, 2, 3, 5])

    def test_of_as_many_companies_the_lesser_number(self):
        before = (("begin", 1, 3), ("hold", 1, 2, 3, 5), ("hold", 3, 1, 3, 5))
        told = ask_behind(before, ("cheapest", 0, 2), ("cheapest", 0, 1), ("cheapest", 0, 0))
        self.assertEqual(told, [[1, 60, 1, 0, 3, 5], [1, 60, 1, 0, 3, 5], [1, 60, 1, 0, 3, 5]])

    def test_the_lesser_number_where_two_first_differ(self):
        before = (("begin", 1, 4),) + tuple(("hold", 1 + i, 3, 3, 10) for i in range(3)) + (("prices", [1, 1, 1, 1000]),)
        told = ask_behind(
            before, ("cheapest", 0, 3), ("prices", [2, 1, 1, 1000]), ("cheapest", 0, 3), ("prices", [1, 2, 1, 1000]),
            ("cheapest", 0, 3))
        self.assertEqual(told[::2], [
            [2, 6, 5, 0, 3, 5, 1, 3, 5], [2, 6, 5, 1, 3, 5, 2, 3, 5], [2, 6, 5, 0, 3, 5, 2, 3, 5],
        ])

    def test_the_greater_number_first_where_that_costs_less(self):
        before = TWO_STEPS + (("hold", 3, 0, 1, 5), ("prices", [10, 10, 1000]))
        self.assertEqual(ask_behind(before, ("cheapest", 0, 2)), [[2, 10, 1, 1, 3, 5, 0, 2, 5]])

    def test_what_is_ruled_with_it_need_not_be_bought(self):
        before = TWO_STEPS + (("hold", 3, 0, 3, 5), ("prices", [0, 10, 1000]))
        told = ask_behind(before, ("cheapest", 0, 2))
        self.assertEqual(told, [[1, 6, 1, 1, 3, 5]])

    def test_three_steps(self):
        before = (
            ("begin", 1, 4), ("hold", 1, 1, 1, 2), ("hold", 2, 2, 1, 2), ("hold", 3, 3, 3, 5),
            ("prices", [1, 10, 100, 1000]))
        told = ask_behind(before, ("cheapest", 0, 3), ("cheapest", 0, 2))
        self.assertEqual(told, [[3, 58, 5, 0, 3, 5, 1, 1, 10, 2, 1, 10]] * 2)

    def test_a_price_of_0(self):
        told = ask_behind(
            TWO_STEPS, ("prices", [0, 100, 100]), ("cheapest", 0, 2), ("prices", [0, 0, 100]), ("cheapest", 0, 2),
            ("prices", [0, 0, 0]), ("cheapest", 0, 2), ("prices", [1, 1, 0]), ("cheapest", 0, 2))
        self.assertEqual(told[1::2], [
            [2, 30, 1, 0, 3, 5, 2, 3, 10], [2, 0, 1, 0, 3, 5, 1, 3, 5], [1, 0, 1, 2, 3, 5], [1, 0, 1, 2, 3, 5],
        ])

    def test_ways_of_price_0_of_the_fewest_companies(self):
        before = (("begin", 1, 3), ("hold", 2, 2, 3, 5), ("hold", 1, 1, 3, 5), ("prices", [0, 0, 1]))
        self.assertEqual(ask_behind(before, ("cheapest", 0, 2)), [[1, 0, 1, 0, 3, 5]])

    def test_the_greatest_price(self):
        before = (("begin", 1, 1), ("prices", [1000]), ("quorum", 1, 1))
        self.assertEqual(ask_behind(before, ("cheapest", 0, 0)), [[1, 1000, 1, 0, 1, 1]])

    def test_already_ruled(self):
        before = (("begin", 2, 2), ("hold", 0, 0, 3, 5), ("hold", 2, 1, 3, 5))
        told = ask_behind(before, ("cheapest", 0, 0), ("cheapest", 0, 1), ("cheapest", 1, 1))
        self.assertEqual(told, [[0, 0, 1], [0, 0, 1], [1, 60, 1, 0, 3, 5]])

    def test_what_is_ruled_already_helps(self):
        before = TWO_STEPS + (("hold", 0, 0, 1, 1), ("prices", [100, 40, 100]))
        told = ask_behind(before, ("cheapest", 0, 2), ("cheapest", 1, 2))
        self.assertEqual(told, [[1, 24, 1, 1, 3, 5], [2, 54, 1, 1, 3, 5, 2, 3, 10]])

    def test_no_votes_no_way(self):
        before = (("begin", 1, 2), ("hold", 1, 0, 1, 1), ("hold", 2, 1, 99, 100))
        told = ask_behind(before, ("cheapest", 0, 0), ("cheapest", 0, 1))
        self.assertEqual(told, [[-33], [1, 3, 5, 1, 3, 500]])

    def test_not_by_way_of_one_with_no_votes(self):
        before = (("begin", 1, 2), ("hold", 1, 0, 1, 1), ("hold", 1, 1, 1, 1), ("prices", [0, 100]))
        self.assertEqual(ask_behind(before, ("cheapest", 0, 1)), [[1, 60, 1, 1, 3, 5]])

    def test_the_quorum_told_anew(self):
        told = ask_behind(
            TWO_STEPS, ("prices", [50, 49, 100]), ("cheapest", 0, 2), ("quorum", 2, 3), ("cheapest", 0, 2))
        self.assertEqual(told[1::2], [[2, 297, 5, 0, 3, 5, 1, 3, 5], [1, 200, 3, 2, 2, 3]])

    def test_changes_nothing(self):
        told = ask_behind(TWO_STEPS, ("cheapest", 0, 2), ("holders", 2), ("rules", 0), ("back",), ("back",), ("back",))
        self.assertEqual(told[1:], [[2, 2, 3, 10, 3, 3, 10], [0], [1], [0], [-6]])

    def test_no_such_person_or_company(self):
        before = (("begin", 2, 3), ("hold", 2, 0, 1, 1))
        told = ask_behind(
            before, ("cheapest", 2, 0), ("cheapest", 0, 3), ("cheapest", GREATEST, 0), ("cheapest", 0, GREATEST),
            ("cheapest", 1, 2), ("cheapest", 1, 0))
        self.assertEqual(told, [[-2]] * 4 + [[1, 60, 1, 2, 3, 5], [-33]])


class Take(unittest.TestCase):
    def test_of_people_first_then_companies_then_what_is_strewn(self):
        before = (
            ("begin", 3, 3), ("hold", 0, 1, 1, 10), ("hold", 2, 1, 1, 10), ("hold", 1, 1, 1, 20), ("hold", 3, 1, 1, 10),
            ("hold", 5, 1, 1, 10), ("hold", 4, 1, 1, 10), ("prices", [1000, 100, 1000]))
        told = ask_behind(before, ("lacking", 1, 1), ("take", 1, 1), ("holders", 1), ("strewn", 1), ("ruler", 1))
        # It has votes of 9 by 10, of which 27 by 50 are the quorum's part; 9 by 100 is bought of what's strewn.
        self.assertEqual(told, [
            [0, 49, 100], [1, 49, 1], [2, 1, 27, 50, 4, 1, 10], [0, 9, 25], [1],
        ])

    def test_as_long_as_some_is_lacking(self):
        before = (("begin", 3, 2), ("hold", 0, 0, 1, 2), ("hold", 1, 0, 3, 10), ("hold", 4, 0, 1, 5))
        told = ask_behind(before, ("take", 2, 0), ("holders", 0), ("back",), ("take", 1, 0), ("holders", 0))
        self.assertEqual(told, [
            [1, 60, 1], [3, 1, 1, 5, 2, 3, 5, 4, 1, 5], [3], [1, 30, 1], [3, 0, 1, 5, 1, 3, 5, 4, 1, 5],
        ])

    def test_just_all_of_one(self):
        before = (("begin", 3, 1), ("hold", 0, 0, 3, 5), ("hold", 1, 0, 2, 5))
        self.assertEqual(ask_behind(before, ("take", 2, 0), ("holders", 0)), [[1, 60, 1], [2, 1, 2, 5, 2, 3, 5]])

    def test_companies_by_their_numbers(self):
        before = (("begin", 1, 3), ("hold", 3, 0, 2, 5), ("hold", 2, 0, 2, 5), ("prices", [10, 100, 100]))
        self.assertEqual(
            ask_behind(before, ("take", 0, 0), ("holders", 0), ("strewn", 0)),
            [[1, 6, 1], [2, 0, 3, 5, 3, 1, 5], [0, 1, 5]])

    def test_not_of_companies_that_they_rule(self):
        before = (
            ("begin", 2, 3), ("hold", 0, 0, 1, 1), ("hold", 2, 2, 1, 5), ("hold", 3, 2, 1, 2), ("hold", 1, 2, 1, 10))
        told = ask_behind(before, ("take", 0, 2), ("holders", 2), ("strewn", 2))
        self.assertEqual(told, [[1, 40, 1], [3, 0, 2, 5, 2, 1, 5, 3, 1, 5], [0, 1, 5]])

    def test_not_of_those_that_they_rule_by_then(self):
        told = ask_behind(
            TWO_STEPS + (("hold", 1, 2, 1, 10),), ("prices", [10, 90, 100]), ("take", 0, 2), ("holders", 0),
            ("holders", 2), ("ruler", 2), ("strewn", 2))
        self.assertEqual(told[1:], [
            [2, 36, 1], [1, 0, 3, 5], [3, 0, 3, 10, 2, 3, 10, 3, 1, 10], [0], [0, 3, 10],
        ])

    def test_nothing_of_what_it_holds_of_itself(self):
        before = (("begin", 1, 1), ("hold", 1, 0, 1, 2), ("quorum", 1, 1))
        told = ask_behind(before, ("take", 0, 0), ("holders", 0), ("ruler", 0))
        self.assertEqual(told, [[1, 50, 1], [2, 0, 1, 2, 1, 1, 2], [0]])

    def test_all_of_it(self):
        before = (("begin", 2, 1), ("hold", 1, 0, 1, 3), ("quorum", 1, 1))
        self.assertEqual(ask_behind(before, ("take", 0, 0), ("holders", 0)), [[1, 100, 1], [1, 0, 1, 1]])

    def test_of_the_one_that_ruled_it(self):
        before = (("begin", 2, 2), ("hold", 0, 0, 1, 1), ("hold", 2, 1, 1, 1), ("prices", [100, 10]))
        told = ask_behind(before, ("take", 1, 1), ("ruler", 1), ("ruler", 0), ("holders", 1))
        self.assertEqual(told, [[1, 6, 1], [1], [0], [2, 1, 3, 5, 2, 2, 5]])

    def test_already_ruled_is_no_change(self):
        before = (("begin", 2, 2), ("hold", 0, 0, 3, 5), ("hold", 2, 1, 3, 5))
        told = ask_behind(before, ("take", 0, 1), ("take", 0, 0), ("holders", 1), ("back",), ("back",), ("back",))
        self.assertEqual(told, [[0, 0, 1], [0, 0, 1], [1, 2, 3, 5], [1], [0], [-6]])

    def test_several_companies_are_one_change(self):
        told = ask_behind(
            TWO_STEPS, ("prices", [49, 50, 100]), ("take", 0, 2), ("rules", 0), ("back",), ("holders", 0), ("rules", 0))
        self.assertEqual(told[1:], [[2, 297, 5], [3, 0, 1, 2], [2], [0], [0]])

    def test_no_such_person_or_company(self):
        before = (("begin", 2, 3), ("hold", 2, 0, 1, 1))
        told = ask_behind(
            before, ("take", 2, 0), ("take", 0, 3), ("take", GREATEST, 0), ("take", 0, GREATEST), ("back",), ("back",))
        self.assertEqual(told, [[-2]] * 4 + [[0], [-6]])
        self.assertEqual(ask_behind(before, ("take", 1, 2)), [[1, 60, 1]])

    def test_no_way(self):
        before = (("begin", 1, 1), ("hold", 1, 0, 1, 1))
        told = ask_behind(
            before, ("take", 0, 0), ("holders", 0), ("hold", 1, 0, 99, 100), ("take", 0, 0), ("holders", 0))
        self.assertEqual(told, [
            [-33], [1, 1, 1, 1], [0, 1, 1], [1, 3, 5], [2, 0, 3, 500, 1, 99, 100],
        ])


if __name__ == "__main__":
    unittest.main()
