"""How calls are read and answers laid out; before a begin; begin again; nothing kept or changed."""

import unittest

from helper import GREATEST, NAMES, ask, flat
from wholeowns.registers import answers

ARGUMENTS = {
    "hold": (0, 0, 1, 2), "part": (0, 0), "strewn": (0,), "real": (0, 0), "realstrewn": (0,), "lost": (0,),
    "greatest": (0,), "owned": (0,), "holders": (0,), "quorum": (2, 3), "prices": ([7],), "votes": (0,),
    "rules": (0,), "ruler": (0,), "together": (1,), "least": (0,), "weight": (0, 0), "cheapest": (0, 0),
    "lacking": (0, 0), "sell": (0, 1, 0, 1, 2), "cancel": (0,), "hand": (0,), "inring": (0,),
    "wouldhand": (0, 0), "own": ([7],), "take": (0, 0),
}
# Where nobody holds anything nobody owns or rules, and nothing can be sold.
NONE_THERE = ("greatest", "ruler", "sell")
EVERY_OTHER = [(name, *ARGUMENTS.get(name, ())) for name in NAMES[1:]]


class Layout(unittest.TestCase):
    def test_numbers_as_they_stand(self):
        calls = [0, 1, 2, 1, 0, 1, 2, 4, 14, 2, 5, 6, 2, 0, 1, 12, 7]
        self.assertEqual(answers(calls), [1, 0, 3, 0, 0, 1, 1, 0, 3, 0, 1, 2, 2, 1, 2, 1, 0])

    def test_a_call_alone(self):
        self.assertEqual(answers([0, 1, 1]), [1, 0])
        self.assertEqual(answers([12]), [1, -11])

    def test_a_refusal_stands_alone(self):
        self.assertEqual(answers([0, 1, 1, 2, 9, 9]), [1, 0, 1, -2])

    def test_rows_of_any_length_are_read_to_their_end(self):
        for length in (0, 1, 2, 5, 255):
            for number in (14, 32):
                calls = [number, length] + [38] * length + [0, 2, 3, 12]
                self.assertEqual(answers(calls), [1, -11, 1, 0, 2, 2, 3])

    def test_each_call_is_read_to_its_end(self):
        for name, *given in EVERY_OTHER:
            great = [[GREATEST] * 3 if isinstance(value, list) else GREATEST for value in given]
            told = ask((name, *great), ("begin", 2, 3), ("state",))
            self.assertEqual(told, [[-11], [0], [2, 3]], name)

    def test_fifty_calls(self):
        calls = [("begin", 4, 5)] + [("state",)] * 49
        self.assertEqual(ask(*calls), [[0]] + [[4, 5]] * 49)

    def test_whole_numbers_alone(self):
        told = answers(flat(("begin", 1, 1), *EVERY_OTHER, ("inring", 0), ("plain",), ("begin", 9, 9)))
        self.assertIs(type(told), list)
        self.assertEqual({type(number) for number in told}, {int})

    def test_every_call_behind_a_begin(self):
        before = (("begin", 2, 1),)
        for name, *given in EVERY_OTHER:
            answer, state = ask(*before, (name, *given), ("state",))[1:]
            self.assertIn(answer[0], [-6] if name == "back" else [-33] if name in NONE_THERE else [0, 1, 2, 3], name)
            self.assertEqual(state, [2, 1])


class Begin(unittest.TestCase):
    def test_every_other_call_before_a_begin(self):
        self.assertEqual(len(EVERY_OTHER), 38)
        self.assertEqual(ask(*EVERY_OTHER), [[-11]] * 38)

    def test_before_a_begin_comes_ahead_of_what_is_wrong(self):
        told = ask(("part", GREATEST, GREATEST), ("quorum", 0, 0), ("prices", []), ("hold", 9, 9, 9, 0))
        self.assertEqual(told, [[-11]] * 4)

    def test_fewest_and_most(self):
        for m in range(1, 5):
            for n in range(1, 6):
                self.assertEqual(ask(("begin", m, n), ("state",)), [[0], [m, n]])

    def test_too_few_and_too_many(self):
        for m, n in ((0, 1), (1, 0), (0, 0), (5, 1), (1, 6), (5, 6), (GREATEST, 1), (1, GREATEST), (4, 6), (5, 5)):
            self.assertEqual(ask(("begin", m, n), ("state",)), [[-22], [-11]])

    def test_a_refused_begin_is_no_begin(self):
        told = ask(("begin", 0, 1), *EVERY_OTHER)
        self.assertEqual(told, [[-22]] + [[-11]] * 38)

    def test_a_refused_begin_changes_nothing(self):
        told = ask(
            ("begin", 2, 3), ("hold", 1, 2, 3, 4), ("quorum", 4, 5), ("begin", 5, 3), ("begin", 2, 6), ("state",),
            ("part", 1, 2), ("rules", 1),
        )
        self.assertEqual(told[3:], [[-22], [-22], [2, 3], [0, 3, 4], [0]])

    def test_a_begin_again_is_new(self):
        told = ask(
            ("begin", 1, 2), ("hold", 0, 0, 1, 1), ("quorum", 1, 1), ("begin", 2, 1), ("state",), ("part", 0, 0),
            ("strewn", 0), ("part", 2, 0), ("part", 3, 0), ("part", 0, 1), ("hold", 0, 0, 3, 5), ("rules", 0),
        )
        self.assertEqual(told[3:], [
            [0], [2, 1], [0, 0, 1], [0, 1, 1], [0, 0, 1], [-2], [-2], [0, 0, 1], [1, 0],
        ])


class NothingKept(unittest.TestCase):
    CALLS = flat(
        ("begin", 2, 2), ("hold", 0, 0, 1, 2), ("hold", 3, 0, 1, 2), ("hold", 2, 1, 1, 4), ("quorum", 1, 1),
        ("prices", [3, 4]), ("own", [5, 6]), ("real", 0, 0), ("rings",), ("holders", 0), ("free",), ("books",),
        ("worths",), ("bookworths",), ("together", 3), ("least", 0), ("weight", 0, 0), ("lacking", 0, 0),
        ("cheapest", 0, 0), ("wouldhand", 0, 1), ("inring", 0), ("holding",), ("plain",), ("sell", 0, 1, 0, 1, 7),
        ("take", 1, 0), ("back",), ("cancel", 0), ("hand", 0), ("settle",), ("back",), ("take", 0, 1), ("holders", 1),
    )

    def test_what_is_handed_in_is_not_changed(self):
        calls = list(self.CALLS)
        answers(calls)
        self.assertEqual(calls, self.CALLS)

    def test_not_for_a_while_either(self):
        class Watched(list):
            def refuse(self, *given):
                raise AssertionError("changed")

            append = extend = insert = pop = remove = clear = sort = reverse = refuse
            __setitem__ = __delitem__ = __iadd__ = __imul__ = refuse

        self.assertEqual(answers(Watched(self.CALLS)), answers(self.CALLS))

    def test_each_time_as_if_the_first(self):
        first = answers(self.CALLS)
        self.assertEqual(answers([12]), [1, -11])
        self.assertEqual(answers(self.CALLS), first)

    def test_what_is_given_back_is_not_kept(self):
        first = answers(self.CALLS)
        kept = list(first)
        first.clear()
        self.assertEqual(answers(self.CALLS), kept)


if __name__ == "__main__":
    unittest.main()
