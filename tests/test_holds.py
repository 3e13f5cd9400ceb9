"""Point 6 over many made-up registers, and what is told of each against the words worked out another way."""

import unittest
from fractions import Fraction

from helper import (
    ask_behind, books, cheapest, come_out, everything, fractions_in, handed, holding, made_up, pair, pairs, parts_of,
    reach, ruled, self_ruled, settled, taken)

PRICES = ([100] * 5, [0, 1, 2, 3, 4], [1, 1, 1, 1, 50], [1000, 0, 7, 0, 7], [50, 1, 1, 1, 1], [9, 8, 7, 6, 5])


class MadeUp(unittest.TestCase):
    SEEDS = range(400)

    def test_who_really_owns(self):
        some_lost = 0
        for seed in self.SEEDS:
            m, n, calls = made_up(seed)
            parts = parts_of(calls, m, n)
            reals = [reach(parts, m, n, [row[p] for row in parts]) for p in range(m)]
            strewn = reach(parts, m, n, [1 - sum(row) for row in parts])
            lost = [1 - strewn[j] - sum(real[j] for real in reals) for j in range(n)]
            some_lost += any(lost)
            with self.subTest(seed=seed):
                self.assertEqual(
                    ask_behind(calls, *[("owned", p) for p in range(m)]),
                    [[n] + sum(map(pair, real), []) for real in reals])
                self.assertEqual(
                    ask_behind(calls, *[("realstrewn", j) for j in range(n)]), [[0] + pair(part) for part in strewn])
                self.assertEqual(
                    ask_behind(calls, *[("lost", j) for j in range(n)]), [[0] + pair(part) for part in lost])
                rings = [j for j in range(n) if lost[j] > 0]
                closed = [j for j in range(n) if j not in come_out(parts, m, n)]
                self.assertEqual(
                    ask_behind(calls, ("rings",), ("closed",)), [[len(rings)] + rings, [len(closed)] + closed])
                for j in range(n):
                    best = max(range(m), key=lambda p: (reals[p][j], -p))
                    answer = [best] + pair(reals[best][j]) if reals[best][j] else [-33]
                    self.assertEqual(ask_behind(calls, ("greatest", j)), [answer])
        self.assertGreater(some_lost, 50)

    def test_who_rules(self):
        seen = [0, 0]
        for seed in self.SEEDS:
            m, n, calls = made_up(seed)
            parts = parts_of(calls, m, n)
            quorum = (Fraction(3, 5), Fraction(51, 100), Fraction(1))[seed % 3]
            calls = calls + [("quorum", quorum.numerator, quorum.denominator)]
            by_people = [ruled(parts, m, n, quorum, (p,)) for p in range(m)]
            themselves = self_ruled(parts, m, n, quorum)
            free = [j for j in range(n) if j not in themselves + sum(by_people, [])]
            seen[0] += any(by_people)
            seen[1] += bool(themselves)
            with self.subTest(seed=seed):
                told = ask_behind(calls, *[("rules", p) for p in range(m)], ("selfruled",), ("free",))
                self.assertEqual(told, [[len(some)] + some for some in by_people + [themselves, free]])
                rulers = [[p] for j in range(n) for p in range(m) if j in by_people[p]]
                told = [ask_behind(calls, ("ruler", j))[0] for j in range(n)]
                self.assertEqual([answer for answer in told if answer != [-33]], rulers)
                self.assertEqual(
                    [j for j in range(n) if told[j] == [-33]], sorted(free + themselves))
        self.assertGreater(min(seen), 20)

    def test_the_cheapest_way_and_what_is_held_behind_it(self):
        steps = [0] * 6
        for seed in range(60):
            m, n, calls = made_up(seed)
            parts = parts_of(calls, m, n)
            quorum = (Fraction(3, 5), Fraction(51, 100), Fraction(9, 10))[seed % 3]
            prices = PRICES[seed % 6][:n]
            calls = calls + [("quorum", quorum.numerator, quorum.denominator), ("prices", prices)]
            for p, j in ((p, j) for p in range(m) for j in range(n)):
                way = cheapest(parts, m, n, quorum, prices, p, j)
                told = ask_behind(calls, ("cheapest", p, j), ("take", p, j), *[("holders", i) for i in range(n)])
                with self.subTest(seed=seed, p=p, j=j):
                    if way is None:
                        self.assertEqual(told[:2], [[-33], [-33]])
                        continue
                    steps[way[1]] += 1
                    self.assertEqual(told[1], [way[1], *pairs([way[0]])])
                    self.assertEqual(told[0], told[1] + sum([[i] + pair(part) for i, part in zip(*way[2:])], []))
                    self.assertEqual(told[2:], laid_out(taken(parts, m, n, quorum, p, way[2])))
        self.assertGreater(min(steps[:3]), 10, steps)

    def test_handed_out_and_settled(self):
        for seed in range(200):
            m, n, calls = made_up(seed)
            parts = parts_of(calls, m, n)
            with self.subTest(seed=seed):
                for i in range(n):
                    told = ask_behind(calls, ("hand", i), *[("holders", j) for j in range(n)])
                    if parts[i][m + i] == 1:
                        self.assertEqual(told, [[-33]] + laid_out(parts))
                    else:
                        self.assertEqual(told[1:], laid_out(handed(parts, m, i)))
                told = ask_behind(calls, ("settle",), *[("holders", j) for j in range(n)])
                self.assertEqual(told, [[len(holding(settled(parts, m), m))]] + laid_out(settled(parts, m)))

    def test_books(self):
        untold = 0
        for seed in self.SEEDS:
            m, n, calls = made_up(seed)
            wealth = [1000, 0, 3, 77, 500][:n]
            found = books(parts_of(calls, m, n), m, wealth)
            untold += found is None
            told = ask_behind(calls, ("own", wealth), ("books",), ("closed",))
            self.assertEqual(told[1], [-33] if found is None else [n] + pairs(found))
            self.assertEqual(found is None, told[2][0] > 0)
        self.assertGreater(untold, 50)


def laid_out(parts):
    """What holders answers of each company."""
    rows = [[[h] + pair(part) for h, part in enumerate(row) if part] for row in parts]
    return [[len(row)] + sum(row, []) for row in rows]


def made_up_own(seed):
    m, n, calls = made_up(seed)
    return m, n, calls + [("own", [(seed * 37 + 101 * j) % 1001 for j in range(n)])]


class WhatHolds(unittest.TestCase):
    def changes(self, m, n):
        return [(), (("cancel", n - 1),), (("hand", 0),), (("settle",),), (("take", m - 1, 0),), (("take", 0, n - 1),)]

    def test_really_owned_strewn_and_lost_are_1(self):
        for seed in range(400, 480):
            m, n, calls = made_up(seed)
            for change in self.changes(m, n):
                for j in range(n):
                    questions = [("real", p, j) for p in range(m)] + [("realstrewn", j), ("lost", j)]
                    told = ask_behind(calls, *change, *questions)[len(change):]
                    self.assertEqual(sum(fractions_in(answer[1:])[0] for answer in told), 1)
                    self.assertEqual([answer[0] for answer in told], [0] * (m + 2))

    def test_people_are_worth_the_same_by_books_and_by_real_parts(self):
        told_by_books = 0
        for seed in range(400, 600):
            m, n, calls = made_up_own(seed)
            for change in self.changes(m, n):
                told = ask_behind(calls, *change, ("worths",), ("bookworths",))[len(change):]
                if told[1] != [-33]:
                    told_by_books += 1
                    self.assertEqual(told[1], told[0])
        self.assertGreater(told_by_books, 500)

    def test_untied_nobody_gains_or_loses(self):
        for seed in range(400, 500):
            m, n, calls = made_up_own(seed)
            questions = [("worths",)] + [("owned", p) for p in range(m)] + [("realstrewn", j) for j in range(n)]
            before = ask_behind(calls, *questions)
            for change in [("settle",)] + [(name, i) for name in ("cancel", "hand") for i in range(n)]:
                self.assertEqual(ask_behind(calls, change, *questions)[1:], before)

    def test_taken_it_is_ruled_by_who_took_it(self):
        for seed in range(500, 600):
            m, n, calls = made_up(seed)
            calls = calls + [("prices", PRICES[seed % 6][:n])]
            for p, j in ((p, j) for p in range(m) for j in range(n)):
                told = ask_behind(calls, ("cheapest", p, j), ("take", p, j), ("ruler", j), ("votes", j), ("lacking", p, j))
                if told[1] == [-33]:
                    self.assertEqual(told[3], [0, 0, 1])
                else:
                    self.assertEqual(told[1], told[0][:3])
                    self.assertEqual(told[2:3] + told[4:], [[p], [0, 0, 1]])

    def test_nobody_is_ruled_by_two(self):
        for seed in range(500, 600):
            m, n, calls = made_up(seed)
            calls = calls + [("quorum", 51, 100)]
            for change in self.changes(m, n):
                told = ask_behind(calls, *change, *[("rules", p) for p in range(m)], ("selfruled",))[len(change):]
                companies = [j for answer in told for j in answer[1:]]
                self.assertEqual(len(companies), len(set(companies)))

    def test_settled_each_has_straight_what_they_really_owned(self):
        nothing_lost = 0
        for seed in range(600, 800):
            m, n, calls = made_up(seed)
            reals = [("real", p, j) for p in range(m) for j in range(n)]
            parts = [("part", p, j) for p in range(m) for j in range(n)]
            told = ask_behind(calls, ("rings",), *reals, ("settle",), *parts, ("plain",), ("holding",))
            if told[0] == [0]:
                nothing_lost += 1
                self.assertEqual(told[len(reals) + 1], [0])
                self.assertEqual(told[len(reals) + 2:-2], told[1:len(reals) + 1])
                self.assertEqual(told[-2:], [[1], [0]])
            self.assertEqual(told[len(reals) + 1], told[-1][:1])
        self.assertGreater(nothing_lost, 50)

    def test_taken_back_all_is_as_it_was(self):
        for seed in range(600, 700):
            m, n, calls = made_up(seed)
            before = ask_behind(calls, *everything(m, n))
            for change in self.changes(m, n)[1:]:
                told = ask_behind(calls, *change, *everything(m, n))
                if told[1:] != before:
                    told = ask_behind(calls, *change, ("back",), *everything(m, n))
                    self.assertEqual(told[2:], before)


if __name__ == "__main__":
    unittest.main()
