"""Point 6, and every answer against the document's words, worked out another way on many made-up registers."""

import random
import unittest
from fractions import Fraction
from itertools import combinations

from helper import GREATEST, ask_behind

LOWERS = (1, 2, 3, 4, 5, 6, 10, 12, 20, 97, 100)


def made_up(seed):
    """Calls of a begin and holds; about every third company is wholly held, many by companies alone."""
    chance = random.Random(seed)
    m = chance.randint(1, 4)
    n = chance.randint(1, 5)
    calls = [("begin", m, n)]
    for j in range(n):
        left = Fraction(1)
        first = m if chance.random() < 0.5 else 0
        holders = chance.sample(range(first, m + n), chance.randint(0, m + n - first))
        for h in holders:
            b = chance.choice(LOWERS)
            a = chance.randint(0, min(b, int(left * b)))
            calls.append(("hold", h, j, a, b))
            left -= Fraction(a, b)
        if holders and left.denominator <= 100 and chance.random() < 0.6:
            last = parts_of(calls, m, n)[j][holders[-1]] + left
            if last.denominator <= 100:
                calls.append(("hold", holders[-1], j, last.numerator, last.denominator))
    return m, n, calls


def parts_of(calls, m, n):
    parts = [[Fraction(0)] * (m + n) for j in range(n)]
    for name, *given in calls:
        if name == "hold":
            h, j, a, b = given
            parts[j][h] = Fraction(a, b)
    return parts


def pair(fraction):
    return [fraction.numerator, fraction.denominator]


def come_out(parts, m, n):
    """The companies from which some comes to a person or is strewn, in however many steps."""
    out = set()
    for step in range(n + 1):
        for j in range(n):
            stays = sum(parts[j][m:]) < 1
            if stays or any(parts[j][m + i] > 0 for i in out):
                out.add(j)
    return sorted(out)


def solved(matrix, right):
    """Gauss, with the first row that fits put on top."""
    rows = [list(row) + [value] for row, value in zip(matrix, right)]
    for c in range(len(rows)):
        top = next(r for r in range(c, len(rows)) if rows[r][c] != 0)
        rows[c], rows[top] = rows[top], rows[c]
        rows[c] = [value / rows[c][c] for value in rows[c]]
        for r in range(len(rows)):
            if r != c:
                rows[r] = [x - rows[r][c] * y for x, y in zip(rows[r], rows[c])]
    return [row[-1] for row in rows]


def reach(parts, m, n, straight):
    """Of each company what comes to where straight tells how much goes in one step."""
    out = come_out(parts, m, n)
    matrix = [[int(i == j) - parts[j][m + i] for i in out] for j in out]
    found = dict(zip(out, solved(matrix, [straight[j] for j in out])))
    return [found.get(j, Fraction(0)) for j in range(n)]


def subsets(n):
    return [set(chosen) for size in range(n + 1) for chosen in combinations(range(n), size)]


def quorate(parts, m, quorum, j, people, companies):
    votes = 1 - parts[j][m + j]
    held = sum(parts[j][p] for p in people) + sum(parts[j][m + i] for i in companies if i != j)
    return votes > 0 and held >= quorum * votes


def ruled(parts, m, n, quorum, people):
    """The fewest companies to which none can be added."""
    for chosen in subsets(n):
        if all(j in chosen or not quorate(parts, m, quorum, j, people, chosen) for j in range(n)):
            return sorted(chosen)
    raise AssertionError("all companies together can't be added to")


def self_ruled(parts, m, n, quorum):
    for chosen in reversed(subsets(n)):
        if all(quorate(parts, m, quorum, j, (), chosen) for j in chosen):
            return sorted(chosen)
    raise AssertionError("none at all rule themselves")


class MadeUp(unittest.TestCase):
    SEEDS = range(400)

    def test_who_really_owns(self):
        some_lost = 0
        for seed in self.SEEDS:
            m, n, calls = made_up(seed)
            parts = parts_of(calls, m, n)
            reals = [reach(parts, m, n, [row[p] for row in parts]) for p in range(m)]
            strewn = reach(parts, m, n, [1 - sum(row) for row in parts])
            lost = [1 - strewn[j] - sum(real[j] for real in reals) for j in range(n)]
            some_lost += any(lost)
            with self.subTest(seed=seed):
                self.assertEqual(
                    ask_behind(calls, *[("owned", p) for p in range(m)]),
                    [[n] + sum(map(pair, real), []) for real in reals])
                self.assertEqual(
                    ask_behind(calls, *[("realstrewn", j) for j in range(n)]), [[0] + pair(part) for part in strewn])
                self.assertEqual(
                    ask_behind(calls, *[("lost", j) for j in range(n)]), [[0] + pair(part) for part in lost])
                rings = [j for j in range(n) if lost[j] > 0]
                closed = [j for j in range(n) if j not in come_out(parts, m, n)]
                self.assertEqual(
                    ask_behind(calls, ("rings",), ("closed",)), [[len(rings)] + rings, [len(closed)] + closed])
                for j in range(n):
                    best = max(range(m), key=lambda p: (reals[p][j], -p))
                    answer = [best] + pair(reals[best][j]) if reals[best][j] else [-33]
                    self.assertEqual(ask_behind(calls, ("greatest", j)), [answer])
        self.assertGreater(some_lost, 50)

    def test_who_rules(self):
        seen = [0, 0]
        for seed in self.SEEDS:
            m, n, calls = made_up(seed)
            parts = parts_of(calls, m, n)
            quorum = (Fraction(3, 5), Fraction(51, 100), Fraction(1))[seed % 3]
            calls = calls + [("quorum", quorum.numerator, quorum.denominator)]
            by_people = [ruled(parts, m, n, quorum, (p,)) for p in range(m)]
            themselves = self_ruled(parts, m, n, quorum)
            free = [j for j in range(n) if j not in themselves + sum(by_people, [])]
            seen[0] += any(by_people)
            seen[1] += bool(themselves)
            with self.subTest(seed=seed):
                told = ask_behind(calls, *[("rules", p) for p in range(m)], ("selfruled",), ("free",))
                self.assertEqual(told, [[len(some)] + some for some in by_people + [themselves, free]])
                rulers = [[p] for j in range(n) for p in range(m) if j in by_people[p]]
                told = [ask_behind(calls, ("ruler", j))[0] for j in range(n)]
                self.assertEqual([answer for answer in told if answer != [-33]], rulers)
                self.assertEqual(
                    [j for j in range(n) if told[j] == [-33]], sorted(free + themselves))
        self.assertGreater(min(seen), 20)


class WhatHolds(unittest.TestCase):
    def test_really_owned_strewn_and_lost_are_1(self):
        for seed in range(400, 500):
            m, n, calls = made_up(seed)
            for j in range(n):
                told = ask_behind(calls, *[("real", p, j) for p in range(m)], ("realstrewn", j), ("lost", j))
                self.assertEqual(sum(Fraction(upper, lower) for first, upper, lower in told), 1)

    def test_nobody_is_ruled_by_two(self):
        for seed in range(500, 600):
            m, n, calls = made_up(seed)
            calls = calls + [("quorum", 51, 100)]
            told = ask_behind(calls, *[("rules", p) for p in range(m)], ("selfruled",))
            companies = [j for answer in told for j in answer[1:]]
            self.assertEqual(len(companies), len(set(companies)))

    def test_what_is_refused_changes_nothing(self):
        refused = (
            ("hold", 0, 0, 1, 101), ("hold", 0, 0, 2, 1), ("hold", 9, 0, 0, 1), ("hold", 0, GREATEST, 0, 1),
            ("hold", 0, 0, 0, 0), ("begin", 5, 1), ("begin", 0, 0), ("quorum", 1, 2), ("quorum", 3, 2), ("prices", []),
            ("prices", [1001]), ("real", 9, 0), ("ruler", 9), ("rules", 9), ("votes", 9), ("greatest", 9),
        )
        for seed in range(600, 620):
            m, n, calls = made_up(seed)
            questions = [("state",), ("rings",), ("closed",), ("selfruled",), ("free",), ("owned", m - 1), ("rules", 0)]
            questions += [("holders", j) for j in range(n)]
            before = ask_behind(calls, *questions)
            for call in refused:
                told = ask_behind(calls, call, *questions)
                self.assertEqual(len(told[0]), 1)
                self.assertLess(told[0][0], 0)
                self.assertEqual(told[1:], before)

    def test_a_hold_of_too_much_changes_nothing(self):
        calls = (("begin", 2, 2), ("hold", 0, 0, 1, 3), ("hold", 3, 0, 1, 3), ("hold", 2, 1, 1, 1))
        questions = (("holders", 0), ("holders", 1), ("owned", 0), ("strewn", 0))
        before = ask_behind(calls, *questions)
        for call in (("hold", 0, 0, 67, 100), ("hold", 1, 0, 1, 1), ("hold", 0, 1, 1, 100)):
            told = ask_behind(calls, call, *questions)
            self.assertEqual(told, [[-33]] + before)


if __name__ == "__main__":
    unittest.main()
