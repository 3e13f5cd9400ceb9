"""Whole lines of made-up calls, each answer against the document's words worked out another way."""

import random
import unittest
from fractions import Fraction

from helper import (
    GREATEST, LOWERS, NAMES, ask, books, cancelled, cheapest, come_out, handed, holding, lacking, made_up, pair,
    pairs, reach, ruled, self_ruled, settled, taken)

MOST_LOWER = 10 ** 40


class Refused(Exception):
    pass


def refuse_if(wrong, number):
    if wrong:
        raise Refused(number)


class Other:
    """The object of the document, another way: parts are kept as Fractions, and whole tables are replaced."""

    def __init__(self):
        self.begun = False

    def answer(self, name, *given):
        try:
            refuse_if(name != "begin" and not self.begun, -11)
            return getattr(self, "do_" + name)(*given)
        except Refused as e:
            return [e.args[0]]

    def people(self, *some):
        refuse_if(any(p >= self.m for p in some), -2)

    def companies(self, *some):
        refuse_if(any(j >= self.n for j in some), -2)

    def holders(self, *some):
        refuse_if(any(h >= self.m + self.n for h in some), -2)

    def become(self, parts):
        if parts != self.parts:
            self.past = self.past[-9:] + [self.parts]
            self.parts = parts

    def become_if_small(self, parts):
        refuse_if(any(part.denominator > MOST_LOWER for row in parts for part in row), -75)
        self.become(parts)

    def each(self, given):
        refuse_if(len(given) != self.n or any(number > 1000 for number in given), -22)

    def ruled(self, *people):
        return ruled(self.parts, self.m, self.n, self.quorum, people)

    def lot(self, s):
        return [p for p in range(self.m) if s // 2 ** p % 2]

    def rulers(self, j):
        return [s for s in range(2 ** self.m) if j in self.ruled(*self.lot(s))]

    def do_begin(self, m, n):
        refuse_if(m not in range(1, 5) or n not in range(1, 6), -22)
        self.begun, self.m, self.n, self.past = True, m, n, []
        self.parts = [[Fraction(0)] * (m + n) for j in range(n)]
        self.quorum, self.prices, self.wealth = Fraction(3, 5), [100] * n, [0] * n
        return [0]

    def do_hold(self, h, j, a, b):
        self.holders(h)
        self.companies(j)
        refuse_if(b not in range(1, 101) or a > b, -22)
        parts = [list(row) for row in self.parts]
        parts[j][h] = Fraction(a, b)
        refuse_if(sum(parts[j]) > 1, -33)
        before = self.parts[j][h]
        self.become(parts)
        return [0] + pair(before)

    def do_part(self, h, j):
        self.holders(h)
        self.companies(j)
        return [0] + pair(self.parts[j][h])

    def do_strewn(self, j):
        self.companies(j)
        return [0] + pair(1 - sum(self.parts[j]))

    def really(self, p):
        return reach(self.parts, self.m, self.n, [row[p] for row in self.parts])

    def in_the_end(self):
        return reach(self.parts, self.m, self.n, [1 - sum(row) for row in self.parts])

    def lost(self):
        reals = [self.really(p) for p in range(self.m)] + [self.in_the_end()]
        return [1 - sum(row[j] for row in reals) for j in range(self.n)]

    def do_real(self, p, j):
        self.people(p)
        self.companies(j)
        return [0] + pair(self.really(p)[j])

    def do_realstrewn(self, j):
        self.companies(j)
        return [0] + pair(self.in_the_end()[j])

    def do_lost(self, j):
        self.companies(j)
        return [0] + pair(self.lost()[j])

    def count(self, some):
        return [len(some)] + some

    def do_rings(self):
        return self.count([j for j, part in enumerate(self.lost()) if part > 0])

    def do_closed(self):
        return self.count(sorted(set(range(self.n)) - set(come_out(self.parts, self.m, self.n))))

    def do_greatest(self, j):
        self.companies(j)
        best = max(range(self.m), key=lambda p: (self.really(p)[j], -p))
        refuse_if(self.really(best)[j] == 0, -33)
        return [best] + pair(self.really(best)[j])

    def do_owned(self, p):
        self.people(p)
        return [self.n] + pairs(self.really(p))

    def do_holders(self, j):
        self.companies(j)
        some = [[h] + pair(part) for h, part in enumerate(self.parts[j]) if part]
        return [len(some)] + sum(some, [])

    def do_state(self):
        return [self.m, self.n]

    def do_quorum(self, a, b):
        refuse_if(b not in range(1, 101) or a > b or Fraction(a, b) <= Fraction(1, 2), -22)
        self.quorum = Fraction(a, b)
        return [0]

    def do_prices(self, given):
        self.each(given)
        self.prices = given
        return [0]

    def do_own(self, given):
        self.each(given)
        self.wealth = given
        return [0]

    def do_votes(self, j):
        self.companies(j)
        return [0] + pair(1 - self.parts[j][self.m + j])

    def do_rules(self, p):
        self.people(p)
        return self.count(self.ruled(p))

    def do_ruler(self, j):
        self.companies(j)
        found = [p for p in range(self.m) if j in self.ruled(p)]
        refuse_if(not found, -33)
        return found

    def do_selfruled(self):
        return self.count(self_ruled(self.parts, self.m, self.n, self.quorum))

    def do_free(self):
        others = set(self_ruled(self.parts, self.m, self.n, self.quorum))
        return self.count(sorted(set(range(self.n)).difference(others, *[self.ruled(p) for p in range(self.m)])))

    def do_together(self, s):
        refuse_if(s >= 2 ** self.m, -22)
        return self.count(self.ruled(*self.lot(s)))

    def do_least(self, j):
        self.companies(j)
        sets = [set(self.lot(s)) for s in self.rulers(j)]
        least = [some for some in sets if not any(other < some for other in sets)]
        return self.count(sorted(sum(2 ** p for p in some) for some in least))

    def do_weight(self, p, j):
        self.people(p)
        self.companies(j)
        sets = self.rulers(j)
        return [sum(s not in sets and s + 2 ** p in sets for s in range(2 ** self.m) if p not in self.lot(s))]

    def do_lacking(self, p, j):
        self.people(p)
        self.companies(j)
        return [0] + pair(lacking(self.parts, self.m, self.quorum, p, j, self.ruled(p)))

    def way(self, p, j):
        self.people(p)
        self.companies(j)
        found = cheapest(self.parts, self.m, self.n, self.quorum, self.prices, p, j)
        refuse_if(found is None, -33)
        return found

    def do_cheapest(self, p, j):
        cost, size, order, bought = self.way(p, j)
        return [size] + pairs([cost]) + sum([[i] + pair(part) for i, part in zip(order, bought)], [])

    def do_take(self, p, j):
        cost, size, order, bought = self.way(p, j)
        self.become_if_small(taken(self.parts, self.m, self.n, self.quorum, p, order))
        return [size] + pairs([cost])

    def do_sell(self, h, k, j, a, b):
        self.holders(h, k)
        self.companies(j)
        refuse_if(b not in range(1, 101) or a > b or h == k, -22)
        refuse_if(self.parts[j][h] < Fraction(a, b), -33)
        parts = [list(row) for row in self.parts]
        parts[j][h] -= Fraction(a, b)
        parts[j][k] += Fraction(a, b)
        self.become_if_small(parts)
        return [0] + pair(parts[j][h]) + pair(parts[j][k])

    def do_cancel(self, i):
        self.companies(i)
        own = self.parts[i][self.m + i]
        refuse_if(own == 1, -33)
        self.become_if_small(cancelled(self.parts, self.m, i))
        return [0] + pair(own)

    def do_hand(self, i):
        self.companies(i)
        refuse_if(self.parts[i][self.m + i] == 1, -33)
        held = sum(self.parts[j][self.m + i] > 0 for j in range(self.n) if j != i)
        self.become_if_small(handed(self.parts, self.m, i))
        return [held]

    def do_inring(self, i):
        self.companies(i)
        on = {i}
        for step in range(self.n):
            on = {j for j in range(self.n) for k in on if self.parts[j][self.m + k]} | (on if step else set())
        return [int(i in on)]

    def do_holding(self):
        return self.count(holding(self.parts, self.m))

    def do_plain(self):
        return [int(not holding(self.parts, self.m))]

    def do_wouldhand(self, i, j):
        self.companies(i, j)
        refuse_if(self.parts[i][self.m + i] == 1, -33)
        return [self.m + self.n] + pairs(handed(self.parts, self.m, i)[j])

    def do_worths(self):
        reals = [self.really(p) for p in range(self.m)]
        return [self.m] + pairs(sum(map(lambda x, y: x * y, real, self.wealth), Fraction(0)) for real in reals)

    def books(self):
        found = books(self.parts, self.m, self.wealth)
        refuse_if(found is None, -33)
        return found

    def do_books(self):
        return [self.n] + pairs(self.books())

    def do_bookworths(self):
        found = self.books()
        return [self.m] + pairs(sum(row[p] * worth for row, worth in zip(self.parts, found)) for p in range(self.m))

    def do_back(self):
        refuse_if(not self.past, -6)
        self.parts = self.past.pop()
        return [len(self.past)]

    def do_settle(self):
        parts = settled(self.parts, self.m)
        self.become_if_small(parts)
        return [len(holding(parts, self.m))]


ROOM = {
    "hold": "hjab", "part": "hj", "strewn": "j", "real": "pj", "realstrewn": "j", "lost": "j", "greatest": "j",
    "owned": "p", "holders": "j", "quorum": "qb", "prices": "l", "votes": "j", "rules": "p", "ruler": "j",
    "together": "s", "least": "j", "weight": "pj", "cheapest": "pj", "lacking": "pj", "sell": "hhjab", "cancel": "j",
    "hand": "j", "inring": "j", "wouldhand": "jj", "own": "l", "take": "pj",
}
CHANGING = ("hold", "sell", "sell", "cancel", "hand", "take", "back")


def made_up_value(chance, kind, m, n, b):
    most = {"h": m + n - 1, "j": n - 1, "p": m - 1, "s": 2 ** m - 1, "a": b, "q": b, "b": b, "l": n}[kind]
    if chance.random() < 0.01:
        return [1001] * n if kind == "l" else chance.choice((most + 1, GREATEST, 0))
    if kind == "l":
        return [chance.choice((0, 1, 1, 2, 2, 100, 1000)) for j in range(n)]
    if kind == "b":
        return b
    if kind == "a":
        return chance.randint(0, (b + 2) // 3) if chance.random() < 0.9 else chance.randint(0, b)
    return chance.randint(b // 2 if kind == "q" else 0, most)


def made_up_line(seed):
    """Holds at first, then calls of all kinds, mostly such as can be taken."""
    chance = random.Random(seed)
    m, n, line = made_up(seed)
    line = line[:30]
    names = [name for name in NAMES if name not in ("begin", "settle")] + list(CHANGING)
    while len(line) < 50:
        name = chance.choice(names)
        if chance.random() < 0.01:
            name = "settle"
        elif chance.random() < 0.005:
            m, n = chance.randint(1, 4), chance.randint(1, 5)
            line.append(("begin", m, n))
        b = chance.choice(LOWERS)
        line.append((name, *[made_up_value(chance, kind, m, n, b) for kind in ROOM.get(name, "")]))
    return line[:50]


class Lines(unittest.TestCase):
    SEEDS = range(300)

    def test_each_answer(self):
        taken_calls = dict.fromkeys(NAMES, 0)
        for seed in self.SEEDS:
            line = made_up_line(seed)
            other = Other()
            for call, answer in zip(line, ask(*line), strict=True):
                with self.subTest(seed=seed, call=call):
                    self.assertEqual(answer, other.answer(*call))
                taken_calls[call[0]] += answer[0] >= 0
        self.assertGreater(min(taken_calls.values()), 50, taken_calls)


if __name__ == "__main__":
    unittest.main()
