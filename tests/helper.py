"""Calls written by their names and their answers one by one; made-up registers; the document's words another way."""

import random
from fractions import Fraction
from functools import lru_cache
from itertools import combinations, permutations

from wholeowns.registers import answers

NAMES = (
    "begin hold part strewn real realstrewn lost rings closed greatest owned holders state quorum prices votes "
    "rules ruler selfruled free together least weight cheapest lacking sell cancel hand inring holding plain "
    "wouldhand own worths bookworths books take back settle"
).split()
GREATEST = 4294967295
LOWERS = (1, 2, 3, 4, 5, 6, 10, 12, 20, 97, 100)


def flat(*calls):
    """The list of whole numbers for calls like ("hold", 0, 1, 2, 3) or ("prices", [1, 2])."""
    numbers = []
    for name, *given in calls:
        numbers.append(NAMES.index(name))
        for value in given:
            if isinstance(value, list):
                numbers.append(len(value))
                numbers.extend(value)
            else:
                numbers.append(value)
    return numbers


def split(told):
    found = []
    at = 0
    while at < len(told):
        end = at + 1 + told[at]
        found.append(told[at + 1:end])
        at = end
    return found


def ask(*calls):
    """One list of numbers for each call."""
    return split(answers(flat(*calls)))


def ask_behind(before, *calls):
    """Like ask, but without the answers of the calls in before, which must all be taken."""
    told = ask(*before, *calls)
    for call, answer in zip(before, told):
        if answer[0] < 0:
            raise AssertionError(f"{call} is refused: {answer}")
    return told[len(before):]


def fractions_in(numbers):
    """Upper and lower numbers by turns, as fractions."""
    return [Fraction(upper, lower) for upper, lower in zip(numbers[::2], numbers[1::2])]


def everything(m, n):
    """Calls that show all that is kept, but how many changes can be taken back."""
    return (
        [("state",), ("books",), ("worths",)] + [("holders", j) for j in range(n)]
        + [("lacking", 0, j) for j in range(n)] + [("cheapest", 0, j) for j in range(n)]
    )


def made_up(seed):
    """Calls of a begin and holds; about every third company is wholly held, many by companies alone."""
    chance = random.Random(seed)
    m = chance.randint(1, 4)
    n = chance.randint(1, 5)
    calls = [("begin", m, n)]
    for j in range(n):
        left = Fraction(1)
        first = m if chance.random() < 0.5 else 0
        holders = chance.sample(range(first, m + n), chance.randint(0, m + n - first))
        for h in holders:
            b = chance.choice(LOWERS)
            a = chance.randint(0, min(b, int(left * b)))
            calls.append(("hold", h, j, a, b))
            left -= Fraction(a, b)
        if holders and left.denominator <= 100 and chance.random() < 0.6:
            last = parts_of(calls, m, n)[j][holders[-1]] + left
            if last.denominator <= 100:
                calls.append(("hold", holders[-1], j, last.numerator, last.denominator))
    return m, n, calls


def parts_of(calls, m, n):
    parts = [[Fraction(0)] * (m + n) for j in range(n)]
    for name, *given in calls:
        if name == "hold":
            h, j, a, b = given
            parts[j][h] = Fraction(a, b)
    return parts


def pair(fraction):
    return [fraction.numerator, fraction.denominator]


def pairs(fractions):
    return [number for fraction in fractions for number in pair(fraction)]


def come_out(parts, m, n):
    """The companies from which some comes to a person or is strewn, in however many steps."""
    out = set()
    for step in range(n + 1):
        for j in range(n):
            stays = sum(parts[j][m:]) < 1
            if stays or any(parts[j][m + i] > 0 for i in out):
                out.add(j)
    return sorted(out)


def solved(matrix, right):
    """Gauss, with the first row that fits put on top; None if there is no row that fits."""
    rows = [list(row) + [Fraction(value)] for row, value in zip(matrix, right)]
    for c in range(len(rows)):
        fitting = [r for r in range(c, len(rows)) if rows[r][c] != 0]
        if not fitting:
            return None
        rows[c], rows[fitting[0]] = rows[fitting[0]], rows[c]
        rows[c] = [Fraction(value) / rows[c][c] for value in rows[c]]
        for r in range(len(rows)):
            if r != c:
                rows[r] = [x - rows[r][c] * y for x, y in zip(rows[r], rows[c])]
    return [row[-1] for row in rows]


def reach(parts, m, n, straight):
    """Of each company what comes to where straight tells how much goes in one step."""
    out = come_out(parts, m, n)
    matrix = [[int(i == j) - parts[j][m + i] for i in out] for j in out]
    found = dict(zip(out, solved(matrix, [straight[j] for j in out])))
    return [found.get(j, Fraction(0)) for j in range(n)]


@lru_cache(None)
def subsets(n):
    return [frozenset(chosen) for size in range(n + 1) for chosen in combinations(range(n), size)]


def quorate(parts, m, quorum, j, people, companies):
    votes = 1 - parts[j][m + j]
    held = sum(parts[j][p] for p in people) + sum(parts[j][m + i] for i in companies if i != j)
    return votes > 0 and held >= quorum * votes


def ruled(parts, m, n, quorum, people, already=()):
    """The fewest companies, with those already ruled, to which none can be added."""
    for chosen in subsets(n):
        if chosen.issuperset(already):
            if all(j in chosen or not quorate(parts, m, quorum, j, people, chosen) for j in range(n)):
                return sorted(chosen)
    raise AssertionError("all companies together can't be added to")


def self_ruled(parts, m, n, quorum):
    for chosen in reversed(subsets(n)):
        if all(quorate(parts, m, quorum, j, (), chosen) for j in chosen):
            return sorted(chosen)
    raise AssertionError("none at all rule themselves")


def lacking(parts, m, quorum, p, j, companies):
    held = parts[j][p] + sum(parts[j][m + i] for i in companies if i != j)
    return max(Fraction(0), quorum * (1 - parts[j][m + j]) - held)


def bought_along(parts, m, n, quorum, p, j, order):
    """The parts bought of the companies in order, or None if that is no way to rule company j."""
    have = ruled(parts, m, n, quorum, (p,))
    found = []
    for i in order:
        if j in have or i in have or parts[i][m + i] == 1:
            return None
        found.append(lacking(parts, m, quorum, p, i, have))
        have = ruled(parts, m, n, quorum, (p,), have + [i])
    return found if j in have else None


def cheapest(parts, m, n, quorum, prices, p, j):
    """Every order of every companies tried: cost, how many, which, their parts; None if there is no way."""
    ways = []
    for size in range(n + 1):
        for order in permutations(range(n), size):
            found = bought_along(parts, m, n, quorum, p, j, order)
            if found is not None:
                ways.append((sum(prices[i] * part for i, part in zip(order, found)), size, order, found))
    return min(ways, default=None)


def taken(parts, m, n, quorum, p, order):
    parts = [list(row) for row in parts]
    for j in order:
        have = ruled(parts, m, n, quorum, (p,))
        left = lacking(parts, m, quorum, p, j, have)
        parts[j][p] += left
        for h in range(m + n):
            if h not in (p, m + j) and h - m not in have:
                bought = min(left, parts[j][h])
                parts[j][h] -= bought
                left -= bought
    return parts


def cancelled(parts, m, i):
    parts = [list(row) for row in parts]
    own = parts[i][m + i]
    parts[i] = [part / (1 - own) for part in parts[i]]
    parts[i][m + i] = Fraction(0)
    return parts


def handed(parts, m, i):
    parts = cancelled(parts, m, i)
    for j, row in enumerate(parts):
        given = row[m + i]
        row[m + i] = Fraction(0)
        for h in range(len(row)):
            if j != i:
                row[h] += given * parts[i][h]
    return parts


def settled(parts, m):
    for i in range(len(parts)):
        if parts[i][m + i] != 1:
            parts = handed(parts, m, i)
    return parts


def holding(parts, m):
    n = len(parts)
    return [i for i in range(n) if any(parts[j][m + i] > 0 for j in range(n) if j != i)]


def books(parts, m, wealth):
    n = len(parts)
    return solved([[int(i == j) - parts[j][m + i] for j in range(n)] for i in range(n)], wealth)
