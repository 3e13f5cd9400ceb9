"""The calls on who holds how much (point 1)."""

from wholeowns.layout import with_fraction
from wholeowns.ratios import ZERO, is_above, is_proper, plus, ratio
from wholeowns.refusals import CANNOT_BE, NO_SUCH, NOT_RIGHT


def answer_hold(holdings, h, j, a, b):
    if not holdings.has_holder(h) or not holdings.has_company(j):
        return [NO_SUCH]
    if not is_proper(a, b):
        return [NOT_RIGHT]
    before = holdings.part_of(h, j)
    wanted = ratio(a, b)
    if is_above(wanted, plus(before, holdings.strewn_of(j))):
        return [CANNOT_BE]
    holdings.set_part(h, j, wanted)
    return with_fraction(0, before)


def answer_part(holdings, h, j):
    if not holdings.has_holder(h) or not holdings.has_company(j):
        return [NO_SUCH]
    return with_fraction(0, holdings.part_of(h, j))


def answer_strewn(holdings, j):
    if not holdings.has_company(j):
        return [NO_SUCH]
    return with_fraction(0, holdings.strewn_of(j))


def answer_holders(holdings, j):
    if not holdings.has_company(j):
        return [NO_SUCH]
    count = 0
    laid = []
    for h, part in enumerate(holdings.parts[j]):
        if part != ZERO:
            count += 1
            laid.extend(with_fraction(h, part))
    return [count] + laid


def answer_state(holdings):
    return [holdings.people, holdings.companies]


PART_CALLS = {
    1: answer_hold,
    2: answer_part,
    3: answer_strewn,
    11: answer_holders,
    12: answer_state,
}


def part_doer(number):
    return PART_CALLS.get(number)
