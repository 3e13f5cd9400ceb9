"""The calls on who holds how much, what each company has itself, and what is taken back (point 1)."""

from wholeowns.layout import with_fraction
from wholeowns.ratios import ZERO, is_above, is_proper, plus, ratio
from wholeowns.refusals import CANNOT_BE, NO_SUCH, NONE_TO_TAKE_BACK, NOT_RIGHT


def answer_hold(holdings, h, j, a, b):
    if not holdings.has_holder(h) or not holdings.has_company(j):
        return [NO_SUCH]
    if not is_proper(a, b):
        return [NOT_RIGHT]
    before = holdings.part_of(h, j)
    wanted = ratio(a, b)
    if is_above(wanted, plus(before, holdings.strewn_of(j))):
        return [CANNOT_BE]
    trial = holdings.twin()
    trial.set_part(h, j, wanted)
    holdings.change_to(trial.parts)
    return with_fraction(0, before)


def answer_part(holdings, h, j):
    if not holdings.has_holder(h) or not holdings.has_company(j):
        return [NO_SUCH]
    return with_fraction(0, holdings.part_of(h, j))


def answer_strewn(holdings, j):
    if not holdings.has_company(j):
        return [NO_SUCH]
    return with_fraction(0, holdings.strewn_of(j))


def answer_holders(holdings, j):
    if not holdings.has_company(j):
        return [NO_SUCH]
    count = 0
    laid = []
    for h, part in enumerate(holdings.parts[j]):
        if part != ZERO:
            count += 1
            laid.extend(with_fraction(h, part))
    return [count] + laid


def answer_state(holdings):
    return [holdings.people, holdings.companies]


def answer_own(holdings, of_each):
    if not holdings.is_for_each(of_each):
        return [NOT_RIGHT]
    holdings.wealth = list(of_each)
    return [0]


def answer_back(holdings):
    if len(holdings.earlier) == 0:
        return [NONE_TO_TAKE_BACK]
    holdings.take_back()
    return [len(holdings.earlier)]


PART_CALLS = {
    1: answer_hold,
    2: answer_part,
    3: answer_strewn,
    11: answer_holders,
    12: answer_state,
    32: answer_own,
    37: answer_back,
}


def part_doer(number):
    return PART_CALLS.get(number)
