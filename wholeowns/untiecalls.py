"""The calls on parts sold, and rings untied (point 5)."""

from wholeowns.changing import carried_out
from wholeowns.layout import counted, counted_fractions, with_fraction
from wholeowns.ratios import is_above, is_proper, ratio
from wholeowns.refusals import CANNOT_BE, NO_SUCH, NOT_RIGHT
from wholeowns.untying import (
    cancel_own, companies_holding, hand_out, holds_itself_wholly, is_in_ring, others_held, settle_all)


def answer_sell(holdings, h, k, j, a, b):
    if not holdings.has_holder(h) or not holdings.has_holder(k) or not holdings.has_company(j):
        return [NO_SUCH]
    if not is_proper(a, b) or h == k:
        return [NOT_RIGHT]
    sold = ratio(a, b)
    if is_above(sold, holdings.part_of(h, j)):
        return [CANNOT_BE]
    trial = holdings.twin()
    trial.move_part(h, k, j, sold)
    answer = with_fraction(0, trial.part_of(h, j)) + list(trial.part_of(k, j))
    return carried_out(holdings, trial, answer)


def answer_cancel(holdings, i):
    if not holdings.has_company(i):
        return [NO_SUCH]
    if holds_itself_wholly(holdings, i):
        return [CANNOT_BE]
    trial = holdings.twin()
    cancel_own(trial, i)
    return carried_out(holdings, trial, with_fraction(0, holdings.own_part(i)))


def answer_hand(holdings, i):
    if not holdings.has_company(i):
        return [NO_SUCH]
    if holds_itself_wholly(holdings, i):
        return [CANNOT_BE]
    trial = holdings.twin()
    hand_out(trial, i)
    return carried_out(holdings, trial, [len(others_held(holdings, i))])


def answer_inring(holdings, i):
    if not holdings.has_company(i):
        return [NO_SUCH]
    return [1 if is_in_ring(holdings, i) else 0]


def answer_holding(holdings):
    return counted(companies_holding(holdings))


def answer_plain(holdings):
    return [1 if len(companies_holding(holdings)) == 0 else 0]


def answer_wouldhand(holdings, i, j):
    if not holdings.has_company(i) or not holdings.has_company(j):
        return [NO_SUCH]
    if holds_itself_wholly(holdings, i):
        return [CANNOT_BE]
    trial = holdings.twin()
    hand_out(trial, i)
    return counted_fractions(trial.parts[j])


def answer_settle(holdings):
    trial = holdings.twin()
    settle_all(trial)
    return carried_out(holdings, trial, [len(companies_holding(trial))])


UNTIE_CALLS = {
    25: answer_sell,
    26: answer_cancel,
    27: answer_hand,
    28: answer_inring,
    29: answer_holding,
    30: answer_plain,
    31: answer_wouldhand,
    38: answer_settle,
}


def untie_doer(number):
    return UNTIE_CALLS.get(number)
