"""The calls on who rules (point 4)."""

from wholeowns.layout import counted, with_fraction
from wholeowns.ratios import is_proper, ratio
from wholeowns.refusals import CANNOT_BE, NO_SUCH, NOT_RIGHT
from wholeowns.ruling import (
    is_set, least_sets, members, ruled_by, ruler_of, self_ruled, votes_of, weight_of)


def answer_quorum(holdings, a, b):
    if not is_proper(a, b) or 2 * a <= b:
        return [NOT_RIGHT]
    holdings.quorum = ratio(a, b)
    return [0]


def answer_prices(holdings, of_each):
    if not holdings.is_for_each(of_each):
        return [NOT_RIGHT]
    holdings.prices = list(of_each)
    return [0]


def answer_votes(holdings, j):
    if not holdings.has_company(j):
        return [NO_SUCH]
    return with_fraction(0, votes_of(holdings, j))


def answer_rules(holdings, p):
    if not holdings.has_person(p):
        return [NO_SUCH]
    return counted(ruled_by(holdings, [p]))


def answer_ruler(holdings, j):
    if not holdings.has_company(j):
        return [NO_SUCH]
    person = ruler_of(holdings, j)
    if person is None:
        return [CANNOT_BE]
    return [person]


def answer_selfruled(holdings):
    return counted(self_ruled(holdings))


def answer_free(holdings):
    by_themselves = self_ruled(holdings)
    return counted([
        j for j in range(holdings.companies)
        if j not in by_themselves and ruler_of(holdings, j) is None
    ])


def answer_together(holdings, s):
    if not is_set(holdings, s):
        return [NOT_RIGHT]
    return counted(ruled_by(holdings, members(holdings, s)))


def answer_least(holdings, j):
    if not holdings.has_company(j):
        return [NO_SUCH]
    return counted(least_sets(holdings, j))


def answer_weight(holdings, p, j):
    if not holdings.has_person(p) or not holdings.has_company(j):
        return [NO_SUCH]
    return [weight_of(holdings, p, j)]


RULE_CALLS = {
    13: answer_quorum,
    14: answer_prices,
    15: answer_votes,
    16: answer_rules,
    17: answer_ruler,
    18: answer_selfruled,
    19: answer_free,
    20: answer_together,
    21: answer_least,
    22: answer_weight,
}


def rule_doer(number):
    return RULE_CALLS.get(number)
