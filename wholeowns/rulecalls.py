"""The calls on who rules (point 4)."""

from wholeowns.layout import counted, with_fraction
from wholeowns.ratios import is_proper, ratio
from wholeowns.refusals import CANNOT_BE, NO_SUCH, NOT_RIGHT
from wholeowns.ruling import ruled_by, ruler_of, self_ruled, votes_of

MOST_OF_EACH = 1000


def is_for_each(holdings, of_each):
    return len(of_each) == holdings.companies and max(of_each) <= MOST_OF_EACH


def answer_quorum(holdings, a, b):
    if not is_proper(a, b) or 2 * a <= b:
        return [NOT_RIGHT]
    holdings.quorum = ratio(a, b)
    return [0]


def answer_prices(holdings, of_each):
    if not is_for_each(holdings, of_each):
        return [NOT_RIGHT]
    holdings.prices = list(of_each)
    return [0]


def answer_votes(holdings, j):
    if not holdings.has_company(j):
        return [NO_SUCH]
    return with_fraction(0, votes_of(holdings, j))


def answer_rules(holdings, p):
    if not holdings.has_person(p):
        return [NO_SUCH]
    return counted(ruled_by(holdings, [p]))


def answer_ruler(holdings, j):
    if not holdings.has_company(j):
        return [NO_SUCH]
    person = ruler_of(holdings, j)
    if person is None:
        return [CANNOT_BE]
    return [person]


def answer_selfruled(holdings):
    return counted(self_ruled(holdings))


def answer_free(holdings):
    by_themselves = self_ruled(holdings)
    return counted([
        j for j in range(holdings.companies)
        if j not in by_themselves and ruler_of(holdings, j) is None
    ])


RULE_CALLS = {
    13: answer_quorum,
    14: answer_prices,
    15: answer_votes,
    16: answer_rules,
    17: answer_ruler,
    18: answer_selfruled,
    19: answer_free,
}


def rule_doer(number):
    return RULE_CALLS.get(number)
