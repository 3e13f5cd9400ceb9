"""The calls on coming to rule a company (point 4)."""

from wholeowns.buying import buy_along, cheapest_way
from wholeowns.changing import carried_out
from wholeowns.layout import with_fraction
from wholeowns.refusals import CANNOT_BE, NO_SUCH
from wholeowns.ruling import lacking_of, ruled_by


def answer_cheapest(holdings, p, j):
    if not holdings.has_person(p) or not holdings.has_company(j):
        return [NO_SUCH]
    way = cheapest_way(holdings, p, j)
    if way is None:
        return [CANNOT_BE]
    laid = with_fraction(len(way.bought), way.cost)
    for i, part in way.bought:
        laid.extend(with_fraction(i, part))
    return laid


def answer_lacking(holdings, p, j):
    if not holdings.has_person(p) or not holdings.has_company(j):
        return [NO_SUCH]
    return with_fraction(0, lacking_of(holdings, j, [p], ruled_by(holdings, [p])))


def answer_take(holdings, p, j):
    if not holdings.has_person(p) or not holdings.has_company(j):
        return [NO_SUCH]
    way = cheapest_way(holdings, p, j)
    if way is None:
        return [CANNOT_BE]
    trial = holdings.twin()
    buy_along(trial, p, way)
    return carried_out(holdings, trial, with_fraction(len(way.bought), way.cost))


BUY_CALLS = {
    23: answer_cheapest,
    24: answer_lacking,
    36: answer_take,
}


def buy_doer(number):
    return BUY_CALLS.get(number)
