"""The calls on who really owns how much (point 2)."""

from wholeowns.layout import counted, counted_fractions, with_fraction
from wholeowns.owning import all_lost, end_rows, really_owned, strewn_in_the_end
from wholeowns.ratios import ONE, ZERO, is_above
from wholeowns.refusals import CANNOT_BE, NO_SUCH


def answer_real(holdings, p, j):
    if not holdings.has_person(p) or not holdings.has_company(j):
        return [NO_SUCH]
    return with_fraction(0, really_owned(holdings, p, j))


def answer_realstrewn(holdings, j):
    if not holdings.has_company(j):
        return [NO_SUCH]
    return with_fraction(0, strewn_in_the_end(holdings, j))


def answer_lost(holdings, j):
    if not holdings.has_company(j):
        return [NO_SUCH]
    return with_fraction(0, all_lost(holdings)[j])


def answer_rings(holdings):
    return counted([j for j, lost in enumerate(all_lost(holdings)) if lost != ZERO])


def answer_closed(holdings):
    return counted([j for j, lost in enumerate(all_lost(holdings)) if lost == ONE])


def answer_greatest(holdings, j):
    if not holdings.has_company(j):
        return [NO_SUCH]
    person = None
    most = ZERO
    for p, owned in enumerate(end_rows(holdings)[j][:holdings.people]):
        if is_above(owned, most):
            person = p
            most = owned
    if person is None:
        return [CANNOT_BE]
    return with_fraction(person, most)


def answer_owned(holdings, p):
    if not holdings.has_person(p):
        return [NO_SUCH]
    return counted_fractions([row[p] for row in end_rows(holdings)])


OWN_CALLS = {
    4: answer_real,
    5: answer_realstrewn,
    6: answer_lost,
    7: answer_rings,
    8: answer_closed,
    9: answer_greatest,
    10: answer_owned,
}


def own_doer(number):
    return OWN_CALLS.get(number)
