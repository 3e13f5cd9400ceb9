"""How rings are untied: a company's parts of itself cancelled, its parts of others handed out."""

from wholeowns.passing import passed_on, without_own
from wholeowns.ratios import ONE, ZERO


def holds_itself_wholly(holdings, i):
    return holdings.own_part(i) == ONE


def companies_held(holdings, i):
    holder = holdings.holder_of(i)
    return [j for j in range(holdings.companies) if holdings.part_of(holder, j) != ZERO]


def others_held(holdings, i):
    return [j for j in companies_held(holdings, i) if j != i]


def companies_holding(holdings):
    return [i for i in range(holdings.companies) if len(others_held(holdings, i)) > 0]


def is_in_ring(holdings, i):
    reached = []
    waiting = companies_held(holdings, i)
    while len(waiting) > 0:
        j = waiting.pop()
        if j not in reached:
            reached.append(j)
            waiting.extend(companies_held(holdings, j))
    return i in reached


def cancel_own(holdings, i):
    holdings.parts[i] = without_own(holdings.parts[i], holdings.holder_of(i))


# What the company's own strewn part takes as its share comes to no holder, so it is strewn by itself.
def hand_out(holdings, i):
    cancel_own(holdings, i)
    giver = holdings.holder_of(i)
    for j in others_held(holdings, i):
        holdings.parts[j] = passed_on(holdings.parts[j], giver, holdings.parts[i])


# Handing out may leave another company holding itself wholly, so that is asked when its turn comes.
def settle_all(holdings):
    for i in range(holdings.companies):
        if not holds_itself_wholly(holdings, i):
            hand_out(holdings, i)
