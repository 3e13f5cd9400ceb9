"""How a person comes to rule a company: the cheapest way to buy, and the buying itself."""

from wholeowns.ratios import ZERO, is_above, lesser, minus, plus, times, whole
from wholeowns.ruling import lacking_of, ruled_by, ruled_with, votes_of


# What was bought so far, companies and parts in order, what it costs, and what the buyer rules with it.
class Way:
    def __init__(self, cost, bought, ruled):
        self.cost = cost
        self.bought = bought
        self.ruled = ruled


def companies_bought(way):
    return [j for j, part in way.bought]


def is_better(one, other):
    if one.cost != other.cost:
        return is_above(other.cost, one.cost)
    if len(one.bought) != len(other.bought):
        return len(one.bought) < len(other.bought)
    return companies_bought(one) < companies_bought(other)


# What is held stays as it was: the company bought of counts as ruled, and that is all that buying does here.
def with_one_more(holdings, p, way, j):
    part = lacking_of(holdings, j, [p], way.ruled)
    cost = plus(way.cost, times(whole(holdings.prices[j]), part))
    ruled = ruled_with(holdings, [p], sorted(way.ruled + [j]))
    return Way(cost, way.bought + [(j, part)], ruled)


def ways_on(holdings, p, way):
    return [
        with_one_more(holdings, p, way, j) for j in range(holdings.companies)
        if j not in way.ruled and votes_of(holdings, j) != ZERO
    ]


def better_of(best, way):
    if best is None or is_better(way, best):
        return way
    return best


# A way that isn't better than the best one already can't become so: going on costs no less and buys of more.
def cheapest_way(holdings, p, j):
    best = None
    ways = [Way(ZERO, [], ruled_by(holdings, [p]))]
    while len(ways) > 0:
        unended = []
        for way in ways:
            if j in way.ruled:
                best = better_of(best, way)
            else:
                unended.append(way)
        ways = []
        for way in unended:
            if best is None or is_better(way, best):
                ways.extend(ways_on(holdings, p, way))
    return best


def sellers(holdings, p, j, ruled):
    barred = [p, holdings.holder_of(j)] + [holdings.holder_of(i) for i in ruled]
    return [h for h in range(holdings.people + holdings.companies) if h not in barred]


# What no seller has left to sell comes from what is strewn, and there it is enough: all votes that the buyer
# doesn't have are with the sellers or strewn, and no more than all votes is ever needed.
def buy_lacking(holdings, p, j):
    ruled = ruled_by(holdings, [p])
    missing = lacking_of(holdings, j, [p], ruled)
    for h in sellers(holdings, p, j, ruled):
        part = lesser(missing, holdings.part_of(h, j))
        holdings.move_part(h, p, j, part)
        missing = minus(missing, part)
    holdings.set_part(p, j, plus(holdings.part_of(p, j), missing))


def buy_along(holdings, p, way):
    for j in companies_bought(way):
        buy_lacking(holdings, p, j)
