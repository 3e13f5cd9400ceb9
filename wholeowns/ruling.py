"""Who rules: people by what they and the companies that they rule hold, and companies that rule one another."""

from wholeowns.ratios import ONE, ZERO, is_above, minus, times, total


def votes_of(holdings, j):
    return minus(ONE, holdings.own_part(j))


# What a company holds of itself has no vote, so the company is never among those who rule it.
def held_together(holdings, j, people, companies):
    by_people = [holdings.part_of(p, j) for p in people]
    by_companies = [holdings.part_of(holdings.holder_of(i), j) for i in companies if i != j]
    return total(by_people + by_companies)


def have_quorum(holdings, j, people, companies):
    votes = votes_of(holdings, j)
    if votes == ZERO:
        return False
    needed = times(holdings.quorum, votes)
    return not is_above(needed, held_together(holdings, j, people, companies))


def lacking_of(holdings, j, people, companies):
    needed = times(holdings.quorum, votes_of(holdings, j))
    held = held_together(holdings, j, people, companies)
    return minus(needed, held) if is_above(needed, held) else ZERO


# Whoever is ruled already stays so, and what these companies hold counts from the first step on.
def ruled_with(holdings, people, already):
    ruled = list(already)
    while True:
        fresh = [
            j for j in range(holdings.companies)
            if j not in ruled and have_quorum(holdings, j, people, ruled)
        ]
        if len(fresh) == 0:
            return ruled
        ruled = sorted(ruled + fresh)


def ruled_by(holdings, people):
    return ruled_with(holdings, people, [])


# At most one is found: two would need more than all of its votes, as the quorum is above one half.
def ruler_of(holdings, j):
    for p in range(holdings.people):
        if j in ruled_by(holdings, [p]):
            return p
    return None


# Whoever lacks a quorum among all lacks it among fewer, so leaving those out ends at the most that there are.
def self_ruled(holdings):
    left = list(range(holdings.companies))
    while True:
        kept = [j for j in left if have_quorum(holdings, j, [], left)]
        if kept == left:
            return left
        left = kept


# A set of people is one number, in which person p counts 2 to the power of p.
def is_set(holdings, s):
    return s < (1 << holdings.people)


def has_member(s, p):
    return (s & (1 << p)) != 0


def without_member(s, p):
    return s - (1 << p)


def members(holdings, s):
    return [p for p in range(holdings.people) if has_member(s, p)]


def ruling_sets(holdings, j):
    return [s for s in range(1 << holdings.people) if j in ruled_by(holdings, members(holdings, s))]


def sets_that_need(ruling, p):
    return [s for s in ruling if has_member(s, p) and without_member(s, p) not in ruling]


# With fewer people never more is ruled, so it is enough to try without each single one.
def least_sets(holdings, j):
    ruling = ruling_sets(holdings, j)
    least = ruling
    for p in range(holdings.people):
        needing = sets_that_need(ruling, p)
        least = [s for s in least if not has_member(s, p) or s in needing]
    return least


# Each set that rules with the person and not without them stands for the others in it.
def weight_of(holdings, p, j):
    return len(sets_that_need(ruling_sets(holdings, j), p))
