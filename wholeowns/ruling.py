"""Who rules: people by what they and the companies that they rule hold, and companies that rule one another."""

from wholeowns.ratios import ONE, ZERO, is_above, minus, times, total


def votes_of(holdings, j):
    return minus(ONE, holdings.own_part(j))


# What a company holds of itself has no vote, so the company is never among those who rule it.
def held_together(holdings, j, people, companies):
    by_people = [holdings.part_of(p, j) for p in people]
    by_companies = [holdings.part_of(holdings.holder_of(i), j) for i in companies if i != j]
    return total(by_people + by_companies)


def have_quorum(holdings, j, people, companies):
    votes = votes_of(holdings, j)
    if votes == ZERO:
        return False
    needed = times(holdings.quorum, votes)
    return not is_above(needed, held_together(holdings, j, people, companies))


def ruled_by(holdings, people):
    ruled = []
    while True:
        fresh = [
            j for j in range(holdings.companies)
            if j not in ruled and have_quorum(holdings, j, people, ruled)
        ]
        if len(fresh) == 0:
            return ruled
        ruled = sorted(ruled + fresh)


# At most one is found: two would need more than all of its votes, as the quorum is above one half.
def ruler_of(holdings, j):
    for p in range(holdings.people):
        if j in ruled_by(holdings, [p]):
            return p
    return None


# Whoever lacks a quorum among all lacks it among fewer, so leaving those out ends at the most that there are.
def self_ruled(holdings):
    left = list(range(holdings.companies))
    while True:
        kept = [j for j in left if have_quorum(holdings, j, [], left)]
        if kept == left:
            return left
        left = kept
