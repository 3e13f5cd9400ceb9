"""Who really owns: each part is passed on till it stays with a person, is strewn, or goes round for ever."""

from wholeowns.passing import untangled
from wholeowns.ratios import total


# What is strewn stays where it is, as with a person: it stands behind the holders as one more of them.
def full_row(holdings, j):
    return list(holdings.parts[j]) + [holdings.strewn_of(j)]


# What is lost stays in the columns of the companies that pass nothing on.
def end_rows(holdings):
    return untangled([full_row(holdings, j) for j in range(holdings.companies)], holdings.people)


def really_owned(holdings, p, j):
    return end_rows(holdings)[j][p]


def strewn_in_the_end(holdings, j):
    return end_rows(holdings)[j][-1]


def lost_of(holdings, row):
    return total(row[holdings.people:-1])


def all_lost(holdings):
    return [lost_of(holdings, row) for row in end_rows(holdings)]
