"""Who really owns: each part is passed on till it stays with a person, is strewn, or goes round for ever."""

from wholeowns.ratios import ONE, ZERO, divided, minus, plus, times, total


# What is strewn stays where it is, as with a person: it stands behind the holders as one more of them.
def full_row(holdings, j):
    return list(holdings.parts[j]) + [holdings.strewn_of(j)]


# What comes back to a company goes out again by the same parts, so in the end the others have it in proportion.
def without_own(row, own):
    left = minus(ONE, row[own])
    spread = [divided(part, left) for part in row]
    spread[own] = ZERO
    return spread


def passed_on(row, by, onward):
    share = row[by]
    kept = list(row)
    kept[by] = ZERO
    return [plus(part, times(share, further)) for part, further in zip(kept, onward)]


# A company whose parts all come back to itself by then passes nothing on: what reaches it is lost, and stays in
# its column. Every other company's column is empty at the end.
def end_rows(holdings):
    rows = [full_row(holdings, j) for j in range(holdings.companies)]
    for j in range(holdings.companies):
        by = holdings.holder_of(j)
        if rows[j][by] != ONE:
            onward = without_own(rows[j], by)
            rows[j] = onward
            rows = [passed_on(row, by, onward) for row in rows]
    return rows


def really_owned(holdings, p, j):
    return end_rows(holdings)[j][p]


def strewn_in_the_end(holdings, j):
    return end_rows(holdings)[j][-1]


def lost_of(holdings, row):
    return total(row[holdings.people:-1])


def all_lost(holdings):
    return [lost_of(holdings, row) for row in end_rows(holdings)]
