"""What companies and people are worth, by books and by real parts."""

from wholeowns.owning import end_rows
from wholeowns.passing import untangled
from wholeowns.ratios import ZERO, times, total, whole


# Which part of each company's worth belongs to company i's own, and behind these what it has itself.
def book_row(holdings, i):
    held = [holdings.part_of(holdings.holder_of(i), j) for j in range(holdings.companies)]
    return held + [whole(holdings.wealth[i])]


# A company whose column stays would be worth itself and something, whatever it is worth: there is no such number,
# or any number is one. So the books can't be told, and None is given back.
def book_worths(holdings):
    rows = untangled([book_row(holdings, i) for i in range(holdings.companies)], 0)
    for i, row in enumerate(rows):
        if row[i] != ZERO:
            return None
    return [row[-1] for row in rows]


def shared(parts, worths):
    return total([times(part, worth) for part, worth in zip(parts, worths)])


def people_by_real_parts(holdings):
    rows = end_rows(holdings)
    wealth = [whole(number) for number in holdings.wealth]
    return [shared([row[p] for row in rows], wealth) for p in range(holdings.people)]


def people_by_books(holdings, books):
    return [shared([row[p] for row in holdings.parts], books) for p in range(holdings.people)]
