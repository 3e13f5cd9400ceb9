"""Who holds which part of what, and what else is told of the people and companies."""

from wholeowns.ratios import ONE, ZERO, minus, ratio, total

MOST_PEOPLE = 4
MOST_COMPANIES = 5
FIRST_PRICE = 100


def may_begin(people, companies):
    return 1 <= people <= MOST_PEOPLE and 1 <= companies <= MOST_COMPANIES


class Holdings:
    def __init__(self, people, companies):
        self.people = people
        self.companies = companies
        self.parts = [[ZERO] * (people + companies) for company in range(companies)]
        self.quorum = ratio(3, 5)
        self.prices = [FIRST_PRICE] * companies

    def has_person(self, p):
        return p < self.people

    def has_company(self, j):
        return j < self.companies

    def has_holder(self, h):
        return h < self.people + self.companies

    # Holders are numbered people first, so a company holds under another number than its own.
    def holder_of(self, j):
        return self.people + j

    def part_of(self, h, j):
        return self.parts[j][h]

    def strewn_of(self, j):
        return minus(ONE, total(self.parts[j]))

    def own_part(self, j):
        return self.parts[j][self.holder_of(j)]

    def set_part(self, h, j, part):
        self.parts[j][h] = part
