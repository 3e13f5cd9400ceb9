"""Who holds which part of what, and what else is told of the people and companies."""

from wholeowns.ratios import ONE, ZERO, minus, plus, ratio, total

MOST_PEOPLE = 4
MOST_COMPANIES = 5
FIRST_PRICE = 100
MOST_OF_EACH = 1000
MOST_TAKEN_BACK = 10


def may_begin(people, companies):
    return 1 <= people <= MOST_PEOPLE and 1 <= companies <= MOST_COMPANIES


class Holdings:
    def __init__(self, people, companies):
        self.people = people
        self.companies = companies
        self.parts = [[ZERO] * (people + companies) for company in range(companies)]
        self.quorum = ratio(3, 5)
        self.prices = [FIRST_PRICE] * companies
        self.wealth = [0] * companies
        self.earlier = []

    def has_person(self, p):
        return p < self.people

    def has_company(self, j):
        return j < self.companies

    def has_holder(self, h):
        return h < self.people + self.companies

    # Prices and what each company has itself are told by the same rule.
    def is_for_each(self, of_each):
        return len(of_each) == self.companies and max(of_each) <= MOST_OF_EACH

    # Holders are numbered people first, so a company holds under another number than its own.
    def holder_of(self, j):
        return self.people + j

    def part_of(self, h, j):
        return self.parts[j][h]

    def strewn_of(self, j):
        return minus(ONE, total(self.parts[j]))

    def own_part(self, j):
        return self.parts[j][self.holder_of(j)]

    def set_part(self, h, j, part):
        self.parts[j][h] = part

    def move_part(self, h, k, j, part):
        self.set_part(h, j, minus(self.part_of(h, j), part))
        self.set_part(k, j, plus(self.part_of(k, j), part))

    # What may still be refused, or is only asked, is done on a twin, so that what is held stays as it is.
    def twin(self):
        other = Holdings(self.people, self.companies)
        other.parts = [list(row) for row in self.parts]
        other.quorum = self.quorum
        other.prices = list(self.prices)
        return other

    def has_too_great(self):
        for row in self.parts:
            for part in row:
                if part[1] > 10 ** 40:
                    return True
        return False

    # What leaves all as it was is no change, so there is nothing of it to take back.
    def change_to(self, parts):
        if parts != self.parts:
            self.earlier = (self.earlier + [self.parts])[-MOST_TAKEN_BACK:]
            self.parts = parts

    def take_back(self):
        self.parts = self.earlier.pop()
