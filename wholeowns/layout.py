"""How an answer's numbers are laid out."""


def with_fraction(first, fraction):
    return [first, fraction[0], fraction[1]]


def counted(numbers):
    return [len(numbers)] + numbers


def counted_fractions(fractions):
    laid = [len(fractions)]
    for fraction in fractions:
        laid.extend([fraction[0], fraction[1]])
    return laid
