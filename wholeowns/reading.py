"""How the list of calls is read: a call's number, its whole numbers, then its row behind how many it has."""

# How many whole numbers stand behind each call's number.
WHOLE_NUMBERS = {
    0: 2, 1: 4, 2: 2, 3: 1, 4: 2, 5: 1, 6: 1, 7: 0, 8: 0, 9: 1,
    10: 1, 11: 1, 12: 0, 13: 2, 14: 0, 15: 1, 16: 1, 17: 1, 18: 0, 19: 0,
    20: 1, 21: 1, 22: 2, 23: 2, 24: 2, 25: 5, 26: 1, 27: 1, 28: 1, 29: 0,
    30: 0, 31: 2, 32: 0, 33: 0, 34: 0, 35: 0, 36: 2, 37: 0, 38: 0,
}
WITH_ROW = (14, 32)


def split_calls(calls):
    found = []
    at = 0
    while at < len(calls):
        number = calls[at]
        start = at + 1
        at = start + WHOLE_NUMBERS[number]
        given = calls[start:at]
        if number in WITH_ROW:
            start = at + 1
            at = start + calls[at]
            given.append(calls[start:at])
        found.append((number, given))
    return found
