"""Calls written by their names, and their answers one by one."""

from wholeowns.registers import answers

NAMES = (
    "begin hold part strewn real realstrewn lost rings closed greatest owned holders state quorum prices votes "
    "rules ruler selfruled free together least weight cheapest lacking sell cancel hand inring holding plain "
    "wouldhand own worths bookworths books take back settle"
).split()
GREATEST = 4294967295


def flat(*calls):
    """The list of whole numbers for calls like ("hold", 0, 1, 2, 3) or ("prices", [1, 2])."""
    numbers = []
    for name, *given in calls:
        numbers.append(NAMES.index(name))
        for value in given:
            if isinstance(value, list):
                numbers.append(len(value))
                numbers.extend(value)
            else:
                numbers.append(value)
    return numbers


def split(told):
    found = []
    at = 0
    while at < len(told):
        end = at + 1 + told[at]
        found.append(told[at + 1:end])
        at = end
    return found


def ask(*calls):
    """One list of numbers for each call."""
    return split(answers(flat(*calls)))


def ask_behind(before, *calls):
    """Like ask, but without the answers of the calls in before, which must all be taken."""
    told = ask(*before, *calls)
    for call, answer in zip(before, told):
        if answer[0] < 0:
            raise AssertionError(f"{call} is refused: {answer}")
    return told[len(before):]
