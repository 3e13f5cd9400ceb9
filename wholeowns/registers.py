"""The calls on one object, one behind another, and what they answer."""

from wholeowns.holdings import Holdings, may_begin
from wholeowns.owncalls import own_doer
from wholeowns.partcalls import part_doer
from wholeowns.reading import split_calls
from wholeowns.refusals import BEFORE_BEGIN, NOT_RIGHT
from wholeowns.rulecalls import rule_doer

BEGIN = 0


# A call of the document that isn't built yet: better no answers at all than a wrong one among them.
class NotBuilt(Exception):
    pass


def find_doer(number):
    doer = part_doer(number)
    if doer is None:
        doer = own_doer(number)
    if doer is None:
        doer = rule_doer(number)
    if doer is None:
        raise NotBuilt(f"call {number} is not built yet")
    return doer


def answer_call(holdings, number, given):
    doer = find_doer(number)
    if len(given) == 0:
        return doer(holdings)
    if len(given) == 1:
        return doer(holdings, given[0])
    if len(given) == 2:
        return doer(holdings, given[0], given[1])
    return doer(holdings, given[0], given[1], given[2], given[3])


def answers(calls):
    holdings = None
    told = []
    for number, given in split_calls(calls):
        if number == BEGIN and may_begin(given[0], given[1]):
            holdings = Holdings(given[0], given[1])
            answer = [0]
        elif number == BEGIN:
            answer = [NOT_RIGHT]
        elif holdings is None:
            answer = [BEFORE_BEGIN]
        else:
            answer = answer_call(holdings, number, given)
        told.append(len(answer))
        told.extend(answer)
    return told
