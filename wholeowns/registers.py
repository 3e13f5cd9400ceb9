"""The calls on one object, one behind another, and what they answer."""

from wholeowns.buycalls import buy_doer
from wholeowns.holdings import Holdings, may_begin
from wholeowns.owncalls import own_doer
from wholeowns.partcalls import part_doer
from wholeowns.reading import split_calls
from wholeowns.refusals import BEFORE_BEGIN, NOT_RIGHT
from wholeowns.rulecalls import rule_doer
from wholeowns.untiecalls import untie_doer
from wholeowns.worthcalls import worth_doer

BEGIN = 0


# Each call but begin is in one of these alone.
def find_doer(number):
    found = [
        part_doer(number), own_doer(number), worth_doer(number), rule_doer(number), buy_doer(number),
        untie_doer(number),
    ]
    return [doer for doer in found if doer is not None][0]


def answer_call(holdings, number, given):
    doer = find_doer(number)
    if len(given) == 0:
        return doer(holdings)
    if len(given) == 1:
        return doer(holdings, given[0])
    if len(given) == 2:
        return doer(holdings, given[0], given[1])
    if len(given) == 4:
        return doer(holdings, given[0], given[1], given[2], given[3])
    return doer(holdings, given[0], given[1], given[2], given[3], given[4])


def answers(calls):
    holdings = None
    told = []
    for number, given in split_calls(calls):
        if number == BEGIN and may_begin(given[0], given[1]):
            holdings = Holdings(given[0], given[1])
            answer = [0]
        elif number == BEGIN:
            answer = [NOT_RIGHT]
        elif holdings is None:
            answer = [BEFORE_BEGIN]
        else:
            answer = answer_call(holdings, number, given)
        told.append(len(answer))
        told.extend(answer)
    return told
