"""How a change that was tried on a twin is carried out, or refused."""

from wholeowns.refusals import TOO_GREAT


def carried_out(holdings, trial, answer):
    if trial.has_too_great():
        return [TOO_GREAT]
    holdings.change_to(trial.parts)
    return answer
