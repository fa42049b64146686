"""A ship's answers to calls, both as lists of whole numbers."""

from cruiseship.calls import NUMBERS_BEHIND
from cruiseship.voyage import Voyage, answer_call


def answers(calls):
    voyage = Voyage()
    answered = []
    at = 0
    while at < len(calls):
        call = calls[at]
        behind = at + 1 + NUMBERS_BEHIND[call]
        answer = answer_call(voyage, call, calls[at + 1:behind])
        answered.append(len(answer))
        answered.extend(answer)
        at = behind
    return answered
