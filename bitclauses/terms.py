"""The calls on one set of terms, handed in as one list and answered as one list."""

from bitclauses.making import answer_of_term
from bitclauses.refusals import FULL, NO_TERM, UNFIT
from bitclauses.state import State

MOST_CLAIMS = 12
MOST_MARKS = 8

CLAIM_CALL = 10

# At each call's number: how many whole numbers it has.
SIZES = (1, 2, 1, 1, 3, 2, 3, 2, 2, 3, 1, 0)


def answer_of_claim(state, name):
    """How many claims there are then, or a refusal."""
    if not state.has(name):
        return [NO_TERM]
    if state.width(name) != 1:
        return [UNFIT]
    if len(state.claims) >= MOST_CLAIMS:
        return [FULL]
    state.claims.append(name)
    return [len(state.claims)]


def answer_of_mark(state):
    """How many marks there are then, or a refusal."""
    if len(state.marks) >= MOST_MARKS:
        return [FULL]
    state.put_mark()
    return [len(state.marks)]


def answer_of_call(state, call, numbers):
    """What one call answers."""
    if call < CLAIM_CALL:
        return answer_of_term(state, call, numbers)
    if call == CLAIM_CALL:
        return answer_of_claim(state, numbers[0])
    return answer_of_mark(state)


def answers(calls):
    """For each call, in order, how many numbers are answered, and these."""
    state = State()
    told = []
    place = 0
    while place < len(calls):
        call = calls[place]
        end = place + 1 + SIZES[call]
        answer = answer_of_call(state, call, calls[place + 1:end])
        told.append(len(answer))
        told.extend(answer)
        place = end
    return told
