"""The calls on one set of terms, handed in as one list and answered as one list."""

from bitclauses.asking import answer_of_asking, answer_of_value
from bitclauses.making import answer_of_term
from bitclauses.refusals import FULL, NO_MARK, NO_TERM, UNFIT
from bitclauses.showing import answer_of_showing
from bitclauses.state import State

MOST_CLAIMS = 12
MOST_MARKS = 8


def answer_of_claim(state, numbers):
    """How many claims there are then, or a refusal."""
    name = numbers[0]
    if not state.has(name):
        return [NO_TERM]
    if state.width(name) != 1:
        return [UNFIT]
    if len(state.claims) >= MOST_CLAIMS:
        return [FULL]
    state.claims.append(name)
    return [len(state.claims)]


def answer_of_mark(state, numbers):
    """How many marks there are then, or a refusal."""
    if len(state.marks) >= MOST_MARKS:
        return [FULL]
    state.put_mark()
    return [len(state.marks)]


def answer_of_undo(state, numbers):
    """How many terms and claims there are then, or a refusal."""
    if len(state.marks) == 0:
        return [NO_MARK]
    state.back_to_mark()
    return [len(state.terms), len(state.claims)]


# At each call's number: how many whole numbers it has, ahead of its row if it has one.
SIZES = (1, 2, 1, 1, 3, 2, 3, 2, 2, 3, 1, 0, 0, 0, 2, 1, 0, 1, 1, 0, 0, 0, 1)

# The calls with a row: reads, value.
ROW_CALLS = (21, 22)

# The first call of each kind.
CLAIM_CALL = 10
DECIDE_CALL = 13
BITS_CALL = 17
VALUE_CALL = 22

KEEPERS = (answer_of_claim, answer_of_mark, answer_of_undo)


def answer_of_call(state, call, numbers):
    """What one call answers; the numbers of its row stand behind its whole numbers."""
    if call < CLAIM_CALL:
        return answer_of_term(state, call, numbers)
    if call < DECIDE_CALL:
        keeper = KEEPERS[call - CLAIM_CALL]
        return keeper(state, numbers)
    if call < BITS_CALL:
        return answer_of_asking(state, call - DECIDE_CALL, numbers)
    if call < VALUE_CALL:
        return answer_of_showing(state, call - BITS_CALL, numbers)
    return answer_of_value(state, numbers)


def answers(calls):
    """For each call, in order, how many numbers are answered, and these."""
    state = State()
    told = []
    place = 0
    while place < len(calls):
        call = calls[place]
        end = place + 1 + SIZES[call]
        numbers = calls[place + 1:end]
        if call in ROW_CALLS:
            start = end + 1
            end = start + calls[end]
            numbers = numbers + calls[start:end]
        answer = answer_of_call(state, call, numbers)
        told.append(len(answer))
        told.extend(answer)
        place = end
    return told
