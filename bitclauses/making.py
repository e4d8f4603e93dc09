"""The calls that make terms: what each refuses, and the word that it makes."""

from bitclauses.gates import ALWAYS, NEVER
from bitclauses.refusals import FULL, NO_TERM, TOO_MANY_INPUT_BITS, TOO_MANY_NODES, UNFIT
from bitclauses.words import chosen_word, opposites, word_neg, word_two, zeros

MOST_WIDTH = 8
MOST_TERMS = 30
MOST_INPUT_BITS = 10
MOST_NODES = 1200

INPUT_CALL = 0


def bad_width(w):
    """Whether no term can be so wide."""
    return w < 1 or w > MOST_WIDTH


def unfit_input(state, numbers):
    """input (w)."""
    return bad_width(numbers[0])


def unfit_const(state, numbers):
    """const (w, v)."""
    return bad_width(numbers[0]) or numbers[1].bit_length() > numbers[0]


def unfit_one(state, numbers):
    """not (a), neg (a): any term will do."""
    return False


def unfit_two(state, numbers):
    """two (which, a, b)."""
    return state.width(numbers[1]) != state.width(numbers[2])


def unfit_join(state, numbers):
    """join (a, b)."""
    return bad_width(state.width(numbers[0]) + state.width(numbers[1]))


def unfit_cut(state, numbers):
    """cut (a, lo, n)."""
    return numbers[2] == 0 or numbers[1] + numbers[2] > state.width(numbers[0])


def unfit_wider(state, numbers):
    """zext (a, w), sext (a, w)."""
    return numbers[1] < state.width(numbers[0]) or bad_width(numbers[1])


def unfit_pick(state, numbers):
    """pick (c, a, b)."""
    return state.width(numbers[0]) != 1 or state.width(numbers[1]) != state.width(numbers[2])


def make_input(state, numbers):
    """New nodes, the lowest bit's first."""
    return [state.gates.fresh() for i in range(numbers[0])]


def make_const(state, numbers):
    """0s and 1s."""
    return [ALWAYS if (numbers[1] >> i) & 1 == 1 else NEVER for i in range(numbers[0])]


def make_not(state, numbers):
    """Not, of each bit."""
    return opposites(state.terms[numbers[0]])


def make_neg(state, numbers):
    """0s without a."""
    return word_neg(state.gates, state.terms[numbers[0]])


def make_two(state, numbers):
    """One of the fourteen terms of two."""
    return word_two(state.gates, numbers[0], state.terms[numbers[1]], state.terms[numbers[2]])


def make_join(state, numbers):
    """b's bits, and above them a's."""
    return state.terms[numbers[1]] + state.terms[numbers[0]]


def make_cut(state, numbers):
    """n bits of a, from lo on."""
    return state.terms[numbers[0]][numbers[1]:numbers[1] + numbers[2]]


def make_zext(state, numbers):
    """a's bits, and above them 0s."""
    word = state.terms[numbers[0]]
    return word + zeros(numbers[1] - len(word))


def make_sext(state, numbers):
    """a's bits, and above them copies of the highest."""
    word = state.terms[numbers[0]]
    return word + [word[-1]] * (numbers[1] - len(word))


def make_pick(state, numbers):
    """Each bit chosen by c's one."""
    c = state.terms[numbers[0]][0]
    return chosen_word(state.gates, c, state.terms[numbers[1]], state.terms[numbers[2]])


# At each call's number: where among its numbers terms are named; whether it's unfit; its word.
NAMED = ((), (), (0,), (0,), (1, 2), (0, 1), (0,), (0,), (0,), (0, 1, 2))
UNFITS = (
    unfit_input,
    unfit_const,
    unfit_one,
    unfit_one,
    unfit_two,
    unfit_join,
    unfit_cut,
    unfit_wider,
    unfit_wider,
    unfit_pick,
)
MAKERS = (
    make_input,
    make_const,
    make_not,
    make_neg,
    make_two,
    make_join,
    make_cut,
    make_zext,
    make_sext,
    make_pick,
)


def refusal_of_term(state, call, numbers):
    """Why a term can't be made, as far as that's known ahead of its gates; 0 if there's nothing against it."""
    for place in NAMED[call]:
        if not state.has(numbers[place]):
            return NO_TERM
    unfit = UNFITS[call]
    if unfit(state, numbers):
        return UNFIT
    if len(state.terms) >= MOST_TERMS:
        return FULL
    if call == INPUT_CALL and state.bits_of_inputs() + numbers[0] > MOST_INPUT_BITS:
        return TOO_MANY_INPUT_BITS
    return 0


def answer_of_term(state, call, numbers):
    """The answer to a call that makes a term."""
    refusal = refusal_of_term(state, call, numbers)
    if refusal < 0:
        return [refusal]
    size = state.gates.size()
    make = MAKERS[call]
    word = make(state, numbers)
    if state.gates.size() > MOST_NODES:
        # How many gates are new is known only once they're made, so they're taken away again.
        state.gates.shrink(size)
        return [TOO_MANY_NODES]
    name = len(state.terms)
    state.terms.append(word)
    if call == INPUT_CALL:
        state.inputs.append(name)
    return [name, state.gates.size()]
