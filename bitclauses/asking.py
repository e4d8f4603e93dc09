"""The calls that ask what holds: decide, same, range, count, value."""

from bitclauses.refusals import NO_TERM, UNFIT
from bitclauses.worlds import Worlds, value_in


def inputs_told(worlds, world):
    """How many inputs there are, then their values in a world."""
    given = worlds.inputs_in(world)
    return [len(given)] + given


def answer_of_decide(state, numbers):
    """The first world that fits."""
    worlds = Worlds(state)
    found = worlds.listed(worlds.fitting(state))
    if len(found) == 0:
        return [0]
    return [1] + inputs_told(worlds, found[0])


def answer_of_same(state, numbers):
    """Whether two terms can't be told apart, or the first world that fits in which they can."""
    t = numbers[0]
    u = numbers[1]
    if not state.has(t) or not state.has(u):
        return [NO_TERM]
    if state.width(t) != state.width(u):
        return [UNFIT]
    worlds = Worlds(state)
    apart = worlds.differing(state.terms[t], state.terms[u])
    found = worlds.listed(worlds.fitting(state) & apart)
    if len(found) == 0:
        return [1]
    return [0] + inputs_told(worlds, found[0])


def answer_of_range(state, numbers):
    """A term's least and greatest value over the worlds that fit."""
    name = numbers[0]
    if not state.has(name):
        return [NO_TERM]
    worlds = Worlds(state)
    tables = worlds.tables_of(state.terms[name])
    reached = [value_in(tables, world) for world in worlds.listed(worlds.fitting(state))]
    if len(reached) == 0:
        return [0]
    return [1, min(reached), max(reached)]


def answer_of_count(state, numbers):
    """How many worlds fit."""
    worlds = Worlds(state)
    return [len(worlds.listed(worlds.fitting(state)))]


def unfit_world(state, given):
    """Whether these aren't values for the inputs, one for each."""
    if len(given) != len(state.inputs):
        return True
    return any([value.bit_length() > state.width(name) for name, value in zip(state.inputs, given)])


def answer_of_value(state, numbers):
    """Whether a world fits, and a term's value in it; behind the term's name stand the inputs' values."""
    name = numbers[0]
    given = numbers[1:]
    if not state.has(name):
        return [NO_TERM]
    if unfit_world(state, given):
        return [UNFIT]
    worlds = Worlds(state)
    world = worlds.number_of(given)
    fits = (worlds.fitting(state) >> world) & 1
    return [fits, value_in(worlds.tables_of(state.terms[name]), world)]


# In the order of their calls' numbers.
ASKERS = (answer_of_decide, answer_of_same, answer_of_range, answer_of_count)


def answer_of_asking(state, which, numbers):
    """What decide, same, range, count answers, counted from 0."""
    asker = ASKERS[which]
    return asker(state, numbers)
