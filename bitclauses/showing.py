"""The calls that show what was made: bits, node, sizes, clauses; and reads, which takes its solution back."""

from bitclauses.clauses import all_clauses, holds, needed_nodes
from bitclauses.refusals import NO_NODE, NO_TERM, UNFIT


def answer_of_bits(state, numbers):
    """A term's width and its literals."""
    if not state.has(numbers[0]):
        return [NO_TERM]
    word = state.terms[numbers[0]]
    return [len(word)] + word


def answer_of_node(state, numbers):
    """Whether a node is a gate, and of which literals."""
    n = numbers[0]
    if n < 1 or n > state.gates.size():
        return [NO_NODE]
    pair = state.gates.pair(n)
    if pair is None:
        return [0]
    return [1, pair[0], pair[1]]


def answer_of_sizes(state, numbers):
    """How many nodes, gates, needed nodes, clauses."""
    size = state.gates.size()
    return [size, size - state.bits_of_inputs(), len(needed_nodes(state)), len(all_clauses(state))]


def answer_of_clauses(state, numbers):
    """How many clauses, then each with how many literals it has."""
    found = all_clauses(state)
    answer = [len(found)]
    for clause in found:
        answer.append(len(clause))
        answer.extend(clause)
    return answer


def value_read(word, told):
    """An input's value where told says 1 or 0 of the needed nodes; other bits are 0."""
    return sum([told.get(literal // 2, 0) << i for i, literal in enumerate(word)])


def answer_of_reads(state, numbers):
    """The inputs' values if all clauses hold, else the first that doesn't; the numbers are of the needed nodes."""
    needed = needed_nodes(state)
    if len(numbers) != len(needed) or any([bit > 1 for bit in numbers]):
        return [UNFIT]
    told = dict(zip(needed, numbers))
    for place, clause in enumerate(all_clauses(state)):
        if not holds(clause, told):
            return [0, place]
    return [1, len(state.inputs)] + [value_read(state.terms[name], told) for name in state.inputs]


# In the order of their calls' numbers.
SHOWERS = (answer_of_bits, answer_of_node, answer_of_sizes, answer_of_clauses, answer_of_reads)


def answer_of_showing(state, which, numbers):
    """What bits, node, sizes, clauses, reads answers, counted from 0."""
    shower = SHOWERS[which]
    return shower(state, numbers)
