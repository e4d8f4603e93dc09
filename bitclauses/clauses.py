"""What's claimed, made clauses over the gates that it needs."""

from bitclauses.gates import ALWAYS, NEVER


def needed_nodes(state):
    """The numbers of the needed nodes, in order."""
    size = state.gates.size()
    # Node 0 isn't there, but it takes in the literals 0 and 1.
    needed = [False] * (size + 1)
    for name in state.claims:
        needed[state.terms[name][0] // 2] = True
    # A gate's literals are of earlier nodes, so on the way down each node is settled when it's come to.
    for n in range(size, 0, -1):
        pair = state.gates.pair(n)
        if needed[n] and pair is not None:
            needed[pair[0] // 2] = True
            needed[pair[1] // 2] = True
    return [n for n in range(1, size + 1) if needed[n]]


def in_clause(literal):
    """A literal of a node as clauses write it: n, or -n for its not."""
    if literal % 2 == 1:
        return -(literal // 2)
    return literal // 2


def clauses_of_gate(n, pair):
    """Node n is just where both of its literals are."""
    x = in_clause(pair[0])
    y = in_clause(pair[1])
    return [[-n, x], [-n, y], [n, -x, -y]]


def clauses_of_claim(literal):
    """The literal is."""
    if literal == ALWAYS:
        return []
    if literal == NEVER:
        return [[]]
    return [[in_clause(literal)]]


def all_clauses(state):
    """Those of the needed gates, and behind them those of the claims."""
    found = []
    for n in needed_nodes(state):
        pair = state.gates.pair(n)
        if pair is not None:
            found.extend(clauses_of_gate(n, pair))
    for name in state.claims:
        found.extend(clauses_of_claim(state.terms[name][0]))
    return found


def holds(clause, told):
    """Whether one of a clause's literals is, where told says 1 or 0 of each node."""
    for literal in clause:
        if (literal > 0) == (told[abs(literal)] == 1):
            return True
    return False
