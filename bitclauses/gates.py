"""Nodes and literals. Each gate is made once, and none where a literal that is there says the same."""

NEVER = 0
ALWAYS = 1


def opposite(x):
    """Not x: literals go in pairs, 0 and 1, 2n and 2n + 1."""
    return x ^ 1


class Gates:
    """The nodes, numbered from 1 on, and the gates among them by their two literals."""

    def __init__(self):
        # Node n stands at n - 1: None for an input's bit, the two literals for a gate.
        self.nodes = []
        self.known = {}

    def size(self):
        """How many nodes there are."""
        return len(self.nodes)

    def pair(self, n):
        """The two literals of node n; None for an input's bit."""
        return self.nodes[n - 1]

    def fresh(self):
        """The literal of a new node for an input's bit."""
        self.nodes.append(None)
        return 2 * len(self.nodes)

    def shrink(self, size):
        """Only the first nodes, as many as size says, stay; later gates can't be found any more."""
        while len(self.nodes) > size:
            pair = self.nodes.pop()
            if pair is not None:
                self.known.pop(pair)

    def gate(self, low, high):
        """The gate of two literals, in this order: the one that is there, or a new node."""
        pair = (low, high)
        if pair not in self.known:
            self.nodes.append(pair)
            self.known[pair] = 2 * len(self.nodes)
        return self.known[pair]

    def both(self, x, y):
        """x and y."""
        low = min(x, y)
        high = max(x, y)
        if low == NEVER or high == opposite(low):
            return NEVER
        if low == ALWAYS or low == high:
            return high
        return self.gate(low, high)

    def either(self, x, y):
        """x or y."""
        return opposite(self.both(opposite(x), opposite(y)))

    def odd(self, x, y):
        """Just one of x and y."""
        p = self.both(x, opposite(y))
        q = self.both(opposite(x), y)
        return self.either(p, q)

    def chosen(self, c, x, y):
        """x where c is, else y."""
        p = self.both(c, x)
        q = self.both(opposite(c), y)
        return self.either(p, q)
