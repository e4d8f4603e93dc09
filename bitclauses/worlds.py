"""All worlds at once.

World k is the one that has k others before it: written in bits, k is the inputs' values put together, the first one
above all others. A table is a whole number whose bit k tells of world k, so a step over tables is one in every world.
"""


def places_of_bits(state):
    """For the literal of each input's bit: which bit of a world's number it is."""
    places = {}
    below = state.bits_of_inputs()
    for name in state.inputs:
        below = below - state.width(name)
        for i, literal in enumerate(state.terms[name]):
            places[literal] = below + i
    return places


def value_in(tables, world):
    """A word's value in one world, of the tables of its bits."""
    return sum([((table >> world) & 1) << i for i, table in enumerate(tables)])


class Worlds:
    """The worlds of a set of terms as it is now; what's asked of the set later isn't seen here."""

    def __init__(self, state):
        self.widths = [state.width(name) for name in state.inputs]
        self.amount = 1 << sum(self.widths)
        self.everywhere = (1 << self.amount) - 1
        # Each node's table at its number. At 0 that of no world: so the literals 0 and 1 need no case of their own.
        self.tables = [0]
        places = places_of_bits(state)
        for pair in state.gates.nodes:
            if pair is None:
                table = self.where_bit_is(places[2 * len(self.tables)])
            else:
                table = self.where(pair[0]) & self.where(pair[1])
            self.tables.append(table)

    def where_bit_is(self, place):
        """The table of those worlds in whose number this bit is 1."""
        return sum([1 << k for k in range(self.amount) if (k >> place) & 1 == 1])

    def where(self, literal):
        """The table of a literal."""
        table = self.tables[literal // 2]
        if literal % 2 == 1:
            return self.everywhere ^ table
        return table

    def tables_of(self, word):
        """The table of each bit of a word."""
        return [self.where(literal) for literal in word]

    def fitting(self, state):
        """The table of the worlds in which all claimed terms are 1."""
        table = self.everywhere
        for name in state.claims:
            table = table & self.where(state.terms[name][0])
        return table

    def differing(self, word, other):
        """The table of the worlds in which two words of one width haven't the same value."""
        table = 0
        for x, y in zip(word, other):
            table = table | (self.where(x) ^ self.where(y))
        return table

    def listed(self, table):
        """The worlds of a table, in order."""
        return [k for k in range(self.amount) if (table >> k) & 1 == 1]

    def number_of(self, given):
        """The world of these inputs' values."""
        world = 0
        for width, value in zip(self.widths, given):
            world = (world << width) + value
        return world

    def inputs_in(self, world):
        """The inputs' values in a world."""
        given = []
        for width in reversed(self.widths):
            given = [world & ((1 << width) - 1)] + given
            world = world >> width
        return given
