"""What a line's calls are about: one set of terms, gates, claims and marks."""

from bitclauses.gates import Gates


class State:
    """At its beginning there is nothing."""

    def __init__(self):
        self.gates = Gates()
        # Each term's literals, at its name.
        self.terms = []
        # The names of those terms that are inputs, in order.
        self.inputs = []
        # The names of the claimed terms, in order.
        self.claims = []
        # For each mark how many terms, inputs, claims and nodes there were: each of these only grows between.
        self.marks = []

    def has(self, name):
        """Whether a term is there."""
        return name < len(self.terms)

    def width(self, name):
        """How many bits a term has."""
        return len(self.terms[name])

    def bits_of_inputs(self):
        """How many bits the inputs have together."""
        return sum([self.width(name) for name in self.inputs])

    def put_mark(self):
        """Keeps how much there is now."""
        self.marks.append((len(self.terms), len(self.inputs), len(self.claims), self.gates.size()))

    def back_to_mark(self):
        """Only what there was at the last mark stays, and the mark goes."""
        kept = self.marks.pop()
        self.terms = self.terms[:kept[0]]
        self.inputs = self.inputs[:kept[1]]
        self.claims = self.claims[:kept[2]]
        self.gates.shrink(kept[3])
