"""What the tests share: asking the program, and a second reading of the document to hold it against."""

from bitclauses.making import answer_of_term
from bitclauses.state import State
from bitclauses.terms import answers

INPUT, CONST, NOT, NEG, TWO, JOIN, CUT, ZEXT, SEXT, PICK, CLAIM, MARK = range(12)
AND, OR, XOR, ADD, SUB, MUL, DIV, REM, SHL, SHR, SAR, EQ, ULT, SLT = range(14)
TOP = 4294967295

# Inputs of 10 bits, and 1165 nodes in all.
MANY_NODES = [
    [INPUT, 8], [INPUT, 2], [ZEXT, 1, 8], [NOT, 0], [TWO, DIV, 0, 3], [TWO, MUL, 0, 3], [TWO, MUL, 3, 0],
]
# Inputs of 8 bits, and 1199 nodes in all.
ONE_NODE_LEFT = [
    [INPUT, 8], [NEG, 0], [TWO, DIV, 0, 1], [TWO, MUL, 1, 0], [TWO, XOR, 3, 2], [TWO, ADD, 4, 3], [TWO, SHL, 2, 4],
]


def flat(calls):
    """Calls put into one list, as they are handed in."""
    return [number for call in calls for number in call]


def apart(told):
    """A list of answers taken apart, one list for each call."""
    parts = []
    place = 0
    while place < len(told):
        end = place + 1 + told[place]
        if end > len(told) or told[place] < 1:
            raise AssertionError(f"not a list of answers: {told}")
        parts.append(told[place + 1:end])
        place = end
    return parts


def ask(calls):
    """What each of the calls answers."""
    return apart(answers(flat(calls)))


def last(calls):
    """What the last of the calls answers."""
    return ask(calls)[-1]


def built(calls):
    """The program's own set of terms behind calls that make terms, none of them refused."""
    state = State()
    for call in calls:
        answer = answer_of_term(state, call[0], call[1:])
        if answer[0] < 0:
            raise AssertionError(f"{call} is refused: {answer}")
    return state


def node_bits(nodes, free):
    """For each node whether it is, where free tells it of the inputs' bits, in order."""
    told = iter(free)
    bits = []
    for pair in nodes:
        if pair is None:
            bits.append(next(told))
        else:
            x, y = pair
            bits.append(literal_bit(bits, x) & literal_bit(bits, y))
    return bits


def literal_bit(bits, literal):
    if literal < 2:
        return literal
    return bits[literal // 2 - 1] ^ (literal % 2)


def worlds(widths):
    """Each value for each input, in order."""
    found = [[]]
    for width in widths:
        found = [world + [value] for world in found for value in range(2 ** width)]
    return found


def term_values(state, world):
    """The value of each term of the program's own set in a world, through its gates alone."""
    widths = [len(state.terms[name]) for name in state.inputs]
    free = [(value >> i) & 1 for value, width in zip(world, widths) for i in range(width)]
    bits = node_bits(state.gates.nodes, free)
    return [sum(literal_bit(bits, x) << i for i, x in enumerate(word)) for word in state.terms]


def signed(a, w):
    return a - 2 ** w if a >= 2 ** (w - 1) else a


def two_value(which, a, b, w):
    """What DOC.md, Words, says of a term of two."""
    top = 2 ** w
    return [
        lambda: a & b,
        lambda: a | b,
        lambda: a ^ b,
        lambda: (a + b) % top,
        lambda: (a - b) % top,
        lambda: (a * b) % top,
        lambda: a // b if b else top - 1,
        lambda: a % b if b else a,
        lambda: (a * 2 ** b) % top,
        lambda: a // 2 ** b,
        lambda: (signed(a, w) // 2 ** b) % top,
        lambda: int(a == b),
        lambda: int(a < b),
        lambda: int(signed(a, w) < signed(b, w)),
    ][which]()


def words_values(calls, world):
    """The value of each term in a world, by DOC.md, Words, with no gate; each as (width, value)."""
    given = iter(world)
    terms = []
    for call, *numbers in calls:
        if call == INPUT:
            term = (numbers[0], next(given))
        elif call == CONST:
            term = tuple(numbers)
        elif call == NOT:
            w, a = terms[numbers[0]]
            term = (w, 2 ** w - 1 - a)
        elif call == NEG:
            w, a = terms[numbers[0]]
            term = (w, (2 ** w - a) % 2 ** w)
        elif call == TWO:
            w, a = terms[numbers[1]]
            b = terms[numbers[2]][1]
            term = (1 if numbers[0] >= EQ else w, two_value(numbers[0], a, b, w))
        elif call == JOIN:
            w, a = terms[numbers[0]]
            v, b = terms[numbers[1]]
            term = (w + v, a * 2 ** v + b)
        elif call == CUT:
            a = terms[numbers[0]][1]
            term = (numbers[2], a // 2 ** numbers[1] % 2 ** numbers[2])
        elif call == ZEXT:
            term = (numbers[1], terms[numbers[0]][1])
        elif call == SEXT:
            w, a = terms[numbers[0]]
            term = (numbers[1], signed(a, w) % 2 ** numbers[1])
        else:
            term = terms[numbers[1]] if terms[numbers[0]][1] == 1 else terms[numbers[2]]
        terms.append(term)
    return terms


class Model:
    """DOC.md, Gates and The promises, read a second time; slow and plain: a gate is looked for in the whole list."""

    def __init__(self):
        self.nodes = []
        self.terms = []
        self.input_bits = 0
        self.claims = 0
        self.marks = 0

    def both(self, x, y):
        if x > y:
            x, y = y, x
        if x == 0:
            return 0
        if x == 1:
            return y
        if x == y:
            return x
        if x // 2 == y // 2:
            return 0
        if (x, y) not in self.nodes:
            self.nodes.append((x, y))
        return 2 * (self.nodes.index((x, y)) + 1)

    def flip(self, x):
        return x - 1 if x % 2 else x + 1

    def either(self, x, y):
        return self.flip(self.both(self.flip(x), self.flip(y)))

    def odd(self, x, y):
        p = self.both(x, self.flip(y))
        q = self.both(self.flip(x), y)
        return self.either(p, q)

    def chosen(self, c, x, y):
        p = self.both(c, x)
        q = self.both(self.flip(c), y)
        return self.either(p, q)

    def added(self, a, b, c):
        total = []
        for i in range(len(a)):
            d = self.odd(a[i], b[i])
            total.append(self.odd(d, c))
            e = self.both(a[i], b[i])
            f = self.both(d, c)
            c = self.either(e, f)
        return total, c

    def sub(self, a, b):
        return self.added(a, [self.flip(y) for y in b], 1)

    def mul(self, a, b):
        w = len(a)
        so_far = [0] * w
        for i in range(w):
            masked = []
            for k in range(w):
                masked.append(self.both(a[i], b[k - i] if k >= i else 0))
            so_far, carry = self.added(so_far, masked, 0)
        return so_far

    def div(self, a, b):
        w = len(a)
        quotient = [None] * w
        rest = [0] * w
        for i in range(w - 1, -1, -1):
            t = [a[i]] + rest
            left, k = self.sub(t, b + [0])
            quotient[i] = k
            kept = [self.chosen(k, left[m], t[m]) for m in range(w + 1)]
            rest = kept[0:w]
        return quotient, rest

    def shift(self, which, a, b):
        w = len(a)
        word = list(a)
        for j in range(w):
            fill = word[w - 1] if which == SAR else 0
            far = 2 ** j if which != SHL else -(2 ** j)
            moved = [word[k + far] if 0 <= k + far < w else fill for k in range(w)]
            word = [self.chosen(b[j], moved[k], word[k]) for k in range(w)]
        return word

    def eq(self, a, b):
        odds = [self.odd(a[i], b[i]) for i in range(len(a))]
        so_far = 1
        for x in odds:
            so_far = self.both(so_far, self.flip(x))
        return [so_far]

    def two(self, which, a, b):
        if which in (AND, OR, XOR):
            gate = (self.both, self.either, self.odd)[which]
            return [gate(a[i], b[i]) for i in range(len(a))]
        if which == ADD:
            return self.added(a, b, 0)[0]
        if which == SUB:
            return self.sub(a, b)[0]
        if which == MUL:
            return self.mul(a, b)
        if which in (DIV, REM):
            return self.div(a, b)[which - DIV]
        if which in (SHL, SHR, SAR):
            return self.shift(which, a, b)
        if which == EQ:
            return self.eq(a, b)
        if which == SLT:
            a = a[:-1] + [self.flip(a[-1])]
            b = b[:-1] + [self.flip(b[-1])]
        return [self.flip(self.sub(a, b)[1])]

    def word(self, call, numbers):
        """The new term's literals; the named terms are there and fit."""
        if call == INPUT:
            first = len(self.nodes) + 1
            self.nodes.extend([None] * numbers[0])
            return [2 * (first + i) for i in range(numbers[0])]
        if call == CONST:
            return [int(bit) for bit in reversed(f"{numbers[1]:0{numbers[0]}b}")]
        if call == TWO:
            return self.two(numbers[0], self.terms[numbers[1]], self.terms[numbers[2]])
        a = self.terms[numbers[0]]
        if call == NOT:
            return [self.flip(x) for x in a]
        if call == NEG:
            return self.sub([0] * len(a), a)[0]
        if call == JOIN:
            return self.terms[numbers[1]] + a
        if call == CUT:
            return [a[numbers[1] + i] for i in range(numbers[2])]
        if call in (ZEXT, SEXT):
            return a + [0 if call == ZEXT else a[-1]] * (numbers[1] - len(a))
        b, c = self.terms[numbers[1]], self.terms[numbers[2]]
        return [self.chosen(a[0], b[i], c[i]) for i in range(len(b))]

    def unfit(self, call, numbers, widths):
        """-1 is due; widths are those of the terms named, in their order."""
        return {
            INPUT: lambda: not 1 <= numbers[0] <= 8,
            CONST: lambda: not 1 <= numbers[0] <= 8 or numbers[1] >= 2 ** numbers[0],
            NOT: lambda: False,
            NEG: lambda: False,
            TWO: lambda: widths[0] != widths[1],
            JOIN: lambda: widths[0] + widths[1] > 8,
            CUT: lambda: not 1 <= numbers[2] or numbers[1] + numbers[2] > widths[0],
            ZEXT: lambda: not widths[0] <= numbers[1] <= 8,
            SEXT: lambda: not widths[0] <= numbers[1] <= 8,
            PICK: lambda: widths[0] != 1 or widths[1] != widths[2],
            CLAIM: lambda: widths[0] != 1,
            MARK: lambda: False,
        }[call]()

    def answer(self, call):
        call, *numbers = call
        named = {TWO: numbers[1:], JOIN: numbers, PICK: numbers, INPUT: [], CONST: [], MARK: []}
        names = named.get(call, numbers[:1])
        if any(name >= len(self.terms) for name in names):
            return [-2]
        if self.unfit(call, numbers, [len(self.terms[name]) for name in names]):
            return [-1]
        if call == CLAIM and self.claims == 12 or call == MARK and self.marks == 8:
            return [-5]
        if call == CLAIM:
            self.claims += 1
            return [self.claims]
        if call == MARK:
            self.marks += 1
            return [self.marks]
        if len(self.terms) == 30:
            return [-5]
        if call == INPUT and self.input_bits + numbers[0] > 10:
            return [-4]
        before = list(self.nodes)
        word = self.word(call, numbers)
        if len(self.nodes) > 1200:
            self.nodes = before
            return [-6]
        self.terms.append(word)
        self.input_bits += numbers[0] if call == INPUT else 0
        return [len(self.terms) - 1, len(self.nodes)]
