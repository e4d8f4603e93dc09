"""What the tests share: asking the program, and a second reading of the document to hold it against."""

from bitclauses.making import answer_of_term
from bitclauses.state import State
from bitclauses.terms import answers

INPUT, CONST, NOT, NEG, TWO, JOIN, CUT, ZEXT, SEXT, PICK, CLAIM, MARK = range(12)
UNDO, DECIDE, SAME, RANGE, COUNT, BITS, NODE, SIZES, CLAUSES, READS, VALUE = range(12, 23)
AND, OR, XOR, ADD, SUB, MUL, DIV, REM, SHL, SHR, SAR, EQ, ULT, SLT = range(14)
TOP = 4294967295

# Inputs of 10 bits, and 1165 nodes in all.
MANY_NODES = [
    [INPUT, 8], [INPUT, 2], [ZEXT, 1, 8], [NOT, 0], [TWO, DIV, 0, 3], [TWO, MUL, 0, 3], [TWO, MUL, 3, 0],
]
# Inputs of 8 bits, and 1199 nodes in all.
ONE_NODE_LEFT = [
    [INPUT, 8], [NEG, 0], [TWO, DIV, 0, 1], [TWO, MUL, 1, 0], [TWO, XOR, 3, 2], [TWO, ADD, 4, 3], [TWO, SHL, 2, 4],
]


def flat(calls):
    """Calls put into one list, as they are handed in."""
    return [number for call in calls for number in call]


def apart(told):
    """A list of answers taken apart, one list for each call."""
    parts = apart_empty_too(told)
    if [] in parts:
        raise AssertionError(f"nothing is answered of a call: {told}")
    return parts


def ask(calls):
    """What each of the calls answers."""
    if not 1 <= len(calls) <= 40 or len(flat(calls)) > 31000:
        raise AssertionError("no such list is handed in")
    return apart(answers(flat(calls)))


def last(calls):
    """What the last of the calls answers."""
    return ask(calls)[-1]


def reads(told):
    """The call reads with its row."""
    return [READS, len(told)] + list(told)


def value(t, given):
    """The call value with its row."""
    return [VALUE, t, len(given)] + list(given)


def clause_lists(told):
    """The answer of clauses taken apart, one list for each clause."""
    found = apart_empty_too(told[1:])
    if len(found) != told[0]:
        raise AssertionError(f"not as many clauses as told: {told}")
    return found


def apart_empty_too(told):
    parts = []
    place = 0
    while place < len(told):
        end = place + 1 + told[place]
        if end > len(told):
            raise AssertionError(f"a part is cut off: {told}")
        parts.append(told[place + 1:end])
        place = end
    return parts


def built(calls):
    """The program's own set of terms behind calls that make terms, none of them refused."""
    state = State()
    for call in calls:
        answer = answer_of_term(state, call[0], call[1:])
        if answer[0] < 0:
            raise AssertionError(f"{call} is refused: {answer}")
    return state


def node_bits(nodes, free):
    """For each node whether it is, where free tells it of the inputs' bits, in order."""
    told = iter(free)
    bits = []
    for pair in nodes:
        if pair is None:
            bits.append(next(told))
        else:
            x, y = pair
            bits.append(literal_bit(bits, x) & literal_bit(bits, y))
    return bits


def literal_bit(bits, literal):
    if literal < 2:
        return literal
    return bits[literal // 2 - 1] ^ (literal % 2)


def worlds(widths):
    """Each value for each input, in order."""
    found = [[]]
    for width in widths:
        found = [world + [value] for world in found for value in range(2 ** width)]
    return found


def term_values(state, world):
    """The value of each term of the program's own set in a world, through its gates alone."""
    widths = [len(state.terms[name]) for name in state.inputs]
    free = [(value >> i) & 1 for value, width in zip(world, widths) for i in range(width)]
    bits = node_bits(state.gates.nodes, free)
    return [sum(literal_bit(bits, x) << i for i, x in enumerate(word)) for word in state.terms]


def signed(a, w):
    return a - 2 ** w if a >= 2 ** (w - 1) else a


def two_value(which, a, b, w):
    """What DOC.md, Words, says of a term of two."""
    top = 2 ** w
    return [
        lambda: a & b,
        lambda: a | b,
        lambda: a ^ b,
        lambda: (a + b) % top,
        lambda: (a - b) % top,
        lambda: (a * b) % top,
        lambda: a // b if b else top - 1,
        lambda: a % b if b else a,
        lambda: (a * 2 ** b) % top,
        lambda: a // 2 ** b,
        lambda: (signed(a, w) // 2 ** b) % top,
        lambda: int(a == b),
        lambda: int(a < b),
        lambda: int(signed(a, w) < signed(b, w)),
    ][which]()


def words_values(calls, world):
    """The value of each term in a world, by DOC.md, Words, with no gate; each as (width, value)."""
    given = iter(world)
    terms = []
    for call, *numbers in calls:
        if call == INPUT:
            term = (numbers[0], next(given))
        elif call == CONST:
            term = tuple(numbers)
        elif call == NOT:
            w, a = terms[numbers[0]]
            term = (w, 2 ** w - 1 - a)
        elif call == NEG:
            w, a = terms[numbers[0]]
            term = (w, (2 ** w - a) % 2 ** w)
        elif call == TWO:
            w, a = terms[numbers[1]]
            b = terms[numbers[2]][1]
            term = (1 if numbers[0] >= EQ else w, two_value(numbers[0], a, b, w))
        elif call == JOIN:
            w, a = terms[numbers[0]]
            v, b = terms[numbers[1]]
            term = (w + v, a * 2 ** v + b)
        elif call == CUT:
            a = terms[numbers[0]][1]
            term = (numbers[2], a // 2 ** numbers[1] % 2 ** numbers[2])
        elif call == ZEXT:
            term = (numbers[1], terms[numbers[0]][1])
        elif call == SEXT:
            w, a = terms[numbers[0]]
            term = (numbers[1], signed(a, w) % 2 ** numbers[1])
        else:
            term = terms[numbers[1]] if terms[numbers[0]][1] == 1 else terms[numbers[2]]
        terms.append(term)
    return terms


class Model:
    """DOC.md from Gates to The promises, read a second time; slow and plain: a gate is looked for in the whole list,
    and what holds is asked of each world, one by one, with no gate."""

    def __init__(self):
        self.nodes = []
        self.terms = []
        # The calls that made the terms, for words_values.
        self.made = []
        self.claims = []
        # For each mark copies of all four.
        self.marks = []
        self.seen = None

    def both(self, x, y):
        if x > y:
            x, y = y, x
        if x == 0:
            return 0
        if x == 1:
            return y
        if x == y:
            return x
        if x // 2 == y // 2:
            return 0
        if (x, y) not in self.nodes:
            self.nodes.append((x, y))
        return 2 * (self.nodes.index((x, y)) + 1)

    def flip(self, x):
        return x - 1 if x % 2 else x + 1

    def either(self, x, y):
        return self.flip(self.both(self.flip(x), self.flip(y)))

    def odd(self, x, y):
        p = self.both(x, self.flip(y))
        q = self.both(self.flip(x), y)
        return self.either(p, q)

    def chosen(self, c, x, y):
        p = self.both(c, x)
        q = self.both(self.flip(c), y)
        return self.either(p, q)

    def added(self, a, b, c):
        total = []
        for i in range(len(a)):
            d = self.odd(a[i], b[i])
            total.append(self.odd(d, c))
            e = self.both(a[i], b[i])
            f = self.both(d, c)
            c = self.either(e, f)
        return total, c

    def sub(self, a, b):
        return self.added(a, [self.flip(y) for y in b], 1)

    def mul(self, a, b):
        w = len(a)
        so_far = [0] * w
        for i in range(w):
            masked = []
            for k in range(w):
                masked.append(self.both(a[i], b[k - i] if k >= i else 0))
            so_far, carry = self.added(so_far, masked, 0)
        return so_far

    def div(self, a, b):
        w = len(a)
        quotient = [None] * w
        rest = [0] * w
        for i in range(w - 1, -1, -1):
            t = [a[i]] + rest
            left, k = self.sub(t, b + [0])
            quotient[i] = k
            kept = [self.chosen(k, left[m], t[m]) for m in range(w + 1)]
            rest = kept[0:w]
        return quotient, rest

    def shift(self, which, a, b):
        w = len(a)
        word = list(a)
        for j in range(w):
            fill = word[w - 1] if which == SAR else 0
            far = 2 ** j if which != SHL else -(2 ** j)
            moved = [word[k + far] if 0 <= k + far < w else fill for k in range(w)]
            word = [self.chosen(b[j], moved[k], word[k]) for k in range(w)]
        return word

    def eq(self, a, b):
        odds = [self.odd(a[i], b[i]) for i in range(len(a))]
        so_far = 1
        for x in odds:
            so_far = self.both(so_far, self.flip(x))
        return [so_far]

    def two(self, which, a, b):
        if which in (AND, OR, XOR):
            gate = (self.both, self.either, self.odd)[which]
            return [gate(a[i], b[i]) for i in range(len(a))]
        if which == ADD:
            return self.added(a, b, 0)[0]
        if which == SUB:
            return self.sub(a, b)[0]
        if which == MUL:
            return self.mul(a, b)
        if which in (DIV, REM):
            return self.div(a, b)[which - DIV]
        if which in (SHL, SHR, SAR):
            return self.shift(which, a, b)
        if which == EQ:
            return self.eq(a, b)
        if which == SLT:
            a = a[:-1] + [self.flip(a[-1])]
            b = b[:-1] + [self.flip(b[-1])]
        return [self.flip(self.sub(a, b)[1])]

    def word(self, call, numbers):
        """The new term's literals; the named terms are there and fit."""
        if call == INPUT:
            first = len(self.nodes) + 1
            self.nodes.extend([None] * numbers[0])
            return [2 * (first + i) for i in range(numbers[0])]
        if call == CONST:
            return [int(bit) for bit in reversed(f"{numbers[1]:0{numbers[0]}b}")]
        if call == TWO:
            return self.two(numbers[0], self.terms[numbers[1]], self.terms[numbers[2]])
        a = self.terms[numbers[0]]
        if call == NOT:
            return [self.flip(x) for x in a]
        if call == NEG:
            return self.sub([0] * len(a), a)[0]
        if call == JOIN:
            return self.terms[numbers[1]] + a
        if call == CUT:
            return [a[numbers[1] + i] for i in range(numbers[2])]
        if call in (ZEXT, SEXT):
            return a + [0 if call == ZEXT else a[-1]] * (numbers[1] - len(a))
        b, c = self.terms[numbers[1]], self.terms[numbers[2]]
        return [self.chosen(a[0], b[i], c[i]) for i in range(len(b))]

    def unfit(self, call, numbers, widths):
        """-1 is due; widths are those of the terms named, in their order."""
        return {
            INPUT: lambda: not 1 <= numbers[0] <= 8,
            CONST: lambda: not 1 <= numbers[0] <= 8 or numbers[1] >= 2 ** numbers[0],
            NOT: lambda: False,
            NEG: lambda: False,
            TWO: lambda: widths[0] != widths[1],
            JOIN: lambda: widths[0] + widths[1] > 8,
            CUT: lambda: not 1 <= numbers[2] or numbers[1] + numbers[2] > widths[0],
            ZEXT: lambda: not widths[0] <= numbers[1] <= 8,
            SEXT: lambda: not widths[0] <= numbers[1] <= 8,
            PICK: lambda: widths[0] != 1 or widths[1] != widths[2],
            CLAIM: lambda: widths[0] != 1,
            SAME: lambda: widths[0] != widths[1],
            VALUE: lambda: not self.is_world(numbers[2:]),
            READS: lambda: len(numbers) - 1 != len(self.needed()) or any(bit > 1 for bit in numbers[1:]),
        }.get(call, lambda: False)()

    def input_widths(self):
        return [call[1] for call in self.made if call[0] == INPUT]

    def is_world(self, given):
        widths = self.input_widths()
        return len(given) == len(widths) and all(v < 2 ** w for v, w in zip(given, widths))

    def all_worlds(self):
        """Each world with each term's value in it."""
        if self.seen is None or self.seen[0] != self.made:
            found = [(world, [v for w, v in words_values(self.made, world)]) for world in worlds(self.input_widths())]
            self.seen = (list(self.made), found)
        return self.seen[1]

    def fitting(self):
        return [(world, told) for world, told in self.all_worlds() if all(told[t] == 1 for t in self.claims)]

    def needed(self):
        """The numbers of the needed nodes: more and more, until there are no more."""
        found = {self.terms[t][0] // 2 for t in self.claims} - {0}
        while True:
            pairs = [self.nodes[n - 1] for n in found if self.nodes[n - 1] is not None]
            more = found | {x // 2 for pair in pairs for x in pair}
            if more == found:
                return sorted(found)
            found = more

    def clauses(self):
        def sign(x):
            return -(x // 2) if x % 2 else x // 2

        found = []
        for n in self.needed():
            if self.nodes[n - 1] is not None:
                x, y = self.nodes[n - 1]
                found += [[-n, sign(x)], [-n, sign(y)], [n, sign(self.flip(x)), sign(self.flip(y))]]
        for t in self.claims:
            x = self.terms[t][0]
            found += {0: [[]], 1: []}.get(x, [[sign(x)]])
        return found

    def solution(self, world):
        """Of each needed node whether it is, in a world."""
        widths = self.input_widths()
        bits = node_bits(self.nodes, [v // 2 ** i % 2 for v, w in zip(world, widths) for i in range(w)])
        return [bits[n - 1] for n in self.needed()]

    def read(self, told):
        truth = {}
        for n, bit in zip(self.needed(), told):
            truth[n] = bit == 1
            truth[-n] = bit == 0
        for place, clause in enumerate(self.clauses()):
            if not any(truth[x] for x in clause):
                return [0, place]
        inputs = [self.terms[t] for t, call in enumerate(self.made) if call[0] == INPUT]
        found = [sum(2 ** i for i, x in enumerate(word) if truth.get(x // 2)) for word in inputs]
        return [1, len(found)] + found

    def same(self, t, u):
        for world, told in self.fitting():
            if told[t] != told[u]:
                return [0, len(world)] + world
        return [1]

    def span(self, t):
        reached = sorted(told[t] for world, told in self.fitting())
        return [1, reached[0], reached[-1]] if reached else [0]

    def decide(self):
        for world, told in self.fitting():
            return [1, len(world)] + world
        return [0]

    def value(self, t, given):
        told = dict((tuple(world), told) for world, told in self.all_worlds())[tuple(given)]
        return [int(all(told[c] == 1 for c in self.claims)), told[t]]

    def undo(self):
        if not self.marks:
            return [-7]
        self.nodes, self.terms, self.made, self.claims = self.marks.pop()
        return [len(self.terms), len(self.claims)]

    def node(self, n):
        if not 1 <= n <= len(self.nodes):
            return [-3]
        pair = self.nodes[n - 1]
        return [0] if pair is None else [1, *pair]

    def sizes(self):
        gates = [pair for pair in self.nodes if pair is not None]
        return [len(self.nodes), len(gates), len(self.needed()), len(self.clauses())]

    def claim(self, t):
        if len(self.claims) == 12:
            return [-5]
        self.claims.append(t)
        return [len(self.claims)]

    def mark(self):
        if len(self.marks) == 8:
            return [-5]
        self.marks.append((list(self.nodes), list(self.terms), list(self.made), list(self.claims)))
        return [len(self.marks)]

    def make(self, call, numbers):
        if len(self.terms) == 30:
            return [-5]
        if call == INPUT and sum(self.input_widths()) + numbers[0] > 10:
            return [-4]
        before = list(self.nodes)
        word = self.word(call, numbers)
        if len(self.nodes) > 1200:
            self.nodes = before
            return [-6]
        self.terms.append(word)
        self.made.append([call] + numbers)
        return [len(self.terms) - 1, len(self.nodes)]

    def answer(self, call):
        call, *numbers = call
        named = {TWO: numbers[1:], JOIN: numbers, PICK: numbers, SAME: numbers}
        for alone in (NOT, NEG, CUT, ZEXT, SEXT, CLAIM, RANGE, BITS, VALUE):
            named[alone] = numbers[:1]
        names = named.get(call, [])
        if any(name >= len(self.terms) for name in names):
            return [-2]
        if self.unfit(call, numbers, [len(self.terms[name]) for name in names]):
            return [-1]
        if call < CLAIM:
            return self.make(call, numbers)
        return {
            CLAIM: lambda: self.claim(numbers[0]),
            MARK: self.mark,
            UNDO: self.undo,
            DECIDE: self.decide,
            SAME: lambda: self.same(*numbers),
            RANGE: lambda: self.span(numbers[0]),
            COUNT: lambda: [len(self.fitting())],
            BITS: lambda: [len(self.terms[numbers[0]])] + self.terms[numbers[0]],
            NODE: lambda: self.node(numbers[0]),
            SIZES: self.sizes,
            CLAUSES: lambda: [len(self.clauses())] + flat([[len(clause)] + clause for clause in self.clauses()]),
            READS: lambda: self.read(numbers[1:]),
            VALUE: lambda: self.value(numbers[0], numbers[2:]),
        }[call]()


def random_call(draw, there, wide, favourite):
    """A call that mostly fits: there are so many terms, mostly so wide; the favourite is asked more often."""
    def term():
        return draw.randrange(there) if there and draw.random() < 0.98 else draw.choice((there, 40, TOP))

    def width():
        return wide if draw.random() < 0.9 else draw.randrange(0, 10)

    def constant():
        w = width()
        return [w, draw.randrange(2 ** w + 1)]

    call = draw.choice((INPUT, CONST, NOT, NEG, TWO, TWO, TWO, TWO, JOIN, CUT, ZEXT, SEXT, PICK, CLAIM, MARK))
    if there > 2 and draw.random() < 0.8:
        call = favourite
    return [call] + {
        INPUT: lambda: [width()],
        CONST: constant,
        NOT: lambda: [term()],
        NEG: lambda: [term()],
        TWO: lambda: [draw.randrange(14), term(), term()],
        JOIN: lambda: [term(), term()],
        CUT: lambda: [term(), draw.randrange(8), draw.randrange(5)],
        ZEXT: lambda: [term(), width()],
        SEXT: lambda: [term(), width()],
        PICK: lambda: [term(), term(), term()],
        CLAIM: lambda: [term()],
        MARK: lambda: [],
    }[call]()


def random_question(draw, model):
    """One of the calls 12 to 22 that mostly fits what's there in the model."""
    there = len(model.terms)

    def term():
        return draw.randrange(there) if there and draw.random() < 0.96 else draw.choice((there, 40, TOP))

    def partner(t):
        fits = draw.random() < 0.8
        found = [u for u in range(there) if t < there and (len(model.terms[u]) == len(model.terms[t])) == fits]
        return draw.choice(found) if found else term()

    def node():
        return draw.choice((0, 1, 2, len(model.nodes), len(model.nodes) + 1, draw.randrange(1, 1202), TOP))

    def spoilt(row, most):
        row = list(row)
        if draw.random() < 0.15 and row:
            row[draw.randrange(len(row))] = draw.choice((2, 256, TOP))
        if draw.random() < 0.1:
            row = (row + [0, 1])[:draw.choice((0, len(row) + 1, len(row) + 2))]
        return row[:most]

    def world():
        return [draw.randrange(2 ** w) for w in model.input_widths()]

    def solution():
        fitting = model.fitting()
        row = model.solution(draw.choice(fitting)[0] if fitting and draw.random() < 0.7 else world())
        if row and draw.random() < 0.4:
            place = draw.randrange(len(row))
            row[place] = 1 - row[place]
        return row

    call = draw.choice((UNDO, DECIDE, SAME, RANGE, COUNT, BITS, NODE, SIZES, CLAUSES, READS, READS, VALUE, VALUE))
    if call == SAME:
        t = term()
        return [SAME, t, partner(t)]
    if call in (RANGE, BITS):
        return [call, term()]
    if call == NODE:
        return [NODE, node()]
    if call == READS:
        return reads(spoilt(solution(), 1210))
    if call == VALUE:
        return value(term(), spoilt(world(), 16))
    return [call]
