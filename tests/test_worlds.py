"""What holds: decide, same, range, count, value, and their refusals (point 3)."""

import unittest

from tests.helper import (
    ADD, AND, CLAIM, CONST, COUNT, CUT, DECIDE, DIV, EQ, INPUT, JOIN, MANY_NODES, MUL, NEG, NOT, OR, PICK, RANGE, REM,
    SAME, SAR, SEXT, SHL, SHR, SLT, SUB, TOP, TWO, ULT, XOR, ZEXT, ask, last, two_value, value, words_values, worlds,
)

# 2 < x < 6 with x an input of 3 bits, term 0.
BETWEEN = [[INPUT, 3], [CONST, 3, 2], [CONST, 3, 6], [TWO, ULT, 1, 0], [TWO, ULT, 0, 2], [CLAIM, 3], [CLAIM, 4]]
# a + b is 3 and a isn't 0, of 2 bits each: the worlds (1, 2), (2, 1), (3, 0).
SUM_OF_THREE = [
    [INPUT, 2], [INPUT, 2], [TWO, ADD, 0, 1], [CONST, 2, 3], [TWO, EQ, 2, 3], [CLAIM, 4], [CONST, 2, 0],
    [TWO, ULT, 5, 0], [CLAIM, 6],
]
# An input of 2 bits, one of 1, and claims that no world fits.
NOWHERE = [[INPUT, 2], [INPUT, 1], [NOT, 1], [CLAIM, 1], [CLAIM, 2]]
# Ten bits of inputs, of which the claims speak in part: x is 200 or more, and y is odd.
TEN_BITS = [[INPUT, 8], [INPUT, 2], [CONST, 8, 199], [TWO, ULT, 2, 0], [CUT, 1, 0, 1], [CLAIM, 3], [CLAIM, 4]]
NO_INPUT_TRUE = [[CONST, 1, 1], [CLAIM, 0], [CONST, 4, 9]]
NO_INPUT_FALSE = [[CONST, 1, 0], [CLAIM, 0], [CONST, 4, 9]]


class Decide(unittest.TestCase):
    def test_no_term(self):
        self.assertEqual(ask([[DECIDE]]), [[1, 0]])

    def test_no_input(self):
        self.assertEqual(last([[CONST, 1, 0], [DECIDE]]), [1, 0])
        self.assertEqual(last(NO_INPUT_TRUE + [[DECIDE]]), [1, 0])
        self.assertEqual(last(NO_INPUT_FALSE + [[DECIDE]]), [0])

    def test_no_claim(self):
        self.assertEqual(last([[INPUT, 3], [INPUT, 2], [NOT, 0], [DECIDE]]), [1, 2, 0, 0])

    def test_first_input_first(self):
        self.assertEqual(last(SUM_OF_THREE + [[DECIDE]]), [1, 2, 1, 2])

    def test_no_world(self):
        self.assertEqual(last(NOWHERE + [[DECIDE]]), [0])

    def test_least_value(self):
        self.assertEqual(last(BETWEEN + [[DECIDE]]), [1, 1, 3])

    def test_ten_bits(self):
        self.assertEqual(last(TEN_BITS + [[DECIDE]]), [1, 2, 200, 1])
        calls = [[INPUT, 1]] * 10 + [[CLAIM, 9]]
        self.assertEqual(last(calls + [[DECIDE]]), [1, 10, 0, 0, 0, 0, 0, 0, 0, 0, 0, 1])
        self.assertEqual(last(calls + [[CLAIM, i] for i in range(10)] + [[DECIDE]]), [1, 10] + [1] * 10)

    def test_inputs_that_no_claim_speaks_of(self):
        self.assertEqual(last([[INPUT, 3], [INPUT, 1], [INPUT, 2], [CLAIM, 1], [DECIDE]]), [1, 3, 0, 1, 0])

    def test_inputs_among_other_terms(self):
        calls = [[CONST, 3, 5], [INPUT, 3], [TWO, XOR, 0, 1], [INPUT, 3], [TWO, EQ, 2, 3], [CLAIM, 4]]
        self.assertEqual(last(calls + [[DECIDE]]), [1, 2, 0, 5])

    def test_it_claims_nothing(self):
        self.assertEqual(ask(BETWEEN + [[DECIDE], [DECIDE], [COUNT], [CLAIM, 4]])[7:], [[1, 1, 3], [1, 1, 3], [3], [3]])


class Same(unittest.TestCase):
    def test_with_itself(self):
        for w in range(1, 9):
            self.assertEqual(last([[INPUT, w], [SAME, 0, 0]]), [1])
        self.assertEqual(last(NOWHERE + [[SAME, 0, 0]]), [1])
        self.assertEqual(last([[CONST, 4, 3], [SAME, 0, 0]]), [1])

    def test_first_world_in_which_they_differ(self):
        self.assertEqual(last([[INPUT, 3], [INPUT, 3], [SAME, 0, 1]]), [0, 2, 0, 1])
        self.assertEqual(last([[INPUT, 3], [INPUT, 3], [SAME, 1, 0]]), [0, 2, 0, 1])
        self.assertEqual(last([[INPUT, 3], [CONST, 3, 0], [SAME, 0, 1]]), [0, 1, 1])
        self.assertEqual(last([[INPUT, 3], [NEG, 0], [SAME, 0, 1]]), [0, 1, 1])
        self.assertEqual(last([[INPUT, 1], [NEG, 0], [SAME, 0, 1]]), [1])

    def test_only_the_highest_bit_differs(self):
        calls = [[INPUT, 8], [CONST, 8, 127], [TWO, AND, 0, 1], [SAME, 0, 2]]
        self.assertEqual(last(calls), [0, 1, 128])

    def test_same_by_other_gates(self):
        calls = [[INPUT, 4], [NOT, 0], [CONST, 4, 1], [TWO, ADD, 1, 2], [NEG, 0], [SAME, 3, 4]]
        self.assertEqual(last(calls), [1])
        calls = [[INPUT, 4], [INPUT, 4], [TWO, MUL, 0, 1], [TWO, MUL, 1, 0], [SAME, 2, 3]]
        self.assertEqual(last(calls), [1])
        calls = [[INPUT, 5], [INPUT, 5], [TWO, DIV, 0, 1], [TWO, MUL, 2, 1], [TWO, REM, 0, 1], [TWO, ADD, 3, 4]]
        self.assertEqual(last(calls + [[SAME, 5, 0]]), [1])

    def test_apart_only_where_no_world_fits(self):
        calls = [[INPUT, 3], [CONST, 3, 5], [TWO, EQ, 0, 1], [SAME, 0, 1], [CLAIM, 2], [SAME, 0, 1], [SAME, 1, 0]]
        self.assertEqual(ask(calls)[3:], [[0, 1, 0], [1], [1], [1]])
        self.assertEqual(last(NOWHERE + [[SAME, 1, 2]]), [1])

    def test_first_world_that_fits(self):
        calls = BETWEEN + [[CONST, 3, 3], [SAME, 0, 5], [CONST, 3, 0], [SAME, 0, 6], [SAME, 1, 2]]
        self.assertEqual(ask(calls)[8:], [[0, 1, 4], [6, ask(BETWEEN)[4][1]], [0, 1, 3], [0, 1, 3]])

    def test_no_input(self):
        self.assertEqual(last([[CONST, 2, 1], [CONST, 2, 2], [SAME, 0, 1]]), [0, 0])
        self.assertEqual(last([[CONST, 2, 2], [CONST, 2, 2], [SAME, 0, 1]]), [1])
        self.assertEqual(last(NO_INPUT_FALSE + [[CONST, 4, 8], [SAME, 1, 2]]), [1])
        self.assertEqual(last(NO_INPUT_TRUE + [[CONST, 4, 8], [SAME, 1, 2]]), [0, 0])

    def test_ten_bits(self):
        self.assertEqual(last(TEN_BITS + [[SAME, 0, 2]]), [0, 2, 200, 1])
        calls = TEN_BITS + [[CONST, 8, 255], [TWO, EQ, 0, 5], [NOT, 6], [CLAIM, 7], [CONST, 1, 1], [SAME, 7, 8]]
        self.assertEqual(last(calls), [1])

    def test_inputs_that_no_claim_speaks_of(self):
        calls = BETWEEN + [[INPUT, 4], [CONST, 4, 0]]
        self.assertEqual(ask(calls + [[SAME, 5, 6], [SAME, 0, 1]])[9:], [[0, 2, 3, 1], [0, 2, 3, 0]])

    def test_not_there(self):
        for t, u in ((0, 1), (1, 0), (1, 1), (0, TOP), (TOP, 0)):
            self.assertEqual(last([[INPUT, 2], [SAME, t, u]]), [-2])
        self.assertEqual(ask([[SAME, 0, 0]]), [[-2]])

    def test_differing_widths(self):
        for w in range(1, 9):
            for u in range(1, 9):
                wanted = [1] if w == u else [-1]
                self.assertEqual(last([[CONST, w, 0], [CONST, u, 0], [SAME, 0, 1]]), wanted)
        self.assertEqual(last(NOWHERE + [[SAME, 0, 1]]), [-1])


class Range(unittest.TestCase):
    def test_constant(self):
        for w, v in ((1, 0), (1, 1), (8, 0), (8, 200), (8, 255)):
            self.assertEqual(last([[CONST, w, v], [RANGE, 0]]), [1, v, v])
            self.assertEqual(last([[INPUT, 3], [CONST, w, v], [RANGE, 1]]), [1, v, v])

    def test_input(self):
        for w in range(1, 9):
            self.assertEqual(last([[INPUT, w], [RANGE, 0]]), [1, 0, 2 ** w - 1])

    def test_claims(self):
        self.assertEqual(last(BETWEEN + [[RANGE, 0]]), [1, 3, 5])
        self.assertEqual(last(BETWEEN + [[NOT, 0], [RANGE, 5]]), [1, 2, 4])
        self.assertEqual(last(BETWEEN + [[TWO, ADD, 0, 0], [RANGE, 5]]), [1, 0, 6])
        self.assertEqual(last(BETWEEN + [[RANGE, 3]]), [1, 1, 1])
        self.assertEqual(ask(SUM_OF_THREE + [[RANGE, 0], [RANGE, 1], [RANGE, 2]])[9:], [[1, 1, 3], [1, 0, 2], [1, 3, 3]])

    def test_not_each_value_between(self):
        calls = [[INPUT, 2], [CONST, 2, 3], [TWO, MUL, 0, 0], [RANGE, 2], [CONST, 4, 5], [JOIN, 0, 0], [RANGE, 4]]
        self.assertEqual(ask(calls)[3], [1, 0, 1])
        self.assertEqual(ask(calls)[6], [1, 0, 15])

    def test_no_world(self):
        for t in range(3):
            self.assertEqual(last(NOWHERE + [[RANGE, t]]), [0])
        self.assertEqual(last(NO_INPUT_FALSE + [[RANGE, 1]]), [0])

    def test_no_input(self):
        self.assertEqual(last(NO_INPUT_TRUE + [[RANGE, 1]]), [1, 9, 9])

    def test_ten_bits(self):
        self.assertEqual(ask(TEN_BITS + [[RANGE, 0], [RANGE, 1]])[7:], [[1, 200, 255], [1, 1, 3]])

    def test_inputs_that_no_claim_speaks_of(self):
        self.assertEqual(ask(BETWEEN + [[INPUT, 4], [RANGE, 5], [RANGE, 0]])[8:], [[1, 0, 15], [1, 3, 5]])

    def test_not_there(self):
        for t in (1, 2, TOP):
            self.assertEqual(last([[INPUT, 2], [RANGE, t]]), [-2])
        self.assertEqual(ask([[RANGE, 0]]), [[-2]])


class Count(unittest.TestCase):
    def test_no_term_no_input_no_claim(self):
        self.assertEqual(ask([[COUNT]]), [[1]])
        self.assertEqual(last([[CONST, 1, 0], [COUNT]]), [1])
        self.assertEqual(last([[INPUT, 3], [INPUT, 2], [COUNT]]), [32])

    def test_claims(self):
        self.assertEqual(last(BETWEEN + [[COUNT]]), [3])
        self.assertEqual(last(SUM_OF_THREE + [[COUNT]]), [3])
        self.assertEqual(last(NO_INPUT_TRUE + [[COUNT]]), [1])
        self.assertEqual(last(NO_INPUT_FALSE + [[COUNT]]), [0])
        self.assertEqual(last(NOWHERE + [[COUNT]]), [0])

    def test_inputs_that_no_claim_speaks_of(self):
        self.assertEqual(last(BETWEEN + [[INPUT, 4], [COUNT]]), [48])

    def test_ten_bits(self):
        self.assertEqual(last([[INPUT, 8], [INPUT, 2], [COUNT]]), [1024])
        self.assertEqual(last([[INPUT, 1]] * 10 + [[COUNT]]), [1024])
        self.assertEqual(last([[INPUT, 1]] * 10 + [[CLAIM, 9], [COUNT]]), [512])
        self.assertEqual(last(TEN_BITS + [[COUNT]]), [112])
        self.assertEqual(last([[INPUT, 5], [INPUT, 5], [TWO, ULT, 0, 1], [CLAIM, 2], [COUNT]]), [496])

    def test_the_same_claim_twice(self):
        self.assertEqual(ask([[INPUT, 1], [CLAIM, 0], [COUNT], [CLAIM, 0], [COUNT]])[2::2], [[1], [1]])


class Value(unittest.TestCase):
    def test_fits_or_not(self):
        for x in range(8):
            self.assertEqual(last(BETWEEN + [value(0, [x])]), [int(2 < x < 6), x])
        for a, b in worlds([2, 2]):
            fits = int((a, b) in ((1, 2), (2, 1), (3, 0)))
            self.assertEqual(last(SUM_OF_THREE + [value(2, [a, b])]), [fits, (a + b) % 4])
        self.assertEqual(last(NOWHERE + [value(0, [3, 1])]), [0, 3])

    def test_no_claim(self):
        self.assertEqual(last([[INPUT, 8], [INPUT, 2], value(0, [255, 3])]), [1, 255])
        self.assertEqual(last([[INPUT, 8], [INPUT, 2], value(1, [255, 3])]), [1, 3])

    def test_no_input(self):
        self.assertEqual(last([[CONST, 8, 200], value(0, [])]), [1, 200])
        self.assertEqual(last(NO_INPUT_FALSE + [value(1, [])]), [0, 9])
        self.assertEqual(last([[CONST, 8, 200], value(0, [0])]), [-1])

    def test_ten_inputs(self):
        bits = [[INPUT, 1]] * 10
        given = [1, 0, 0, 1, 1, 0, 1, 0, 1, 1]
        for t in range(10):
            self.assertEqual(last(bits + [value(t, given)]), [1, given[t]])

    def test_too_few_or_many(self):
        calls = [[INPUT, 3], [INPUT, 2]]
        for given in ([], [1], [1, 1, 1], [0] * 15, [0] * 16, [1, 1, TOP]):
            self.assertEqual(last(calls + [value(0, given)]), [-1])
        self.assertEqual(last([[INPUT, 1]] * 10 + [value(0, [0] * 16)]), [-1])

    def test_too_great(self):
        for w in range(1, 9):
            self.assertEqual(last([[INPUT, w], value(0, [2 ** w - 1])]), [1, 2 ** w - 1])
            for v in (2 ** w, 2 ** w + 1, TOP):
                self.assertEqual(last([[INPUT, w], value(0, [v])]), [-1])
        calls = [[INPUT, 3], [INPUT, 2]]
        for given in ([8, 0], [0, 4], [8, 4], [TOP, TOP]):
            self.assertEqual(last(calls + [value(0, given)]), [-1])
        self.assertEqual(last(calls + [value(0, [7, 3])]), [1, 7])

    def test_not_there(self):
        for t in (1, 2, TOP):
            self.assertEqual(last([[INPUT, 3], value(t, [0])]), [-2])
        self.assertEqual(ask([value(0, [])]), [[-2]])

    def test_not_there_is_told_first(self):
        for given in ([], [8], [0, 0], [TOP] * 16):
            self.assertEqual(last([[INPUT, 3], value(1, given)]), [-2])

    def test_what_stands_behind_a_row(self):
        calls = [[INPUT, 3], value(0, [1, 2, 3]), value(5, [1, 2, 3]), value(0, []), value(0, [6]), [COUNT]]
        self.assertEqual(ask(calls), [[0, 3], [-1], [-2], [-1], [1, 6], [8]])


class RefusedCallsChangeNothing(unittest.TestCase):
    def test_all_is_as_it_was(self):
        refused = [[SAME, 0, 9], [SAME, 0, 3], [RANGE, 9], value(9, [1]), value(0, []), value(0, [8])]
        behind = [[DECIDE], [COUNT], [RANGE, 0], [SAME, 0, 1], value(1, [4]), [NOT, 0], [CLAIM, 3]]
        told = ask(BETWEEN + refused + behind)
        self.assertEqual(told[7:13], [[-2], [-1], [-2], [-2], [-1], [-1]])
        self.assertEqual(told[13:], ask(BETWEEN + behind)[7:])


class Words(unittest.TestCase):
    """value answers as Words says, term by term and world by world."""

    def holds(self, calls, given=None):
        """For each term of the calls, in each world or in those that are given."""
        widths = [call[1] for call in calls if call[0] == INPUT]
        asked = []
        wanted = []
        for world in worlds(widths) if given is None else given:
            for t, (w, v) in enumerate(words_values(calls, world)):
                asked.append(value(t, world))
                wanted.append([1, v])
        room = 40 - len(calls)
        for start in range(0, len(asked), room):
            part = asked[start:start + room]
            self.assertEqual(ask(calls + part)[len(calls):], wanted[start:start + room], (calls, part))

    def test_terms_of_two(self):
        for w in range(1, 4):
            for which in range(14):
                self.holds([[INPUT, w], [INPUT, w], [TWO, which, 0, 1]])

    def test_terms_of_one(self):
        for w in range(1, 6):
            self.holds([[INPUT, w], [NOT, 0], [NEG, 0]])
        self.holds([[INPUT, 8], [NOT, 0], [NEG, 0]], [[0], [1], [127], [128], [129], [255]])

    def test_join(self):
        for w in range(1, 4):
            for v in range(1, 4):
                self.holds([[INPUT, w], [INPUT, v], [JOIN, 0, 1]])

    def test_cut(self):
        for w in range(1, 4):
            parts = [[CUT, 0, lo, n] for lo in range(w) for n in range(1, w - lo + 1)]
            self.holds([[INPUT, w]] + parts)
        self.holds([[INPUT, 8], [CUT, 0, 7, 1], [CUT, 0, 0, 8], [CUT, 0, 3, 4]], [[0], [128], [170], [85], [255]])

    def test_wider(self):
        for w in range(1, 4):
            self.holds([[INPUT, w]] + [[call, 0, v] for v in range(w, 9) for call in (ZEXT, SEXT)])
        self.holds([[INPUT, 8], [ZEXT, 0, 8], [SEXT, 0, 8]], [[0], [127], [128], [255]])

    def test_pick(self):
        for w in range(1, 4):
            self.holds([[INPUT, 1], [INPUT, w], [INPUT, w], [PICK, 0, 1, 2]])

    def test_const(self):
        for w in range(1, 4):
            self.holds([[CONST, w, v] for v in range(2 ** w)])

    def test_edges_at_width_eight(self):
        edges = (0, 1, 2, 7, 8, 9, 127, 128, 129, 200, 254, 255)
        for which in range(14):
            for edge in edges:
                self.holds([[INPUT, 8], [CONST, 8, edge], [TWO, which, 0, 1]], [[a] for a in edges])
                self.holds([[CONST, 8, edge], [INPUT, 8], [TWO, which, 0, 1]], [[b] for b in edges])


class WordsByHand(unittest.TestCase):
    """A few values written down, so that not all hangs on the second reading."""

    def of_two(self, which, w, a, b):
        """In the world where a is the input, which is to be the same where b is."""
        first = last([[INPUT, w], [CONST, w, b], [TWO, which, 0, 1], value(2, [a])])
        second = last([[CONST, w, a], [INPUT, w], [TWO, which, 0, 1], value(2, [b])])
        self.assertEqual(first, second)
        self.assertEqual(first[0], 1)
        self.assertEqual(first[1], two_value(which, a, b, w))
        return first[1]

    def test_divided_by_nothing(self):
        for a in (0, 1, 128, 255):
            self.assertEqual(self.of_two(DIV, 8, a, 0), 255)
            self.assertEqual(self.of_two(REM, 8, a, 0), a)
        self.assertEqual((self.of_two(DIV, 8, 250, 7), self.of_two(REM, 8, 250, 7)), (35, 5))

    def test_moves(self):
        for b in (8, 9, 128, 255):
            self.assertEqual(self.of_two(SHL, 8, 255, b), 0)
            self.assertEqual(self.of_two(SHR, 8, 255, b), 0)
            self.assertEqual(self.of_two(SAR, 8, 255, b), 255)
            self.assertEqual(self.of_two(SAR, 8, 128, b), 255)
            self.assertEqual(self.of_two(SAR, 8, 127, b), 0)
        self.assertEqual(self.of_two(SHL, 8, 129, 1), 2)
        self.assertEqual(self.of_two(SHR, 8, 129, 1), 64)
        self.assertEqual(self.of_two(SAR, 8, 129, 1), 192)
        self.assertEqual(self.of_two(SAR, 8, 128, 7), 255)
        # A width that is no power of 2: moves by 3 to 7 leave nothing.
        for b in (3, 4, 7):
            self.assertEqual(self.of_two(SHL, 3, 7, b), 0)
            self.assertEqual(self.of_two(SHR, 3, 7, b), 0)
            self.assertEqual(self.of_two(SAR, 3, 4, b), 7)

    def test_sums(self):
        self.assertEqual(self.of_two(ADD, 8, 200, 100), 44)
        self.assertEqual(self.of_two(SUB, 8, 100, 200), 156)
        self.assertEqual(self.of_two(MUL, 8, 20, 13), 4)
        self.assertEqual(self.of_two(AND, 8, 12, 10), 8)
        self.assertEqual(self.of_two(OR, 8, 12, 10), 14)
        self.assertEqual(self.of_two(XOR, 8, 12, 10), 6)

    def test_less(self):
        self.assertEqual(self.of_two(SLT, 8, 128, 127), 1)
        self.assertEqual(self.of_two(SLT, 8, 127, 128), 0)
        self.assertEqual(self.of_two(SLT, 8, 255, 0), 1)
        self.assertEqual(self.of_two(SLT, 8, 128, 129), 1)
        self.assertEqual(self.of_two(ULT, 8, 128, 127), 0)
        self.assertEqual(self.of_two(ULT, 8, 127, 128), 1)
        self.assertEqual(self.of_two(EQ, 8, 128, 128), 1)
        self.assertEqual(self.of_two(EQ, 8, 128, 0), 0)


class ManyNodes(unittest.TestCase):
    def test_values_with_many_nodes(self):
        for x, y in ((0, 0), (255, 3), (200, 1), (77, 2)):
            told = words_values(MANY_NODES, [x, y])
            asked = [value(t, [x, y]) for t in range(len(told))]
            self.assertEqual(ask(MANY_NODES + asked)[7:], [[1, v] for w, v in told])


if __name__ == "__main__":
    unittest.main()
