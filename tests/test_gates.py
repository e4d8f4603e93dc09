"""Gates: in which order they are made, found again, or not needed at all."""

import random
import unittest

from bitclauses.gates import Gates
from tests.helper import (
    ADD, AND, CLAIM, CONST, CUT, DIV, EQ, INPUT, JOIN, MARK, MUL, NEG, NOT, OR, PICK, REM, SAR, SEXT, SHL, SHR, SLT,
    SUB, TWO, ULT, XOR, ZEXT, Model, ask, built, last, random_call,
)

# How many nodes there are behind two inputs of widths 1 to 4 and the term of two over them, by hand:
# odd and chosen make 3 gates, where nothing in them is 0, 1, the same or not the other.
NODES = {
    # one gate for each bit
    AND: (3, 6, 9, 12),
    OR: (3, 6, 9, 12),
    XOR: (5, 10, 15, 20),
    # first bit: d 3, e 1. Each further: d 3, its sum 3, e, f and the next carry 1 each
    ADD: (6, 17, 28, 39),
    # the first bit has also its next carry, as f is d there and e isn't 0
    SUB: (7, 18, 29, 40),
    # width 2: 2 masked, no sum yet; then 1 masked, and the sum has one bit that isn't with 0: 4
    # width 3: 3; 2 + 4 + 9; 1 + 4. width 4: 4; 3 + 4 + 9 + 9; 2 + 4 + 9; 1 + 4
    MUL: (3, 11, 29, 57),
    # width 1: 5 for the lowest bit, none for the one above it; 3 chosen
    # width 2: 5 + 4, chosen 3 + 1; then 5 + 9 + 5, chosen 3 + 3 + 3
    DIV: (10, 45, 104, 187),
    REM: (10, 45, 104, 187),
    # 1 for a bit chosen against 0, else 3. width 3: 1 + 3 + 3; 1 + 1 + 3; 1 + 1 + 1
    SHL: (3, 10, 21, 34),
    SHR: (3, 10, 21, 34),
    # of each step: 3 a bit, but 2 where both of x and the highest bit is there already
    # width 3: 3 + 3 + 2; 3 + 2 + 2; 3 + 2 + 2
    SAR: (5, 14, 28, 47),
    # 3 a bit, and all but the first 1 more
    EQ: (5, 11, 17, 23),
    # as sub
    ULT: (7, 18, 29, 40),
    SLT: (7, 18, 29, 40),
}


def nodes_of(calls):
    return built(calls).gates.nodes


class Both(unittest.TestCase):
    def setUp(self):
        self.gates = Gates()
        self.x = self.gates.fresh()
        self.y = self.gates.fresh()

    def test_literals_of_inputs(self):
        self.assertEqual((self.x, self.y), (2, 4))

    def test_none_is_needed(self):
        for z in (0, 1, 2, 3, 4, 5):
            self.assertEqual(self.gates.both(0, z), 0)
            self.assertEqual(self.gates.both(z, 0), 0)
            self.assertEqual(self.gates.both(1, z), z)
            self.assertEqual(self.gates.both(z, 1), z)
            self.assertEqual(self.gates.both(z, z), z)
            self.assertEqual(self.gates.both(z, z ^ 1), 0)
        self.assertEqual(self.gates.size(), 2)

    def test_new_and_found(self):
        self.assertEqual(self.gates.both(4, 2), 6)
        self.assertEqual(self.gates.both(2, 4), 6)
        self.assertEqual(self.gates.both(5, 2), 8)
        self.assertEqual(self.gates.both(3, 4), 10)
        self.assertEqual(self.gates.nodes, [None, None, (2, 4), (2, 5), (3, 4)])

    def test_either(self):
        self.assertEqual(self.gates.either(0, 4), 4)
        self.assertEqual(self.gates.either(1, 4), 1)
        self.assertEqual(self.gates.either(2, 3), 1)
        self.assertEqual(self.gates.either(2, 2), 2)
        self.assertEqual(self.gates.either(2, 4), 7)
        self.assertEqual(self.gates.nodes[2:], [(3, 5)])

    def test_odd(self):
        self.assertEqual(self.gates.odd(2, 0), 2)
        self.assertEqual(self.gates.odd(2, 1), 3)
        self.assertEqual(self.gates.odd(2, 2), 0)
        self.assertEqual(self.gates.odd(2, 3), 1)
        self.assertEqual(self.gates.odd(2, 4), 11)
        self.assertEqual(self.gates.nodes[2:], [(2, 5), (3, 4), (7, 9)])

    def test_chosen(self):
        c = self.gates.fresh()
        self.assertEqual(self.gates.chosen(1, 2, 4), 2)
        self.assertEqual(self.gates.chosen(0, 2, 4), 4)
        self.assertEqual(self.gates.chosen(c, 2, 4), 13)
        self.assertEqual(self.gates.nodes[3:], [(2, 6), (4, 7), (9, 11)])

    def test_shrink(self):
        self.gates.both(2, 4)
        self.gates.both(2, 5)
        self.gates.shrink(3)
        self.assertEqual(self.gates.nodes, [None, None, (2, 4)])
        self.assertEqual(self.gates.both(3, 5), 8)
        self.assertEqual(self.gates.both(2, 5), 10)
        self.assertEqual(self.gates.both(2, 4), 6)


class Order(unittest.TestCase):
    """The gates of small terms, node by node, written down by hand."""

    def test_added(self):
        calls = [[INPUT, 2], [INPUT, 2], [TWO, ADD, 0, 1]]
        self.assertEqual(nodes_of(calls)[4:], [
            (2, 7), (3, 6), (11, 13),       # d of the lowest bits is 15
            (2, 6),                         # e, and the next carry, is 16
            (4, 9), (5, 8), (19, 21),       # d is 23
            (17, 23), (16, 22), (25, 27),   # the sum's bit is 29
            (4, 8), (16, 23), (31, 33),     # e, f and the last carry
        ])
        self.assertEqual(built(calls).terms[2], [15, 29])

    def test_sub(self):
        calls = [[INPUT, 1], [INPUT, 1], [TWO, SUB, 0, 1]]
        self.assertEqual(nodes_of(calls)[2:], [(2, 4), (3, 5), (7, 9), (2, 5), (10, 13)])
        self.assertEqual(built(calls).terms[2], [10])

    def test_less(self):
        calls = [[INPUT, 1], [INPUT, 1], [TWO, ULT, 0, 1]]
        self.assertEqual(nodes_of(calls)[2:], [(2, 4), (3, 5), (7, 9), (2, 5), (10, 13)])
        self.assertEqual(built(calls).terms[2], [14])
        calls = [[INPUT, 1], [INPUT, 1], [TWO, SLT, 0, 1]]
        self.assertEqual(nodes_of(calls)[2:], [(3, 5), (2, 4), (7, 9), (3, 4), (10, 13)])
        self.assertEqual(built(calls).terms[2], [14])

    def test_neg(self):
        calls = [[INPUT, 2], [NEG, 0]]
        self.assertEqual(nodes_of(calls)[2:], [(2, 5), (3, 4), (7, 9), (3, 5)])
        self.assertEqual(built(calls).terms[1], [2, 11])

    def test_mul(self):
        calls = [[INPUT, 2], [INPUT, 2], [TWO, MUL, 0, 1]]
        self.assertEqual(nodes_of(calls)[4:], [
            (2, 6), (2, 8), (4, 6), (12, 15), (13, 14), (17, 19), (12, 14),
        ])
        self.assertEqual(built(calls).terms[2], [10, 21])

    def test_div_and_rem(self):
        calls = [[INPUT, 1], [INPUT, 1], [TWO, DIV, 0, 1], [TWO, REM, 0, 1]]
        self.assertEqual(nodes_of(calls)[2:], [
            (2, 4), (3, 5), (7, 9), (2, 5), (10, 13),   # k is 15; what's left is 10
            (10, 15), (2, 14), (17, 19),
        ])
        self.assertEqual(built(calls).terms[2:], [[15], [21]])

    def test_moves(self):
        two = [[INPUT, 2], [INPUT, 2]]
        self.assertEqual(nodes_of(two + [[TWO, SHL, 0, 1]])[4:], [
            (2, 7), (2, 6), (4, 7), (13, 15), (9, 10), (9, 17),
        ])
        self.assertEqual(nodes_of(two + [[TWO, SHR, 0, 1]])[4:], [
            (4, 6), (2, 7), (11, 13), (4, 7), (9, 15), (9, 16),
        ])
        self.assertEqual(nodes_of(two + [[TWO, SAR, 0, 1]])[4:], [
            (4, 6), (2, 7), (11, 13), (4, 7), (11, 17),
            (8, 19), (9, 15), (21, 23), (9, 19), (21, 27),
        ])

    def test_eq(self):
        calls = [[INPUT, 2], [INPUT, 2], [TWO, EQ, 0, 1]]
        self.assertEqual(nodes_of(calls)[4:], [
            (2, 7), (3, 6), (11, 13), (4, 9), (5, 8), (17, 19), (14, 20),
        ])
        self.assertEqual(built(calls).terms[2], [22])

    def test_pick(self):
        calls = [[INPUT, 1], [INPUT, 1], [INPUT, 1], [PICK, 0, 1, 2]]
        self.assertEqual(nodes_of(calls)[3:], [(2, 4), (3, 6), (9, 11)])
        self.assertEqual(built(calls).terms[3], [13])


class HowMany(unittest.TestCase):
    def test_terms_of_two(self):
        for which, counts in NODES.items():
            for w, count in enumerate(counts, start=1):
                self.assertEqual(last([[INPUT, w], [INPUT, w], [TWO, which, 0, 1]]), [2, count], (which, w))

    def test_neg(self):
        for w in range(1, 9):
            self.assertEqual(last([[INPUT, w], [NEG, 0]]), [1, w + 4 * (w - 1)])

    def test_pick(self):
        for w in range(1, 5):
            self.assertEqual(last([[INPUT, 1], [INPUT, w], [INPUT, w], [PICK, 0, 1, 2]]), [3, 1 + 5 * w])

    def test_the_same_term_twice(self):
        for w in range(1, 6):
            for which in range(14):
                told = ask([[INPUT, w], [INPUT, w], [TWO, which, 0, 1], [TWO, which, 0, 1]])
                self.assertEqual(told[3], [3, told[2][1]])
        for w in range(1, 9):
            told = ask([[INPUT, w], [NEG, 0], [NEG, 0]])
            self.assertEqual(told[2], [2, told[1][1]])
        for w in range(1, 5):
            told = ask([[INPUT, 1], [INPUT, w], [INPUT, w], [PICK, 0, 1, 2], [PICK, 0, 1, 2]])
            self.assertEqual(told[4], [4, told[3][1]])

    def test_found_in_other_terms(self):
        two = [[INPUT, 3], [INPUT, 3]]
        for first, second in ((DIV, REM), (SUB, ULT), (ADD, XOR), (ADD, AND), (XOR, EQ)):
            told = ask(two + [[TWO, first, 0, 1], [TWO, second, 0, 1]])
            wanted = told[2][1] + (2 if second == EQ else 0)
            self.assertEqual(told[3], [3, wanted], (first, second))
        # The order of the two doesn't matter where both is all that is asked.
        for which in (AND, OR, XOR, ADD, EQ):
            told = ask(two + [[TWO, which, 0, 1], [TWO, which, 1, 0]])
            self.assertEqual(told[3], [3, told[2][1]])

    def test_none_for_constants(self):
        for which in range(14):
            self.assertEqual(last([[CONST, 8, 181], [CONST, 8, 7], [TWO, which, 0, 1]]), [2, 0])
        self.assertEqual(last([[CONST, 8, 181], [NEG, 0]]), [1, 0])
        self.assertEqual(last([[CONST, 1, 1], [INPUT, 3], [INPUT, 3], [PICK, 0, 1, 2]]), [3, 6])

    def test_none_where_bits_are_put_together(self):
        calls = [[INPUT, 4], [NOT, 0], [JOIN, 0, 1], [CUT, 2, 2, 4], [ZEXT, 3, 8], [SEXT, 3, 8]]
        self.assertEqual([told[1] for told in ask(calls)], [4] * 6)


class AgainstTheModel(unittest.TestCase):
    def same_as_model(self, calls):
        model = Model()
        wanted = [model.answer(call) for call in calls]
        self.assertEqual(ask(calls), wanted, calls)
        return model

    def test_nodes_of_each_term(self):
        for w in range(1, 6):
            for which in range(14):
                calls = [[INPUT, w], [INPUT, w], [TWO, which, 0, 1], [TWO, which, 1, 0], [TWO, which, 0, 0]]
                model = self.same_as_model(calls)
                state = built(calls)
                self.assertEqual(state.gates.nodes, model.nodes)
                self.assertEqual(state.terms, model.terms)

    def test_nodes_of_wide_terms(self):
        for w in (6, 7, 8):
            for which in range(14):
                calls = [[INPUT, w], [INPUT, 2], [SEXT, 1, w], [TWO, which, 0, 2], [CONST, w, 37], [TWO, which, 0, 4]]
                model = self.same_as_model(calls)
                self.assertEqual(built(calls).gates.nodes, model.nodes)

    def test_many_lists(self):
        draw = random.Random(20)
        refused = {}
        for turn in range(900):
            wide = draw.choice((1, 3, 8))
            favourite = draw.choice((NOT, CONST, TWO, TWO, CLAIM, MARK))
            model = Model()
            calls = []
            wanted = []
            for place in range(draw.randrange(1, 41)):
                calls.append(random_call(draw, len(model.terms), wide, favourite))
                wanted.append(model.answer(calls[-1]))
            self.assertEqual(ask(calls), wanted, calls)
            for told in wanted:
                refused[told[0]] = refused.get(told[0], 0) + 1
        for refusal in (-6, -5, -4, -2, -1):
            self.assertGreater(refused.get(refusal, 0), 20, refusal)


if __name__ == "__main__":
    unittest.main()
