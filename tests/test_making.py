"""Point 1: the calls that make terms, what they answer and what they refuse."""

import unittest

from tests.helper import (
    ADD, AND, CONST, CUT, DIV, EQ, INPUT, JOIN, MANY_NODES, MUL, NEG, NOT, ONE_NODE_LEFT, PICK, SEXT, SLT, SUB, TOP,
    TWO, ULT, XOR, ZEXT, ask, built, last,
)

THIRTY = [[CONST, 8, i] for i in range(30)]


def width_of(calls):
    return len(built(calls).terms[-1])


class Inputs(unittest.TestCase):
    def test_names_and_nodes(self):
        self.assertEqual(ask([[INPUT, 1], [INPUT, 8], [INPUT, 1]]), [[0, 1], [1, 9], [2, 10]])
        self.assertEqual(built([[INPUT, 2], [INPUT, 3]]).terms, [[2, 4], [6, 8, 10]])

    def test_each_width(self):
        for w in range(1, 9):
            self.assertEqual(last([[INPUT, w]]), [0, w])
            self.assertEqual(width_of([[INPUT, w]]), w)

    def test_wrong_widths(self):
        for w in (0, 9, 10, 11, TOP):
            self.assertEqual(last([[INPUT, w]]), [-1])

    def test_ten_and_eleven_bits(self):
        self.assertEqual(ask([[INPUT, 8], [INPUT, 2]]), [[0, 8], [1, 10]])
        self.assertEqual(ask([[INPUT, 8], [INPUT, 3], [INPUT, 2], [INPUT, 1]]), [[0, 8], [-4], [1, 10], [-4]])
        self.assertEqual(last([[INPUT, 1]] * 10), [9, 10])
        self.assertEqual(last([[INPUT, 1]] * 11), [-4])

    def test_only_inputs_bits_are_counted(self):
        self.assertEqual(last([[CONST, 8, 0], [INPUT, 8], [NOT, 1], [NEG, 1], [INPUT, 2]])[0], 4)
        self.assertEqual(last([[INPUT, 8], [INPUT, 2], [CONST, 8, 1]]), [2, 10])


class Constants(unittest.TestCase):
    def test_each_width_and_its_greatest(self):
        for w in range(1, 9):
            for v in (0, 1, 2 ** w - 2, 2 ** w - 1):
                self.assertEqual(last([[CONST, w, v]]), [0, 0])
                self.assertEqual(built([[CONST, w, v]]).terms, [[v // 2 ** i % 2 for i in range(w)]])

    def test_too_great(self):
        for w in range(1, 9):
            for v in (2 ** w, 2 ** w + 1, TOP):
                self.assertEqual(last([[CONST, w, v]]), [-1])

    def test_wrong_widths(self):
        for w in (0, 9, TOP):
            for v in (0, 1, TOP):
                self.assertEqual(last([[CONST, w, v]]), [-1])


class Single(unittest.TestCase):
    def test_answers(self):
        for w in range(1, 9):
            for call in (NOT, NEG):
                self.assertEqual(width_of([[INPUT, w], [call, 0]]), w)
            self.assertEqual(last([[INPUT, w], [NOT, 0]]), [1, w])
        self.assertEqual(built([[INPUT, 2], [NOT, 0], [NOT, 1]]).terms, [[2, 4], [3, 5], [2, 4]])
        self.assertEqual(built([[CONST, 3, 5], [NOT, 0], [NEG, 0]]).terms, [[1, 0, 1], [0, 1, 0], [1, 1, 0]])

    def test_not_there(self):
        for call in (NOT, NEG):
            self.assertEqual(last([[call, 0]]), [-2])
            self.assertEqual(last([[INPUT, 1], [call, 1]]), [-2])
            self.assertEqual(last([[INPUT, 1], [call, TOP]]), [-2])


class OfTwo(unittest.TestCase):
    def test_widths(self):
        for which in range(14):
            for w in range(1, 6):
                self.assertEqual(width_of([[INPUT, w], [INPUT, w], [TWO, which, 0, 1]]), 1 if which >= EQ else w)

    def test_not_there(self):
        for which in range(14):
            for a, b in ((0, 1), (1, 0), (1, 1), (0, TOP), (TOP, 0)):
                self.assertEqual(last([[INPUT, 2], [TWO, which, a, b]]), [-2])

    def test_differing_widths(self):
        for which in range(14):
            for a, b in ((0, 1), (1, 0)):
                self.assertEqual(ask([[INPUT, 2], [INPUT, 3], [TWO, which, a, b], [NOT, 0]]),
                                 [[0, 2], [1, 5], [-1], [2, 5]])

    def test_not_there_is_told_before_differing_widths(self):
        self.assertEqual(last([[INPUT, 2], [INPUT, 3], [TWO, AND, 0, 2]]), [-2])


class Joined(unittest.TestCase):
    def test_order_of_bits(self):
        self.assertEqual(built([[INPUT, 1], [INPUT, 2], [JOIN, 0, 1]]).terms[2], [4, 6, 2])

    def test_to_eight_and_to_nine(self):
        for a in range(1, 9):
            for b in range(1, 9):
                calls = [[CONST, a, 1], [CONST, b, 0], [JOIN, 0, 1]]
                self.assertEqual(last(calls), [2, 0] if a + b <= 8 else [-1])
        self.assertEqual(ask([[INPUT, 4], [JOIN, 0, 0]]), [[0, 4], [1, 4]])
        self.assertEqual(ask([[INPUT, 4], [INPUT, 5], [JOIN, 0, 1], [JOIN, 1, 0]]), [[0, 4], [1, 9], [-1], [-1]])

    def test_not_there(self):
        for a, b in ((0, 1), (1, 0), (TOP, TOP)):
            self.assertEqual(last([[INPUT, 8], [JOIN, a, b]]), [-2])


class Cuts(unittest.TestCase):
    def test_bits(self):
        self.assertEqual(built([[INPUT, 4], [CUT, 0, 1, 2]]).terms[1], [4, 6])
        self.assertEqual(last([[INPUT, 4], [CUT, 0, 1, 2]]), [1, 4])

    def test_up_to_the_width_and_one_above(self):
        for w in range(1, 9):
            for lo in range(0, 10):
                for n in range(0, 10):
                    answer = last([[INPUT, w], [CUT, 0, lo, n]])
                    self.assertEqual(answer, [1, w] if n > 0 and lo + n <= w else [-1])

    def test_none(self):
        for lo in (0, 3, 4, 5, TOP):
            self.assertEqual(last([[INPUT, 4], [CUT, 0, lo, 0]]), [-1])

    def test_far_above(self):
        for lo, n in ((0, TOP), (TOP, 1), (TOP, TOP), (1, TOP), (4, 1)):
            self.assertEqual(last([[INPUT, 4], [CUT, 0, lo, n]]), [-1])

    def test_not_there(self):
        for lo, n in ((0, 1), (0, 0), (TOP, TOP)):
            self.assertEqual(last([[INPUT, 4], [CUT, 1, lo, n]]), [-2])


class Wider(unittest.TestCase):
    def test_each_width(self):
        for call in (ZEXT, SEXT):
            for a in range(1, 9):
                for w in list(range(0, 11)) + [TOP]:
                    self.assertEqual(last([[INPUT, a], [call, 0, w]]), [1, a] if a <= w <= 8 else [-1])

    def test_bits(self):
        self.assertEqual(built([[INPUT, 2], [ZEXT, 0, 4]]).terms[1], [2, 4, 0, 0])
        self.assertEqual(built([[INPUT, 2], [SEXT, 0, 4]]).terms[1], [2, 4, 4, 4])
        self.assertEqual(built([[INPUT, 2], [ZEXT, 0, 2], [SEXT, 0, 2]]).terms[1:], [[2, 4], [2, 4]])

    def test_not_there(self):
        for call in (ZEXT, SEXT):
            for w in (0, 4, 9, TOP):
                self.assertEqual(last([[INPUT, 4], [call, 1, w]]), [-2])


class Picks(unittest.TestCase):
    def test_widths(self):
        for w in range(1, 5):
            self.assertEqual(width_of([[INPUT, 1], [INPUT, w], [INPUT, w], [PICK, 0, 1, 2]]), w)

    def test_c_of_two_bits(self):
        self.assertEqual(last([[INPUT, 2], [PICK, 0, 0, 0]]), [-1])

    def test_differing_widths(self):
        calls = [[INPUT, 1], [INPUT, 2], [INPUT, 3]]
        self.assertEqual(last(calls + [[PICK, 0, 1, 2]]), [-1])
        self.assertEqual(last(calls + [[PICK, 0, 2, 1]]), [-1])
        self.assertEqual(last(calls + [[PICK, 1, 1, 2]]), [-1])

    def test_not_there(self):
        for c, a, b in ((2, 0, 0), (0, 2, 0), (0, 0, 2), (1, 0, 2), (TOP, TOP, TOP)):
            self.assertEqual(last([[INPUT, 1], [INPUT, 2], [PICK, c, a, b]]), [-2])


class ThirtyTerms(unittest.TestCase):
    def test_the_last_that_fits(self):
        self.assertEqual(ask(THIRTY)[29], [29, 0])

    def test_one_more(self):
        one_more = [
            [INPUT, 1], [CONST, 1, 1], [NOT, 29], [NEG, 0], [TWO, ADD, 0, 1], [CUT, 0, 0, 1], [ZEXT, 0, 8],
            [SEXT, 0, 8],
        ]
        for call in one_more:
            self.assertEqual(ask(THIRTY[:29] + [[CONST, 8, 0], call])[29:], [[29, 0], [-5]])
        bits = [[CONST, 1, 1]] * 30
        self.assertEqual(last(bits + [[JOIN, 0, 29]]), [-5])
        self.assertEqual(last(bits + [[PICK, 0, 1, 29]]), [-5])

    def test_refused_calls_take_no_name(self):
        self.assertEqual(ask([[NOT, 0], [INPUT, 9], [INPUT, 2], [CUT, 0, 0, 3], [NOT, 0]]),
                         [[-2], [-1], [0, 2], [-1], [1, 2]])

    def test_told_behind_the_others(self):
        self.assertEqual(last(THIRTY + [[NOT, 30]]), [-2])
        self.assertEqual(last(THIRTY + [[TWO, MUL, 0, 30]]), [-2])
        self.assertEqual(last(THIRTY + [[INPUT, 9]]), [-1])
        self.assertEqual(last(THIRTY + [[CONST, 1, 2]]), [-1])
        self.assertEqual(last(THIRTY + [[JOIN, 0, 1]]), [-1])
        self.assertEqual(last(THIRTY + [[CUT, 0, 8, 1]]), [-1])
        self.assertEqual(last(THIRTY + [[ZEXT, 0, 7]]), [-1])
        self.assertEqual(last(THIRTY + [[SEXT, 0, 9]]), [-1])
        self.assertEqual(last(THIRTY + [[PICK, 0, 1, 2]]), [-1])
        self.assertEqual(last([[CONST, 1, 0]] + THIRTY[:29] + [[TWO, ADD, 0, 1]]), [-1])


class ManyInputBits(unittest.TestCase):
    def test_told_behind_unfit_and_full(self):
        full = [[INPUT, 8], [INPUT, 2]]
        self.assertEqual(last(full + [[INPUT, 9]]), [-1])
        self.assertEqual(last(full + [[INPUT, 1]]), [-4])
        self.assertEqual(last(full + [[CONST, 1, 0]] * 28 + [[INPUT, 1]]), [-5])
        self.assertEqual(last(full + [[CONST, 1, 0]] * 27 + [[INPUT, 1]]), [-4])


class ManyNodes(unittest.TestCase):
    def test_just_as_many_and_one_more(self):
        calls = MANY_NODES + [[TWO, XOR, 0, 2], [TWO, SUB, 2, 5]]
        self.assertEqual(ask(calls)[6:], [[6, 1165], [7, 1171], [8, 1200]])
        self.assertEqual(last(calls + [[TWO, XOR, 2, 0]]), [9, 1200])
        self.assertEqual(last(calls + [[NEG, 0]]), [-6])
        self.assertEqual(last(calls + [[TWO, AND, 0, 2]]), [-6])

    def test_one_more_of_inputs(self):
        self.assertEqual(last(ONE_NODE_LEFT), [6, 1199])
        calls = ONE_NODE_LEFT + [[INPUT, 2], [INPUT, 3], [INPUT, 1], [INPUT, 1], [INPUT, 2]]
        self.assertEqual(ask(calls)[7:], [[-6], [-4], [7, 1200], [-6], [-4]])

    def test_as_if_it_had_not_been_asked(self):
        behind = [[TWO, AND, 0, 2], [TWO, ULT, 0, 2], [CONST, 8, 3], [NOT, 6], [TWO, EQ, 5, 6], [TWO, SLT, 2, 0]]
        for too_much in ([TWO, DIV, 2, 0], [TWO, DIV, 5, 6], [TWO, MUL, 5, 6]):
            with_it = ask(MANY_NODES + [too_much] + behind)
            self.assertEqual(with_it[7], [-6])
            self.assertEqual(with_it[:7] + with_it[8:], ask(MANY_NODES + behind))
            twice = ask(MANY_NODES + [too_much, too_much] + behind)
            self.assertEqual(twice[7:9], [[-6], [-6]])
            self.assertEqual(twice[9:], with_it[8:])

    def test_no_gate_of_it_is_found_later(self):
        # These sums are the first gates that the refused quotient would have made.
        part = [TWO, SUB, 2, 0]
        self.assertEqual(ask(MANY_NODES + [part])[7], ask(MANY_NODES + [[TWO, DIV, 2, 0], part])[8])

    def test_told_behind_the_others(self):
        fill = [[CONST, 8, 0]] * 23
        self.assertEqual(last(MANY_NODES + fill + [[TWO, DIV, 2, 0]]), [-5])
        self.assertEqual(last(MANY_NODES + fill[1:] + [[TWO, DIV, 2, 0]]), [-6])
        self.assertEqual(last(MANY_NODES + [[TWO, DIV, 1, 0]]), [-1])
        self.assertEqual(last(MANY_NODES + [[TWO, DIV, 7, 0]]), [-2])


if __name__ == "__main__":
    unittest.main()
