"""Point 2, undo: all is there that was at the last mark, and no more."""

import random
import unittest

from tests.helper import (
    ADD, AND, BITS, CLAIM, CLAUSES, CONST, COUNT, CUT, DECIDE, DIV, INPUT, MANY_NODES, MARK, MUL, NODE, NOT, OR, RANGE,
    SIZES, TWO, UNDO, XOR, Model, ask, last, random_call, random_question, value,
)


class Undo(unittest.TestCase):
    def test_no_mark(self):
        self.assertEqual(ask([[UNDO]]), [[-7]])
        self.assertEqual(ask([[INPUT, 1], [CLAIM, 0], [UNDO], [CLAIM, 0]])[2:], [[-7], [2]])

    def test_one_mark(self):
        self.assertEqual(ask([[MARK], [UNDO], [UNDO]]), [[1], [0, 0], [-7]])
        calls = [[INPUT, 1], [CLAIM, 0], [MARK], [NOT, 0], [CLAIM, 1], [CLAIM, 1], [UNDO], [UNDO]]
        self.assertEqual(ask(calls)[6:], [[1, 1], [-7]])

    def test_eight_marks(self):
        calls = []
        for i in range(8):
            calls += [[MARK], [CONST, 1, 1], [CLAIM, i]]
        told = ask(calls + [[UNDO]] * 9)
        self.assertEqual(told[24:], [[i, i] for i in range(7, -1, -1)] + [[-7]])

    def test_twice_behind_two(self):
        calls = [[INPUT, 2], [MARK], [INPUT, 1], [CLAIM, 1], [MARK], [NOT, 1], [CLAIM, 2], [UNDO], [DECIDE], [UNDO],
                 [DECIDE], [UNDO]]
        self.assertEqual(ask(calls)[7:], [[2, 1], [1, 2, 0, 1], [1, 0], [1, 1, 0], [-7]])

    def test_two_marks_at_one_place(self):
        self.assertEqual(ask([[INPUT, 1], [MARK], [MARK], [NOT, 0], [UNDO], [UNDO], [UNDO]])[4:],
                         [[1, 0], [1, 0], [-7]])

    def test_behind_a_refused_mark(self):
        calls = [[MARK]] * 7 + [[INPUT, 1], [MARK], [INPUT, 2], [MARK], [INPUT, 3], [UNDO], [UNDO], [MARK]]
        self.assertEqual(ask(calls)[8:], [[8], [1, 3], [-5], [2, 6], [1, 0], [0, 0], [7]])

    def test_the_mark_is_gone(self):
        calls = [[INPUT, 1], [MARK], [NOT, 0], [UNDO], [NOT, 0], [MARK], [NOT, 0], [UNDO], [UNDO]]
        self.assertEqual(ask(calls)[3:], [[1, 0], [1, 1], [1], [2, 1], [2, 0], [-7]])
        self.assertEqual(ask([[MARK]] * 8 + [[UNDO], [MARK], [MARK]])[8:], [[0, 0], [8], [-5]])


class WhatIsThereThen(unittest.TestCase):
    def test_terms(self):
        calls = [[INPUT, 2], [MARK], [NOT, 0], [UNDO], [BITS, 0], [BITS, 1], [NOT, 1], [CONST, 3, 5], [BITS, 1]]
        self.assertEqual(ask(calls)[3:], [[1, 0], [2, 2, 4], [-2], [-2], [1, 2], [3, 1, 0, 1]])

    def test_thirty_terms(self):
        calls = [[CONST, 1, 0]] * 29 + [[MARK], [CONST, 1, 1], [CONST, 1, 1], [UNDO], [CONST, 2, 3], [CONST, 1, 1]]
        self.assertEqual(ask(calls)[29:], [[1], [29, 0], [-5], [29, 0], [29, 0], [-5]])

    def test_claims(self):
        calls = [[INPUT, 1], [NOT, 0], [CLAIM, 0], [MARK], [CLAIM, 1], [COUNT], [UNDO], [COUNT], [CLAIM, 0]]
        self.assertEqual(ask(calls)[4:], [[2], [0], [2, 1], [1], [2]])

    def test_twelve_claims(self):
        calls = [[INPUT, 1]] + [[CLAIM, 0]] * 11 + [[MARK], [CLAIM, 0], [CLAIM, 0], [UNDO], [CLAIM, 0], [CLAIM, 0]]
        self.assertEqual(ask(calls)[12:], [[1], [12], [-5], [1, 11], [12], [-5]])

    def test_bits_of_inputs_are_free_again(self):
        calls = [[INPUT, 8], [MARK], [INPUT, 2], [INPUT, 1], [UNDO], [DECIDE], [INPUT, 3], [INPUT, 1], [INPUT, 1],
                 [INPUT, 1], [DECIDE], [COUNT], value(2, [9, 0, 1])]
        self.assertEqual(ask(calls)[2:], [
            [1, 10], [-4], [1, 0], [1, 1, 0], [-4], [1, 9], [2, 10], [-4], [1, 3, 0, 0, 0], [1024], [1, 1],
        ])

    def test_nodes(self):
        calls = [[INPUT, 2], [MARK], [INPUT, 2], [TWO, XOR, 0, 1], [SIZES], [NODE, 10], [UNDO], [SIZES], [NODE, 2],
                 [NODE, 3], [INPUT, 1], [NODE, 3]]
        self.assertEqual(ask(calls)[3:], [
            [2, 10], [10, 6, 0, 0], [1, 17, 19], [1, 0], [2, 0, 0, 0], [0], [-3], [1, 3], [0],
        ])

    def test_twelve_hundred_nodes(self):
        calls = MANY_NODES + [[MARK], [TWO, XOR, 0, 2], [TWO, 4, 2, 5], [TWO, AND, 0, 2], [UNDO], [TWO, AND, 0, 2]]
        self.assertEqual(ask(calls)[7:], [[1], [7, 1171], [8, 1200], [-6], [7, 0], [7, 1167]])

    def test_a_gate_of_behind_is_made_anew(self):
        two = [[INPUT, 1], [INPUT, 1]]
        calls = two + [[MARK], [TWO, AND, 0, 1], [UNDO], [TWO, OR, 0, 1], [TWO, AND, 0, 1], [BITS, 2], [BITS, 3],
                       [NODE, 3], [NODE, 4], [NODE, 5]]
        self.assertEqual(ask(calls)[3:], [
            [2, 3], [2, 0], [2, 3], [3, 4], [1, 7], [1, 8], [1, 3, 5], [1, 2, 4], [-3],
        ])

    def test_a_gate_of_ahead_is_found(self):
        two = [[INPUT, 2], [INPUT, 2], [TWO, XOR, 0, 1]]
        calls = two + [[MARK], [TWO, ADD, 0, 1], [UNDO], [TWO, XOR, 1, 0], [TWO, ADD, 0, 1]]
        self.assertEqual(ask(calls)[2:], [[2, 10], [1], [3, 17], [3, 0], [3, 10], [4, 17]])

    def test_behind_a_refusal_for_nodes(self):
        calls = MANY_NODES + [[MARK], [TWO, DIV, 2, 0], [UNDO], [TWO, MUL, 0, 3], [TWO, DIV, 2, 0]]
        self.assertEqual(ask(calls)[7:], [[1], [-6], [7, 0], [7, 1165], [-6]])

    def test_clauses(self):
        calls = [[INPUT, 1], [INPUT, 1], [TWO, AND, 0, 1], [CLAIM, 2], [MARK], [NOT, 2], [CLAIM, 3], [CLAUSES], [UNDO],
                 [CLAUSES], [RANGE, 0]]
        whole = [2, -3, 1, 2, -3, 2, 3, 3, -1, -2, 1, 3]
        self.assertEqual(ask(calls)[7:], [[5] + whole + [1, -3], [3, 1], [4] + whole, [1, 1, 1]])


class AsIfItHadNotBeenAsked(unittest.TestCase):
    def test_marked_and_undone(self):
        draw = random.Random(12)
        for turn in range(300):
            wide = draw.choice((1, 2, 3))
            model = Model()
            ahead = self.drawn(draw, model, wide, 12)
            inside = Model()
            for call in ahead:
                inside.answer(call)
            between = self.drawn(draw, inside, wide, 10)
            behind = self.drawn(draw, model, wide, 14)
            plain = ask(ahead + behind)
            told = ask(ahead + [[MARK]] + between + [[UNDO]] + behind)
            self.assertEqual(told[:len(ahead)] + told[-len(behind):], plain)

    def drawn(self, draw, model, wide, count):
        """Calls that may be asked behind those that the model has seen; no mark and no undo among them."""
        calls = []
        while len(calls) < count:
            if draw.random() < 0.7:
                call = random_call(draw, len(model.terms), wide, draw.choice((TWO, CUT, CLAIM)))
            else:
                call = random_question(draw, model)
            if call[0] not in (MARK, UNDO):
                calls.append(call)
                model.answer(call)
        return calls

    def test_last_answers_after_many_turns(self):
        calls = [[INPUT, 3], [INPUT, 3]]
        for turn in range(9):
            calls += [[MARK], [TWO, turn, 0, 1], [CUT, 2, 0, 1], [UNDO]]
        self.assertEqual(last(calls + [[SIZES]]), [6, 0, 0, 0])
        self.assertEqual(last(calls + [[TWO, AND, 0, 1]]), [2, 9])


if __name__ == "__main__":
    unittest.main()
