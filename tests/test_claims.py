"""Point 2, claim and mark; undo has a file of its own."""

import unittest

from bitclauses.state import State
from bitclauses.terms import answer_of_call
from tests.helper import CLAIM, CONST, CUT, INPUT, MARK, MUL, NOT, TOP, TWO, XOR, ask, last


class Claims(unittest.TestCase):
    def test_how_many(self):
        calls = [[INPUT, 1], [NOT, 0], [CLAIM, 0], [CLAIM, 1], [CLAIM, 0]]
        self.assertEqual(ask(calls)[2:], [[1], [2], [3]])

    def test_constants_may_be_claimed(self):
        self.assertEqual(ask([[CONST, 1, 0], [CLAIM, 0], [CONST, 1, 1], [CLAIM, 1]]), [[0, 0], [1], [1, 0], [2]])

    def test_not_there(self):
        for t in (0, 1, TOP):
            self.assertEqual(last([[CLAIM, t]]), [-2])
        self.assertEqual(last([[INPUT, 1], [CLAIM, 1]]), [-2])

    def test_not_one_bit(self):
        for w in range(2, 9):
            self.assertEqual(ask([[INPUT, w], [CLAIM, 0], [CUT, 0, 0, 1], [CLAIM, 1]]), [[0, w], [-1], [1, w], [1]])

    def test_twelve_and_one_more(self):
        told = ask([[INPUT, 1]] + [[CLAIM, 0]] * 14)
        self.assertEqual(told[1:], [[i] for i in range(1, 13)] + [[-5], [-5]])

    def test_the_order_of_refusals(self):
        calls = [[INPUT, 1], [INPUT, 2]] + [[CLAIM, 0]] * 12
        self.assertEqual(last(calls + [[CLAIM, 2]]), [-2])
        self.assertEqual(last(calls + [[CLAIM, 1]]), [-1])
        self.assertEqual(last(calls + [[CLAIM, 0]]), [-5])

    def test_terms_and_nodes_stay(self):
        self.assertEqual(ask([[INPUT, 1], [CLAIM, 0], [CLAIM, 5], [INPUT, 2]]), [[0, 1], [1], [-2], [1, 3]])


class Marks(unittest.TestCase):
    def test_eight_and_one_more(self):
        self.assertEqual(ask([[MARK]] * 10), [[i] for i in range(1, 9)] + [[-5], [-5]])

    def test_terms_nodes_and_claims_stay(self):
        calls = [[INPUT, 1], [MARK], [CLAIM, 0], [MARK], [NOT, 0], [CLAIM, 1]]
        self.assertEqual(ask(calls), [[0, 1], [1], [1], [2], [1, 1], [2]])

    def test_gates_of_before_are_found_behind_a_mark(self):
        calls = [[INPUT, 2], [INPUT, 2], [TWO, XOR, 0, 1], [MARK], [TWO, XOR, 0, 1]]
        self.assertEqual(ask(calls)[2:], [[2, 10], [1], [3, 10]])

    def test_enough_is_kept_to_go_back(self):
        state = State()
        calls = [[INPUT, 2], [INPUT, 1], [CLAIM, 1], [TWO, XOR, 0, 0]]
        later = [[INPUT, 2], [TWO, MUL, 0, 3], [CUT, 4, 0, 1], [CLAIM, 5]]
        for call in calls + [[MARK]] + later:
            self.assertGreaterEqual(answer_of_call(state, call[0], call[1:])[0], 0)
        self.assertEqual(state.marks, [(3, 2, 1, 3)])
        self.assertEqual(state.inputs[:2], [0, 1])
        self.assertEqual(state.claims[:1], [1])
        self.assertEqual(state.gates.nodes[:3], [None, None, None])


if __name__ == "__main__":
    unittest.main()
