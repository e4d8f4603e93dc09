"""Words: what each term means, in every world, through the gates that were made for it."""

import unittest

from tests.helper import (
    CONST, CUT, DIV, INPUT, JOIN, NEG, NOT, PICK, REM, SAR, SEXT, SHL, SHR, SLT, TWO, ULT, ZEXT, built, term_values,
    two_value, words_values, worlds,
)


class Meaning(unittest.TestCase):
    def holds(self, calls):
        state = built(calls)
        for world in worlds([call[1] for call in calls if call[0] == INPUT]):
            told = words_values(calls, world)
            self.assertEqual([len(word) for word in state.terms], [w for w, value in told])
            self.assertEqual(term_values(state, world), [value for w, value in told], (calls, world))

    def test_terms_of_one(self):
        for w in range(1, 9):
            self.holds([[INPUT, w], [NOT, 0], [NEG, 0], [NEG, 1], [NOT, 2], [CONST, w, 2 ** w - 1], [NEG, 5]])

    def test_terms_of_two(self):
        for w in range(1, 5):
            self.holds([[INPUT, w], [INPUT, w]] + [[TWO, which, 0, 1] for which in range(14)])

    def test_terms_of_two_with_five_bits(self):
        for which in range(14):
            self.holds([[INPUT, 5], [INPUT, 5], [TWO, which, 0, 1]])

    def test_wide_terms_of_two(self):
        for which in range(14):
            self.holds([[INPUT, 8], [INPUT, 2], [CONST, 6, 43], [JOIN, 2, 1], [TWO, which, 0, 3]])
            self.holds([[INPUT, 6], [INPUT, 3], [ZEXT, 1, 6], [TWO, which, 0, 2]])
            self.holds([[INPUT, 7], [INPUT, 3], [SEXT, 1, 7], [TWO, which, 2, 0]])

    def test_a_term_with_itself(self):
        for which in range(14):
            self.holds([[INPUT, 4], [TWO, which, 0, 0], [NOT, 0], [TWO, which, 0, 2]])

    def test_constants(self):
        for which in range(14):
            for a in (0, 1, 127, 128, 200, 255):
                for b in (0, 1, 7, 8, 9, 128, 255):
                    state = built([[CONST, 8, a], [CONST, 8, b], [TWO, which, 0, 1]])
                    self.assertEqual(term_values(state, [])[2], two_value(which, a, b, 8), (which, a, b))

    def test_parts(self):
        self.holds([[INPUT, 3], [INPUT, 5], [JOIN, 0, 1], [JOIN, 1, 0], [CUT, 2, 2, 5], [CUT, 3, 0, 1], [CUT, 3, 7, 1],
                    [ZEXT, 0, 8], [SEXT, 0, 8], [SEXT, 1, 6], [ZEXT, 1, 5], [SEXT, 1, 5], [CUT, 0, 0, 3]])

    def test_picks(self):
        for w in range(1, 5):
            self.holds([[INPUT, 1], [INPUT, w], [INPUT, w], [PICK, 0, 1, 2], [PICK, 0, 2, 1], [PICK, 0, 1, 1]])
        for c in (0, 1):
            self.holds([[CONST, 1, c], [INPUT, 3], [INPUT, 3], [PICK, 0, 1, 2]])


class ByHand(unittest.TestCase):
    """A few values written down, so that not all hangs on the second reading."""

    def value(self, which, w, a, b):
        return term_values(built([[CONST, w, a], [CONST, w, b], [TWO, which, 0, 1]]), [])[2]

    def test_divided_by_nothing(self):
        for w in range(1, 9):
            self.assertEqual(self.value(DIV, w, 1, 0), 2 ** w - 1)
            self.assertEqual(self.value(REM, w, 1, 0), 1)
        self.assertEqual(self.value(DIV, 8, 200, 7), 28)
        self.assertEqual(self.value(REM, 8, 200, 7), 4)

    def test_moves_by_the_width_or_more(self):
        for b in (8, 9, 16, 255):
            self.assertEqual(self.value(SHL, 8, 255, b), 0)
            self.assertEqual(self.value(SHR, 8, 255, b), 0)
            self.assertEqual(self.value(SAR, 8, 128, b), 255)
            self.assertEqual(self.value(SAR, 8, 127, b), 0)
        self.assertEqual(self.value(SAR, 8, 128, 3), 240)
        self.assertEqual(self.value(SHL, 3, 5, 1), 2)

    def test_less(self):
        self.assertEqual(self.value(ULT, 4, 7, 8), 1)
        self.assertEqual(self.value(SLT, 4, 7, 8), 0)
        self.assertEqual(self.value(SLT, 4, 8, 7), 1)
        self.assertEqual(self.value(ULT, 4, 8, 8), 0)
        self.assertEqual(self.value(SLT, 4, 8, 8), 0)


if __name__ == "__main__":
    unittest.main()
