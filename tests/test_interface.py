"""The interface: one list in, one list out, and nothing besides."""

import builtins
import contextlib
import io
import unittest
from unittest import mock

import bitclauses.terms
from bitclauses.terms import answers
from tests.helper import (
    BITS, CLAIM, CLAUSES, CONST, COUNT, DECIDE, DIV, INPUT, MANY_NODES, MARK, NEG, NODE, NOT, PICK, RANGE, READS, SAME,
    SIZES, TWO, UNDO, VALUE, flat,
)

EVERY_CALL = [
    0, 3, 1, 3, 5, 2, 0, 3, 1, 4, 3, 0, 1, 5, 0, 1, 6, 5, 4, 1, 7, 0, 8, 8, 0, 8, 9, 6, 0, 1, 10, 6, 11, 10, 99, 0, 9,
    12, 13, 14, 0, 9, 14, 0, 1, 15, 0, 16, 17, 6, 18, 1, 18, 4, 19, 20, 21, 1, 1, 22, 4, 1, 3, 12, 21, 0,
]


def refused(*given, **named):
    raise AssertionError("the program reads or imports something")


class Form(unittest.TestCase):
    def test_counts_stand_before_the_answers(self):
        self.assertEqual(answers([0, 2, 2, 0, 2, 7, 11, 10, 0]), [2, 0, 2, 2, 1, 2, 1, -2, 1, 1, 1, -1])

    def test_every_call(self):
        self.assertEqual(answers(EVERY_CALL), [
            2, 0, 3, 2, 1, 3, 2, 2, 3, 2, 3, 3, 2, 4, 12, 2, 5, 12, 2, 6, 12, 2, 7, 12, 2, 8, 12, 2, 9, 15,
            1, 1, 1, 1, 1, -2, 1, -1,
            2, 10, 1, 3, 1, 1, 2, 1, 1, 3, 0, 1, 2, 3, 1, 2, 7, 1, 4, 2, 1, 4, 1, 0, 3, 1, 3, 4, 4, 15, 12, 1, 1,
            3, 1, 1, 2, 3, 1, 1, 2, 2, 1, 0, 1, -7, 1, -1,
        ])

    def test_no_count_but_those_that_are_told(self):
        two = [INPUT, 2, INPUT, 1]
        self.assertEqual(answers(two + [DECIDE])[6:], [4, 1, 2, 0, 0])
        self.assertEqual(answers(two + [CLAIM, 1, DECIDE])[8:], [4, 1, 2, 0, 1])
        self.assertEqual(answers(two + [NOT, 1, SAME, 1, 2])[9:], [4, 0, 2, 0, 0])
        self.assertEqual(answers(two + [SAME, 1, 1])[6:], [1, 1])
        self.assertEqual(answers(two + [RANGE, 0])[6:], [3, 1, 0, 3])
        self.assertEqual(answers(two + [COUNT])[6:], [1, 8])
        self.assertEqual(answers(two + [BITS, 0])[6:], [3, 2, 2, 4])
        self.assertEqual(answers(two + [NODE, 3])[6:], [1, 0])
        self.assertEqual(answers(two + [SIZES])[6:], [4, 3, 0, 0, 0])
        self.assertEqual(answers(two + [CLAUSES])[6:], [1, 0])
        self.assertEqual(answers(two + [CLAIM, 1, CLAUSES])[8:], [3, 1, 1, 3])
        self.assertEqual(answers(two + [READS, 0])[6:], [4, 1, 2, 0, 0])
        self.assertEqual(answers(two + [CLAIM, 1, READS, 1, 0])[8:], [2, 0, 0])
        self.assertEqual(answers(two + [VALUE, 0, 2, 3, 1])[6:], [2, 1, 3])
        self.assertEqual(answers(two + [MARK, UNDO])[6:], [1, 1, 2, 2, 0])

    def test_single_call(self):
        self.assertEqual(answers([INPUT, 8]), [2, 0, 8])
        self.assertEqual(answers([CONST, 8, 255]), [2, 0, 0])
        self.assertEqual(answers([MARK]), [1, 1])
        self.assertEqual(answers([CLAIM, 0]), [1, -2])
        self.assertEqual(answers([UNDO]), [1, -7])
        self.assertEqual(answers([DECIDE]), [2, 1, 0])
        self.assertEqual(answers([COUNT]), [1, 1])
        self.assertEqual(answers([SIZES]), [4, 0, 0, 0, 0])
        self.assertEqual(answers([CLAUSES]), [1, 0])
        self.assertEqual(answers([READS, 0]), [2, 1, 0])
        self.assertEqual(answers([VALUE, 0, 0]), [1, -2])

    def test_whole_numbers_in_a_list(self):
        told = answers(EVERY_CALL)
        self.assertIs(type(told), list)
        for number in told:
            self.assertIs(type(number), int)


class NothingKept(unittest.TestCase):
    def test_the_list_is_as_it_was(self):
        for calls in (EVERY_CALL, flat(MANY_NODES + [[TWO, DIV, 2, 0], [NOT, 0], [PICK, 9, 9, 9], [NEG, 1]])):
            handed = list(calls)
            answers(handed)
            self.assertEqual(handed, calls)

    def test_the_list_is_not_changed_for_a_while(self):
        class Watched(list):
            def changed(self, *given):
                raise AssertionError("the list handed in is changed")
            append = extend = insert = pop = remove = reverse = sort = clear = changed
            __setitem__ = __delitem__ = __iadd__ = __imul__ = changed

        self.assertEqual(answers(Watched(EVERY_CALL)), answers(EVERY_CALL))

    def test_twice_the_same(self):
        first = answers(EVERY_CALL)
        kept = list(first)
        between = answers(flat(MANY_NODES))
        self.assertEqual(answers(EVERY_CALL), kept)
        self.assertEqual(first, kept)
        self.assertEqual(answers(flat(MANY_NODES)), between)

    def test_the_answer_is_the_askers_own(self):
        told = answers(EVERY_CALL)
        kept = list(told)
        told.clear()
        self.assertEqual(answers(EVERY_CALL), kept)

    def test_marks_claims_and_names_begin_anew(self):
        for turn in range(10):
            self.assertEqual(answers([INPUT, 1, MARK, CLAIM, 0]), [2, 0, 1, 1, 1, 1, 1])


class NothingBesides(unittest.TestCase):
    def test_nothing_is_printed_read_or_imported(self):
        wanted = answers(EVERY_CALL)
        out = io.StringIO()
        with contextlib.redirect_stdout(out), contextlib.redirect_stderr(out):
            with mock.patch.object(builtins, "open", refused), mock.patch.object(builtins, "__import__", refused), \
                    mock.patch.object(builtins, "input", refused):
                told = answers(EVERY_CALL)
        self.assertEqual(told, wanted)
        self.assertEqual(out.getvalue(), "")

    def test_by_its_full_name(self):
        self.assertIs(bitclauses.terms.answers, answers)


if __name__ == "__main__":
    unittest.main()
