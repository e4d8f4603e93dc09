"""Whole lists of up to 40 calls and 31000 numbers, held against the second reading of the document."""

import random
import sys
import unittest

from bitclauses.terms import answers
from tests.helper import (
    ADD, AND, BITS, CLAIM, CLAUSES, CONST, COUNT, CUT, DECIDE, DIV, EQ, INPUT, MANY_NODES, MARK, MUL, NODE, NOT,
    ONE_NODE_LEFT, RANGE, READS, SAME, SIZES, SUB, TOP, TWO, ULT, UNDO, XOR, Model, apart, ask, flat, last,
    random_call, random_question, reads, value,
)

# Twelve hundred nodes, and claims of single bits that need most of them.
FULL = MANY_NODES + [[TWO, XOR, 0, 2], [TWO, SUB, 2, 5]]
FULL_CLAIMED = FULL + [[CUT, 4, 0, 1], [CUT, 6, 7, 1], [CUT, 8, 7, 1], [CLAIM, 9], [CLAIM, 10], [CLAIM, 11]]


def modelled(calls):
    """The model behind these calls."""
    model = Model()
    for call in calls:
        model.answer(call)
    return model


class Held(unittest.TestCase):
    def held(self, calls):
        """The answers, once they're found to be the model's."""
        model = Model()
        wanted = [model.answer(call) for call in calls]
        told = ask(calls)
        for call, answer, right in zip(calls, told, wanted):
            self.assertEqual(answer, right, (call[:5], calls if len(flat(calls)) < 400 else "a long list"))
        self.assertEqual(len(told), len(calls))
        return told


class DrawnLists(Held):
    def drawn(self, draw, wide, count, asked):
        """A list of calls; asked is how often it's one of the calls 12 to 22."""
        favourite = draw.choice((TWO, TWO, CUT, CLAIM, MARK))
        model = Model()
        calls = []
        while len(calls) < count:
            if model.terms and draw.random() < asked:
                call = random_question(draw, model)
            else:
                call = random_call(draw, len(model.terms), wide, favourite)
            if len(flat(calls)) + len(call) <= 31000:
                calls.append(call)
                model.answer(call)
        return calls

    def test_narrow(self):
        draw = random.Random(3)
        seen = {}
        for turn in range(500):
            calls = self.drawn(draw, draw.choice((1, 1, 2, 3)), 40, draw.choice((0.3, 0.5, 0.7)))
            for call, answer in zip(calls, self.held(calls)):
                key = (call[0], min(answer[0], 1) if call[0] > MARK else 0)
                seen[key] = seen.get(key, 0) + 1
        # Each kind of answer that the calls 12 to 22 have is among them.
        for call, kinds in ((UNDO, (-7, 1)), (DECIDE, (0, 1)), (SAME, (-2, -1, 0, 1)), (RANGE, (-2, 0, 1)),
                            (COUNT, (0, 1)), (BITS, (-2, 1)), (NODE, (-3, 0, 1)), (SIZES, (1,)), (CLAUSES, (0, 1)),
                            (READS, (-1, 0, 1)), (22, (-2, -1, 0, 1))):
            for kind in kinds:
                self.assertGreater(seen.get((call, kind), 0), 10, (call, kind))

    def test_wide(self):
        draw = random.Random(4)
        for turn in range(60):
            self.held(self.drawn(draw, draw.choice((4, 5, 8)), 40, 0.5))

    def test_single_calls(self):
        for call in ([UNDO], [DECIDE], [SAME, 0, 0], [RANGE, 0], [COUNT], [BITS, 0], [NODE, 1], [SIZES], [CLAUSES],
                     reads([]), reads([0]), value(0, []), value(TOP, [TOP] * 16)):
            self.held([call])


class LongLists(Held):
    def test_many_reads(self):
        model = modelled(FULL_CLAIMED)
        self.assertEqual(len(model.nodes), 1200)
        needed = len(model.needed())
        self.assertGreater(needed, 1000)
        fitting = [world for world, told in model.fitting()]
        self.assertTrue(fitting)
        good = [reads(model.solution(world)) for world in fitting[:6]]
        bad = []
        for place in (0, 1, needed // 2, needed - 2, needed - 1):
            row = model.solution(fitting[-1])
            row[place] = 1 - row[place]
            bad.append(reads(row))
        wrong = [reads([1] * 1210), reads([0] * 1210), reads([TOP] * 1210), reads([0] * (needed - 1)),
                 reads([1] * (needed + 1)), reads([0] * (needed - 1) + [2]), reads([0] * needed), reads([1] * needed)]
        calls = FULL_CLAIMED + good + bad + wrong + [[CLAUSES], [SIZES], [COUNT]]
        self.assertLessEqual(len(calls), 40)
        told = self.held(calls)[len(FULL_CLAIMED):]
        self.assertEqual([answer[0] for answer in told[:6]], [1] * len(good))
        self.assertEqual([answer[0] for answer in told[6:11]], [0] * 5)
        self.assertEqual(told[11:17], [[-1]] * 6)

    def test_reads_of_1210_values(self):
        calls = [[INPUT, 8]] + [reads([i % 2] * 1210) for i in range(25)] + [reads([])] + [[COUNT]] * 13
        self.assertGreater(len(flat(calls)), 30000)
        self.assertEqual(ask(calls), [[0, 8]] + [[-1]] * 25 + [[1, 1, 0]] + [[256]] * 13)

    def test_all_that_is_needed_read_again_and_again(self):
        model = modelled(FULL_CLAIMED)
        row = reads(model.solution(model.fitting()[0][0]))
        calls = FULL_CLAIMED + [row] * 25
        self.assertGreater(len(flat(calls)), 25000)
        self.assertEqual(ask(calls)[len(FULL_CLAIMED):], [model.read(row[2:])] * 25)

    def test_many_questions_with_ten_bits(self):
        asked = []
        for t in range(6):
            asked += [[DECIDE], [SAME, t, (t + 2) % 9], [RANGE, t], [COUNT]]
        self.held(FULL_CLAIMED + asked[:25])

    def test_many_questions_between_claims(self):
        calls = [[INPUT, 5], [INPUT, 5], [TWO, MUL, 0, 1], [TWO, DIV, 0, 1], [TWO, ULT, 2, 3], [TWO, EQ, 2, 3],
                 [NOT, 5], [DECIDE], [SAME, 2, 3], [RANGE, 3], [COUNT], [CLAIM, 4], [DECIDE], [SAME, 2, 3], [RANGE, 2],
                 [COUNT], [MARK], [CLAIM, 5], [DECIDE], [SAME, 0, 1], [RANGE, 2], [COUNT], [UNDO], [CLAIM, 6],
                 [DECIDE], [SAME, 0, 3], [RANGE, 1], [COUNT], [SIZES], [CLAUSES], value(2, [31, 31]), value(3, [9, 2])]
        self.held(calls)

    def test_many_clauses(self):
        calls = FULL_CLAIMED + [[CLAUSES]] * 20
        told = self.held(calls)
        self.assertGreater(told[-1][0], 2500)
        self.assertLess(len(answers(flat(calls))), 1000000)

    def test_one_node_left(self):
        calls = ONE_NODE_LEFT + [[MARK], [INPUT, 1], [CLAIM, 7], [SIZES], [DECIDE], [NODE, 1200], [NODE, 1201],
                                 reads([1]), [INPUT, 1], [UNDO], [NODE, 1200], [INPUT, 2], [CONST, 8, 0],
                                 [TWO, EQ, 0, 7], [TWO, AND, 0, 6], [SAME, 0, 6], [RANGE, 6]]
        self.held(calls)

    def test_long_chain(self):
        """A gate far up that hangs on all others, one on top of another."""
        calls = [[INPUT, 8], [CONST, 8, 1]]
        while len(calls) < 30:
            calls.append([TWO, (ADD, MUL)[len(calls) % 2], len(calls) - 1, 0])
            if last(calls)[0] < 0:
                calls.pop()
                break
        top = len(calls) - 1
        calls += [[CUT, top, 7, 1], [CLAIM, top + 1]]
        self.held(calls + [[SIZES], [CLAUSES], [DECIDE], [COUNT], [RANGE, top], [SAME, top, 0]])


class Depth(unittest.TestCase):
    def test_nothing_is_nested_deep(self):
        """What's as long as its input is gone through by loops: little room for calls within one another is enough."""
        model = modelled(FULL_CLAIMED)
        row = reads(model.solution(model.fitting()[0][0]))
        calls = flat(FULL_CLAIMED + [[CLAUSES], [SIZES], [DECIDE], [SAME, 0, 2], [RANGE, 4], [COUNT], row,
                                     value(4, [200, 1]), [MARK], [UNDO]])
        wanted = answers(calls)
        depth = 0
        frame = sys._getframe()
        while frame is not None:
            depth += 1
            frame = frame.f_back
        before = sys.getrecursionlimit()
        sys.setrecursionlimit(depth + 40)
        try:
            told = answers(calls)
        finally:
            sys.setrecursionlimit(before)
        self.assertEqual(told, wanted)


class SameAgain(unittest.TestCase):
    def test_the_list_is_as_it_was_and_two_runs_answer_the_same(self):
        model = modelled(FULL_CLAIMED)
        row = reads(model.solution(model.fitting()[0][0]))
        calls = flat(FULL_CLAIMED + [row, [MARK], [NOT, 9], [CLAIM, 12], [DECIDE], [UNDO], row, [DECIDE], [CLAUSES]])
        handed = list(calls)
        first = answers(handed)
        self.assertEqual(handed, calls)
        kept = list(first)
        self.assertEqual(answers(handed), kept)
        self.assertEqual(handed, calls)
        self.assertEqual(first, kept)
        self.assertEqual(apart(first)[-3], apart(first)[len(FULL_CLAIMED)])


if __name__ == "__main__":
    unittest.main()
