"""What was made: bits, node, sizes, clauses, reads, and their refusals (point 3)."""

import random
import unittest

from tests.helper import (
    ADD, AND, BITS, CLAIM, CLAUSES, CONST, COUNT, CUT, DECIDE, DIV, EQ, INPUT, JOIN, MANY_NODES, MUL, NEG, NODE, NOT,
    OR, PICK, READS, SAR, SEXT, SHL, SIZES, SLT, SUB, TOP, TWO, ULT, XOR, ZEXT, Model, ask, clause_lists, flat, last,
    random_call, reads, value,
)

# Inputs x and y of a bit each are nodes 1 and 2; both of them is node 3, term 2.
BOTH = [[INPUT, 1], [INPUT, 1], [TWO, AND, 0, 1]]
BOTH_CLAIMED = BOTH + [[CLAIM, 2]]
# Odd of x and y is not node 5, term 2.
ODD_CLAIMED = [[INPUT, 1], [INPUT, 1], [TWO, XOR, 0, 1], [CLAIM, 2]]
# Of inputs of 3 and 2 bits only bits 1 of each are claimed: nodes 2 and 5.
TWO_BITS_CLAIMED = [[INPUT, 3], [INPUT, 2], [CUT, 0, 1, 1], [CUT, 1, 1, 1], [CLAIM, 3], [CLAIM, 2]]


def clauses_of(calls):
    return clause_lists(last(calls + [[CLAUSES]]))


class Bits(unittest.TestCase):
    def test_inputs(self):
        self.assertEqual(ask([[INPUT, 2], [INPUT, 3], [BITS, 0], [BITS, 1]])[2:], [[2, 2, 4], [3, 6, 8, 10]])
        self.assertEqual(last([[INPUT, 8], [BITS, 0]]), [8, 2, 4, 6, 8, 10, 12, 14, 16])

    def test_constants(self):
        self.assertEqual(last([[CONST, 3, 6], [BITS, 0]]), [3, 0, 1, 1])
        self.assertEqual(last([[CONST, 1, 0], [BITS, 0]]), [1, 0])

    def test_gates_and_nots(self):
        self.assertEqual(last(BOTH + [[BITS, 2]]), [1, 6])
        self.assertEqual(last(BOTH + [[NOT, 2], [BITS, 3]]), [1, 7])
        self.assertEqual(last([[INPUT, 2], [NEG, 0], [BITS, 1]]), [2, 2, 11])

    def test_literals_0_and_1_among_them(self):
        calls = [[INPUT, 2], [CONST, 2, 1], [JOIN, 0, 1], [ZEXT, 0, 4], [NOT, 3], [SEXT, 0, 4], [TWO, AND, 0, 1],
                 [TWO, OR, 0, 1], [BITS, 2], [BITS, 3], [BITS, 4], [BITS, 5], [BITS, 6], [BITS, 7]]
        self.assertEqual(ask(calls)[8:], [
            [4, 1, 0, 2, 4], [4, 2, 4, 0, 0], [4, 3, 5, 1, 1], [4, 2, 4, 4, 4], [2, 2, 0], [2, 1, 4],
        ])

    def test_not_there(self):
        self.assertEqual(ask([[BITS, 0]]), [[-2]])
        for t in (1, 2, TOP):
            self.assertEqual(last([[INPUT, 1], [BITS, t]]), [-2])

    def test_against_the_model(self):
        for w in range(1, 6):
            for which in range(14):
                calls = [[INPUT, w], [INPUT, w], [TWO, which, 0, 1], [BITS, 2]]
                model = Model()
                self.assertEqual(ask(calls), [model.answer(call) for call in calls])


class Nodes(unittest.TestCase):
    def test_input_bits_and_gates(self):
        calls = [[INPUT, 1], [INPUT, 1], [TWO, XOR, 0, 1]] + [[NODE, n] for n in range(1, 6)]
        self.assertEqual(ask(calls)[3:], [[0], [0], [1, 2, 5], [1, 3, 4], [1, 7, 9]])

    def test_input_behind_gates(self):
        self.assertEqual(ask(BOTH + [[INPUT, 1], [NODE, 4], [NODE, 3]])[4:], [[0], [1, 2, 4]])

    def test_none(self):
        for n in (0, 1, 2, TOP):
            self.assertEqual(ask([[NODE, n]]), [[-3]])
        for n in (0, 4, 5, 1200, 1201, TOP):
            self.assertEqual(last(BOTH + [[NODE, n]]), [-3])
        self.assertEqual(last(BOTH + [[NODE, 3]]), [1, 2, 4])

    def test_the_last_of_twelve_hundred(self):
        calls = MANY_NODES + [[TWO, XOR, 0, 2], [TWO, SUB, 2, 5]]
        model = Model()
        for call in calls:
            model.answer(call)
        self.assertEqual(len(model.nodes), 1200)
        self.assertEqual(last(calls + [[NODE, 1200]]), [1, *model.nodes[-1]])
        self.assertEqual(last(calls + [[NODE, 1201]]), [-3])

    def test_all_against_the_model(self):
        calls = [[INPUT, 3], [INPUT, 3], [TWO, DIV, 0, 1]]
        model = Model()
        size = [model.answer(call) for call in calls][-1][1]
        for start in range(0, size + 1, 30):
            asked = [[NODE, n] for n in range(start, start + 30)]
            self.assertEqual(ask(calls + asked)[3:], [model.answer(call) for call in asked])


class Sizes(unittest.TestCase):
    def test_nothing(self):
        self.assertEqual(ask([[SIZES]]), [[0, 0, 0, 0]])

    def test_no_claim(self):
        self.assertEqual(last(BOTH + [[SIZES]]), [3, 1, 0, 0])
        self.assertEqual(last([[CONST, 8, 1], [SIZES]]), [0, 0, 0, 0])

    def test_claims(self):
        self.assertEqual(last(BOTH_CLAIMED + [[SIZES]]), [3, 1, 3, 4])
        self.assertEqual(last(ODD_CLAIMED + [[SIZES]]), [5, 3, 5, 10])
        self.assertEqual(last(TWO_BITS_CLAIMED + [[SIZES]]), [5, 0, 2, 2])

    def test_literals_of_claims(self):
        self.assertEqual(last([[INPUT, 1], [CONST, 1, 1], [CLAIM, 1], [SIZES]]), [1, 0, 0, 0])
        self.assertEqual(last([[INPUT, 1], [CONST, 1, 0], [CLAIM, 1], [SIZES]]), [1, 0, 0, 1])
        self.assertEqual(last([[INPUT, 2], [CUT, 0, 1, 1], [CLAIM, 1], [SIZES]]), [2, 0, 1, 1])
        self.assertEqual(last(BOTH + [[NOT, 2], [CLAIM, 3], [SIZES]]), [3, 1, 3, 4])

    def test_the_same_claim_twice(self):
        self.assertEqual(last(BOTH_CLAIMED + [[CLAIM, 2], [SIZES]]), [3, 1, 3, 5])

    def test_gates_that_are_not_needed(self):
        calls = [[INPUT, 1], [INPUT, 1], [TWO, XOR, 0, 1], [TWO, AND, 0, 1], [CLAIM, 3], [SIZES]]
        self.assertEqual(last(calls), [6, 4, 3, 4])


class Clauses(unittest.TestCase):
    def test_no_claim(self):
        self.assertEqual(ask([[CLAUSES]]), [[0]])
        self.assertEqual(last(BOTH + [[CLAUSES]]), [0])

    def test_a_gate(self):
        self.assertEqual(last(BOTH_CLAIMED + [[CLAUSES]]), [4, 2, -3, 1, 2, -3, 2, 3, 3, -1, -2, 1, 3])

    def test_literals_that_are_nots(self):
        self.assertEqual(clauses_of(ODD_CLAIMED), [
            [-3, 1], [-3, -2], [3, -1, 2],
            [-4, -1], [-4, 2], [4, 1, -2],
            [-5, -3], [-5, -4], [5, 3, 4],
            [-5],
        ])

    def test_claim_of_1(self):
        self.assertEqual(last([[CONST, 1, 1], [CLAIM, 0], [CLAUSES]]), [0])
        self.assertEqual(last([[INPUT, 2], [TWO, EQ, 0, 0], [CLAIM, 1], [CLAUSES]]), [0])

    def test_claim_of_0(self):
        self.assertEqual(last([[CONST, 1, 0], [CLAIM, 0], [CLAUSES]]), [1, 0])
        self.assertEqual(last([[CONST, 1, 0], [CLAIM, 0], [CLAIM, 0], [CLAUSES]]), [2, 0, 0])
        self.assertEqual(last([[INPUT, 2], [TWO, ULT, 0, 0], [CLAIM, 1], [CLAUSES]]), [1, 0])

    def test_claim_of_an_inputs_bit(self):
        self.assertEqual(last([[INPUT, 1], [CLAIM, 0], [CLAUSES]]), [1, 1, 1])
        self.assertEqual(last([[INPUT, 1], [NOT, 0], [CLAIM, 1], [CLAUSES]]), [1, 1, -1])
        self.assertEqual(last([[INPUT, 8], [CUT, 0, 7, 1], [CLAIM, 1], [CLAUSES]]), [1, 1, 8])

    def test_claim_of_the_not_of_a_gate(self):
        self.assertEqual(clauses_of(BOTH + [[NOT, 2], [CLAIM, 3]]), [[-3, 1], [-3, 2], [3, -1, -2], [-3]])

    def test_the_same_claim_twice(self):
        self.assertEqual(clauses_of(BOTH_CLAIMED + [[CLAIM, 2]]), [[-3, 1], [-3, 2], [3, -1, -2], [3], [3]])

    def test_claims_in_their_order_behind_the_gates(self):
        calls = BOTH + [[CONST, 1, 0], [CONST, 1, 1], [CLAIM, 3], [CLAIM, 1], [CLAIM, 4], [CLAIM, 2], [CLAIM, 0]]
        self.assertEqual(clauses_of(calls), [[-3, 1], [-3, 2], [3, -1, -2], [], [2], [3], [1]])
        self.assertEqual(clauses_of(TWO_BITS_CLAIMED), [[5], [2]])

    def test_needed_gates_in_order_of_their_numbers(self):
        # Nodes 4 and 5: both of x and y, then of that and z; node 6 isn't needed; node 7 is claimed first.
        calls = [[INPUT, 1]] * 3 + [[TWO, AND, 0, 1], [TWO, AND, 3, 2], [TWO, OR, 1, 2], [NOT, 0], [TWO, AND, 6, 2],
                                    [CLAIM, 7], [CLAIM, 4]]
        self.assertEqual(clauses_of(calls), [
            [-4, 1], [-4, 2], [4, -1, -2],
            [-5, 3], [-5, 4], [5, -3, -4],
            [-7, -1], [-7, 3], [7, 1, -3],
            [7], [5],
        ])

    def test_terms_that_are_not_claimed_are_not_needed(self):
        calls = [[INPUT, 4], [INPUT, 4], [TWO, MUL, 0, 1], [CUT, 2, 0, 1], [CLAIM, 3]]
        # The product's lowest bit is both of the lowest bits: the first gate, node 9.
        self.assertEqual(clauses_of(calls), [[-9, 1], [-9, 5], [9, -1, -5], [9]])

    def test_against_the_model(self):
        for w in range(1, 5):
            for which in range(14):
                calls = [[INPUT, w], [INPUT, w], [TWO, which, 0, 1], [CUT, 2, 0, 1], [CLAIM, 3], [SIZES], [CLAUSES]]
                model = Model()
                self.assertEqual(ask(calls), [model.answer(call) for call in calls])


class Reads(unittest.TestCase):
    def test_no_value(self):
        self.assertEqual(ask([reads([])]), [[1, 0]])
        self.assertEqual(last(BOTH + [reads([])]), [1, 2, 0, 0])
        self.assertEqual(last([[INPUT, 3], [CONST, 1, 1], [CLAIM, 1], reads([])]), [1, 1, 0])
        self.assertEqual(last(BOTH_CLAIMED + [reads([])]), [-1])

    def test_values_that_hold(self):
        self.assertEqual(last(BOTH_CLAIMED + [reads([1, 1, 1])]), [1, 2, 1, 1])
        self.assertEqual(last(ODD_CLAIMED + [reads([0, 1, 0, 1, 0])]), [1, 2, 0, 1])
        self.assertEqual(last(ODD_CLAIMED + [reads([1, 0, 1, 0, 0])]), [1, 2, 1, 0])

    def test_the_first_clause_that_does_not_hold(self):
        for told, place in (((0, 1, 1), 0), ((1, 0, 1), 1), ((1, 1, 0), 2), ((0, 0, 0), 3), ((0, 0, 1), 0),
                            ((0, 1, 0), 3), ((1, 0, 0), 3)):
            self.assertEqual(last(BOTH_CLAIMED + [reads(told)]), [0, place])

    def test_first_middle_last(self):
        self.assertEqual(last(ODD_CLAIMED + [reads([0, 0, 1, 0, 0])]), [0, 0])
        self.assertEqual(last(ODD_CLAIMED + [reads([0, 1, 0, 0, 0])]), [0, 5])
        self.assertEqual(last(ODD_CLAIMED + [reads([1, 0, 1, 0, 1])]), [0, 6])
        self.assertEqual(last(ODD_CLAIMED + [reads([0, 0, 0, 0, 1])]), [0, 9])
        self.assertEqual(last(ODD_CLAIMED + [reads([1, 1, 0, 0, 1])]), [0, 9])

    def test_too_few_or_many(self):
        for count in (0, 1, 2, 4, 5, 1200, 1209, 1210):
            self.assertEqual(last(BOTH_CLAIMED + [reads([1] * count)]), [-1])
        self.assertEqual(last([[INPUT, 1], reads([0])]), [-1])
        self.assertEqual(ask([reads([0] * 1210)]), [[-1]])

    def test_above_1(self):
        for told in ([2, 1, 1], [1, 2, 1], [1, 1, 2], [1, 1, TOP], [TOP] * 3, [0, 0, 2]):
            self.assertEqual(last(BOTH_CLAIMED + [reads(told)]), [-1])
        self.assertEqual(last([[CONST, 1, 0], [CLAIM, 0], reads([2])]), [-1])
        self.assertEqual(last(BOTH_CLAIMED + [reads([2] * 1210)]), [-1])

    def test_bits_that_are_not_needed(self):
        self.assertEqual(last(TWO_BITS_CLAIMED + [reads([1, 1])]), [1, 2, 2, 2])
        # Node 2 is told first, but its claim stands last.
        self.assertEqual(last(TWO_BITS_CLAIMED + [reads([0, 1])]), [0, 1])
        self.assertEqual(last(TWO_BITS_CLAIMED + [reads([1, 0])]), [0, 0])
        calls = [[INPUT, 4], [INPUT, 2], [CUT, 0, 0, 1], [NOT, 2], [CUT, 0, 3, 1], [CLAIM, 3], [CLAIM, 4]]
        self.assertEqual(last(calls + [reads([0, 1])]), [1, 2, 8, 0])

    def test_the_clause_with_nothing_in_it(self):
        nothing = [[CONST, 1, 0]]
        self.assertEqual(last(nothing + [[CLAIM, 0], reads([])]), [0, 0])
        self.assertEqual(last(BOTH + nothing + [[CLAIM, 3], [CLAIM, 2], reads([1, 1, 1])]), [0, 3])
        self.assertEqual(last(BOTH + nothing + [[CLAIM, 2], [CLAIM, 3], reads([1, 1, 1])]), [0, 4])
        self.assertEqual(last(BOTH + nothing + [[CLAIM, 2], [CLAIM, 3], reads([0, 0, 0])]), [0, 3])
        self.assertEqual(last(BOTH + nothing + [[CLAIM, 3], [CLAIM, 2], reads([0, 1, 1])]), [0, 0])

    def test_a_claim_of_1_takes_no_place(self):
        calls = BOTH + [[CONST, 1, 1], [CLAIM, 3], [CLAIM, 2], reads([0, 0, 0])]
        self.assertEqual(last(calls), [0, 3])

    def test_what_stands_behind_a_row(self):
        calls = BOTH_CLAIMED + [reads([0] * 7), reads([]), reads([1, 1, 1]), reads([2, 2, 2]), [COUNT]]
        self.assertEqual(ask(calls)[4:], [[-1], [-1], [1, 2, 1, 1], [-1], [1]])

    def test_it_claims_nothing(self):
        calls = ODD_CLAIMED + [reads([0, 1, 0, 1, 0]), [COUNT], [DECIDE], [SIZES], reads([1, 0, 1, 0, 0])]
        self.assertEqual(ask(calls)[4:], [[1, 2, 0, 1], [2], [1, 2, 0, 1], [5, 3, 5, 10], [1, 2, 1, 0]])


class RefusedCallsChangeNothing(unittest.TestCase):
    def test_all_is_as_it_was(self):
        refused = [[BITS, 3], [NODE, 0], [NODE, 6], reads([0]), reads([2] * 5)]
        behind = [[SIZES], [CLAUSES], [BITS, 2], [NODE, 5], reads([0, 1, 0, 1, 0]), [NOT, 0], [CLAIM, 3]]
        told = ask(ODD_CLAIMED + refused + behind)
        self.assertEqual(told[4:9], [[-2], [-3], [-3], [-1], [-1]])
        self.assertEqual(told[9:], ask(ODD_CLAIMED + behind)[4:])


def solutions(clauses, nodes):
    """All values of the nodes, in order, that make all clauses hold; found from the clauses alone."""
    found = []
    open_ends = [{}]
    while open_ends:
        told = spread(clauses, open_ends.pop())
        if told is None:
            continue
        missing = [n for n in nodes if n not in told]
        if not missing:
            found.append([told[n] for n in nodes])
        else:
            open_ends += [{**told, missing[0]: 0}, {**told, missing[0]: 1}]
    return sorted(found)


def spread(clauses, told):
    """What follows of what's told, clause by clause; None if a clause can't hold any more."""
    told = dict(told)
    grown = True
    while grown:
        grown = False
        for clause in clauses:
            if any(told.get(abs(x)) == int(x > 0) for x in clause):
                continue
            free = [x for x in clause if abs(x) not in told]
            if not free:
                return None
            if len(free) == 1:
                told[abs(free[0])] = int(free[0] > 0)
                grown = True
    return told


class ClausesAndWorlds(unittest.TestCase):
    """The clauses can be solved just as the claims can hold, and whoever solves them gets the inputs back."""

    LISTS = (
        BOTH_CLAIMED,
        ODD_CLAIMED,
        TWO_BITS_CLAIMED,
        [[INPUT, 2], [INPUT, 2], [TWO, ULT, 0, 1], [CLAIM, 2], [TWO, ULT, 1, 0], [NOT, 3], [CLAIM, 4]],
        [[INPUT, 2], [INPUT, 2], [TWO, ULT, 0, 1], [CLAIM, 2], [TWO, ULT, 1, 0], [CLAIM, 3]],
        [[INPUT, 3], [INPUT, 3], [TWO, MUL, 0, 1], [CONST, 3, 6], [TWO, EQ, 2, 3], [CLAIM, 4]],
        [[INPUT, 3], [TWO, MUL, 0, 0], [CONST, 3, 3], [TWO, EQ, 1, 2], [CLAIM, 3]],
        [[INPUT, 3], [INPUT, 2], [ZEXT, 1, 3], [TWO, DIV, 0, 2], [CONST, 3, 3], [TWO, EQ, 3, 4], [CLAIM, 5]],
        [[INPUT, 4], [INPUT, 2], [SEXT, 1, 4], [TWO, SAR, 0, 2], [TWO, SLT, 0, 3], [CLAIM, 4]],
        [[INPUT, 1], [INPUT, 2], [INPUT, 2], [PICK, 0, 1, 2], [TWO, ADD, 1, 2], [TWO, EQ, 3, 4], [CLAIM, 5]],
        [[INPUT, 3], [INPUT, 3], [TWO, SHL, 0, 1], [NEG, 0], [TWO, EQ, 2, 3], [CLAIM, 4], [CUT, 0, 0, 1], [CLAIM, 5]],
        [[INPUT, 4], [CONST, 1, 0], [CLAIM, 1]],
        [[INPUT, 4], [CONST, 1, 1], [CLAIM, 1]],
    )

    def agree(self, calls):
        """Holds for all solutions at once; says how many there are."""
        sizes, count, told = ask(calls + [[SIZES], [COUNT], [CLAUSES]])[-3:]
        model = Model()
        for call in calls:
            model.answer(call)
        nodes = model.needed()
        self.assertEqual(sizes[2], len(nodes))
        clauses = clause_lists(told)
        self.assertEqual(sizes[3], len(clauses))
        found = solutions(clauses, nodes)
        free = [n for n, pair in enumerate(model.nodes, start=1) if pair is None and n not in nodes]
        # Each gate follows from the inputs' bits, so the solutions are the worlds, but for the bits that aren't needed.
        self.assertEqual(count, [len(found) * 2 ** len(free)], calls)
        for told in found[:40]:
            answer = last(calls + [reads(told)])
            self.assertEqual(answer[0], 1)
            self.assertEqual(answer[1], len(answer) - 2)
            for t in range(len(model.terms)):
                self.assertEqual(last(calls + [value(t, answer[2:])])[0], 1)
        for world, terms in model.fitting()[:40]:
            told = model.solution(world)
            self.assertIn(told, found)
            if not free:
                self.assertEqual(last(calls + [reads(told)]), [1, len(world)] + world)
        return len(found)

    def test_lists(self):
        counts = [self.agree(calls) for calls in self.LISTS]
        self.assertEqual(counts[:5], [1, 2, 1, 6, 0])
        self.assertEqual(counts[6], 0)

    def test_drawn_lists(self):
        draw = random.Random(7)
        some = [0, 0]
        for turn in range(150):
            wide = draw.choice((1, 2, 2, 3))
            calls = [[INPUT, wide], [INPUT, wide]]
            model = Model()
            for call in calls:
                model.answer(call)
            while len(calls) < 20:
                call = random_call(draw, len(model.terms), wide, draw.choice((TWO, TWO, CUT, CLAIM)))
                if model.answer(call)[0] >= 0:
                    calls.append(call)
            if len(model.needed()) < 60:
                some[min(self.agree(calls), 1)] += 1
        self.assertGreater(some[0], 10)
        self.assertGreater(some[1], 10)

    def test_every_row_of_values(self):
        """With few nodes each row of values is asked: some answer 1 just where count is above 0."""
        lists = (BOTH_CLAIMED, ODD_CLAIMED, BOTH_CLAIMED + [[NOT, 2], [CLAIM, 3]], BOTH + [[NOT, 2], [CLAIM, 3]],
                 [[INPUT, 1], [INPUT, 1], [TWO, ULT, 0, 1], [CLAIM, 2]],
                 [[INPUT, 1], [INPUT, 1], [TWO, XOR, 0, 1], [TWO, AND, 0, 1], [CLAIM, 2], [CLAIM, 3]])
        for calls in lists:
            needed = last(calls + [[SIZES]])[2]
            holding = []
            for number in range(2 ** needed):
                told = [number >> i & 1 for i in range(needed)]
                answer = last(calls + [reads(told)])
                if answer[0] == 1:
                    holding.append(sorted(answer[2:]))
                    self.assertEqual(last(calls + [value(0, answer[2:])])[0], 1)
            self.assertEqual(last(calls + [[COUNT]]), [len(holding)])


class Row(unittest.TestCase):
    def test_form(self):
        self.assertEqual(reads([1, 0]), [READS, 2, 1, 0])
        self.assertEqual(flat([reads([]), value(3, [4])]), [21, 0, 22, 3, 1, 4])


if __name__ == "__main__":
    unittest.main()
