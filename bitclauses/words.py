"""Words of literals, the lowest bit first, and the gates that their terms need.

The order in which gates are asked for gives the nodes their numbers, so no step here is moved or left out,
not even one whose bit is dropped afterwards (the last carry of a sum, the highest bit of a rest).
"""

from bitclauses.gates import ALWAYS, NEVER, opposite


def zeros(width):
    """A word of 0s."""
    return [NEVER] * width


def opposites(word):
    """Not, of each bit."""
    return [opposite(x) for x in word]


def chosen_word(gates, c, a, b):
    """Each bit chosen by c of those of a and b."""
    return [gates.chosen(c, x, y) for x, y in zip(a, b)]


def added(gates, a, b, carry):
    """The sum's bits, and behind them the last carry."""
    bits = []
    for x, y in zip(a, b):
        d = gates.odd(x, y)
        bits.append(gates.odd(d, carry))
        e = gates.both(x, y)
        f = gates.both(d, carry)
        carry = gates.either(e, f)
    return bits + [carry]


def taken(gates, a, b):
    """The bits of a without b, and behind them the last carry: 1 where a isn't less than b."""
    return added(gates, a, opposites(b), ALWAYS)


def word_neg(gates, a):
    """2^w - a."""
    return taken(gates, zeros(len(a)), a)[:-1]


def word_and(gates, a, b):
    """Both, bit by bit."""
    return [gates.both(x, y) for x, y in zip(a, b)]


def word_or(gates, a, b):
    """Either, bit by bit."""
    return [gates.either(x, y) for x, y in zip(a, b)]


def word_xor(gates, a, b):
    """Odd, bit by bit."""
    return [gates.odd(x, y) for x, y in zip(a, b)]


def word_add(gates, a, b):
    """a + b."""
    return added(gates, a, b, NEVER)[:-1]


def word_sub(gates, a, b):
    """a - b."""
    return taken(gates, a, b)[:-1]


def moved_up(word, step):
    """The word with 0s below, as wide as before."""
    return (zeros(step) + word)[:len(word)]


def moved_down(word, step, fill):
    """The word with copies of fill above, as wide as before."""
    return (word + [fill] * step)[step:]


def word_mul(gates, a, b):
    """a * b."""
    so_far = zeros(len(a))
    for i, x in enumerate(a):
        masked = [gates.both(x, y) for y in moved_up(b, i)]
        so_far = added(gates, so_far, masked, NEVER)[:-1]
    return so_far


def divided(gates, a, b):
    """The quotient's bits, and behind them those of the rest."""
    quotient = []
    rest = zeros(len(b))
    for x in reversed(a):
        t = [x] + rest
        left = taken(gates, t, b + [NEVER])
        k = left[-1]
        quotient = [k] + quotient
        rest = chosen_word(gates, k, left[:-1], t)[:len(b)]
    return quotient + rest


def word_div(gates, a, b):
    """The quotient, rounded down."""
    return divided(gates, a, b)[:len(a)]


def word_rem(gates, a, b):
    """What is left of the quotient."""
    return divided(gates, a, b)[len(a):]


def word_shl(gates, a, b):
    """a * 2^b."""
    word = a
    step = 1
    for x in b:
        word = chosen_word(gates, x, moved_up(word, step), word)
        step = step * 2
    return word


def stepped_down(gates, a, b, with_sign):
    """a moved down by b; above it 0s, or with a sign copies of the highest bit."""
    word = a
    step = 1
    for x in b:
        # The highest bit has a literal of its own behind each step, so it's read anew.
        fill = word[-1] if with_sign else NEVER
        word = chosen_word(gates, x, moved_down(word, step, fill), word)
        step = step * 2
    return word


def word_shr(gates, a, b):
    """a divided by 2^b, rounded down."""
    return stepped_down(gates, a, b, False)


def word_sar(gates, a, b):
    """The same of a as a number with a sign."""
    return stepped_down(gates, a, b, True)


def word_eq(gates, a, b):
    """One bit: a is b."""
    differences = word_xor(gates, a, b)
    so_far = ALWAYS
    for x in differences:
        so_far = gates.both(so_far, opposite(x))
    return [so_far]


def word_ult(gates, a, b):
    """One bit: a is less than b."""
    return [opposite(taken(gates, a, b)[-1])]


def sign_turned(word):
    """The word with its highest bit turned: so numbers with a sign come to stand in order without one."""
    return word[:-1] + [opposite(word[-1])]


def word_slt(gates, a, b):
    """One bit: a is less than b, both with a sign."""
    return word_ult(gates, sign_turned(a), sign_turned(b))


TWO = (
    word_and,
    word_or,
    word_xor,
    word_add,
    word_sub,
    word_mul,
    word_div,
    word_rem,
    word_shl,
    word_shr,
    word_sar,
    word_eq,
    word_ult,
    word_slt,
)


def word_two(gates, which, a, b):
    """The word of a term of two, which as in the calls."""
    make = TWO[which]
    return make(gates, a, b)
