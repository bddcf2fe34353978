"""The examples of the document, word by word."""

import unittest

from forcedtables.errors import GroupError

COUNTS = """
    >>> SIX = ((2, 1), (3, 1))
    >>> FIFTEEN = ((3, 1), (5, 1))
    >>> THIRTY = ((2, 1), (3, 1), (5, 1))
"""

KINDS = """
    >>> from forcedtables.kinds import is_choice, is_count, is_event, is_prime
    >>> from forcedtables.rulechecker import is_piece, is_rule
    >>> [is_prime(9973), is_prime(10007), is_count(((3, 1), (2, 1))), is_choice(SIX, ((2, (1,)),)), is_choice(SIX, ((3, (1,)),)), is_event(('drop', 4))]
    [True, False, False, True, False, False]
    >>> FOUR = ('turn', 2, ((0, 1), (1, 1)), 3)
    >>> [is_piece(FOUR), is_piece(('act', 7, 3, 2)), is_piece(('act', 7, 3, 3)), is_rule((FOUR, ('knot', 2))), is_rule(())]
    [True, True, False, True, False]
"""

CHECKERS = """
    >>> from forcedtables.countchecker import lets_count
    >>> from forcedtables.rulechecker import lets_rule
    >>> [lets_count(THIRTY), lets_count(()), lets_rule((FOUR, ('knot', 3))), lets_rule((('act', 1, 6, 0),))]
    [30, 1, 324, 6]
    >>> lets_count(((2, 1), (2, 1)))
    raises InvalidPaper(word='order', at=1)
    >>> lets_rule((('ring', 2), ('act', 6, 4, 5)))
    raises InvalidPaper(word='share', at=1)
"""

PARTS = """
    >>> from forcedtables.countparts import count_of, how_many_divisors, power_of, primes_of, units_of, value_of
    >>> FORTY = ((2, 3), (5, 1))
    >>> [value_of(FORTY), primes_of(FORTY), power_of(FORTY, 2), power_of(FORTY, 3), how_many_divisors(FORTY), units_of(FORTY)]
    [40, (2, 5), 3, 0, 8, 16]
    >>> [count_of(360), count_of(1), count_of(128), count_of(10007)]
    [((2, 3), (3, 2), (5, 1)), (), None, None]
"""

CHANGES = """
    >>> from forcedtables.countchanges import common, joined, lifted, lowered, over, square_free_of, times, without_prime
    >>> [times(FORTY, SIX), over(FORTY, ((2, 1),)), common(FORTY, THIRTY), joined(FORTY, SIX)]
    [((2, 4), (3, 1), (5, 1)), ((2, 2), (5, 1)), ((2, 1), (5, 1)), ((2, 3), (3, 1), (5, 1))]
    >>> [lifted(SIX, 5) == THIRTY, lifted(SIX, 3), lowered(SIX, 3), without_prime(FORTY, 2), square_free_of(FORTY)]
    [True, ((2, 1), (3, 2)), ((2, 1),), ((5, 1),), ((2, 1), (5, 1))]
    >>> over(SIX, FIFTEEN)
    raises NotUsable(word='other', at=-1)
"""


def told(line, names):
    """What the document prints below a line."""
    try:
        return repr(eval(line, names))
    except GroupError as error:
        fields = ", ".join(f"{field}={part!r}" for field, part in vars(error).items())
        return f"raises {type(error).__name__}({fields})"


class Examples(unittest.TestCase):
    maxDiff = None

    def follow(self, *texts):
        """Go through texts of examples, one behind the other, with one set of names."""
        names = {}
        lines = [line.strip() for text in texts for line in text.strip().split("\n")]
        for line, below in zip(lines, lines[1:] + [">>> "]):
            if not line.startswith(">>> "):
                continue
            if below.startswith(">>> "):
                exec(line[4:], names)
            else:
                self.assertEqual(told(line[4:], names), below, line)

    def test_kinds_and_checkers(self):
        self.follow(COUNTS, KINDS, CHECKERS)

    def test_parts_and_changes(self):
        self.follow(COUNTS, PARTS, CHANGES)

    def test_powers_of_two_and_three_modulo_seven(self):
        self.follow("""
            >>> [2 ** 3 % 7, 3 ** 3 % 7 == 1]
            [1, False]
        """)
