"""Values for the tests, and plain ways to tell what they are."""

from inspect import isgenerator
from itertools import combinations, product

from forcedtables.errors import InvalidEvent, InvalidPaper, InvalidRow, InvalidText, NothingToUndo, NotUsable

SIX = ((2, 1), (3, 1))
FIFTEEN = ((3, 1), (5, 1))
THIRTY = ((2, 1), (3, 1), (5, 1))
FORTY = ((2, 3), (5, 1))
FOUR = ("turn", 2, ((0, 1), (1, 1)), 3)
S3 = (("act", 3, 2, 2),)
MIXED = (("knot", 2), FOUR, ("ring", 10))

SIGNS = " 0123456789^,;/|-+_.aT\n"
PRIMES = [n for n in range(2, 10000) if all(n % k for k in range(2, int(n ** 0.5) + 1))]
PRIME_TABLE = dict.fromkeys(PRIMES, True)
EVERY_PRIME = tuple((prime, 6) for prime in PRIMES)
SIXTY_DIGITS = 10 ** 59 + 7
MERSENNE = 2 ** 199 - 1  # sixty digits; 2 has the order 199 modulo this

# Rules of at most sixty elements, each piece of [4] among them with its least numbers.
SMALL_RULES = [
    (("ring", 1),), (("ring", 2),), (("ring", 12),), (("power", 2, 1),), (("power", 2, 3),), (("power", 3, 2),),
    (("power", 7, 1),), (("knot", 2),), (("knot", 3),), (FOUR,), (("turn", 3, ((2,),), 2),), (("turn", 7, ((4,),), 3),),
    (("turn", 3, ((0, 1), (1, 0)), 2),), (("turn", 3, ((2, 0), (0, 2)), 2),), (("turn", 5, ((1, 0), (0, 4)), 2),),
    (("turn", 2, ((0, 1, 0), (0, 0, 1), (1, 0, 0)), 3),), (("turn", 2, ((0, 1, 0), (0, 0, 1), (1, 1, 0)), 7),),
    (("act", 1, 1, 0),), (("act", 1, 6, 0),), (("act", 6, 1, 1),), S3, (("act", 7, 3, 2),), (("act", 9, 2, 8),),
    (("act", 5, 4, 2),), (("act", 3, 4, 2),), (("act", 4, 9, 1),), (("act", 5, 6, 4),), (("act", 15, 2, 4),),
    (("ring", 2), ("ring", 2)), (("ring", 6), ("ring", 4)), (("ring", 5), ("act", 3, 2, 2)),
    (("knot", 2), ("ring", 3)), (("ring", 3), ("knot", 2)),
    (("ring", 2), ("power", 3, 1), ("act", 3, 2, 2)), (("ring", 1), ("ring", 1), ("ring", 1), ("knot", 2)),
]

TWO_ON = tuple(tuple(int((row + 2) % 6 == column) for column in range(6)) for row in range(6))
SIX_ROWS = (("turn", 9973, TWO_ON, 3),)
HUGE = (("ring", SIXTY_DIGITS), ("act", MERSENNE, 199 * 10 ** 57, 2), ("act", 1, SIXTY_DIGITS, 0),
        ("act", SIXTY_DIGITS, 1, 1))
# Rules whose elements are not listed, each with some of them.
GREAT_RULES = {
    MIXED: [((1, 0, 1), ((1, 0), 1), 7), ((0, 1, 1), ((1, 0), 0), 6), ((1, 1, 0), ((0, 1), 2), 9)],
    (("power", 9973, 6),): [((1, 2, 3, 4, 5, 6),), ((9972, 0, 9971, 5000, 1, 7),)],
    (("knot", 9973),): [((1, 2, 3),), ((9972, 9970, 5),), ((0, 17, 9000),)],
    SIX_ROWS: [(((1, 2, 3, 4, 5, 6), 1),), (((9972, 0, 7, 0, 9, 1), 2),), (((0, 0, 0, 0, 0, 1), 0),)],
    HUGE: [(10 ** 58 + 3, (12345, 7), (0, 10 ** 57), (3, 0)), (5, (MERSENNE - 1, 198), (0, 0), (10 ** 58, 0)),
           (SIXTY_DIGITS - 1, (2 ** 198 + 9, 1), (0, SIXTY_DIGITS - 1), (SIXTY_DIGITS - 1, 0))],
    (("act", 5, 4, 2), ("knot", 3), ("power", 2, 2), FOUR): [
        ((3, 3), (1, 2, 0), (1, 1), ((1, 0), 2)), ((1, 2), (2, 2, 1), (0, 1), ((0, 1), 1))],
}


def nested(kind, deep):
    """A value of this kind within itself, so many deep."""
    thing = kind()
    for _ in range(deep):
        thing = kind([thing])
    return thing


def any_values():
    """Values of all kinds, made anew for each call."""
    integers = [-SIXTY_DIGITS, -10007, -2, -1, 0, 1, 2, 3, 4, 5, 6, 7, 8, 9, 25, 97, 9973, 9999, 10000, 10007,
                10 ** 59, SIXTY_DIGITS, 10 ** 60 - 1]
    strings = ["", "a", "abcdefgh", "abcdefghi", "A", "a b", "a\n", "1", "2", "-", "~", "prime", "note", "hold", "off",
               "cyclic", "ring", "act", "z" * 4000, "2^3 5^1", "5^1 2^3", "ring 6 | knot 3", "ring 6 |", "\n"]
    counts = [(), ((2, 1),), SIX, FORTY, ((9973, 6),), EVERY_PRIME]
    near_counts = [[], [(2, 1)], [[2, 1]], ([2, 1],), (2, 1), ((2, 1, 1),), ((2,),), ((True, 1),), ((2, True),),
                   ((2, 0),), ((2, 7),), ((2, -1),), ((4, 1),), ((10007, 1),), ((3, 1), (2, 1)), ((2, 1), (2, 1)),
                   ((2, None),), ((None, 1),), (("2", 1),), ((2, "1"),), (None,), (True,), ((2, 1), []), [(), ()]]
    pieces = [("ring", 1), ("ring", SIXTY_DIGITS), ("power", 2, 6), ("knot", 3), FOUR, ("act", 7, 3, 2),
              ("act", 1, 1, 0)]
    near_pieces = [["ring", 3], ("ring",), ("ring", 0), ("ring", True), ("ring", 3, 3), (["ring"], 3), ("knot", 4),
                   ("power", 2, 7), ("act", 7, 3, 3), ("turn", 2, [[0, 1], [1, 1]], 3), ("cube", 2)]
    rules = [(piece,) for piece in pieces] + [tuple(pieces)]
    near_rules = [[piece] for piece in pieces] + [(piece,) for piece in near_pieces]
    events = [("prime", 2), ("drop", 9973), ("note", "a"), ("hold", "off")]
    near_events = [["prime", 2], ("prime", True), ("drop", 4), ("note", ""), ("note", 2), ("hold", "on"),
                   ("hold", []), ("prime", 2, 2), ("prime",), ([], 2), (None, None)]
    parts = [(0,), ((1, 0),), ((0, 1),), ((2, 1),), ((0, 0, 0),), ((1, 0), (0, 1))]
    near_parts = [[(1, 0)], ([1, 0],), (1, 0), ((3, 0),), ((0, 2),), ((True, 0),), ((0, False),), ((-1, 0),),
                  (("1", 0),), ((1, 0, 0),), ((1,),), ((1, None),)]
    large = [nested(list, 40), nested(tuple, 40), tuple(range(20000)), [0] * 20000]
    return (integers + [True, False, None] + strings + counts + near_counts + pieces + near_pieces + rules
            + near_rules + events + near_events + parts + near_parts + large)


def is_real(thing):
    """Whether it is an int that is no bool."""
    return type(thing) is int


def is_real_prime(thing):
    """Whether it is a prime, by the table of all primes."""
    return is_real(thing) and thing in PRIME_TABLE


def is_real_count(thing):
    """Whether it is a count, by [3] read once more."""
    if type(thing) is not tuple or not all(type(pair) is tuple and len(pair) == 2 for pair in thing):
        return False
    if not all(is_real_prime(pair[0]) and is_real(pair[1]) and pair[1] in range(1, 7) for pair in thing):
        return False
    primes = [pair[0] for pair in thing]
    return primes == sorted(set(primes))


def some_counts():
    """Counts with no prime, one, two, three, eight, twelve and all primes, and with powers from 1 to 6."""
    one = [((prime, power),) for prime in (2, 3, 5, 97, 9973) for power in range(1, 7)]
    two = [((p, i), (q, j)) for p, q in combinations((2, 3, 5, 7, 9967, 9973), 2) for i in (1, 2, 6) for j in (1, 3)]
    three = [((2, i), (3, j), (11, k)) for i in (1, 2, 6) for j in (1, 5) for k in (1, 6)]
    eight = [tuple((prime, power) for prime in PRIMES[:8]) for power in (1, 6)]
    eight.append(tuple((prime, at % 6 + 1) for at, prime in enumerate(PRIMES[-8:])))
    twelve = [tuple((prime, at % 6 + 1) for at, prime in enumerate(PRIMES[::100][:12]))]
    return [()] + one + two + three + eight + twelve + [tuple((prime, 1) for prime in PRIMES[:12])]


def plain_value(count):
    """The value of a count, by [3]."""
    value = 1
    for prime, power in count:
        value *= prime ** power
    return value


def plain_count(number):
    """The count of a number that is at least 1, or None, by dividing by all primes."""
    pairs = []
    for prime in PRIMES:
        power = 0
        while number % prime == 0:
            number //= prime
            power += 1
        if power > 6:
            return None
        if power:
            pairs.append((prime, power))
    return tuple(pairs) if number == 1 else None


def plain_moved(table, column, times, modulus):
    """What the table makes of the column, so many times one behind the other."""
    for _ in range(times):
        column = tuple(sum(number * part for number, part in zip(row, column)) % modulus for row in table)
    return column


def plain_part(piece, part, other):
    """Two elements of a piece put together, by [4]."""
    word = piece[0]
    if word == "ring":
        return (part + other) % piece[1]
    if word == "power":
        return tuple((one + two) % piece[1] for one, two in zip(part, other))
    if word == "knot":
        (a, b, c), (d, e, f) = part, other
        return ((a + d) % piece[1], (b + e) % piece[1], (c + f + a * e) % piece[1])
    (x, t), (y, s) = part, other
    if word == "turn":
        moved = plain_moved(piece[2], y, t, piece[1])
        return (tuple((one + two) % piece[1] for one, two in zip(x, moved)), (t + s) % piece[3])
    return ((x + piece[3] ** t * y) % piece[1], (t + s) % piece[2])


def plain_together(rule, element, other):
    """Two elements of a rule put together, by [4] and [5]."""
    return tuple(plain_part(piece, part, late) for piece, part, late in zip(rule, element, other))


def plain_parts(piece):
    """All elements of a piece, ascending, by [4]."""
    word, below = piece[0], range(piece[1])
    if word == "ring":
        return list(below)
    if word == "power":
        return list(product(below, repeat=piece[2]))
    if word == "knot":
        return list(product(below, repeat=3))
    if word == "turn":
        return list(product(product(below, repeat=len(piece[2])), range(piece[3])))
    return list(product(below, range(piece[2])))


def all_of(rule):
    """All elements of a rule, ascending."""
    return list(product(*[plain_parts(piece) for piece in rule]))


def written(thing):
    """A text in which values of unlike kinds differ, True and 1 among them."""
    if isinstance(thing, int) and not isinstance(thing, bool):
        return hex(thing)
    if isinstance(thing, (tuple, list)):
        return f"{type(thing).__name__}({','.join(written(part) for part in thing)})"
    return repr(thing)


def outcome(call, *args, **more):
    """What a call returns, or the error and its fields, as a text."""
    try:
        result = call(*args, **more)
        return written(list(result) if isgenerator(result) else result)
    except (InvalidPaper, NotUsable) as error:
        return f"{type(error).__name__} {error.word} {written(error.at)}"
    except InvalidText as error:
        return f"InvalidText {written(error.line)} {written(error.field)}"
    except NothingToUndo as error:
        return f"NothingToUndo {written(error.steps)}"
    except InvalidEvent as error:
        return f"InvalidEvent {written(error.event)} {error.reason}"
    except InvalidRow as error:
        return f"InvalidRow {written(error.row)}"


def told_of(kind, field, call, *args):
    """What a property tells of the object of just this class that a call returns, or its error, as a text."""
    kept = []

    def called():
        kept.append(call(*args))
        return getattr(kept[0], field)

    result = outcome(called)
    if kept and type(kept[0]) is not kind:
        return f"of the class {type(kept[0]).__name__}"
    return result


def refused(name, at=-1):
    """The outcome of a call that raises NotUsable."""
    return f"NotUsable {name} {written(at)}"


def faulty(word, at):
    """The outcome of a call that raises InvalidPaper."""
    return f"InvalidPaper {word} {written(at)}"


def missing(field):
    """The outcome of a call that raises InvalidText for a text of one line."""
    return f"InvalidText 0x0 {hex(field)}"


def changed(text, more):
    """The text with a sign or a word put in, left out or exchanged, at each place."""
    for at in range(len(text) + 1):
        yield text[:at]
        yield text[:at] + text[at + 1:]
        for sign in SIGNS:
            yield text[:at] + sign + text[at:]
            yield text[:at] + sign + text[at + 1:]
    words = text.split(" ")
    for at in range(len(words) + 1):
        yield " ".join(words[:at])
        yield " ".join(words[:at] + words[at + 1:])
        yield " ".join(words[:at] + words[at:at + 2][::-1] + words[at + 2:])
        for word in [*more, *words]:
            yield " ".join(words[:at] + [word] + words[at:])
            yield " ".join(words[:at] + [word] + words[at + 1:])


def bent(thing):
    """A value with one change anywhere in it: a part exchanged, left out, put in twice, or a list for a tuple."""
    yield from (None, True, False, [], (), "", "all", -1, 0, 1, 2)
    if is_real(thing):
        yield from (thing + 1, thing - 1, -thing, str(thing), (thing,))
    if isinstance(thing, tuple):
        yield list(thing)
        for at, part in enumerate(thing):
            yield thing[:at] + thing[at + 1:]
            yield thing[:at + 1] + thing[at:]
            yield thing[:at] + thing[at:at + 2][::-1] + thing[at + 2:]
            for other in bent(part):
                yield thing[:at] + (other,) + thing[at + 1:]
