"""Counts as objects."""

from forcedtables.countchanges import common, does_divide, joined, lifted, lowered, over, times, without_prime
from forcedtables.countchecker import lets_count
from forcedtables.countparts import count_of, has_prime, power_of, primes_of, value_of
from forcedtables.countreadings import count_read
from forcedtables.counttexts import count_text
from forcedtables.errors import NotUsable
from forcedtables.kinds import does_reach, is_prime


class Count:
    """The count of these pairs. It never changes."""

    def __init__(self, *pairs):
        lets_count(pairs)
        self._pairs = pairs

    @property
    def count_now(self):
        """The count itself."""
        return self._pairs

    @property
    def value_now(self):
        """The value of the count."""
        return value_of(self._pairs)

    @property
    def primes_now(self):
        """The set of the primes of the count."""
        return primes_of(self._pairs)

    def __getitem__(self, at):
        return power_of(self._pairs, at)

    def __contains__(self, x):
        return has_prime(self._pairs, x)

    def __len__(self):
        return len(self._pairs)

    def __iter__(self):
        return iter(self._pairs)

    def __str__(self):
        return str(count_text(self._pairs))

    def __eq__(self, other):
        return isinstance(other, Count) and self._pairs == other._pairs

    def __mul__(self, other):
        return Count.of(times(self._pairs, count_behind(other)))

    def __floordiv__(self, other):
        return Count.of(over(self._pairs, count_behind(other)))

    def __and__(self, other):
        return Count.of(common(self._pairs, count_behind(other)))

    def __or__(self, other):
        return Count.of(joined(self._pairs, count_behind(other)))

    def divides(self, other):
        """Tell whether the value divides that of other, a Count or a count."""
        return does_divide(self._pairs, count_behind(other))

    def lifted(self, prime):
        """Return the Count in which the power of the prime is greater by 1."""
        return Count.of(lifted(self._pairs, prime))

    def lowered(self, prime):
        """Return the Count in which the power of the prime is less by 1."""
        return Count.of(lowered(self._pairs, prime))

    def without(self, prime):
        """Return the Count in which the prime is not there."""
        return Count.of(without_prime(self._pairs, prime))

    @classmethod
    def of(cls, count):
        """Return the Count of a count."""
        lets_count(count)
        return Count(*count)

    @classmethod
    def of_number(cls, number):
        """Return the Count whose value the number is."""
        count = count_of(number)
        if count is None:
            raise NotUsable("number", -1)
        return Count(*count)

    @classmethod
    def read(cls, text):
        """Return the Count that the text writes."""
        count = count_read(text)
        return Count(*count)


class Free(Count):
    """The square-free count of these primes, in any order. It never changes."""

    def __init__(self, *primes):
        for at, prime in enumerate(primes):
            if not is_prime(prime) or prime in primes[:at]:
                raise NotUsable("primes", at)
        pairs = [(prime, 1) for prime in sorted(primes)]
        super().__init__(*pairs)

    @property
    def acting_now(self):
        """The set of the pairs of two of the primes, the first of which divides the second one less 1."""
        primes = primes_of(self._pairs)
        return tuple([(prime, other) for prime in primes for other in primes if does_reach(prime, other)])


def count_behind(thing):
    """Give the count of a Count, and any other value as it is."""
    if isinstance(thing, Count):
        return thing.count_now
    return thing
