"""Sifting: how maps and numbers pass through the levels of a tower."""

from affinewalk.arithmetic import chain
from affinewalk.maps import inverse


class Sieve:
    """The levels of a tower for m and x, as tables in which the map that a level takes is found at once.

    The key of a map at a level is what the level asks about it: its image of x in the first half of the levels, its
    multiplier in the second half, modulo the divisor of the level.
    """

    def __init__(self, m, x):
        self._m = m
        self._x = x
        divisors = chain(m)[1:]
        self._half = len(divisors)
        self._divisors = divisors + divisors
        self._backs = [{} for _ in self._divisors]

    def size(self):
        """Return the number of levels."""
        return len(self._divisors)

    def key_at(self, level, h):
        """Return the key of a map at a level."""
        a, b = h
        asked = a * self._x + b if level < self._half else a
        return asked % self._divisors[level]

    def hold(self, level, r):
        """Put a map into a level."""
        self._backs[level][self.key_at(level, r)] = inverse(self._m, r)

    def passes(self, h, level):
        """Return whether the map sifts from the level on."""
        a, b = h
        for index in range(level, len(self._backs)):
            asked = a * self._x + b if index < self._half else a
            back = self._backs[index].get(asked % self._divisors[index])
            if back is None:
                return False
            a, b = a * back[0] % self._m, (b * back[0] + back[1]) % self._m
        return a == 1 and b == 0

    def passes_number(self, z):
        """Return whether the number sifts."""
        for index in range(self._half):
            back = self._backs[index].get(z % self._divisors[index])
            if back is None:
                return False
            z = (z * back[0] + back[1]) % self._m
        return True


def sieve_of(m, x, tower):
    """Return the sieve with the levels of a tower for m and x."""
    sieve = Sieve(m, x)
    for index, level in enumerate(tower):
        for r in level:
            sieve.hold(index, r)
    return sieve
