"""Powers of one map with many exponents."""

from affinewalk.maps import compose, inverse

# The base in which exponents are written. A greater one makes powers quicker, but only after more of them.
BASE = 16


class Powers:
    """The powers of a map; what many of them need is worked out once.

    For each place of the digits of an exponent, the powers for the digits 0, 1, 2, .. are kept as far as needed.
    """

    def __init__(self, m, f):
        self._m = m
        self._places = [[(1, 0), f]]

    def power(self, exponent):
        """Return the power with this exponent."""
        result = (1, 0)
        left, place = abs(exponent), 0
        while left > 0:
            left, digit = divmod(left, BASE)
            if digit > 0:
                result = compose(self._m, result, self._digit_power(place, digit))
            place += 1
        return result if exponent > 0 else inverse(self._m, result)

    def _digit_power(self, place, digit):
        """Return the power for a digit at a place."""
        while len(self._places) <= place:
            self._places.append([(1, 0), self._power_at(len(self._places) - 1, BASE)])
        return self._power_at(place, digit)

    def _power_at(self, place, many):
        """Return the power for as many units of a place that has its first one."""
        known = self._places[place]
        while len(known) <= many:
            known.append(compose(self._m, known[-1], known[1]))
        return known[many]
