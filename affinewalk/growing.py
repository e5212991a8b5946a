"""Towers that grow map by map, and remember of which given maps each of their maps is composed."""

from affinewalk.maps import compose, inverse, reduce_map
from affinewalk.sieves import Sieve

IDENTITY = 0


class GrowingTower:
    """A closed tower for m and x, at first of no maps.

    Its pieces are numbered maps. Piece 0 is the identity. The others were given, or they have a word: a list of tuples
    (piece, exponent) of earlier pieces, with exponents 1 and -1, whose powers they apply in this order. The makers of a
    level and of all later levels generate the group of the maps that sift from this level on.
    """

    def __init__(self, m, x):
        self._m = m
        self._x = x
        self._sieve = Sieve(m, x)
        self._maps = [(1, 0)]
        self._origins = {}
        self._words = {}
        self._levels = [{} for _ in range(self._sieve.size())]
        # Tuples (level, piece).
        self._makers = []
        # For each piece of a level its word in makers. Words that are not built on one another keep paths shallow.
        self._spelled = {}
        # Products (level, piece, maker) that may not sift from the level on.
        self._waiting = []
        for level in range(self._sieve.size()):
            self._put(level, IDENTITY, [])

    def include(self, h, origin):
        """Let the tower grow until h sifts. If h becomes a piece, the origin tells which of the given maps it is."""
        given = reduce_map(self._m, h)
        if not self._sieve.passes(given, 0):
            piece = self._new_piece(given)
            self._origins[piece] = origin
            self._grow(given, [(piece, 1)], 0)
            self._close()

    def levels(self):
        """Return the tower as a new list of new levels, each a list of maps."""
        return [[self._maps[piece] for piece in level.values()] for level in self._levels]

    def was_given(self, piece):
        """Return whether a piece was given, so that it has an origin and no word."""
        return piece in self._origins

    def origin(self, piece):
        """Return the origin of a piece that was given."""
        return self._origins[piece]

    def word(self, piece):
        """Return the word of a piece that was not given."""
        return list(self._words[piece])

    def word_for(self, h):
        """Return a word whose map is h, or None if h does not sift."""
        if not self._sieve.passes(h, 0):
            return None
        taken, _, _ = self._sift(h, 0, len(self._levels))
        return [(piece, 1) for piece in reversed(taken)]

    def word_for_number(self, z):
        """Return a word whose map sends x to z, or None if z does not sift."""
        if not self._sieve.passes_number(z):
            return None
        # The levels that ask for images of x take the same maps for every map that sends x to z.
        taken, _, _ = self._sift((1, (z - self._x) % self._m), 0, len(self._levels) // 2)
        return [(piece, 1) for piece in reversed(taken)]

    def _new_piece(self, h):
        """Add a piece with this map and return its number."""
        self._maps.append(h)
        return len(self._maps) - 1

    def _sift(self, h, level, end):
        """Sift h from the level on, up to the end or to the first level that has no map for what is left of it.

        Return the list of the pieces taken, without the identity, what is left of h, and the level at which it stops.
        """
        taken = []
        while level < end and self._sieve.key_at(level, h) in self._levels[level]:
            piece = self._levels[level][self._sieve.key_at(level, h)]
            if piece != IDENTITY:
                taken.append(piece)
                h = compose(self._m, h, inverse(self._m, self._maps[piece]))
            level += 1
        return taken, h, level

    def _grow(self, h, word, start):
        """Sift h, which has this word and does not sift from the start on, and make what is left of it a maker."""
        taken, rest, level = self._sift(h, start, len(self._levels))
        maker = self._new_piece(rest)
        self._words[maker] = word + [(piece, -1) for piece in taken]
        for lower in range(level + 1):
            for piece in self._levels[lower].values():
                self._wait(lower, piece, maker)
        self._makers.append((level, maker))
        self._put(level, maker, [(maker, 1)])

    def _put(self, level, piece, spelled):
        """Put a piece, spelled in makers, into a level that has no piece with its key."""
        h = self._maps[piece]
        self._levels[level][self._sieve.key_at(level, h)] = piece
        self._sieve.hold(level, h)
        self._spelled[piece] = spelled
        for later, maker in self._makers:
            if later >= level:
                self._wait(level, piece, maker)

    def _wait(self, level, piece, maker):
        """Remember that the product of a piece of the level and the maker has to sift from the level on."""
        # A maker by itself sifts, as it stands in its own level.
        if piece != IDENTITY:
            self._waiting.append((level, piece, maker))

    def _close(self):
        """Let the tower grow until it is closed, which it is if all products of pieces and makers sift."""
        while len(self._waiting) > 0:
            level, piece, maker = self._waiting.pop()
            h = compose(self._m, self._maps[piece], self._maps[maker])
            if self._sieve.key_at(level, h) not in self._levels[level]:
                fresh = self._new_piece(h)
                self._words[fresh] = self._spelled[piece] + [(maker, 1)]
                self._put(level, fresh, self._words[fresh])
            elif not self._sieve.passes(h, level):
                self._grow(h, [(piece, 1), (maker, 1)], level)
