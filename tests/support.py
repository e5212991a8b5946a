"""What several tests share: values of every kind, moduli, networks, and answers found by counting."""

import random
import string
from copy import deepcopy
from math import gcd

from affinewalk.networks import Network

LARGE_MODULI = [10 ** 9, 999814816, 999398400, 2 ** 29, 3 ** 18, 5 ** 12, 7 ** 10, 11 ** 8, 13 ** 8, 30030, 60 * 13 ** 6]
SMALL_MODULI = [2, 3, 4, 5, 6, 7, 8, 9, 10, 12, 13, 15, 16]
SIXTY_DIGITS = [10 ** 60 - 1, 1 - 10 ** 60, 10 ** 59, 123456789012345678901234567890123456789012345678901234567891]
CERTIFICATE_WORDS = ["reached", "apart", "first", "second", "clash", "point", "unit"]
WORDS = ["modulus", "watch", "node", "edge", "when", "at", "row", "step", "jump", "remove", "forward", "backward", "x"]


def nested(inner, depth):
    for _ in range(depth):
        inner = (inner, [inner], {"a": inner}) if depth < 3 else (inner,)
    return inner


def any_values():
    """Values of every kind that point 2 names; none of them is a modulus, a map, a state or a class."""
    return [
        None, True, False, -1, -2, -10 ** 99, 10 ** 100 - 1, 1 - 10 ** 100, 0, 1,
        "", " ", "a", "ab", "12", "1", "a b", "5*x + 0", "abcdefghi", "A", "\n",
        (), (1,), ("a",), (None,), (1, 2, 3), ("a", 0, 0), (None, None), (True, False), ("", ""),
        (True, 0), (True, 1), (1, True), (1, False), (False, 0), (1, None), (None, 1), (1, "0"), ("1", 0),
        (1, -1), (-1, 1), (1, 10 ** 99), (10 ** 99, 1), (0, 0), (-10 ** 99, 1), (1, -10 ** 99),
        ("a", True), ("a", False), ("a", None), ("a", "0"), ("a", -1), ("a", 10 ** 99), ("a", -10 ** 99),
        ("a", (0,)), ("a", [0]), ("a", {}), (("a",), 0), (["a"], 0), ({"a": 0}, 0), ({}, 0), ([], 0), ((), 0),
        ("", 0), ("zz", 0), ("A", 0), ("a ", 0), (None, 0), (0, "a"), ((1, 0), 0), (1, (0,)), ([1], 0), (1, [0]), (1, {}),
        [], [1], [1, 0], ["a", 0], [[1, 0]], ["a"], [None], {}, {1: 0}, {"a": 0}, {0: 1, 1: 0}, {"a": ["a", 0]},
        nested((1, 0), 2), nested(("a", 0), 2), nested((1, 0), 6), nested("a", 8), nested([], 7),
    ]


def is_smooth(value):
    """Whether no prime above 13 divides the value, found by trial of every divisor in turn."""
    divisor = 2
    while divisor * divisor <= value:
        if value % divisor == 0:
            value //= divisor
        else:
            divisor += 1
    return value <= 13


def smooth_numbers(top):
    """The numbers from 1 to top whose prime factors are all at most 13, as a set of products."""
    found = {1}
    for prime in (2, 3, 5, 7, 11, 13):
        fresh = list(found)
        while fresh:
            fresh = [n * prime for n in fresh if n * prime <= top]
            found.update(fresh)
    return found


def all_maps(m):
    return [(a, b) for a in range(m) if gcd(a, m) == 1 for b in range(m)]


def large_maps(m):
    """Maps with multipliers at the edges and in between, and with b at the edges and in between."""
    chosen = random.Random(m)
    units = [1, m - 1]
    while len(units) < 6:
        a = chosen.randrange(m)
        if gcd(a, m) == 1:
            units.append(a)
    return [(a % m, b) for a in units for b in (0, 1, m - 1, chosen.randrange(m))]


def orbit(m, f, x):
    """The numbers x, f(x), .. up to the one before x comes back, one by one."""
    numbers = [x]
    while (f[0] * numbers[-1] + f[1]) % m != x:
        numbers.append((f[0] * numbers[-1] + f[1]) % m)
    return numbers


def structured_maps(m):
    """Maps of each kind: the identity, translations, multipliers that are 1 modulo a divisor, with a fixed point or not."""
    chosen = random.Random(m + 1)
    units = [1, m - 1]
    divisor = 1
    for prime in primes_of(m):
        while m % (divisor * prime) == 0:
            divisor *= prime
            units.extend([a for a in (1 + divisor, 1 + chosen.randrange(m) * divisor) if gcd(a, m) == 1])
    maps = [(1, 0), (1, 1), (1, m - 1), (1, m // primes_of(m)[-1])]
    for a in [1, m - 1] + chosen.sample(units, min(len(units), 8)):
        a %= m
        kept = chosen.randrange(m)
        maps.extend([(a, (1 - a) * kept % m), (a, ((1 - a) * kept + 1) % m), (a, chosen.randrange(m))])
    return maps


def primes_of(n):
    """The prime factors of n, found by trial of every divisor in turn, in ascending order."""
    found = []
    divisor = 2
    while divisor * divisor <= n:
        if n % divisor == 0:
            found.append(divisor)
        while n % divisor == 0:
            n //= divisor
        divisor += 1
    return found + [n] if n > 1 else found


def variations(value):
    """Values that differ from the value in one place, at any depth."""
    found = [None, True, False, "", (), [], {}, [value], (value,), {"a": value}, 10 ** 99]
    if type(value) is int:
        found += [value + 1, value - 1, 2 * value, -value, 0, 1, value + 10 ** 60, -10 ** 99, str(value), bool(value)]
    elif type(value) is str:
        found += [word for word in CERTIFICATE_WORDS if word != value] + [value + "x", value.upper(), value[1:], 0]
    elif type(value) in (tuple, list):
        found += [list(value) if type(value) is tuple else tuple(value), {item: 0 for item in map(str, value)}]
        for k, item in enumerate(value):
            first, rest = value[:k], value[k + 1:]
            one = value[k:k + 1]
            found += [first + rest, first + one + one + rest, first + rest[:1] + one + rest[1:]]
            found += [first + type(value)([other]) + rest for other in variations(item)]
        found += [value + type(value)([item]) for item in (None, 0, 1, 2, 7, 17, ())]
    return [other for other in found if other != value or kinds_of(other) != kinds_of(value)]


def table(m, f):
    """The images of all numbers, one by one."""
    return tuple((f[0] * x + f[1]) % m for x in range(m))


def kinds_of(value):
    """The exact kinds of a value and of everything in it."""
    if isinstance(value, (tuple, list)):
        return (type(value), [kinds_of(item) for item in value])
    if isinstance(value, dict):
        return (type(value), [(kinds_of(key), kinds_of(value[key])) for key in value])
    return type(value)


def first_network():
    """The network of the interface."""
    edges = [("e", "a", "b", (1, 4), [0]), ("f", "b", "a", (5, 0), [1]), ("g", "a", "a", (1, 3), [0])]
    return Network(12, 3, ["a", "b"], edges)


def largest_parts():
    """Modulus, watch modulus, nodes and edges at the limits of the document."""
    nodes = [letter * 8 for letter in "bcdefghz"]
    edges = []
    for k in range(24):
        name = "a" * 7 + string.ascii_lowercase[k]
        f = (998399999 if k == 0 else 998400000 - 17 - 60 * 17 * k, 998399999 - k)
        while gcd(f[0], 998400000) != 1:
            f = (f[0] - 1, f[1])
        edges.append((name, nodes[k % 8], nodes[(3 * k + 1) % 8], f, list(range(60)) if k < 2 else [k, 59]))
    return 998400000, 60, nodes, edges


def random_name(chosen, used):
    while True:
        name = "".join(chosen.choices("abcz", k=chosen.randint(1, 8)))
        if chosen.random() < 0.4:
            name = chosen.choice(WORDS)
        if name not in used:
            used.add(name)
            return name


def random_parts(seed):
    """Modulus, watch modulus, nodes and edges (in no order) of a network; equal seeds give equal parts."""
    chosen = random.Random(seed)
    m = chosen.choice([2, 7, 8, 12, 36, 60, 2520, 720720, 998400000, 10 ** 9])
    watch = chosen.choice([d for d in range(1, 61) if m % d == 0])
    used = set()
    nodes = [random_name(chosen, used) for _ in range(chosen.randint(1, 8))]
    edges = []
    for _ in range(chosen.choice([0, 1, 2, 5, 9, 24])):
        a = chosen.randrange(m)
        while gcd(a, m) != 1:
            a = chosen.randrange(m)
        residues = chosen.sample(range(watch), chosen.randint(0, watch))
        name = random_name(chosen, used)
        edges.append((name, chosen.choice(nodes), chosen.choice(nodes), (a, chosen.randrange(m)), residues))
    return m, watch, nodes, edges



class Text(str):
    """A kind derived from strings."""


class Number(int):
    """A kind derived from integers."""


class Row(tuple):
    """A kind derived from tuples."""


class KeepsArguments:
    """For test cases: call a function and see that it leaves its arguments as they were."""

    def call(self, function, *arguments):
        before = deepcopy(arguments)
        result = function(*arguments)
        self.assertEqual(arguments, before)
        self.assertEqual(kinds_of(arguments), kinds_of(before))
        return result

    def assert_false_for(self, function, *arguments):
        self.assertIs(self.call(function, *arguments), False, arguments)

    def assert_exactly(self, found, wanted):
        self.assertEqual(found, wanted)
        self.assertEqual(kinds_of(found), kinds_of(wanted))
