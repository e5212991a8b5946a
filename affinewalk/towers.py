"""Towers: levels of maps through which exactly the maps of a group sift."""

from affinewalk.arithmetic import chain
from affinewalk.growing import GrowingTower
from affinewalk.maps import apply_map, compose, is_map
from affinewalk.sieves import sieve_of


def is_tower(m, x, value):
    """Return whether the value (any value) is a tower for m and x."""
    divisors = chain(m)
    half = len(divisors) - 1
    if not isinstance(value, list) or len(value) != 2 * half:
        return False
    for j in range(half):
        if not is_image_level(m, x, value[j], divisors[j], divisors[j + 1]):
            return False
        if not is_multiplier_level(m, x, value[half + j], divisors[j], divisors[j + 1]):
            return False
    return True


def is_image_level(m, x, value, divisor, finer):
    """Return whether the value can be the level whose maps send x to different numbers modulo the finer divisor."""
    if not is_level(m, value):
        return False
    images = [apply_map(m, r, x) for r in value]
    return all([(image - x) % divisor == 0 for image in images]) and all_different(images, finer)


def is_multiplier_level(m, x, value, divisor, finer):
    """Return whether the value can be the level whose multipliers are different modulo the finer divisor."""
    if not is_level(m, value) or not all([apply_map(m, r, x) == x for r in value]):
        return False
    multipliers = [a for a, _ in value]
    return all([(a - 1) % divisor == 0 for a in multipliers]) and all_different(multipliers, finer)


def is_level(m, value):
    """Return whether the value (any value) is a list of maps modulo m with the identity."""
    return isinstance(value, list) and all([is_map(m, r) for r in value]) and (1, 0) in value


def all_different(numbers, divisor):
    """Return whether no two of the numbers are congruent modulo the divisor."""
    return len(set([number % divisor for number in numbers])) == len(numbers)


def sifts(m, x, tower, h, *, level=0):
    """Return whether the map h sifts through a tower for m and x from the level on."""
    return sieve_of(m, x, tower).passes(h, level)


def sifts_number(m, x, tower, z):
    """Return whether the number z sifts through a tower for m and x."""
    return sieve_of(m, x, tower).passes_number(z)


def is_closed(m, x, value):
    """Return whether the value (any value) is a closed tower for m and x."""
    if not is_tower(m, x, value):
        return False
    sieve = sieve_of(m, x, value)
    # Each map of a level or of a later one sifts by itself, so products with the identity need not be asked.
    others = [[r for r in level if r != (1, 0)] for level in value]
    later = []
    for level in range(len(value) - 1, -1, -1):
        later = others[level] + later
        for r in others[level]:
            if not all([sieve.passes(compose(m, r, s), level) for s in later]):
                return False
    return True


def build_tower(m, x, maps):
    """Return a closed tower for m and x whose group is the group of a list or tuple of maps."""
    growing = GrowingTower(m, x)
    for index, h in enumerate(maps):
        growing.include(h, index)
    return growing.levels()


def group_order(m, maps):
    """Return the order of the group of a list or tuple of maps."""
    return size_product(build_tower(m, 0, maps))


def in_group(m, maps, h):
    """Return whether the map h is in the group of a list or tuple of maps."""
    return sifts(m, 0, build_tower(m, 0, maps), h)


def size_product(levels):
    """Return the product of the sizes of the levels."""
    product = 1
    for level in levels:
        product = product * len(level)
    return product
