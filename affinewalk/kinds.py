"""What the other files ask of single values: integers, names, and numbers in texts."""

MAX_LETTERS = 8
LETTERS = "abcdefghijklmnopqrstuvwxyz"
DIGITS = "0123456789"


def is_whole(value):
    """Return whether the value (any value) is an integer; True and False are none."""
    return isinstance(value, int) and not isinstance(value, bool)


def is_between(value, low, high):
    """Return whether the value (any value) is an integer from low to high."""
    return is_whole(value) and low <= value <= high


def is_form(value, word, size):
    """Return whether the value (any value) is a tuple of this size that begins with the word."""
    return isinstance(value, tuple) and len(value) == size and value[0] == word


def is_name(value):
    """Return whether the value (any value) is a name."""
    if not isinstance(value, str) or not 1 <= len(value) <= MAX_LETTERS:
        return False
    return all([letter in LETTERS for letter in value])


def plain_name(name):
    """Return the name as a string of exactly this kind."""
    # A slice is a plain string even if the name is of a kind derived from strings.
    return name[:]


def read_number(word, top):
    """Return the number from 0 to top that the word writes without leading zeros, or None."""
    # The length is asked first because Python refuses to read numbers of thousands of digits.
    if not 1 <= len(word) <= len(str(top)):
        return None
    if not all([digit in DIGITS for digit in word]):
        return None
    if word.startswith("0") and word != "0":
        return None
    number = int(word)
    return number if number <= top else None
