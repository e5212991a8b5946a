"""The limits of the program."""

MAX_MODULUS = 1000000000
MAX_PRIME = 13
MAX_WATCH = 60
MAX_NODES = 8
MAX_EDGES = 24
MAX_CANDIDATES = 6

# Compressed paths: rows of a path, items of a row, depth of a row, absolute value of an exponent.
MAX_ROWS = 2000
MAX_ITEMS = 200
MAX_DEPTH = 200
MAX_EXPONENT = 1000000000000000000
