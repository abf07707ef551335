"""Puts calls into one list, and takes the answers out of what is given back."""

from lairdrods.box import answers

# Boxes that several tests use: each rod is written as its four faces.
MIXED = [(1, 2, 3, 4), (5, 6, 7, 8), (9, 0, 1, 2), (3, 4, 5, 6)]
NINES = [(9, 9, 9, 9)] * 8
# Each digit stands on four or five of these.
TWELVE = [tuple((4 * rod + face) % 10 for face in range(4)) for rod in range(12)]


def begin(*rods):
    faces = [digit for rod in rods for digit in rod]
    return [0, len(faces)] + faces


def lay(*digits):
    return [1, len(digits), *digits]


def cut(r, f, k, v):
    return [2, r, f, k, v]


def row(k):
    return [3, k]


def by(*digits):
    return [4, len(digits), *digits]


def into(*digits):
    return [5, len(digits), *digits]


def root(*digits):
    return [6, len(digits), *digits]


def arrows(k):
    return [7, k]


def explain(k, *digits):
    return [8, k, len(digits), *digits]


def count(n):
    return [9, n]


def show():
    return [10]


def digits_of(number):
    """The number's digits, from the left."""
    return [int(sign) for sign in str(number)]


def told(number):
    """The number as digits are told."""
    return [len(str(number))] + digits_of(number)


def laid(number):
    """Calls that lay the number with a box of just the rods for it."""
    digits = digits_of(number)
    return begin(*[(digit, digit, digit, digit) for digit in digits]) + lay(*digits)


def drawn_numbers(seed, many, below):
    """Numbers in no plain order, the same ones each time."""
    found = []
    for step in range(many):
        seed = (seed * 1103515245 + 12345) % 2147483648
        found.append((seed >> 12) % below)
    return found


def drawn_rods(seed, many, below):
    """A box of rods whose digits are drawn."""
    faces = drawn_numbers(seed, 4 * many, below)
    return [tuple(faces[start:start + 4]) for start in range(0, 4 * many, 4)]


def answers_of(*calls):
    """The answer of each call, by itself; several calls may be handed over as one."""
    flat = answers([number for call in calls for number in call])
    found = []
    start = 0
    while start < len(flat):
        behind = start + 1 + flat[start]
        found.append(flat[start + 1:behind])
        start = behind
    return found


def last_answer(*calls):
    """The answer of the last call."""
    return answers_of(*calls)[-1]
