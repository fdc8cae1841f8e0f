"""All roots of a row."""

from rootpeg.parts import middle
from rootpeg.rows import largest, plain, sign_at
from rootpeg.stretches import turns


def roots(row):
    """The pegs of all roots of the row, rising."""
    kept = tuple(plain(row))
    reach = bound(kept)
    waiting = [((-reach, 1), (reach, 1))]
    found = []
    while waiting:
        low, high = waiting.pop()
        many = turns(kept, low, high)
        if many == 1:
            found.append((kept, low, high))
        if many > 1:
            at = cut(kept, low, high)
            # The low one is put on top, so that the pegs come rising.
            waiting.append((at, high))
            waiting.append((low, at))
    return found


def bound(row):
    """A power of 2 that is above all roots of the row, and taken from nought below them."""
    # A root is nearer nought than 1 and the largest number by the last one.
    return 1 << (largest(row) // row[-1] + 1).bit_length()


def cut(row, low, high):
    """A part in the stretch that is no root: halfway where it may be."""
    at = middle(low, high)
    while sign_at(row, at) == 0:
        at = middle(low, at)
    return at
