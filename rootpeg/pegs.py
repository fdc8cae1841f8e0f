"""Pegs: numbers, each held by a row and a stretch in which the row has just this root."""

from rootpeg.errors import NoRow, NoStretch, NotAlone
from rootpeg.parts import below, middle, part_sum, turned
from rootpeg.rows import bare, common_row, sign, sign_at
from rootpeg.stretches import alone


def peg(row, low, high):
    """The peg of a row and the two ends of a stretch."""
    if len(row) < 2 or row[-1] == 0:
        raise NoRow("the row has no two numbers, or a last one of nought")
    if not below(low, high):
        raise NoStretch("the low end isn't below the high one")
    if not alone(row, low, high):
        raise NotAlone("the value is nought at an end, or the row doesn't turn just once")
    return (tuple(bare(row)), low, high)


def of_part(at):
    """A peg that tells the part."""
    return ((-at[0], at[1]), part_sum(at, (-1, 1)), part_sum(at, (1, 1)))


def narrowed(one, width):
    """The peg with a stretch no wider than the width."""
    if width[0] <= 0:
        raise NoStretch("the width isn't above nought")
    while below(width, part_sum(one[2], turned(one[1]))):
        one = halved(one)
    return one


def halved(one):
    """The peg with half its stretch."""
    row, low, high = one
    # The row turns no more often in a part of a stretch, and oddly often where the ends have
    # other signs: so just once, and what comes of it is a peg without counting the turns.
    at = middle(low, high)
    found = sign_at(row, at)
    if found == 0:
        # The number itself must be no end.
        return (row, middle(low, at), middle(at, high))
    if found == sign_at(row, low):
        return (row, at, high)
    return (row, low, at)


def compare(one, other):
    """Whether the first peg's number is below the other's (-1), the same (0) or above (1)."""
    if alike(one, other):
        return 0
    while overlapping(one, other):
        one = halved(one)
        other = halved(other)
    return -1 if below(one[1], other[1]) else 1


def alike(one, other):
    """Whether both pegs tell one number."""
    if not overlapping(one, other):
        return False
    low = other[1] if below(one[1], other[1]) else one[1]
    high = one[2] if below(one[2], other[2]) else other[2]
    # A root that both rows have where both stretches are is the number of both pegs. There is
    # one at most, and none at the ends, where one of the rows isn't nought: so the signs tell.
    common = common_row(one[0], other[0])
    return sign_at(common, low) != sign_at(common, high)


def overlapping(one, other):
    """Whether the stretches of both pegs have a number in common."""
    return below(one[1], other[2]) and below(other[1], one[2])


def sign_of_peg(one):
    """Whether the peg's number is below nought (-1), nought (0) or above (1)."""
    row, low, high = one
    if low[0] >= 0:
        return 1
    if high[0] <= 0:
        return -1
    # Nought is in the stretch, and row[0] is the value there; the sign is another one just
    # behind the peg's number.
    return sign(row[0]) * sign_at(row, low)
