"""Pieces and jobs: what they are, their turns and extents, and their layings."""

from snuglay.errors import BadValue
from snuglay.parting import clashes, laid_pieces
from snuglay.ratios import NOUGHT, is_less, plus, whole
from snuglay.turning import extent_of, turned_parts
from snuglay.values import is_fraction, is_from_to, is_row, plain

LETTERS = "abcdefghijklmnopqrstuvwxyz"


def is_name(value):
    """Whether the value is a word of 1 to 8 lowercase letters."""
    if not isinstance(value, str) or not 1 <= len(value) <= 8:
        return False
    return all([letter in LETTERS for letter in value])


def is_corner(value):
    """Whether the value is a pair of integers from -40 to 40."""
    return is_row(value, 2, 2) and all([is_from_to(item, -40, 40) for item in value])


def is_left(start, end, corner):
    """Whether the corner is to the left of the way from start to end."""
    x, y = start
    return (end[0] - x) * (corner[1] - y) - (end[1] - y) * (corner[0] - x) > 0


def is_convex(corners):
    """Whether the corners go once, counterclockwise, around a convex shape."""
    # left turns alone do not tell this: they also lead around a star of five corners
    for k in range(len(corners)):
        start, end, *others = corners[k:] + corners[:k]
        if not all([is_left(start, end, corner) for corner in others]):
            return False
    return True


def is_part(value):
    """Whether the value is a part: 3 to 5 corners around a convex shape, the least first."""
    if not is_row(value, 3, 5) or not all([is_corner(corner) for corner in value]):
        return False
    corners = plain(value)
    return corners[0] == min(corners) and is_convex(corners)


def is_turn(value):
    """Whether the value is an integer from 0 to 3."""
    return is_from_to(value, 0, 3)


def are_turns(value):
    """Whether the value is a sequence of 1 to 4 different turns, ascending."""
    if not is_row(value, 1, 4) or not all([is_turn(turn) for turn in value]):
        return False
    return list(value) == sorted(set(value))


def is_piece(value):
    """Whether the value is a piece: a triple (name, parts, turns)."""
    if not is_row(value, 3, 3):
        return False
    name, parts, turns = value
    if not is_name(name) or not is_row(parts, 1, 3) or not are_turns(turns):
        return False
    return all([is_part(part) for part in parts])


def is_width(value):
    """Whether the value is an integer from 1 to 100."""
    return is_from_to(value, 1, 100)


def count_parts(pieces):
    """The number of parts of all the pieces."""
    return sum([len(piece[1]) for piece in pieces])


def count_turnings(pieces):
    """The numbers of turns of the pieces, multiplied by one another."""
    many = 1
    for piece in pieces:
        many = many * len(piece[2])
    return many


def is_job(value):
    """Whether the value is a job: a pair (width, pieces)."""
    if not is_row(value, 2, 2):
        return False
    width, pieces = value
    if not is_width(width) or not is_row(pieces, 1, 4):
        return False
    if not all([is_piece(piece) for piece in pieces]):
        return False
    if len({piece[0] for piece in pieces}) < len(pieces):
        return False
    return count_parts(pieces) <= 4 and count_turnings(pieces) <= 4


def is_placement(piece, value):
    """Whether the value is a placement of the piece: a triple (turn, x, y)."""
    if not is_row(value, 3, 3):
        return False
    turn, x, y = value
    return is_turn(turn) and turn in piece[2] and is_fraction(x) and is_fraction(y)


def are_placements(pieces, value):
    """Whether the value is a sequence of placements, one for each piece."""
    if not is_row(value, len(pieces), len(pieces)):
        return False
    return all([is_placement(piece, item) for piece, item in zip(pieces, value)])


def turned(piece, turn):
    """The parts of the piece in a turn, each with its least corner first."""
    if not is_piece(piece):
        raise BadValue(0)
    if not is_turn(turn):
        raise BadValue(1)
    return turned_parts(plain(piece[1]), turn)


def extent(piece, turn):
    """The least and greatest x and the least and greatest y of the piece in a turn."""
    return extent_of(turned(piece, turn))


def is_on_sheet(width, length, laid):
    """Whether all ends of a laid piece are within the sheet."""
    parts, x, y = laid
    left, right, low, high = extent_of(parts)
    if is_less(plus(x, whole(left)), NOUGHT) or is_less(length, plus(x, whole(right))):
        return False
    return not is_less(plus(y, whole(low)), NOUGHT) and not is_less(whole(width), plus(y, whole(high)))


def is_laying(job, length, value):
    """Whether the value is a laying of the job on a sheet of this length."""
    if not is_job(job):
        raise BadValue(0)
    if not is_fraction(length):
        raise BadValue(1)
    width, pieces = job
    if not are_placements(pieces, value):
        return False
    laid = laid_pieces(plain(pieces), plain(value))
    return all([is_on_sheet(width, length, one) for one in laid]) and clashes(laid) == ()
