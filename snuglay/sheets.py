"""Sheets: a width and pieces that come and go."""

from snuglay.errors import BadValue, NoPiece, TakenName, TooMany
from snuglay.parting import laid_pieces
from snuglay.places import fill, place_among
from snuglay.ratios import NOUGHT
from snuglay.shapes import is_job, is_piece, is_width
from snuglay.solving import least_length, shortest_laying
from snuglay.values import plain


class Sheet:
    """A sheet of a width with pieces in a sequence."""

    def __init__(self, width):
        if not is_width(width):
            raise BadValue(0)
        self.width = width
        self.pieces = ()

    def put(self, piece):
        """Adds a piece behind the others."""
        if not is_piece(piece):
            raise BadValue(0)
        if piece[0] in self.names():
            raise TakenName(piece[0])
        pieces = self.pieces + (plain(piece),)
        if not is_job((self.width, pieces)):
            raise TooMany()
        self.pieces = pieces

    def take(self, name):
        """Takes the piece of this name away."""
        self.pieces = self.named_and_others(name)[1]

    def widen(self, width):
        """Sets the width."""
        if not is_width(width):
            raise BadValue(0)
        self.width = width

    def first(self, name):
        """Puts the piece of this name ahead of the others."""
        named, others = self.named_and_others(name)
        self.pieces = named + others

    def named_and_others(self, name):
        """The piece of this name and the others, as two tuples."""
        if name not in self.names():
            raise NoPiece(name)
        named = [piece for piece in self.pieces if piece[0] == name]
        others = [piece for piece in self.pieces if piece[0] != name]
        return tuple(named), tuple(others)

    def job(self):
        """The pair of the width and the pieces."""
        return (self.width, self.pieces)

    def names(self):
        """The names of the pieces, in their sequence."""
        return tuple([piece[0] for piece in self.pieces])

    def least(self):
        """The least length on which the pieces can be laid; None if there is none."""
        if not self.pieces:
            return NOUGHT
        return least_length(self.width, self.pieces)

    def laying(self):
        """A laying of the pieces on a sheet of the least length; None if there is none."""
        if not self.pieces:
            return ()
        return shortest_laying(self.width, self.pieces)

    def filled(self):
        """The placements of the pieces, each the first one among those before it, or None."""
        return fill(self.width, self.pieces)

    def room(self, piece):
        """The first placement of a further piece on the filled sheet, or None."""
        if not is_piece(piece):
            raise BadValue(0)
        placements = self.filled()
        if placements is None:
            return None
        return place_among(self.width, laid_pieces(self.pieces, placements), plain(piece))

    def copy(self):
        """A sheet with the same width and pieces, which changes independently."""
        other = Sheet(self.width)
        other.pieces = self.pieces
        return other

    def __len__(self):
        return len(self.pieces)

    def __contains__(self, x):
        return x in self.names()

    def __eq__(self, other):
        if not isinstance(other, Sheet):
            return False
        return self.width == other.width and self.pieces == other.pieces
