"""The check of a paper, line by line.

An inequality is a list of terms (place, factor) and a constant: the places 2 * I and
2 * I + 1 are those of piece I, and the one behind all pieces is the length. The ways
to a line are a tuple with the turn of each piece, None if it is not decided, and a dict
from the words of what may be weighed there to the inequalities.
"""

from snuglay.errors import BadPaper
from snuglay.lines import number_of
from snuglay.parting import half_planes
from snuglay.rows import pairs_of
from snuglay.turning import extent_of, turned_parts

MOST_WEIGHTS = 60
GREATEST_WEIGHT = 10 ** 40
DIGITS = 41


def border_facts(many, width, piece, at):
    """For each turn of a piece, which has this number, the inequalities of its borders by their words."""
    found = {}
    x, y, length = 2 * at, 2 * at + 1, 2 * many
    for turn in piece[2]:
        left, right, low, high = extent_of(turned_parts(piece[1], turn))
        found[turn] = {
            f"left {at}": ([(x, 1)], left),
            f"right {at}": ([(length, 1), (x, -1)], -right),
            f"low {at}": ([(y, 1)], low),
            f"high {at}": ([(y, -1)], width - high),
        }
    return found


def plane_fact(i, j, plane):
    """The inequality that piece j lies in this half plane for piece i."""
    a, b, c = plane
    return ([(2 * j, a), (2 * j + 1, b), (2 * i, -a), (2 * i + 1, -b)], -c)


def terms_of(words):
    """The pairs (weight, words of what it weighs) of a sum; None if it is not of the form."""
    found = []
    at = 1
    while at < len(words):
        behind = at + 3
        if words[at + 1:at + 2] == ["apart"]:
            behind = at + 6
        weight = number_of(words[at], DIGITS)
        if weight is None or not 1 <= weight <= GREATEST_WEIGHT or behind > len(words):
            return None
        found.append((weight, " ".join(words[at + 1:behind])))
        at = behind
    return found


def added_up(many, terms, facts):
    """For each unknown its factor in the sum, and behind them the constant."""
    total = [0] * (2 * many + 2)
    for weight, told in terms:
        parts, constant = facts[told]
        for place, factor in parts:
            total[place] = total[place] + weight * factor
        total[-1] = total[-1] + weight * constant
    return total


def is_right(total, bound):
    """Whether a sum shows that no length below the bound is enough, for the bound None that none is."""
    *places, length, constant = total
    if any([factor != 0 for factor in places]):
        return False
    if length == 0:
        return constant < 0
    return bound is not None and -constant * bound[1] >= length * bound[0]


class Check:
    """The check of the lines of a paper for a job and a bound."""

    def __init__(self, width, pieces, bound, lines):
        self.pieces = pieces
        self.bound = bound
        self.lines = lines
        self.borders = [border_facts(len(pieces), width, piece, at) for at, piece in enumerate(pieces)]
        self.pairs = {f"apart {i} {a} {j} {b}": (i, a, j, b)
                      for i, a, j, b in pairs_of([piece[1] for piece in pieces])}
        self.planes = {}

    def run(self):
        """Refuses the lines, with the number of the first one that is wrong, if one is."""
        turns = (None,) * len(self.pieces)
        facts = {}
        for at, piece in enumerate(self.pieces):
            if len(piece[2]) == 1:
                turns, facts = self.with_turn(turns, facts, at, piece[2][0])
        behind = self.entry(0, turns, facts)
        if behind < len(self.lines):
            raise BadPaper(behind)

    def with_turn(self, turns, facts, at, turn):
        """The way on which a turn is decided, too."""
        return turns[:at] + (turn,) + turns[at + 1:], {**facts, **self.borders[at][turn]}

    def entry(self, at, turns, facts):
        """Checks the entry on a line with its branches; returns the number of the line behind them."""
        if at == len(self.lines):
            raise BadPaper(at)
        line = self.lines[at]
        if line in self.pairs:
            return self.parting(at, turns, facts)
        words = line.split(" ")
        if words[0] == "turn":
            return self.turning(at, turns, facts)
        if words[0] != "sum" or not self.is_right_sum(words, facts):
            raise BadPaper(at)
        return at + 1

    def turning(self, at, turns, facts):
        """Checks an entry for the turn of a piece."""
        undecided = {f"turn {k}": k for k, turn in enumerate(turns) if turn is None}
        if self.lines[at] not in undecided:
            raise BadPaper(at)
        piece = undecided[self.lines[at]]
        behind = at + 1
        for turn in self.pieces[piece][2]:
            with_it, told = self.with_turn(turns, facts, piece, turn)
            behind = self.entry(behind, with_it, told)
        return behind

    def parting(self, at, turns, facts):
        """Checks an entry for two parts."""
        line = self.lines[at]
        i, _, j, _ = self.pairs[line]
        if line in facts or turns[i] is None or turns[j] is None:
            raise BadPaper(at)
        behind = at + 1
        for fact in self.plane_facts(line, turns):
            behind = self.entry(behind, turns, {**facts, line: fact})
        return behind

    def plane_facts(self, line, turns):
        """The inequalities of the half planes of the two parts on a line, in their order."""
        i, a, j, b = self.pairs[line]
        key = (line, turns[i], turns[j])
        if key not in self.planes:
            one = turned_parts(self.pieces[i][1], turns[i])[a]
            other = turned_parts(self.pieces[j][1], turns[j])[b]
            self.planes[key] = [plane_fact(i, j, plane) for plane in half_planes(one, other)]
        return self.planes[key]

    def is_right_sum(self, words, facts):
        """Whether the words of a line are a sum that is right where these inequalities may be weighed."""
        terms = terms_of(words)
        if terms is None or not 1 <= len(terms) <= MOST_WEIGHTS:
            return False
        told = [what for weight, what in terms]
        if len({what for what in told}) < len(told) or not all([what in facts for what in told]):
            return False
        return is_right(added_up(len(self.pieces), terms, facts), self.bound)
