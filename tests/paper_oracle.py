"""A plain check of papers, with an explicit list of what is still to come, and trees of papers."""

import re
from fractions import Fraction

from tests import oracle

NUMBER = "(0|[1-9][0-9]{0,40})"
TURN = re.compile(f"turn {NUMBER}")
APART = re.compile(f"apart {NUMBER} {NUMBER} {NUMBER} {NUMBER}")
THING = f"((?:left|right|low|high) {NUMBER}|apart {NUMBER} {NUMBER} {NUMBER} {NUMBER})"
SUM = re.compile(f"sum(?: {NUMBER} {THING})+".replace("(0|", "(?:0|").replace("((?:left", "(?:(?:left"))
WEIGHED = re.compile(f" ({NUMBER}) ({THING})".replace("(0|", "(?:0|").replace("((?:left", "(?:(?:left"))


def turned(part, turn):
    return oracle.moved(part, turn, 0, 0)


def value_of(job, turns, planes, thing, places, length):
    """The left side of an inequality where the pieces lie at places."""
    kind, *numbers = thing.split(" ")
    numbers = tuple(int(number) for number in numbers)
    if kind == "apart":
        a, b, c = planes[numbers]
        (x, y), (u, v) = places[numbers[0]], places[numbers[2]]
        return a * (u - x) + b * (v - y) - c
    shapes = [turned(part, turns[numbers[0]]) for part in job[1][numbers[0]][1]]
    left, right, low, high = oracle.ends(shapes)
    x, y = places[numbers[0]]
    return {"left": x + left, "right": length - x - right, "low": y + low, "high": job[0] - y - high}[kind]


def is_told(job, turns, planes, thing):
    kind, *numbers = thing.split(" ")
    numbers = tuple(int(number) for number in numbers)
    if kind == "apart":
        return numbers in planes
    return numbers[0] in turns


def is_right_sum(job, bound, turns, planes, line):
    if not SUM.fullmatch(line):
        return False
    weighed = [(int(weight), thing) for weight, thing in WEIGHED.findall(line)]
    things = [thing for weight, thing in weighed]
    if len(weighed) > 60 or len(set(things)) < len(things):
        return False
    if not all(1 <= weight <= 10 ** 40 and is_told(job, turns, planes, thing) for weight, thing in weighed):
        return False

    def total(places, length):
        return sum(weight * value_of(job, turns, planes, thing, places, length) for weight, thing in weighed)

    nought = [(0, 0)] * len(job[1])
    constant = total(nought, 0)
    for at in range(len(nought)):
        for place in ((1, 0), (0, 1)):
            if total(nought[:at] + [place] + nought[at + 1:], 0) != constant:
                return False
    many = total(nought, 1) - constant
    if many == 0:
        return constant < 0
    return bound is not None and Fraction(-constant, many) >= Fraction(*bound)


def fault(job, bound, text):
    """The number of the first wrong line of a paper; None if it is right."""
    if not isinstance(text, str):
        return 0
    lines = text.split("\n")
    if lines[-1] == "":
        lines.pop()
    coming = [({k: piece[2][0] for k, piece in enumerate(job[1]) if len(piece[2]) == 1}, {})]
    for at, line in enumerate(lines):
        if not coming:
            return at
        turns, planes = coming.pop()
        if TURN.fullmatch(line):
            k = int(line.split(" ")[1])
            if k >= len(job[1]) or k in turns:
                return at
            coming.extend(({**turns, k: turn}, planes) for turn in reversed(job[1][k][2]))
        elif APART.fullmatch(line):
            key = i, a, j, b = tuple(int(word) for word in line.split(" ")[1:])
            if not i < j < len(job[1]) or a >= len(job[1][i][1]) or b >= len(job[1][j][1]):
                return at
            if i not in turns or j not in turns or key in planes:
                return at
            found = oracle.planes(turned(job[1][i][1][a], turns[i]), turned(job[1][j][1][b], turns[j]))
            coming.extend((turns, {**planes, key: plane}) for plane in reversed(found))
        elif not is_right_sum(job, bound, turns, planes, line):
            return at
    return len(lines) if coming else None


def tree_of(job, text):
    """The tree of a right paper: (line, branches)."""
    lines = text.split("\n")[:-1]
    turns = {k: piece[2][0] for k, piece in enumerate(job[1]) if len(piece[2]) == 1}

    def entry(at, turns):
        words = lines[at].split(" ")
        if words[0] == "turn":
            k = int(words[1])
            ways = [{**turns, k: turn} for turn in job[1][k][2]]
        elif words[0] == "apart":
            i, a, j, b = map(int, words[1:])
            ways = [turns] * len(oracle.planes(turned(job[1][i][1][a], turns[i]), turned(job[1][j][1][b], turns[j])))
        else:
            ways = []
        branches, behind = [], at + 1
        for way in ways:
            branch, behind = entry(behind, way)
            branches.append(branch)
        return (lines[at], branches), behind

    return entry(0, turns)[0]


def text_of(tree):
    line, branches = tree
    return line + "\n" + "".join(text_of(branch) for branch in branches)


def lines_in(tree):
    line, branches = tree
    return {line}.union(*[lines_in(branch) for branch in branches])
