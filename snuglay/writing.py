"""The lines of a paper, from the proofs that a search found."""

from math import gcd

from snuglay.solving import is_narrow, solved, too_wide

BORDERS = ("left", "right", "low", "high")


def row_words(search):
    """For each number of a row the words that tell it in a sum."""
    found = {}
    for i in range(search.many):
        for at, word in enumerate(BORDERS):
            found[4 * i + at] = f"{word} {i}"
    for (i, a, j, b), rows in zip(search.quadruples, search.pairs):
        for row in rows:
            found[row[0]] = f"apart {i} {a} {j} {b}"
    return found


def sum_line(weights, words):
    """The line of a sum, with weights without a common divisor."""
    shared = 0
    for _, weight in weights:
        shared = gcd(shared, weight)
    return "sum " + " ".join([f"{weight // shared} {words[number]}" for number, weight in weights])


def proof_lines(proof, search, words, decided):
    """The lines of a proof; decided tells for pairs of parts which branch the way takes."""
    while proof.pair in decided:
        proof = proof.branches[decided[proof.pair]]
    if proof.pair is None:
        if proof.line is None:
            proof.line = sum_line(proof.weights, words)
        return [proof.line]
    i, a, j, b = search.quadruples[proof.pair]
    lines = [f"apart {i} {a} {j} {b}"]
    for at, branch in enumerate(proof.branches):
        lines.extend(proof_lines(branch, search, words, {**decided, proof.pair: at}))
    return lines


def wide_line(at):
    """The line that shows that a piece is wider than the sheet in the turn that is decided."""
    return f"sum 1 low {at} 1 high {at}"


def turn_lines(width, pieces, turns, proofs):
    """The lines behind the decision of the first turns."""
    at = len(turns)
    if at == len(pieces):
        search, proof = proofs[turns]
        return proof_lines(proof, search, row_words(search), {})
    if len(pieces[at][2]) == 1:
        return turn_lines(width, pieces, turns + (pieces[at][2][0],), proofs)
    lines = [f"turn {at}"]
    for turn in pieces[at][2]:
        if is_narrow(width, pieces[at], turn):
            lines.extend(turn_lines(width, pieces, turns + (turn,), proofs))
        else:
            lines.append(wide_line(at))
    return lines


def paper_lines(width, pieces):
    """The lines of a paper that is right for the least length."""
    at = too_wide(width, pieces)
    if at is None:
        return turn_lines(width, pieces, (), solved(width, pieces)[2])
    many = len(pieces[at][2])
    if many == 1:
        return [wide_line(at)]
    return [f"turn {at}"] + [wide_line(at)] * many
