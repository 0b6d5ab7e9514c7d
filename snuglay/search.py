"""The search for a shorter laying of pieces in decided turns, and the proof that none is left."""

from snuglay.bases import first_base, is_long, length_at, reading, settled, spots_at, weights_of
from snuglay.rows import border_rows, pair_rows, pairs_of, place_of_length

# lengths are compared roughly, in such parts of 1, where only the order of trials depends on them
FINENESS = 1024


def kin_of(pair, pairs):
    """The numbers of the pairs that have a piece of this pair, those that have both of them twice."""
    i, _, j, _ = pair
    found = [at for at, other in enumerate(pairs) if i in (other[0], other[2])]
    return found + [at for at, other in enumerate(pairs) if j in (other[0], other[2])]


class Proof:
    """A sum with weights, or a fork with a branch for each half plane of a pair of parts.

    It holds wherever the half planes with the bits in needs are decided.
    """

    def __init__(self, needs, weights, pair, branches):
        self.needs = needs
        self.weights = weights
        self.pair = pair
        self.branches = branches
        self.line = None


class Search:
    """Looks for layings shorter than a limit; each one that is found sets the limit anew."""

    def __init__(self, width, shapes, limit):
        self.many = len(shapes)
        self.end = place_of_length(self.many)
        self.limit = limit
        self.spots = None
        self.borders = border_rows(width, shapes)
        self.quadruples = pairs_of(shapes)
        self.pairs = pair_rows(shapes)
        self.kin = [kin_of(pair, self.quadruples) for pair in self.quadruples]
        self.root = first_base(shapes, self.borders)
        self.proofs = {}

    def proof(self):
        """The proof that no laying is shorter than the limit, which is the least length then."""
        return self.proof_from(self.root, self.borders, 0, list(range(len(self.pairs))))

    def proof_from(self, base, rows, decided, left):
        """The proof where half planes are decided and some pairs of parts are left.

        The base is that of the least length for the rows; decided has a bit for each
        number of a half plane that is decided.
        """
        if is_long(base, self.limit, self.end):
            return self.sum_proof(weights_of(base, self.end))
        crowded = [pair for pair in left if self.is_overlap(base, pair)]
        if not crowded:
            self.keep(base)
            return self.sum_proof(weights_of(base, self.end))
        pair, trials = self.best_fork(base, rows, decided, left, crowded)
        branches = [proof for proof, after in trials]
        rest = [other for other in left if other != pair]
        for at in self.shortest_first(trials):
            row = self.pairs[pair][at]
            bit = 1 << row[0]
            found = self.known(row, decided)
            if found is None:
                found = self.proof_from(trials[at][1], sorted(rows + [row]), decided | bit, rest)
            if not found.needs & bit:
                # what holds without the half plane holds in all other branches, too
                return found
            branches[at] = found
        return self.fork_proof(pair, branches)

    def is_overlap(self, base, pair):
        """Whether the spot of a base is in none of the half planes of a pair of parts."""
        scale, spot, _, _ = base
        for row in self.pairs[pair]:
            if reading(row, spot) + row[5] * scale >= 0:
                return False
        return True

    def best_fork(self, base, rows, decided, left, crowded):
        """One of the crowded pairs, to be decided next, and a trial for each of its half planes.

        A pair goes first that leaves no branch or a single one, then one whose pieces
        few decided pairs have, then one that leaves few and long branches. This order
        does not matter for the answer: it was the one that led to the shortest papers.
        """
        best, chosen, kept = None, None, None
        ranked = [(len([other for other in self.kin[pair] if other not in left]), pair) for pair in crowded]
        for related, pair in sorted(ranked):
            trials = self.trials(base, rows, decided, pair, best is not None and related > best[0])
            if trials is not None:
                gaps = [self.gap_of(after) for proof, after in trials if proof is None]
                if len(gaps) < 2:
                    return pair, trials
                rank = (related, sum([gap * gap for gap in gaps]))
                if best is None or rank < best:
                    best, chosen, kept = rank, pair, trials
        return chosen, kept

    def trials(self, base, rows, decided, pair, is_last):
        """A trial for each half plane of a pair; None if it is a last choice and leaves several branches."""
        found, branches = [], 0
        for row in self.pairs[pair]:
            proof, after = self.trial(base, rows, decided, row)
            if proof is None:
                branches = branches + 1
                if is_last and branches > 1:
                    return None
            found.append((proof, after))
        return found

    def trial(self, base, rows, decided, row):
        """For a further half plane a proof and None, or None and the base with it."""
        found = self.known(row, decided)
        if found is not None:
            return found, None
        after, weights = settled(base, sorted(rows + [row]), self.limit)
        if weights is None:
            return None, after
        return self.sum_proof(weights), None

    def gap_of(self, base):
        """By how much the length of a base is below the limit, in parts of 1, roughly, above 0."""
        return 1 + self.limit[0] * FINENESS // self.limit[1] - base[1][self.end] * FINENESS // base[0]

    def shortest_first(self, trials):
        """The numbers of the trials without a proof, those with a lesser length first."""
        found = [(-self.gap_of(after), at) for at, (proof, after) in enumerate(trials) if proof is None]
        return [at for gap, at in sorted(found)]

    def known(self, row, decided):
        """A proof found before that needs this half plane and others that are decided, or None."""
        bit = 1 << row[0]
        needs = 0
        while True:
            if needs | bit in self.proofs:
                return self.proofs[needs | bit]
            # the next one of all sets of bits of those that are decided
            needs = (needs - decided) & decided
            if needs == 0:
                return None

    def learned(self, proof):
        """The proof, which is kept for other ways to the half planes that it needs."""
        self.proofs[proof.needs] = proof
        return proof

    def sum_proof(self, weights):
        """The proof that is a sum with these weights."""
        needs = 0
        for number, _ in weights:
            if number >= 4 * self.many:
                needs = needs | 1 << number
        return self.learned(Proof(needs, weights, None, ()))

    def fork_proof(self, pair, branches):
        """The proof with these branches for the half planes of a pair of parts."""
        needs = 0
        for row, branch in zip(self.pairs[pair], branches):
            needs = needs | branch.needs & ~(1 << row[0])
        return self.learned(Proof(needs, None, pair, branches))

    def keep(self, base):
        """Takes the spot of a base as the shortest laying so far."""
        self.limit = length_at(base)
        self.spots = spots_at(base)
