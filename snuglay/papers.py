"""Papers: proofs, as texts, that no laying is shorter than the least length."""

from snuglay.checking import Check
from snuglay.errors import BadPaper, BadValue
from snuglay.lines import lines_of
from snuglay.shapes import is_job
from snuglay.values import is_fraction, plain
from snuglay.writing import paper_lines


def paper(job):
    """A paper that is right for the bound that is the least length of the job."""
    if not is_job(job):
        raise BadValue(0)
    width, pieces = plain(job)
    return "".join([line + "\n" for line in paper_lines(width, pieces)])


def paper_holds(job, bound, text):
    """True if the text is a paper that is right for the bound; otherwise BadPaper is raised."""
    if not is_job(job):
        raise BadValue(0)
    if bound is not None and not is_fraction(bound):
        raise BadValue(1)
    if not isinstance(text, str):
        raise BadPaper(0)
    width, pieces = plain(job)
    Check(width, pieces, bound, lines_of(text)).run()
    return True
