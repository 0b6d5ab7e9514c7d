"""Least lengths of jobs, and layings of these lengths."""

from snuglay.errors import BadValue
from snuglay.shapes import is_job
from snuglay.solving import least_length, shortest_laying
from snuglay.values import plain


def least(job):
    """The least length of a sheet on which the job can be laid; None if there is none."""
    if not is_job(job):
        raise BadValue(0)
    width, pieces = plain(job)
    return least_length(width, pieces)


def laying(job):
    """A laying of the job on a sheet of the least length; None if there is none."""
    if not is_job(job):
        raise BadValue(0)
    width, pieces = plain(job)
    return shortest_laying(width, pieces)


def beside(job):
    """For every two pieces i < j the triple (i, j, least length of these two alone)."""
    if not is_job(job):
        raise BadValue(0)
    width, pieces = plain(job)
    found = []
    for i, one in enumerate(pieces):
        for j in range(i + 1, len(pieces)):
            found.append((i, j, least_length(width, (one, pieces[j]))))
    return tuple(found)
