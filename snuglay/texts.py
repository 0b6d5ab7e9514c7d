"""Texts of jobs."""

from snuglay.errors import BadText, BadValue
from snuglay.lines import lines_of, number_of
from snuglay.shapes import are_turns, count_parts, count_turnings, is_job, is_name, is_part, is_width

DIGITS = 3


def line_of(word, rest):
    """A line with this first word and words for all the rest."""
    return " ".join([word] + [str(item) for item in rest]) + "\n"


def printed(job):
    """The text of a job."""
    if not is_job(job):
        raise BadValue(0)
    width, pieces = job
    lines = [line_of("width", [width])]
    for name, parts, turns in pieces:
        lines.append(line_of("piece", [name] + list(turns)))
        for part in parts:
            lines.append(line_of("part", [number for corner in part for number in corner]))
    return "".join(lines)


def integer_of(word):
    """The integer that a word tells; None if it tells none."""
    if not word.startswith("-"):
        return number_of(word, DIGITS)
    number = number_of(word[1:], DIGITS)
    if number is None or number == 0:
        return None
    return -number


def read_width(width, pieces, rest):
    """The width and no pieces, from the words of a width line; None if it may not stand there."""
    if width is not None or len(rest) != 1:
        return None
    told = integer_of(rest[0])
    if not is_width(told):
        return None
    return told, pieces


def read_piece(width, pieces, rest):
    """The width and the pieces with a further one, which has no part yet, or None."""
    if width is None or len(pieces) == 4 or (pieces and not pieces[-1][1]):
        return None
    name, turns = rest[:1], tuple([integer_of(word) for word in rest[1:]])
    if not name or not is_name(name[0]) or not are_turns(turns):
        return None
    found = pieces + ((name[0], (), turns),)
    if name[0] in [piece[0] for piece in pieces] or count_turnings(found) > 4:
        return None
    return width, found


def read_part(width, pieces, rest):
    """The width and the pieces with a further part of the last one, or None."""
    if not pieces or len(pieces[-1][1]) == 3 or count_parts(pieces) == 4:
        return None
    numbers = [integer_of(word) for word in rest]
    part = tuple([tuple(numbers[at:at + 2]) for at in range(0, len(numbers), 2)])
    if not is_part(part):
        return None
    name, parts, turns = pieces[-1]
    return width, pieces[:-1] + ((name, parts + (part,), turns),)


READERS = {"width": read_width, "piece": read_piece, "part": read_part}


def parse(text):
    """The job that a text tells."""
    if not isinstance(text, str):
        raise BadText(0)
    lines = lines_of(text)
    width, pieces = None, ()
    for at, line in enumerate(lines):
        words = [word for word in line.split(" ") if word != ""]
        if words:
            if words[0] not in READERS:
                raise BadText(at)
            reader = READERS[words[0]]
            told = reader(width, pieces, words[1:])
            if told is None:
                raise BadText(at)
            width, pieces = told
    if not pieces or not pieces[-1][1]:
        raise BadText(len(lines))
    return (width, pieces)
