"""Lines, and numbers in them."""


def lines_of(text):
    """What stands ahead of each line feed, and what stands behind the last one unless it is empty."""
    lines = text.split("\n")
    if lines[-1] == "":
        return lines[:-1]
    return lines


def number_of(word, digits):
    """The number from 0 on that a word of at most so many digits tells; None if it tells none."""
    if len(word) > digits or not word.isascii() or not word.isdigit():
        return None
    if word[0] == "0" and word != "0":
        return None
    return int(word)
