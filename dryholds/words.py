"""Words of texts: what the readers of all texts have in common."""
from dryholds.errors import BadText
from dryholds.ratios import lowest, ratio_text

LONGEST = 300


def number_of(word):
    """The ratio that a number word tells, None for another word."""
    if len(word) > LONGEST:
        return None
    top, stroke, bottom = word.partition("/")
    if not _are_figures(top.removeprefix("-")) or stroke and not _are_figures(bottom):
        return None
    below = int(bottom) if stroke else 1
    if below == 0:
        return None
    number = lowest(int(top), below)
    # Each ratio has one text alone, so this refuses "-0", "03" and "2/4".
    return number if ratio_text(number) == word else None


def whole_of(word):
    """The whole number that a whole word tells, None for another word."""
    number = number_of(word)
    if number is None or "/" in word:
        return None
    return number[0]


def read_row(row, line, forms):
    """The first word of a line and the tuple of its values.

    Forms are couples of a first word and its letters, one for each further word: n for a number word, w for a
    whole word.
    """
    first, *others = line.split(" ")
    known = dict(forms)
    if first not in known:
        raise BadText(row, "word")
    letters = known[first]
    if len(others) != len(letters):
        raise BadText(row, "size")
    values = []
    for word, letter in zip(others, letters):
        values.append(whole_of(word) if letter == "w" else number_of(word))
    if None in values:
        raise BadText(row, "number")
    return (first, tuple(values))


def _are_figures(word):
    return word.isascii() and word.isdigit()
