"""Ratios: tuples (top, bottom) of two whole numbers in lowest terms, the bottom 1 or more."""
from math import gcd

from dryholds.errors import BadRatio

ZERO = (0, 1)
ONE = (1, 1)


def is_sequence(thing, low=0, high=None):
    """Whether a thing of any kind is a list or tuple of low to high entries."""
    return isinstance(thing, (list, tuple)) and is_whole(len(thing), low, high)


def is_whole(thing, low=None, high=None):
    """Whether a thing of any kind is a whole number from low to high."""
    if not isinstance(thing, int) or isinstance(thing, bool):
        return False
    return (low is None or thing >= low) and (high is None or thing <= high)


def is_ratio(thing):
    """Whether a thing of any kind is a ratio."""
    if not isinstance(thing, tuple) or len(thing) != 2:
        return False
    return is_whole(thing[0]) and is_whole(thing[1], 1) and gcd(thing[0], thing[1]) == 1


def is_between(thing, low, high=None):
    """Whether a thing of any kind is a ratio from low to high; no high does not bound."""
    if not is_ratio(thing) or compare(thing, low) < 0:
        return False
    return high is None or compare(thing, high) <= 0


def is_couple(thing):
    """Whether a thing of any kind is a list or tuple of two ratios."""
    return is_sequence(thing, 2, 2) and is_ratio(thing[0]) and is_ratio(thing[1])


def make_ratio(top, bottom=1):
    """The ratio of two whole numbers."""
    if not is_whole(top):
        raise BadRatio("top")
    if not is_whole(bottom) or bottom == 0:
        raise BadRatio("bottom")
    return lowest(top, bottom)


def lowest(top, bottom):
    """The ratio of two numbers that surely are whole, the bottom not 0."""
    common = gcd(top, bottom)
    if bottom < 0:
        common = -common
    return (top // common, bottom // common)


def plus(one, other):
    return lowest(one[0] * other[1] + other[0] * one[1], one[1] * other[1])


def minus(one, other):
    return lowest(one[0] * other[1] - other[0] * one[1], one[1] * other[1])


def times(one, other):
    return lowest(one[0] * other[0], one[1] * other[1])


def over(one, other):
    """The first ratio divided by the second."""
    if other[0] == 0:
        raise BadRatio("zero")
    return lowest(one[0] * other[1], one[1] * other[0])


def negative(one):
    return (-one[0], one[1])


def compare(one, other):
    """-1, 0 or 1 as the first ratio is less than, equal to or greater than the second."""
    gap = one[0] * other[1] - other[0] * one[1]
    if gap == 0:
        return 0
    return 1 if gap > 0 else -1


def sum_of(ratios):
    """The sum of a sequence of ratios."""
    left = list(ratios)
    # Neighbours are added first: sums of few ratios have short bottoms, so most sums stay cheap.
    while len(left) > 1:
        pairs = [plus(left[at], left[at + 1]) for at in range(0, len(left) - 1, 2)]
        left = pairs + left[2 * len(pairs):]
    return left[0] if left else ZERO


def least_of(ratios):
    """The least ratio of a sequence of at least one."""
    least = ratios[0]
    for one in ratios:
        if compare(one, least) < 0:
            least = one
    return least


def greatest_of(ratios):
    """The greatest ratio of a sequence of at least one."""
    greatest = ratios[0]
    for one in ratios:
        if compare(one, greatest) > 0:
            greatest = one
    return greatest


def order_keys(ratios):
    """A list of whole numbers, one for each ratio, that stand in the order of the ratios; equal for equal ones."""
    # Unlike ratios lie at least 1 / (bottom * bottom) apart, so scaled up like this they still differ when cut down.
    longest = max([bottom for _, bottom in ratios], default=1)
    return [top * longest * longest // bottom for top, bottom in ratios]


def ratio_text(one):
    """The ratio as its top, with its bottom behind it unless that is 1."""
    top, bottom = one
    sign = "-" if top < 0 else ""
    end = "" if bottom == 1 else f"/{_figures(bottom)}"
    return f"{sign}{_figures(abs(top))}{end}"


def _figures(number):
    """The figures of a whole number from 0."""
    # str refuses numbers of some thousand figures, so they are written part by part.
    parts = []
    while number >= 10 ** 64:
        number, rest = divmod(number, 10 ** 64)
        parts.append(str(rest).zfill(64))
    parts.append(str(number))
    return "".join(parts[::-1])
