"""Plain things: numbers and strings, and tuples of such."""
from dryholds.ratios import is_whole


def is_just(thing, wanted):
    """Whether a thing of any kind is just this number, this string or this tuple of such; True is not 1."""
    if isinstance(wanted, tuple):
        return (isinstance(thing, tuple) and len(thing) == len(wanted)
                and all([is_just(one, other) for one, other in zip(thing, wanted)]))
    if isinstance(wanted, str):
        return isinstance(thing, str) and thing == wanted
    return is_whole(thing, wanted, wanted)


def as_tuples(thing):
    """A thing of any kind with a tuple for each list in it."""
    if isinstance(thing, (list, tuple)):
        return tuple([as_tuples(one) for one in thing])
    return thing


def as_tuple(thing):
    """A thing of any kind, a tuple if it is a list; what is in it stays as it is, so that no list becomes a ratio."""
    return tuple(thing) if isinstance(thing, list) else thing


def ascending_tuples(many):
    """All ascending tuples of numbers from 0 to below many, none twice: shorter ones first, then ascending."""
    every = [()]
    longest = [()]
    while longest:
        longest = [row + (number,) for row in longest for number in range(row[-1] + 1 if row else 0, many)]
        every.extend(longest)
    return every
