"""Places in main memory for buffers whose lives are known."""

from itertools import permutations

from tensorcompiler.errors import PlaceError
from tensorcompiler.lives import meet

_FEW = 5


def check_places(all_lives, sizes, places):
    """Return the number of words that the places use, or raise PlaceError."""
    if len(places) != len(all_lives):
        raise PlaceError("there are not as many places as buffers")
    for buffer, place in enumerate(places):
        if place < 0:
            raise PlaceError("a place is negative")
        for other in range(buffer):
            apart = place + sizes[buffer] <= places[other] or places[other] + sizes[other] <= place
            if not apart and meet(all_lives[buffer], all_lives[other]):
                raise PlaceError("two buffers that live at the same time have a word in common")
    return _words_of(sizes, places)


def peak_of(all_lives, sizes):
    """Return the greatest sum of the sizes of the buffers that live at the same time."""
    best = 0
    # The sum grows only where a life begins.
    for begin, _ in all_lives:
        living = [size for (first, last), size in zip(all_lives, sizes) if first <= begin <= last]
        best = max(best, sum(living))
    return best


def choose_places(all_lives, sizes):
    """Return places that check_places accepts, and for few buffers the best ones."""
    best = _stacked(all_lives, sizes, list(range(len(sizes))))
    least = peak_of(all_lives, sizes)
    if len(sizes) <= _FEW:
        # Some best places come from putting the buffers one on another in the order of these places.
        for order in permutations(range(len(sizes))):
            best = _better(sizes, best, _stacked(all_lives, sizes, order))
        return best
    for order in _promising_orders(all_lives, sizes):
        if _words_of(sizes, best) > least:
            best = _better(sizes, best, _stacked(all_lives, sizes, order))
    return best


def _words_of(sizes, places):
    return max([place + size for place, size in zip(places, sizes)], default=0)


def _better(sizes, one, other):
    return other if _words_of(sizes, other) < _words_of(sizes, one) else one


def _promising_orders(all_lives, sizes):
    """Return orders of the buffers: by size, by length of life, by both, and by the beginning of life."""
    many = len(sizes)
    lengths = [last - first + 1 for first, last in all_lives]
    return (
        sorted(range(many), key=lambda k: (-sizes[k], all_lives[k])),
        sorted(range(many), key=lambda k: (-lengths[k], -sizes[k])),
        sorted(range(many), key=lambda k: -lengths[k] * sizes[k]),
        sorted(range(many), key=lambda k: all_lives[k]),
    )


def _stacked(all_lives, sizes, order):
    """Return the places if each buffer in this order gets the first place that is free as long as it lives."""
    places = [0] * len(sizes)
    placed = []
    for buffer in order:
        taken = [(places[other], sizes[other]) for other in placed if meet(all_lives[buffer], all_lives[other])]
        places[buffer] = _first_gap(sorted(taken), sizes[buffer])
        placed.append(buffer)
    return tuple(places)


def _first_gap(taken, size):
    """Return the least address of a gap of that size between pairs of an address and a size, sorted."""
    address = 0
    for begin, many in taken:
        if address + size <= begin:
            return address
        address = max(address, begin + many)
    return address
