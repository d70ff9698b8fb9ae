"""Spans: how far the clocks of two houses can be apart."""

from latewood.errors import NoHouse, NoShifts
from latewood.heaps import houses_of
from latewood.pieces import is_whole
from latewood.shifts import are_numbers, chains_of, lowest, most_along, ring_among, ties_of


def span_of(heap, one, other):
    """Tell (least, most) of the other house's shift less the one's, None where there is no end."""
    refuse_no_houses(heap, one, other)
    chains = chains_or_refuse(heap)
    # Each two houses that are tied at all are tied both ways, so there are both ends or none.
    if (one, other) not in chains:
        return (None, None)
    return (-chains[other, one][0], chains[one, other][0])


def most_of(heap, one, other):
    """Tell what shows the most of a span: (most, houses, rows), or None where there is no most."""
    refuse_no_houses(heap, one, other)
    chains = chains_or_refuse(heap)
    if (one, other) not in chains:
        return None
    most, houses = chains[one, other]
    return (most, houses, rows_from(chains, one, houses_of(heap)))


def shows_most(heap, one, other, number, thing):
    """Tell of anything whether it shows that a number is no less than the most of a span."""
    refuse_no_houses(heap, one, other)
    if not is_whole(number) or not are_numbers(thing):
        return False
    if thing[:1] != (one,) or thing[-1:] != (other,):
        return False
    most = most_along(ties_of(heap), thing)
    return most is not None and most <= number


def refuse_no_houses(heap, one, other):
    """Refuse with NoHouse what are not two unlike houses of a heap."""
    houses = houses_of(heap)
    for house in (one, other):
        # True and False equal the houses 1 and 0, but are none.
        if not is_whole(house) or house not in houses:
            raise NoHouse("the heap has no piece of such a house")
    if one == other:
        raise NoHouse("a house has no span with itself")


def chains_or_refuse(heap):
    """Tell the chains of a heap, or refuse it with NoShifts where it has no shifts."""
    chains = chains_of(heap)
    if ring_among(chains) is not None:
        raise NoShifts("no shifts keep all ties of the heap")
    return chains


def rows_from(chains, one, houses):
    """Tell shifts by which each house that chains from the one lead to is as far ahead as can be."""
    far = {x: chains[y, x][0] for y, x in chains if y == one}
    # A chain may come round to more than 0, but a house is not ahead of itself.
    far[one] = 0
    # No tie leads from these houses to the others, so the others get any shifts that fit.
    return [(house, far[house] if house in far else lowest(chains, house)) for house in houses]
