"""Papers that state whether asks settle an ask."""

from mumhouse.knowing import lets_asks
from mumhouse.values import value_of, values_of


def settling_paper(house, worlds, asks, ask):
    """Return a paper ("settled", rows) or ("open", one, other) of the asks and the ask."""
    lets_asks(house, asks, ask)
    first = {}
    for world in worlds:
        values = values_of(house, world, *asks)
        value = value_of(house, world, ask)
        if values not in first:
            first[values] = (world, value)
        elif first[values][1] != value:
            return "open", first[values][0], world
    return "settled", tuple([(values, first[values][1]) for values in sorted(list(first))])
