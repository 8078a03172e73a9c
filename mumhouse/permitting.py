"""Permits: what an asker may learn alone so that no few knows what it must not."""

from itertools import combinations

from mumhouse.boards import Board, parts_of_groups, values_there
from mumhouse.expressions import lets_ask
from mumhouse.finest import finest_among
from mumhouse.groupings import Grouping, all_groupings
from mumhouse.halls import lets_asker, lets_grouping, lets_list
from mumhouse.kinds import is_part
from mumhouse.knowing import values_in
from mumhouse.lists import best_list
from mumhouse.measures import first_greatest, whole_worlds


def is_mum_alone(hall, asker, ask, grouping):
    """Return whether the hall is mum in which the asker has this permit more."""
    lets_asker(hall, asker)
    lets_grouping(hall, ask, grouping)
    board = Board(hall)
    return board.keeps_alone(asker, parts_of_groups(board.blocks(ask), board.full, grouping))


def finest_permits(hall, asker, ask):
    """Return the ascending tuple of all groupings that are finest alone, () if the hall is not mum."""
    lets_asker(hall, asker)
    lets_ask(hall.scene[0], ask)
    board = Board(hall)
    blocks = board.blocks(ask)
    values = values_there(blocks, board.full)
    mum = []
    for grouping in all_groupings(values):
        if board.keeps_alone(asker, parts_of_groups(blocks, board.full, grouping)):
            mum.append(grouping)
    return finest_among(mum)


def permit_costs(hall, asker, ask, grouping, asks):
    """Return how many whole answers to the asks are lost if the asker gets this permit; None if it is not mum."""
    lets_asker(hall, asker)
    lets_grouping(hall, ask, grouping)
    lets_list(hall, asks)
    if not is_mum_alone(hall, asker, ask, grouping):
        return None
    return best_list(hall, asks) - best_list(hall.with_permit(asker, ask, grouping), asks)


def bearable(hall, asker, asks):
    """Return all greatest sets of indexes of asks whose values the asker may know so that the hall is mum."""
    lets_asker(hall, asker)
    lets_list(hall, asks)
    board = Board(hall)
    greatest = []
    for size in range(len(asks) + 1):
        for picks in combinations(range(len(asks)), size):
            if board.keeps_alone(asker, board.parts_by([asks[k] for k in picks])):
                greatest = [*[fewer for fewer in greatest if not is_part(fewer, picks)], picks]
    return tuple(sorted(greatest))


def permit_by_rule(hall, asker, ask, word):
    """Return the grouping of the permit that the rule with this word gives to the asker in a mum hall."""
    lets_asker(hall, asker)
    values = values_in(hall.scene[0], hall.worlds, ask)
    if word == "alike":
        whole = Grouping.whole(values).groups
        return whole if is_mum_alone(hall, asker, ask, whole) else (values,)
    found = finest_permits(hall, asker, ask)
    if word == "finest":
        numbers = [len(grouping) for grouping in found]
    else:
        numbers = [whole_worlds(hall, ask, grouping) for grouping in found]
    _, grouping = first_greatest(numbers, found)
    return grouping
