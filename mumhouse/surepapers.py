"""Trees that show how many whole answers the house can make sure of, and that it cannot make sure of more."""

from mumhouse.halls import lets_list
from mumhouse.sureness import Play, without


def sure_tree(hall, asks):
    """Return a sure tree whose number is sure_answers, or None if the hall is not mum."""
    lets_list(hall, asks)
    play = Play(hall, asks)
    return _sure(play, play.full, play.places) if play.is_mum() else None


def limit_tree(hall, asks):
    """Return a limit tree whose number is sure_answers, or None if the hall is not mum."""
    lets_list(hall, asks)
    play = Play(hall, asks)
    return _limit(play, play.full, play.places) if play.is_mum() else None


def _sure(play, bits, left):
    """Return for each ask the best grouping, with a sure tree for what stands behind each of its groups."""
    answers = []
    for j in left:
        grouping = play.best(bits, left, j)[1]
        trees = [_sure(play, play.behind(bits, j, group), without(left, j)) for group in grouping]
        answers.append((grouping, tuple(trees)))
    return tuple(answers)


def _limit(play, bits, left):
    """Return the worst ask, with the worst group of each of its groupings and a limit tree behind it."""
    if not left:
        return ()
    numbers = [play.best(bits, left, j)[0] for j in left]
    index = numbers.index(min(numbers))
    j = left[index]
    rows = []
    for grouping in play.groupings(bits, j):
        sure = play.by_group(bits, left, j, grouping)
        n = sure.index(min(sure))
        rows.append((grouping, n, _limit(play, play.behind(bits, j, grouping[n]), without(left, j))))
    return index, tuple(rows)
