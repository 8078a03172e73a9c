"""How many whole answers the house can make sure of if somebody else chooses the order of the asks and the world."""

from mumhouse.boards import Board, worlds_behind
from mumhouse.halls import lets_list


def sure_answers(hall, asks):
    """Return the greatest number of whole answers that is sure, or None if the hall is not mum."""
    lets_list(hall, asks)
    play = Play(hall, asks)
    return play.sure(play.full, play.places) if play.is_mum() else None


class Play:
    """The halls to which asks in any order lead from a hall, and what the house can make sure of in each of them.

    The asks that are left are an ascending tuple of their indexes.
    """

    def __init__(self, hall, asks):
        self._board = Board(hall)
        self._rows = [self._board.blocks(ask) for ask in asks]
        self._found = {}
        self.full = self._board.full
        self.places = tuple(range(len(asks)))

    def is_mum(self):
        """Return whether the hall is mum from which all others are reached."""
        return self._board.keeps(self.full)

    def groupings(self, bits, j):
        """Return the list of all groupings of ask j that are mum aloud in the hall with these worlds, ascending."""
        return self._board.mum_groupings(self._rows[j], bits)

    def behind(self, bits, j, group):
        """Return those of these worlds in which ask j has a value of the group."""
        return worlds_behind(self._rows[j], bits, group)

    def sure(self, bits, left):
        """Return the number that is sure in the mum hall with these worlds."""
        return min([self.best(bits, left, j)[0] for j in left], default=0)

    def best(self, bits, left, j):
        """Return the greatest number that is sure if ask j is chosen, and the grouping by which it is."""
        key = (bits, left, j)
        if key not in self._found:
            best = (-1, ())
            for grouping in self.groupings(bits, j):
                number = min(self.by_group(bits, left, j, grouping))
                if number > best[0]:
                    best = (number, grouping)
            self._found[key] = best
        return self._found[key]

    def by_group(self, bits, left, j, grouping):
        """Return for each group the number that is sure if ask j is answered by it."""
        others = without(left, j)
        return [whole_answer(group) + self.sure(self.behind(bits, j, group), others) for group in grouping]


def without(left, j):
    """Return the asks that are left behind ask j."""
    return tuple([k for k in left if k != j])


def whole_answer(group):
    """Return 1 for a whole answer, 0 for another group."""
    return 1 if len(group) == 1 else 0
