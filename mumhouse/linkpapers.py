"""Papers that state whether two values are linked by worlds that look alike."""

from mumhouse.views import implied_grouping, looks, values_between


def link_paper(house, worlds, asked, ask, one, other):
    """Return a paper ("linked", row) or ("apart", grouping) of asked, the ask, and two of its values."""
    values = values_between(house, worlds, asked, ask, one, other)
    row = _row_between(looks(house, worlds, asked), values, one, other)
    if row is None:
        return "apart", implied_grouping(house, worlds, asked, ask)
    return "linked", tuple([worlds[n] for n in row])


def _row_between(seen, values, one, other):
    """Return the indexes of a row of worlds that leads from the value one to other, or None if there is none."""
    first = values.index(one)
    before = {first: first}
    layer = [first]
    while layer:
        coming = []
        for n in layer:
            if values[n] == other:
                return _row_to(n, before)
            for m in range(len(values)):
                if m not in before and (seen[m] == seen[n] or values[m] == values[n]):
                    before[m] = n
                    coming.append(m)
        layer = coming
    return None


def _row_to(n, before):
    """Return the row that leads to n, where before leads back to its first element."""
    row = [n]
    while before[n] != n:
        n = before[n]
        row.append(n)
    return row[::-1]
