"""What kind a value is, and whether two values are equal, kinds included."""


def is_integer(thing):
    """Return whether any value is an integer, which True and False are not."""
    return isinstance(thing, int) and not isinstance(thing, bool)


def is_number(thing):
    """Return whether any value is an integer that is at least 0."""
    return is_integer(thing) and thing >= 0


def is_name(thing):
    """Return whether any value is a string of one to eight lowercase letters of the alphabet."""
    if not isinstance(thing, str) or not 1 <= len(thing) <= 8:
        return False
    return all(["a" <= letter <= "z" for letter in thing])


def is_names(thing):
    """Return whether any value is a set of names: an ascending tuple, possibly empty."""
    return isinstance(thing, tuple) and all([is_name(name) for name in thing]) and is_rising(thing)


def is_pair(thing):
    """Return whether any value is a tuple of two."""
    return isinstance(thing, tuple) and len(thing) == 2


def are_tuples(thing):
    """Return whether any value is a tuple of tuples."""
    return isinstance(thing, tuple) and all([isinstance(row, tuple) for row in thing])


def is_rising(row):
    """Return whether each item of a row of comparable items is greater than the one before."""
    return all([before < item for before, item in zip(row, row[1:])])


def is_part(row, other):
    """Return whether each item of a row is one of another row."""
    return all([item in other for item in row])


def same(one, other):
    """Return whether two values are equal, where True is not 1, however deep they are nested."""
    # A list of pairs in place of calls within calls: a form that terms have built may be very deep.
    pairs = [(one, other)]
    while pairs:
        left, right = pairs.pop()
        if isinstance(left, (tuple, list)):
            if not _same_outside(left, right):
                return False
            pairs.extend(list(zip(left, right)))
        elif isinstance(left, bool) != isinstance(right, bool) or left != right:
            return False
    return True


def is_among(thing, rows):
    """Return whether any value is one of the rows, where True is not 1."""
    return any([same(thing, row) for row in rows])


def _same_outside(left, right):
    """Return whether two values are both tuples or both lists, and equally long."""
    if isinstance(left, tuple):
        return isinstance(right, tuple) and len(left) == len(right)
    return isinstance(right, list) and len(left) == len(right)
