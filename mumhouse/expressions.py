"""The form of expressions, their parts, and whether they fit a house."""

from mumhouse.errors import UnfitExpression
from mumhouse.kinds import is_integer, is_name

NAME = "name"
NUMBER = "number"
CONDITION = "condition"

# What stands behind each word.
NUMBERS = {
    "of": (NAME, NAME),
    "my": (NAME,),
    "+": (NUMBER, NUMBER),
    "-": (NUMBER, NUMBER),
    "*": (NUMBER, NUMBER),
    "least": (NUMBER, NUMBER),
    "most": (NUMBER, NUMBER),
    "if": (CONDITION, NUMBER, NUMBER),
    "count": (CONDITION,),
    "sum": (NUMBER, CONDITION),
}
CONDITIONS = {
    "=": (NUMBER, NUMBER),
    "<": (NUMBER, NUMBER),
    "and": (CONDITION, CONDITION),
    "or": (CONDITION, CONDITION),
    "not": (CONDITION,),
}


def is_number_expression(thing):
    """Return whether any value is a number by form, with any names, and with "my" anywhere."""
    return wrong_path(thing, NUMBER, None) is None


def is_condition(thing):
    """Return whether any value is a condition by form, with any names, and with "my" anywhere."""
    return wrong_path(thing, CONDITION, None) is None


def parts_of(expression):
    """Return the pairs (path, part) of all parts of a number or a condition by form, in order."""
    rows, _ = _walk(expression, _kind_of(expression), None)
    return tuple([(_path(rows, k), rows[k][0]) for k in range(len(rows))])


def lets_ask(house, thing):
    """Return the number of parts of an ask of the house, or raise UnfitExpression."""
    return _lets(house, thing, NUMBER)


def lets_statement(house, thing):
    """Return the number of parts of a statement of the house, or raise UnfitExpression."""
    return _lets(house, thing, CONDITION)


def plain_parts(expression):
    """Return the list of all parts of a number or a condition by form, in order, without their paths."""
    rows, _ = _walk(expression, _kind_of(expression), None)
    return [row[0] for row in rows]


def wrong_path(thing, kind, house):
    """Return the path of the first part that is wrong for the house (None: by form alone), None if all are right."""
    rows, wrong = _walk(thing, kind, house)
    return _path(rows, len(rows) - 1) if wrong else None


def kinds_behind(word, kind):
    """Return what stands behind a word, as a tuple of kinds, or None if it is no word of this kind."""
    if kind == NUMBER:
        return NUMBERS.get(word)
    return CONDITIONS.get(word)


def _lets(house, thing, kind):
    rows, wrong = _walk(thing, kind, house)
    if wrong:
        raise UnfitExpression(_path(rows, len(rows) - 1))
    return len(rows)


def _kind_of(expression):
    if isinstance(expression, tuple) and expression[0] in CONDITIONS:
        return CONDITION
    return NUMBER


def _walk(thing, kind, house):
    """Return rows for all parts in order, or up to the first wrong one, and whether there is a wrong one.

    A row is (part, above, k): the part is element k of the one whose row has the index above.
    """
    rows = []
    # A list of what is to come in place of calls within calls: an expression may be very deep.
    coming = [(thing, 0, 0, kind, False)]
    while coming:
        part, above, k, due, counted = coming.pop()
        rows.append((part, above, k))
        kinds = _kinds_in(part, due)
        if kinds is None or not _fits(part, house, counted):
            return rows, True
        at = len(rows) - 1
        within = counted or _counts(part)
        for j in reversed(range(len(kinds))):
            if kinds[j] != NAME:
                coming.append((part[j + 1], at, j + 1, kinds[j], within))
    return rows, False


def _path(rows, at):
    """Return the path of the part whose row has this index."""
    steps = []
    while at > 0:
        _, above, k = rows[at]
        steps.append(k)
        at = above
    return tuple(steps[::-1])


def _kinds_in(part, kind):
    """Return the kinds of what stands behind the word of a part, or None if it is not of this kind."""
    if is_integer(part):
        return () if kind == NUMBER else None
    if not isinstance(part, tuple) or len(part) == 0 or not isinstance(part[0], str):
        return None
    kinds = kinds_behind(part[0], kind)
    if kinds is None or len(part) != len(kinds) + 1:
        return None
    if not all([is_name(item) for item, due in zip(part[1:], kinds) if due == NAME]):
        return None
    return kinds


def _fits(part, house, counted):
    """Return whether a part that is right by form is right for the house, too; counted: within "count" or "sum"."""
    if house is None or is_integer(part):
        return True
    fields = [field[0] for field in house[1]]
    if part[0] == "of":
        return part[1] in house[0] and part[2] in fields
    if part[0] == "my":
        return counted and part[1] in fields
    return True


def _counts(part):
    return isinstance(part, tuple) and part[0] in ("count", "sum")
