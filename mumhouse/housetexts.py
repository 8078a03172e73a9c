"""Expressions, houses and worlds written as texts."""

from mumhouse.expressions import plain_parts
from mumhouse.kinds import is_integer


def expression_text(expression):
    """Return the words of a number or a condition by form, with single spaces between."""
    return " ".join([_head(part) for part in plain_parts(expression)])


def house_text(house):
    """Return the lines of a house, with newlines between."""
    return "\n".join(house_lines(house))


def world_text(world):
    """Return a word for each person of a world, with single spaces between."""
    return " ".join([integers_text(row) for row in world])


def house_lines(house):
    """Return the list of the lines of a house."""
    people, fields, rules = house
    lines = [f"people {','.join(people)}"]
    lines.extend([f"field {name} {low} {high}" for name, low, high in fields])
    lines.extend([f"rule {expression_text(rule)}" for rule in rules])
    return lines


def integers_text(row):
    """Return the integers of a row, with commas between."""
    return ",".join([str(number) for number in row])


def _head(part):
    """Return what is written of a part before the parts in it: its word, and the names, which are no parts."""
    if is_integer(part):
        return str(part)
    return " ".join([item for item in part if isinstance(item, str)])
