"""Events and logs read from lines."""

from mumhouse.expressions import CONDITION, NUMBER
from mumhouse.groupings import is_groups
from mumhouse.housereadings import Line, is_integer_word, line_at, read_house_lines

EVENT_WORDS = ("aloud", "permit", "alone", "secret", "drop", "outside", "rule", "few", "asker")


def read_event(text):
    """Return the event that a text writes, or raise InvalidText."""
    return _event_of(Line(text, 0))


def read_log(lines):
    """Return the tuple of the first element of a log and the events that lines write, or raise InvalidText."""
    line = line_at(lines, 0)
    line.take_word(("service",))
    rule = line.take_name()
    few = line.take_number(0)
    askers = line.take_names_or_none()
    many_lines = line.take_number(2)
    many_secrets = line.take_number(0)
    many_permits = line.take_number(0)
    line.finish()
    house = read_house_lines(lines, 1, many_lines)
    at = 1 + many_lines
    world = _world_of(line_at(lines, at))
    secrets = tuple([_secret_line(line_at(lines, at + 1 + k)) for k in range(many_secrets)])
    at = at + 1 + many_secrets
    permits = tuple([_permit_line(line_at(lines, at + k)) for k in range(many_permits)])
    at = at + many_permits
    beginning = ("service", (house, askers, secrets, few), world, rule, permits)
    return beginning, *[_event_of(Line(lines[k], k)) for k in range(at, len(lines))]


def _event_of(line):
    event = _event_words(line)
    line.finish()
    return event


def _event_words(line):
    word = line.take_word(EVENT_WORDS)
    if word == "aloud":
        return word, line.take_part(NUMBER)
    if word == "permit":
        return word, line.take_name(), line.take_part(NUMBER)
    if word == "alone":
        return word, line.take_name(), line.take_number(0)
    if word == "secret":
        return word, *_secret_words(line)
    if word == "outside":
        return word, line.take_part(CONDITION)
    if word in ("drop", "few"):
        return word, line.take_number(0)
    return word, line.take_name()


def _secret_words(line):
    """Return the secret that is written as its knowers and its statement."""
    knowers = line.take_names_or_none()
    return line.take_part(CONDITION), knowers


def _world_of(line):
    line.take_word(("world",))
    return line.take_rows()


def _secret_line(line):
    line.take_word(("secret",))
    secret = _secret_words(line)
    line.finish()
    return secret


def _permit_line(line):
    line.take_word(("permit",))
    asker = line.take_name()
    grouping = _take_grouping(line)
    ask = line.take_part(NUMBER)
    line.finish()
    return asker, ask, grouping


def _take_grouping(line):
    words = [group.split(",") for group in line.next_word().split(";")]
    groups = None
    if all([is_integer_word(word) for group in words for word in group]):
        groups = tuple([tuple([int(word) for word in group]) for group in words])
    line.take(is_groups(groups))
    return groups
