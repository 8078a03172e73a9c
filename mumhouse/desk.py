"""A desk: a service that is begun, asked and told by rows of text."""

from mumhouse.errors import InvalidRow, InvalidText
from mumhouse.eventreadings import read_event, read_log
from mumhouse.eventtexts import event_line, grouping_word, names_word, permit_words, secret_words
from mumhouse.expressions import CONDITION, NUMBER
from mumhouse.housereadings import Line
from mumhouse.housetexts import integers_text
from mumhouse.replaying import begun


def _undo(service):
    return event_line(service.undo())


def _count(service):
    return str(len(service))


def _log(service):
    return str(service)


def _rule(service):
    return service.rule


def _few(service):
    return str(service.hall.scene[3])


def _worlds(service):
    return str(len(service.hall))


def _askers(service):
    return names_word(service.hall.scene[1])


def _said(service):
    return _joined([_heard_word(said) for _, said in service.said], " ")


def _table(service):
    return _joined(service.table(), " / ")


def _secrets(service):
    return _joined([secret_words(secret) for secret in service.hall.scene[2]], " / ")


def _lost(service):
    return _joined([secret_words(secret) for secret in service.lost], " / ")


def _permits(service):
    return _joined([permit_words(permit) for permit in service.hall.permits], " / ")


# The rows of one word that are no events.
REPORTS = {
    "undo": _undo,
    "count": _count,
    "log": _log,
    "rule": _rule,
    "few": _few,
    "worlds": _worlds,
    "askers": _askers,
    "said": _said,
    "table": _table,
    "secrets": _secrets,
    "lost": _lost,
    "permits": _permits,
}


class Desk:
    """A desk with a service, at first with none."""

    def __init__(self):
        self._service = None
        self._calls = 0

    def say(self, row):
        """Return the answer to a row, or raise InvalidRow or an error of the service."""
        self._calls += 1
        beginning = _beginning_of(row)
        if beginning is not None:
            self._service = begun(beginning)
            return "ok"
        if self._service is None:
            raise InvalidRow(row)
        if row in REPORTS:
            report = REPORTS[row]
            return report(self._service)
        question = _question_of(row)
        if question is not None:
            return _answer(self._service, question)
        event = _event_of(row)
        if event is None:
            raise InvalidRow(row)
        return _said_word(event, self._service.go(event))

    def counts(self):
        """Return the numbers of started and of finished calls of say."""
        # Whoever asks is not within a call, so each one that was started is finished, perhaps by an error.
        return self._calls, self._calls


def _beginning_of(row):
    """Return the first element of a log if a row writes it and nothing else, otherwise None."""
    try:
        log = read_log(row.split("\n"))
    except InvalidText:
        return None
    return log[0] if len(log) == 1 else None


def _event_of(row):
    """Return the event that a row writes, or None."""
    try:
        return read_event(row)
    except InvalidText:
        return None


def _question_of(row):
    """Return the tuple of a word and of what is asked for, as a row writes it, or None."""
    line = Line(row, 0)
    try:
        question = _question_words(line)
        line.finish()
    except InvalidText:
        return None
    return question


def _question_words(line):
    word = line.take_word(("heard", "next", "may", "needed", "knows"))
    if word == "heard":
        return word, line.take_name()
    if word == "may":
        return word, line.take_name(), line.take_part(NUMBER)
    if word == "knows":
        return word, line.take_names_or_none(), line.take_part(CONDITION)
    return word, line.take_part(NUMBER)


def _answer(service, question):
    word = question[0]
    if word == "heard":
        return _joined([f"{n}:{integers_text(group)}" for n, group in service.heard(question[1])], " ")
    if word == "next":
        return grouping_word(service.next_grouping(question[1]))
    if word == "may":
        return grouping_word(service.next_permit(question[1], question[2]))
    if word == "needed":
        return _joined([str(k) for k in service.drops_needed(question[1])], " ")
    known = service.knows(question[1], question[2])
    return "open" if known is None else _yes_or_no(known)


def _said_word(event, said):
    """Return the answer to an event by which this was said."""
    if event[0] == "permit":
        return grouping_word(said)
    return _heard_word(said) if said else "ok"


def _heard_word(said):
    """Return the word of a group, or of whether a statement is true."""
    if said[0] is True or said[0] is False:
        return _yes_or_no(said[0])
    return integers_text(said)


def _yes_or_no(true):
    return "yes" if true else "no"


def _joined(words, between):
    """Return words with this between them, - if there are none."""
    return between.join(words) if words else "-"
