"""Expressions, houses and worlds read from texts."""

from mumhouse.errors import InvalidText
from mumhouse.expressions import CONDITION, CONDITIONS, NAME, NUMBER, kinds_behind
from mumhouse.kinds import is_name, is_names

MOST_DIGITS = 60
MOST_OUTER_PARTS = 30


def expression_read(text):
    """Return the number or the condition by form that a text writes, or raise InvalidText."""
    line = Line(text, 0)
    part = line.take_part(line.next_kind())
    line.finish()
    return part


def house_read(text):
    """Return the house that a text writes, or raise InvalidText; whether it is one is not checked."""
    lines = text.split("\n")
    # People and at least one field are due, also if the lines end before.
    return read_house_lines(lines, 0, max(2, len(lines)))


def world_read(text):
    """Return the nonempty tuple of nonempty tuples of integers that a text writes, or raise InvalidText."""
    return Line(text, 0).take_rows()


def line_at(lines, k):
    """Return the line with this index, to be read, or raise InvalidText if there is none."""
    if k >= len(lines):
        raise InvalidText(len(lines), 0)
    return Line(lines[k], k)


def read_house_lines(lines, first, many):
    """Return the house that so many lines, at least two, write from the first one on."""
    line = line_at(lines, first)
    line.take_word(("people",))
    people = line.take_names()
    line.finish()
    fields = []
    rules = []
    for k in range(first + 1, first + many):
        line = line_at(lines, k)
        if line.take_word(_words_due(fields, rules)) == "field":
            fields.append((line.take_name(), line.take_integer(), line.take_integer()))
        else:
            rules.append(line.take_part(CONDITION))
        line.finish()
    return people, tuple(fields), tuple(rules)


def _words_due(fields, rules):
    if not fields:
        return ("field",)
    return ("rule",) if rules else ("field", "rule")


class Line:
    """The words of one line, taken one after the other; InvalidText is raised at the first one that is not possible."""

    def __init__(self, text, index):
        self._words = text.split(" ")
        self._line = index
        self._at = 0

    def next_word(self):
        """Return the next word; "" if it is missing, as an empty word is not possible anywhere either."""
        return self._words[self._at] if self._at < len(self._words) else ""

    def take(self, possible):
        """Go behind the next word and return it, if it is possible there."""
        if not possible:
            raise InvalidText(self._line, self._at)
        self._at += 1
        return self._words[self._at - 1]

    def take_word(self, words):
        """Take one of these words."""
        return self.take(self.next_word() in words)

    def take_name(self):
        """Take a name."""
        return self.take(is_name(self.next_word()))

    def take_names(self):
        """Take a nonempty set of names."""
        names = tuple(self.next_word().split(","))
        self.take(is_names(names))
        return names

    def take_names_or_none(self):
        """Take a set of names, where - is the empty one."""
        if self.next_word() == "-":
            self.take(True)
            return ()
        return self.take_names()

    def take_integer(self):
        """Take an integer."""
        return int(self.take(is_integer_word(self.next_word())))

    def take_number(self, lowest):
        """Take a number that is at least so great."""
        word = self.next_word()
        return int(self.take(_is_digits(word) and int(word) >= lowest))

    def take_integers(self):
        """Take one or more integers with commas between."""
        words = self.next_word().split(",")
        self.take(all([is_integer_word(word) for word in words]))
        return tuple([int(word) for word in words])

    def take_rows(self):
        """Take all words that are left, at least one, each as integers with commas between."""
        rows = [self.take_integers()]
        while self._at < len(self._words):
            rows.append(self.take_integers())
        return tuple(rows)

    def finish(self):
        """Raise InvalidText if a word is left."""
        if self._at < len(self._words):
            raise InvalidText(self._line, self._at)

    def next_kind(self):
        """Return the kind of the expression that begins with the next word."""
        return CONDITION if self.next_word() in CONDITIONS else NUMBER

    def take_part(self, kind, outer=0):
        """Take the words of a number or a condition that stands within so many others."""
        word = self.next_word()
        if outer <= MOST_OUTER_PARTS and kind == NUMBER and is_integer_word(word):
            return self.take_integer()
        kinds = kinds_behind(word, kind)
        self.take(outer <= MOST_OUTER_PARTS and kinds is not None)
        return (word, *[self._take_item(due, outer + 1) for due in kinds])

    def _take_item(self, kind, outer):
        return self.take_name() if kind == NAME else self.take_part(kind, outer)


def is_integer_word(word):
    """Return whether a word writes an integer."""
    return _is_digits(word) or word.startswith("-") and word != "-0" and _is_digits(word[1:])


def _is_digits(word):
    if not word.isascii() or not word.isdigit() or len(word) > MOST_DIGITS:
        return False
    return word == "0" or not word.startswith("0")
