"""Houses as objects."""

from mumhouse.housechecker import lets_house
from mumhouse.housereadings import house_read
from mumhouse.housetexts import house_text
from mumhouse.kinds import is_among, same
from mumhouse.terms import Condition


class House:
    """A house; it never changes."""

    def __init__(self, people, fields, *rules):
        forms = [rule.form if isinstance(rule, Condition) else rule for rule in rules]
        house = (people, fields, tuple(forms))
        lets_house(house)
        self._house = house

    @property
    def people(self):
        """The set of the names of the people."""
        return self._house[0]

    @property
    def fields(self):
        """The tuple of the fields, each with its lowest and its highest number."""
        return self._house[1]

    @property
    def rules(self):
        """The tuple of the rules, as plain statements."""
        return self._house[2]

    @property
    def form(self):
        """The house as a tuple (people, fields, rules)."""
        return self._house

    def __contains__(self, x):
        return is_among(x, self._house[0])

    def __len__(self):
        return len(self._house[0])

    def __eq__(self, other):
        return isinstance(other, House) and same(self._house, other._house)

    def __str__(self):
        return str(house_text(self._house))

    def with_rule(self, rule):
        """Return the House with one rule more, the last one."""
        people, fields, rules = self._house
        return House(people, fields, *rules, rule)

    def numbers(self, field):
        """Yield the numbers from low to high of a field."""
        for name, low, high in self._house[1]:
            if name == field:
                for number in range(low, high + 1):
                    yield number

    @classmethod
    def parsed(cls, text):
        """Return the House that a text writes."""
        people, fields, rules = house_read(text)
        return cls(people, fields, *rules)
