"""Numbers and conditions as objects that are put together by signs and methods."""

from mumhouse.errors import UnfitExpression
from mumhouse.expressions import CONDITION, NUMBER, lets_ask, lets_statement, plain_parts, wrong_path
from mumhouse.housetexts import expression_text
from mumhouse.kinds import same
from mumhouse.values import is_true, value_of


class Term:
    """A number by form; it never changes."""

    def __init__(self, expression):
        wrong = wrong_path(expression, NUMBER, None)
        if wrong is not None:
            raise UnfitExpression(wrong)
        self._form = expression

    @property
    def form(self):
        """The expression."""
        return self._form

    def __len__(self):
        return len(plain_parts(self._form))

    def __eq__(self, other):
        return isinstance(other, Term) and same(self._form, other._form)

    def __str__(self):
        return str(expression_text(self._form))

    def parts(self):
        """Yield the parts of the form, in order."""
        yield from plain_parts(self._form)

    def __call__(self, house, world):
        lets_ask(house, self._form)
        return value_of(house, world, self._form)

    def __add__(self, other):
        return Term(("+", self._form, _form_of(other)))

    def __radd__(self, other):
        return Term(("+", _form_of(other), self._form))

    def __sub__(self, other):
        return Term(("-", self._form, _form_of(other)))

    def __rsub__(self, other):
        return Term(("-", _form_of(other), self._form))

    def __mul__(self, other):
        return Term(("*", self._form, _form_of(other)))

    def __rmul__(self, other):
        return Term(("*", _form_of(other), self._form))

    def least(self, u):
        """Return the Term of the lesser one of both."""
        return Term(("least", self._form, _form_of(u)))

    def most(self, u):
        """Return the Term of the greater one of both."""
        return Term(("most", self._form, _form_of(u)))

    def less(self, u):
        """Return the Condition that this is less than u."""
        return Condition(("<", self._form, _form_of(u)))

    def equals(self, u):
        """Return the Condition that both are equal."""
        return Condition(("=", self._form, _form_of(u)))

    def summed(self, c):
        """Return the Term of the sum of this over the people for whom the Condition c is true."""
        return Term(("sum", self._form, _form_of(c)))

    @staticmethod
    def of(person, field):
        """Return the Term of the number of a person in a field."""
        return Term(("of", person, field))

    @staticmethod
    def my(field):
        """Return the Term of the number in a field of the person that is counted."""
        return Term(("my", field))


class Condition:
    """A condition by form; it never changes."""

    def __init__(self, expression):
        wrong = wrong_path(expression, CONDITION, None)
        if wrong is not None:
            raise UnfitExpression(wrong)
        self._form = expression

    @property
    def form(self):
        """The expression."""
        return self._form

    def __len__(self):
        return len(plain_parts(self._form))

    def __eq__(self, other):
        return isinstance(other, Condition) and same(self._form, other._form)

    def __str__(self):
        return str(expression_text(self._form))

    def parts(self):
        """Yield the parts of the form, in order."""
        yield from plain_parts(self._form)

    def __call__(self, house, world):
        lets_statement(house, self._form)
        return is_true(house, world, self._form)

    def __and__(self, other):
        return Condition(("and", self._form, _form_of(other)))

    def __or__(self, other):
        return Condition(("or", self._form, _form_of(other)))

    def __invert__(self):
        return Condition(("not", self._form))

    def counted(self):
        """Return the Term of the number of the people for whom this is true."""
        return Term(("count", self._form))

    def choose(self, t, u):
        """Return the Term of t if this is true, otherwise of u."""
        return Term(("if", self._form, _form_of(t), _form_of(u)))


def _form_of(thing):
    """Return the form of a Term or a Condition, and any other value as it is."""
    return thing.form if isinstance(thing, (Term, Condition)) else thing
