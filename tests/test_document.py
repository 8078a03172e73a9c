"""Every example of the document, as it stands, one after the other; and the modules that it names."""

import importlib
from pathlib import Path

from mumhouse.errors import MumError
from tests.samples import Case

TESTS = Path(__file__).resolve().parent
LINES = (TESTS / 'examples.txt').read_text(encoding='ascii').split('\n')
README = [line[4:] for line in (TESTS.parent / 'README.md').read_text(encoding='ascii').split('\n') if line.startswith('    ')]
MODULES = ('kinds', 'expressions', 'housechecker', 'values', 'terms', 'houseclasses', 'housetexts', 'housereadings', 'worlds',
           'knowing',
           'settlingpapers', 'settlingchecker', 'groupings', 'views', 'linkpapers', 'linkchecker', 'halls', 'mumness',
           'mumpapers', 'mumchecker',
           'ruling', 'finest', 'measures', 'finestpapers', 'finestchecker', 'lists', 'treechecker', 'sureness', 'surepapers',
           'surechecker',
           'permitting', 'permitpapers', 'permitchecker', 'breaking', 'breakpapers', 'breakchecker', 'whynot', 'whychecker',
           'services',
           'replaying', 'eventtexts', 'eventreadings', 'desk', 'errors')


def answer_to(line, names):
    """What a line of an example gives, as it is written in the document; None for a statement."""
    try:
        code = compile(line, 'example', 'eval')
    except SyntaxError:
        exec(line, names)
        return None
    try:
        return repr(eval(code, names))
    except MumError as error:
        fields = ', '.join(f'{name}={value!r}' for name, value in vars(error).items())
        return f'raises {error.__class__.__name__}({fields})'


class DocumentTest(Case):
    def answers(self, lines):
        """Go through the examples that lines write; return the numbers of what was done and of what had an answer."""
        names = {}
        found = [0, 0]
        for line, behind in zip(lines, [*lines[1:], '']):
            if line.startswith('>>> '):
                due = behind if behind and not behind.startswith('>>> ') else None
                self.assertEqual(answer_to(line[4:], names), due, line)
                found = [found[0] + 1, found[1] + (due is not None)]
        return found

    def test_examples(self):
        self.same(self.answers(LINES), [132, 63])

    def test_readme(self):
        self.same(self.answers([line for line in README if not line.startswith(('bash', 'python3'))]), [22, 8])

    def test_modules(self):
        for name in MODULES:
            importlib.import_module('mumhouse.' + name)
