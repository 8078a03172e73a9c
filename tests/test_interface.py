"""The interface: names, arguments, and the files in which they are defined; and the form of the files."""

import ast
import importlib
import inspect
import unittest
from pathlib import Path

PACKAGE = Path(__file__).resolve().parent.parent / 'mumhouse'

FUNCTIONS = {
    'kinds': {'is_integer': '(thing)', 'is_number': '(thing)', 'is_name': '(thing)', 'is_names': '(thing)'},
    'expressions': {'is_number_expression': '(thing)', 'is_condition': '(thing)', 'parts_of': '(expression)',
                    'lets_ask': '(house, thing)', 'lets_statement': '(house, thing)'},
    'housechecker': {'lets_house': '(thing)'},
    'housetexts': {'expression_text': '(expression)', 'house_text': '(house)', 'world_text': '(world)'},
    'housereadings': {'expression_read': '(text)', 'house_read': '(text)', 'world_read': '(text)'},
    'groupings': {'all_groupings': '(values)'},
    'values': {'value_of': '(house, world, ask)', 'is_true': '(house, world, statement)',
               'values_of': '(house, world, *asks)'},
    'knowing': {'known': '(house, worlds, statement)', 'values_in': '(house, worlds, ask)',
                'block': '(house, worlds, ask, value)', 'is_settled': '(house, worlds, ask)',
                'settled_by': '(house, worlds, asks, ask)', 'fewest_settling': '(house, worlds, asks, ask)'},
    'worlds': {'possible_worlds': '(house)', 'how_many_worlds': '(house)', 'is_world': '(house, thing)',
               'is_possible': '(house, thing)'},
    'views': {'worlds_of_group': '(house, worlds, ask, group)', 'partition_by': '(house, worlds, asked)',
              'worlds_like': '(house, worlds, asked, world)', 'worlds_knowing': '(house, worlds, asked, statement)',
              'implied_grouping': '(house, worlds, asked, ask)'},
    'linkpapers': {'link_paper': '(house, worlds, asked, ask, one, other)'},
    'linkchecker': {'lets_link': '(house, worlds, asked, ask, one, other, thing)'},
    'mumness': {'is_mum': '(hall)', 'tellings': '(hall)'},
    'lists': {'best_list': '(hall, asks)', 'best_tree': '(hall, asks)', 'price': '(hall, asks, grouping)'},
    'mumpapers': {'mum_paper': '(hall)'},
    'mumchecker': {'lets_mum': '(hall, thing)'},
    'ruling': {'is_mum_aloud': '(hall, ask, grouping)', 'plain_grouping': '(hall, ask)', 'alike_grouping': '(hall, ask)',
               'plain_leaks': '(hall, ask)'},
    'finest': {'finest_groupings': '(hall, ask)'},
    'measures': {'most_groups': '(hall, ask)', 'fewest_refused': '(hall, ask)', 'most_whole': '(hall, ask)',
                 'chosen': '(hall, ask, word)'},
    'finestpapers': {'finest_paper': '(hall, ask, grouping)'},
    'finestchecker': {'lets_finest': '(hall, ask, grouping, thing)'},
    'treechecker': {'lets_tree': '(hall, asks, thing)'},
    'surepapers': {'sure_tree': '(hall, asks)', 'limit_tree': '(hall, asks)'},
    'surechecker': {'lets_sure': '(hall, asks, thing)', 'lets_limit': '(hall, asks, thing)'},
    'whynot': {'needed_drops': '(hall, *asks)', 'why_paper': '(hall, ask, grouping)'},
    'whychecker': {'lets_why': '(hall, ask, grouping, thing)'},
    'replaying': {'is_log': '(thing)', 'replayed': '(log)'},
    'sureness': {'sure_answers': '(hall, asks)'},
    'permitting': {'is_mum_alone': '(hall, asker, ask, grouping)', 'finest_permits': '(hall, asker, ask)',
                   'permit_costs': '(hall, asker, ask, grouping, asks)', 'bearable': '(hall, asker, asks)'},
    'permitpapers': {'permit_paper': '(hall, asker, ask, grouping)'},
    'permitchecker': {'lets_permit': '(hall, asker, ask, grouping, thing)'},
    'breaking': {'breaks_plain': '(hall, asks)'},
    'breakpapers': {'break_paper': '(hall, asks)'},
    'breakchecker': {'lets_break': '(hall, asks, thing)'},
    'settlingpapers': {'settling_paper': '(house, worlds, asks, ask)'},
    'settlingchecker': {'lets_settling': '(house, worlds, asks, ask, thing)'},
    'eventtexts': {'event_line': '(event)', 'log_lines': '(log)'},
    'eventreadings': {'read_event': '(text)', 'read_log': '(lines)'},
}
CLASSES = {
    'groupings': {'Grouping': {
        '__init__': '(self, groups)', 'groups': None, 'members': None, '__len__': '(self)', '__contains__': None,
        '__eq__': None, 'group_of': '(self, value)', 'is_finer': '(self, h)', '__and__': None, '__or__': None,
        'merged': '(self, i, j)', 'splits': '(self)', 'whole': '(values)', 'one': '(values)'}},
    'houseclasses': {'House': {
        '__init__': '(self, people, fields, *rules)', 'people': None, 'fields': None, 'rules': None, 'form': None,
        '__contains__': None, '__len__': '(self)', '__eq__': None, '__str__': '(self)', 'with_rule': '(self, rule)',
        'numbers': '(self, field)', 'parsed': '(cls, text)'}},
    'halls': {'Hall': {
        '__init__': '(self, scene, worlds=None, permits=())', 'scene': None, 'worlds': None, 'permits': None,
        '__len__': '(self)', '__contains__': None, '__eq__': None, 'fews': '(self)', 'view': '(self, few, world)',
        '__call__': '(self, ask, group)', 'with_permit': '(self, asker, ask, grouping)',
        'with_secret': '(self, statement, *knowers)', 'without_secret': '(self, k)', 'with_few': '(self, few)'}},
    'services': {'Service': {
        '__init__': "(self, scene, world, *, rule='finest', permits=())", 'hall': None, 'rule': None, 'said': None, 'lost': None,
        'MOST': None, 'PERMITS': None, 'SECRETS': None, 'ASKERS': None, 'aloud': '(self, ask)', 'permit': '(self, asker, ask)',
        'alone': '(self, asker, n)', 'secret': '(self, statement, knowers)', 'drop': '(self, k)', 'outside': '(self, statement)',
        'set_rule': '(self, word)', 'set_few': '(self, number)', 'new_asker': '(self, name)', 'go': '(self, event)',
        '__call__': '(self, ask)', 'heard': '(self, asker)', '__contains__': None, '__len__': '(self)', '__eq__': None,
        'tried': '(self, *events)', 'undo': '(self)', 'do_all': '(self, *events, keep=False)', 'counts': '(self)',
                             'table': '(self)',
        'next_grouping': '(self, ask)', 'next_permit': '(self, asker, ask)', 'drops_needed': '(self, ask)',
        'knows': '(self, askers, statement)', 'log': '(self)', '__str__': '(self)'}},
    'desk': {'Desk': {'__init__': '(self)', 'say': '(self, row)', 'counts': '(self)'}},
    'terms': {
        'Term': {
            '__init__': '(self, expression)', 'form': None, '__len__': '(self)', '__eq__': None, '__str__': '(self)',
            'parts': '(self)', '__call__': '(self, house, world)', '__add__': None, '__sub__': None, '__mul__': None,
            '__radd__': None, '__rsub__': None, '__rmul__': None, 'least': '(self, u)', 'most': '(self, u)',
            'less': '(self, u)', 'equals': '(self, u)', 'summed': '(self, c)', 'of': '(person, field)', 'my': '(field)'},
        'Condition': {
            '__init__': '(self, expression)', 'form': None, '__len__': '(self)', '__eq__': None, '__str__': '(self)',
            'parts': '(self)', '__call__': '(self, house, world)', '__and__': None, '__or__': None, '__invert__': None,
            'counted': '(self)', 'choose': '(self, t, u)'}},
}


def module(name):
    return importlib.import_module('mumhouse.' + name)


class InterfaceTest(unittest.TestCase):
    def test_functions(self):
        for name, functions in FUNCTIONS.items():
            for function, arguments in functions.items():
                found = getattr(module(name), function)
                self.assertEqual(found.__module__, 'mumhouse.' + name)
                self.assertEqual(str(inspect.signature(found)), arguments, function)

    def test_classes(self):
        for name, classes in CLASSES.items():
            for made, methods in classes.items():
                found = getattr(module(name), made)
                self.assertEqual(found.__module__, 'mumhouse.' + name)
                for method, arguments in methods.items():
                    self.assertIn(method, vars(found))
                    if arguments is not None:
                        method = vars(found)[method]
                        method = method.__func__ if isinstance(method, (staticmethod, classmethod)) else method
                        self.assertEqual(str(inspect.signature(method)), arguments)

    def test_generators(self):
        groupings = module('groupings')
        self.assertTrue(inspect.isgeneratorfunction(groupings.all_groupings))
        self.assertTrue(inspect.isgeneratorfunction(groupings.Grouping.splits))
        terms = module('terms')
        self.assertTrue(inspect.isgeneratorfunction(terms.Term.parts))
        self.assertTrue(inspect.isgeneratorfunction(terms.Condition.parts))
        self.assertTrue(inspect.isgeneratorfunction(module('worlds').possible_worlds))
        self.assertTrue(inspect.isgeneratorfunction(module('houseclasses').House.numbers))
        self.assertTrue(inspect.isgeneratorfunction(module('halls').Hall.fews))


class FilesTest(unittest.TestCase):
    def test_lines_and_characters(self):
        for path in sorted(PACKAGE.glob('*')):
            if path.name == '__pycache__':
                continue
            self.assertEqual(path.suffix, '.py')
            text = path.read_text(encoding='ascii')
            self.assertLessEqual(len(text.split('\n')), 400, path.name)
            for line in text.split('\n'):
                self.assertLessEqual(len(line), 120, path.name)
                self.assertTrue(all(' ' <= letter <= '~' for letter in line), path.name)

    def test_sizes_and_imports(self):
        for path in sorted(PACKAGE.glob('*.py')):
            for node in ast.walk(ast.parse(path.read_text())):
                if isinstance(node, ast.FunctionDef):
                    self.assertLessEqual(node.end_lineno - node.lineno + 1, 40, node.name)
                self.assertNotIsInstance(node, ast.Import)
                if isinstance(node, ast.ImportFrom):
                    self.assertEqual(node.level, 0)
                    if not node.module.startswith('mumhouse.'):
                        self.assertEqual(node.module, 'itertools')
