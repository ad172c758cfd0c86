"""The rules of the language and the names of the interface, as far as the code's own form shows them."""

import ast
import builtins
import importlib
import inspect
import unittest
from pathlib import Path

PACKAGE = Path(__file__).resolve().parent.parent / 'reelsplice'

INTERFACE = {
    'errors': {'ReelspliceError': None, 'InvalidEvent': ['event'], 'Refused': ['table'], 'InvalidText': None},
    'cases': {'is_stock': ['value'], 'is_tape': ['value'], 'is_case': ['value'],
              'is_saying': ['frames', 'reels', 'value']},
    'cuts': {'is_cut': ['case', 'value'], 'find_cut': ['case']},
    'tables': {'first_row': ['case'], 'steps': ['case', 'k', 'row'], 'ends': ['case', 'row'], 'find_table': ['case'],
               'is_table': ['case', 'value']},
    'counts': {'count_cuts': ['case'], 'nth_cut': ['case', 'n'], 'number_of': ['case', 'cut']},
    'possible': {'possible': ['case'], 'signs_of': ['case'], 'sure_frames': ['case']},
    'strangers': {'is_loose': ['case', 'value'], 'find_loose': ['case'], 'fewest_strangers': ['case'],
                  'find_values': ['case'], 'shows': ['case', 'value', 'number']},
    'mends': {'is_mended': ['case', 'value'], 'cost': ['case', 'prices', 'mended'], 'find_mended': ['case', 'prices'],
              'least_cost': ['case', 'prices'], 'find_mend_values': ['case', 'prices'],
              'shows_mend': ['case', 'prices', 'value', 'number']},
    'splices': {'splices': ['cut'], 'splice_counts': ['case'], 'cut_with': ['case', 'n'], 'find_splice_values': ['case'],
                'shows_splices': ['case', 'value', 'number']},
    'shares': {'shares': ['cut', 'reels'], 'share_counts': ['case'], 'cut_of_shares': ['case', 'wanted']},
    'comparing': {'find_only': ['case', 'other'], 'implies': ['case', 'other'], 'same_cuts': ['case', 'other'],
                  'narrowed': ['case']},
    'reading': {'merged': ['tape', 'other'], 'sign_counts': ['case', 'k'], 'best_frame': ['case']},
    'texts': {'write_tape': ['tape'], 'read_tape': ['text']},
    'desk': {'Desk': ['stock', 'frames']},
    'logs': {'log': ['desk'], 'is_log': ['stock', 'frames', 'value'], 'replayed': ['stock', 'frames', 'log']},
    'heads': {'is_watch': ['value'], 'reach': ['stock', 'row'], 'is_whole': ['watch', 'head', 'value'],
              'is_dead_table': ['watch', 'head', 'value'], 'find_whole': ['watch', 'head'],
              'find_dead_table': ['watch', 'head'], 'lengths': ['watch', 'head']},
    'coming': {'next_letters': ['watch', 'head'], 'can_end': ['watch', 'head']},
    'doubts': {'verdict': ['watch', 'head', 'k'], 'pairs_at': ['watch', 'head', 'k'],
               'find_marked': ['watch', 'head', 'k'], 'pairs_shown': ['watch', 'head', 'k', 'value'],
               'find_parted': ['watch', 'head', 'k']},
    'twins': {'longest_doubt': ['watch', 'head', 'k'], 'find_doubt': ['watch', 'head', 'k'],
              'find_twins': ['watch', 'head', 'k'], 'find_pair_table': ['watch', 'head', 'k'],
              'is_pair_table': ['watch', 'head', 'k', 'value']},
    'settling': {'settling': ['watch', 'head', 'k']},
    'watchers': {'Watcher': ['stock', 'least', 'most']},
    'watchlogs': {'watch_log': ['watcher'], 'first_watch_fault': ['watch', 'value'], 'is_watch_log': ['watch', 'value'],
                  'resumed_watcher': ['watch', 'log']},
}

# the methods that stand in the body of a class itself
CLASSES = {
    'desk.Desk': {'read': ['k', 'frame'], 'say': ['saying'], 'drop': ['i'], 'undo': [], 'case': [], 'cut': [],
                  'possible': ['k'], '__eq__': ['other']},
    'watchers.Watcher': {'frame': ['frame'], 'again': ['k', 'frame'], 'end': [], 'undo': [], 'head': [], 'watch': [],
                         'has_ended': [], 'told': [], 'in_doubt': [], '__eq__': ['other']},
}

SPECIAL = ('__init__', '__eq__')

BUILTINS = """len range enumerate zip min max sum abs sorted reversed int str bool list tuple dict set isinstance ord repr
any all divmod type super Exception ValueError TypeError KeyError IndexError LookupError""".split()

METHODS = """append clear copy count endswith extend find get index insert isalnum isalpha isdigit islower isspace isupper
items join keys ljust lower lstrip partition pop remove replace reverse rfind rjust rpartition rsplit rstrip setdefault
split splitlines startswith strip update upper values zfill bit_length sort add discard __init__""".split()

STATEMENTS = (
    ast.Module, ast.FunctionDef, ast.ClassDef, ast.ImportFrom, ast.Assign, ast.AugAssign, ast.If, ast.While, ast.For,
    ast.Return, ast.Break, ast.Continue, ast.Pass, ast.Raise, ast.Assert, ast.Delete, ast.Expr, ast.Try,
)

ITERATED_AT_ONCE = ('zip', 'enumerate', 'reversed', 'range')


def files():
    return sorted(PACKAGE.rglob('*.py'))


class Language(unittest.TestCase):

    def trees(self):
        for path in files():
            yield path.name, ast.parse(path.read_text(encoding='utf-8'))

    def test_files_and_characters(self):
        for path in PACKAGE.rglob('*'):
            if path.name != '__pycache__' and path.suffix != '.pyc':
                self.assertRegex(path.name, r'^[a-z_]+\.py$')
        for path in files():
            text = path.read_text(encoding='utf-8')
            lines = text.split('\n')
            self.assertLessEqual(len(lines), 400, path)
            self.assertLessEqual(max(len(line) for line in lines), 120, path)
            self.assertTrue(all(' ' <= sign <= '~' or sign == '\n' for sign in text), path)
            self.assertNotIn('%', text)

    def test_imports(self):
        for name, tree in self.trees():
            for node in ast.walk(tree):
                self.assertNotIsInstance(node, ast.Import, name)
                if isinstance(node, ast.ImportFrom):
                    self.assertIn(node, tree.body)
                    self.assertEqual(node.level, 0)
                    self.assertTrue(node.module.startswith('reelsplice.'), (name, node.module))
                    source = ast.parse((PACKAGE / (node.module.split('.')[1] + '.py')).read_text())
                    defined = {part.name for part in source.body if isinstance(part, (ast.FunctionDef, ast.ClassDef))}
                    defined |= {part.targets[0].id for part in source.body if isinstance(part, ast.Assign)}
                    for alias in node.names:
                        self.assertIn(alias.name, defined, name)
                        self.assertIsNone(alias.asname)

    def test_imports_form_no_ring(self):
        seen = {}
        for name, tree in self.trees():
            seen[name[:-3]] = [node.module.split('.')[1] for node in tree.body if isinstance(node, ast.ImportFrom)]
        while seen:
            free = [name for name, needed in seen.items() if not any(other in seen for other in needed)]
            self.assertTrue(free, seen)
            for name in free:
                del seen[name]

    def test_every_import_is_used(self):
        for name, tree in self.trees():
            used = {node.id for node in ast.walk(tree) if isinstance(node, ast.Name)}
            for node in tree.body:
                if isinstance(node, ast.ImportFrom):
                    for alias in node.names:
                        self.assertIn(alias.name, used, name)

    def test_functions(self):
        for name, tree in self.trees():
            for node in ast.walk(tree):
                if isinstance(node, (ast.FunctionDef, ast.ClassDef)):
                    self.assertLessEqual(node.end_lineno - node.lineno + 1, 40 if isinstance(node, ast.FunctionDef) else 399)
                    self.assertEqual(node.decorator_list, [])
                    if node.name not in SPECIAL:
                        self.assertIsNotNone(ast.get_docstring(node), (name, node.name))

    def test_statements_and_expressions(self):
        barred = (ast.Yield, ast.YieldFrom, ast.Await, ast.Global, ast.Nonlocal, ast.AnnAssign, ast.Div, ast.MatMult,
                  ast.GeneratorExp, ast.Lambda, ast.Import)
        for name, tree in self.trees():
            for node in ast.walk(tree):
                self.assertNotIsInstance(node, barred, name)
                if isinstance(node, ast.stmt):
                    self.assertIsInstance(node, STATEMENTS, name)
                if isinstance(node, ast.Constant):
                    self.assertNotIsInstance(node.value, (float, complex, bytes), name)
                if isinstance(node, ast.Compare) and isinstance(node.ops[0], (ast.Is, ast.IsNot)):
                    other = node.comparators[0]
                    kinds = isinstance(node.left, ast.Call) and node.left.func.id == 'type'
                    self.assertTrue(kinds or isinstance(other, ast.Constant) and other.value in (None, True, False))

    def test_names(self):
        for name, tree in self.trees():
            shared = set()
            for node in tree.body:
                if isinstance(node, ast.ImportFrom):
                    shared |= {alias.name for alias in node.names}
                if isinstance(node, ast.ClassDef):
                    shared.add(node.name)
            for node in ast.walk(tree):
                bound = None
                if isinstance(node, ast.Name) and isinstance(node.ctx, ast.Store):
                    bound = node.id
                elif isinstance(node, ast.arg):
                    bound = node.arg
                elif isinstance(node, ast.FunctionDef):
                    bound = node.name
                if bound is not None and bound not in SPECIAL:
                    self.assertFalse(hasattr(builtins, bound), (name, bound))
                    self.assertNotIn(bound, shared, (name, bound))
                    self.assertFalse(bound.startswith('__'))
                if isinstance(node, ast.Name) and isinstance(node.ctx, ast.Load):
                    self.assertNotEqual(node.id, '_', name)
                    if hasattr(builtins, node.id):
                        self.assertIn(node.id, BUILTINS, name)

    def test_methods(self):
        own = set()
        for name, tree in self.trees():
            for node in ast.walk(tree):
                if isinstance(node, ast.ClassDef):
                    own |= {part.name for part in node.body if isinstance(part, ast.FunctionDef)}
        plain = set(dir(str)) | set(dir(list)) | set(dir(dict)) | set(dir(set)) | set(dir(int)) | set(dir(bytes))
        self.assertFalse({name for name in own if name in plain and name not in SPECIAL})
        for name, tree in self.trees():
            for node in ast.walk(tree):
                if isinstance(node, ast.Call) and isinstance(node.func, ast.Attribute):
                    self.assertIn(node.func.attr, own | set(METHODS), name)

    def test_equality_asks_for_the_class_first(self):
        for name, tree in self.trees():
            for node in ast.walk(tree):
                if isinstance(node, ast.ClassDef):
                    for part in node.body:
                        if isinstance(part, ast.FunctionDef) and part.name == '__eq__':
                            first = ast.unparse(part.body[0]).split('\n')
                            self.assertEqual(first, [f'if not isinstance(other, {node.name}):', '    return False'])

    def test_iterated_at_once(self):
        for name, tree in self.trees():
            for node in ast.walk(tree):
                if isinstance(node, (ast.Assign, ast.Return)) and isinstance(node.value, ast.Call):
                    called = node.value.func
                    word = called.id if isinstance(called, ast.Name) else called.attr
                    self.assertNotIn(word, ITERATED_AT_ONCE + ('items', 'keys', 'values'), name)

    def test_module_level(self):
        for name, tree in self.trees():
            bound = []
            for node in tree.body:
                if isinstance(node, ast.Assign):
                    self.assertEqual(len(node.targets), 1)
                    ast.literal_eval(node.value)
                    bound.append(node.targets[0].id)
                elif isinstance(node, ast.Expr):
                    self.assertIs(node, tree.body[0])
                elif isinstance(node, ast.ImportFrom):
                    bound.extend(alias.name for alias in node.names)
                else:
                    self.assertIsInstance(node, (ast.FunctionDef, ast.ClassDef))
                    bound.append(node.name)
            self.assertEqual(len(bound), len(set(bound)), name)


class Interface(unittest.TestCase):

    def test_names_and_arguments(self):
        for file, names in INTERFACE.items():
            module = importlib.import_module('reelsplice.' + file)
            for name, arguments in names.items():
                found = getattr(module, name)
                self.assertEqual(found.__module__, 'reelsplice.' + file)
                if arguments is not None:
                    self.assertEqual(list(inspect.signature(found).parameters), arguments, name)

    def test_methods_of_classes(self):
        for path, methods in CLASSES.items():
            file, name = path.split('.')
            found = vars(getattr(importlib.import_module('reelsplice.' + file), name))
            for method, arguments in methods.items():
                self.assertEqual(list(inspect.signature(found[method]).parameters)[1:], arguments, (path, method))


if __name__ == '__main__':
    unittest.main()
