"""The form of the package's code: what ../shared/LANGUAGE.md asks, as far as it is easily seen.

Some rules here are narrower than there, where the package does not need the rest.
"""

import ast
import builtins
import functools
import keyword
import os
import re
import unittest
import warnings

HOME = os.path.join(os.path.dirname(os.path.dirname(os.path.abspath(__file__))), 'actasone')
BUILTINS = set(
    'len range enumerate zip min max sum abs sorted reversed int str bool list tuple dict set isinstance ord repr any all '
    'divmod iter ValueError'.split()
)
METHODS = set(
    'append clear copy count endswith extend find get index insert isalnum isalpha isdigit islower isspace isupper items join '
    'keys ljust lower lstrip partition pop remove replace reverse rfind rjust rpartition rsplit rstrip setdefault split '
    'splitlines startswith strip update upper values zfill bit_length'.split()
)
SPECIAL = set(
    '__init__ __eq__ __repr__ __str__ __len__ __call__ __iter__ __contains__ __getitem__ __add__ __iadd__ __and__ __or__ __mod__ '
    '__sub__'.split()
)
BARRED_NAMES = set(
    'register mro elements open input law version_info with_traceback add_note attrgetter breakpoint builtins compile copyright '
    'credits delattr dir eval exec exit gc getattr globals hasattr help id importlib license locals methodcaller os quit setattr '
    'super type vars sys'.split()
)
BARRED_WORDS = set(
    'type typing typing_extensions enum Enum IntEnum StrEnum Flag IntFlag Generic Protocol ABC ABCMeta namedtuple NamedTuple '
    'TypedDict TYPE_CHECKING abstractmethod'.split()
)
NODES = (
    ast.Module, ast.Expr, ast.ImportFrom, ast.alias, ast.FunctionDef, ast.ClassDef, ast.arguments, ast.arg, ast.Assign, ast.Name,
    ast.Constant, ast.If, ast.While, ast.For, ast.Return, ast.Raise, ast.Break, ast.Continue, ast.Pass, ast.Call, ast.Attribute,
    ast.Subscript, ast.Slice, ast.BinOp, ast.UnaryOp, ast.BoolOp, ast.Compare, ast.IfExp, ast.List, ast.Tuple, ast.Dict, ast.ListComp,
    ast.DictComp, ast.SetComp, ast.GeneratorExp, ast.comprehension, ast.JoinedStr, ast.FormattedValue, ast.Starred, ast.keyword,
    ast.expr_context, ast.operator, ast.unaryop, ast.boolop, ast.cmpop, ast.Try, ast.ExceptHandler,
)
LAZY = ('zip', 'enumerate', 'range', 'reversed')
FROM_LAZY = ('list', 'tuple', 'dict', 'sorted', 'sum', 'any', 'all', 'enumerate', 'zip')
EAGER = ('any', 'all', 'min', 'max', 'sum', 'sorted')


def files():
    for name in sorted(os.listdir(HOME)):
        if name != '__pycache__':
            with open(os.path.join(HOME, name), encoding='utf-8') as file:
                yield name, file.read()


@functools.cache
def trees():
    told = []
    for name, text in files():
        tree = ast.parse(text)
        for node in ast.walk(tree):
            for child in ast.iter_child_nodes(node):
                child.parent = node
        told.append((name, tree))
    return told


def called(node):
    return node.func.id if isinstance(node, ast.Call) and isinstance(node.func, ast.Name) else None


def functions(tree):
    return [node for node in ast.walk(tree) if isinstance(node, ast.FunctionDef)]


@functools.cache
def classes():
    return {node.name: node for _, tree in trees() for node in tree.body if isinstance(node, ast.ClassDef)}


def parameters(function):
    parts = function.args
    return [part.arg for part in parts.posonlyargs + parts.args + parts.kwonlyargs + [parts.vararg, parts.kwarg] if part]


class Language(unittest.TestCase):
    def test_files(self):
        names = [name for name, _ in files()]
        self.assertIn('__init__.py', names)
        self.assertLessEqual(len(names), 100)
        for name, text in files():
            self.assertRegex(name, '^(__init__|[a-z][a-z0-9_]*)[.]py$')
            self.assertFalse(name[:-3] in vars(builtins))
            self.assertRegex(text, r'^[ -~\n]*$')
            self.assertTrue(text.endswith('\n') and not text.endswith('\n\n'))
            lines = text.split('\n')
            self.assertLessEqual(len(lines) - 1, 399, name)
            for line in lines:
                self.assertLessEqual(len(line), 120, name)
                self.assertEqual(line, line.rstrip())
            self.assertNotIn('_wall', text)
            self.assertIsNone(re.search(r'[(]type[)]|Meta|metaclass=|dataclass|overload|contextmanager', text))

    def test_no_warning(self):
        with warnings.catch_warnings():
            warnings.simplefilter('error')
            for name, text in files():
                compile(text, name, 'exec')

    def test_nodes(self):
        for name, tree in trees():
            for node in ast.walk(tree):
                self.assertIsInstance(node, NODES, (name, ast.dump(node)))

    def test_imports(self):
        above = {}
        for name, tree in trees():
            above[name[:-3]] = []
            seen = False
            for node in tree.body:
                if not isinstance(node, (ast.ImportFrom, ast.Expr)):
                    seen = True
                if isinstance(node, ast.ImportFrom):
                    self.assertFalse(seen, name)
                    self.assertTrue(node.module.startswith('actasone.') and node.level == 0)
                    place = node.module.split('.')[1]
                    above[name[:-3]].append(place)
                    defined = dict(trees())[place + '.py'].body
                    own = {part.name for part in defined if isinstance(part, (ast.FunctionDef, ast.ClassDef))}
                    own |= {part.targets[0].id for part in defined if isinstance(part, ast.Assign)}
                    used = {part.id for part in ast.walk(tree) if isinstance(part, ast.Name)}
                    for part in node.names:
                        self.assertIsNone(part.asname)
                        self.assertIn(part.name, own, (name, part.name))
                        self.assertIn(part.name, used, (name, part.name))
            self.assertEqual(len(above[name[:-3]]), len(set(above[name[:-3]])), name)
        while above:
            free = [name for name, needed in above.items() if not any(part in above for part in needed)]
            self.assertTrue(free, above)
            for name in free:
                del above[name]

    def test_module_level(self):
        for name, tree in trees():
            bound = []
            for node in tree.body:
                if isinstance(node, ast.Expr):
                    self.assertIs(node, tree.body[0])
                    self.assertIsInstance(node.value, ast.Constant)
                elif isinstance(node, ast.Assign):
                    self.assertEqual(len(node.targets), 1)
                    bound.append(node.targets[0].id)
                    self.assertFalse(any(isinstance(part, (ast.Call, ast.ListComp)) for part in ast.walk(node)))
                elif isinstance(node, ast.ImportFrom):
                    bound += [part.name for part in node.names]
                else:
                    self.assertIsInstance(node, (ast.FunctionDef, ast.ClassDef))
                    bound.append(node.name)
            self.assertEqual(len(bound), len(set(bound)), name)
            for node in ast.walk(tree):
                if isinstance(node, ast.ClassDef):
                    self.assertIsInstance(node.parent, ast.Module)

    def test_names(self):
        for name, tree in trees():
            taken = {part.name for part in tree.body if isinstance(part, ast.ClassDef)}
            for node in tree.body:
                if isinstance(node, ast.ImportFrom):
                    taken |= {part.name for part in node.names}
            for function in functions(tree):
                local = set(parameters(function))
                local |= {n.id for n in ast.walk(function) if isinstance(n, ast.Name) and isinstance(n.ctx, ast.Store)}
                for word in local:
                    self.assertNotIn(word, taken, (name, function.name))
                    self.assertFalse(word in vars(builtins), (name, word))
                    self.assertNotIn(word, BARRED_NAMES)
                    self.assertRegex(word, '^(_|_?[a-z][a-z0-9_]*)$')
                if not isinstance(function.parent, ast.ClassDef):
                    self.assertFalse(function.name in vars(builtins))
                self.assertNotIn(function.name, BARRED_NAMES)
                loads = [n.id for n in ast.walk(function) if isinstance(n, ast.Name) and isinstance(n.ctx, ast.Load)]
                self.assertNotIn('_', loads)
            for node in ast.walk(tree):
                if isinstance(node, ast.Attribute):
                    self.assertFalse(node.attr.startswith('__') and node.attr != '__init__')
                    self.assertNotIn(node.attr, BARRED_NAMES | {'args', 'format', 'encode'})
                if isinstance(node, ast.keyword):
                    self.assertIsNotNone(node.arg)

    def test_functions(self):
        for name, tree in trees():
            for function in functions(tree):
                self.assertLessEqual(function.end_lineno - function.lineno + 1 + len(function.decorator_list), 40, function.name)
                self.assertIsInstance(function.parent, (ast.Module, ast.ClassDef))
                for part in function.decorator_list:
                    self.assertIn(part.id, ('property', 'classmethod', 'staticmethod'))
                if function.name.startswith('__'):
                    self.assertIn(function.name, SPECIAL)
                    self.assertIsInstance(function.parent, ast.ClassDef)
                if function.name == '__len__':
                    self.assertEqual(called(function.body[-1].value), 'len')
                if function.name == '__iter__':
                    self.assertEqual([called(part.value) for part in function.body], ['iter'])
                if function.name in ('__str__', '__repr__'):
                    value = function.body[-1].value
                    self.assertTrue(called(value) in ('str', 'repr') or value.func.attr == 'join')
                self.assertIsNone(function.returns)
                for part in function.args.args:
                    self.assertIsNone(part.annotation)

    def test_classes(self):
        methods, attributes = set(), set()
        for name, tree in trees():
            for node in ast.walk(tree):
                if isinstance(node, ast.ClassDef):
                    own = [part.name for part in node.body if isinstance(part, ast.FunctionDef)]
                    self.assertEqual(len(own), len(set(own)))
                    if '__getitem__' in own:
                        self.assertIn('__iter__', own)
                    methods |= set(own)
                    self.assertLessEqual(len(node.bases), 1)
                    self.assertEqual(node.decorator_list, [])
                if isinstance(node, ast.Attribute) and isinstance(node.ctx, ast.Store):
                    self.assertIsInstance(node.value, ast.Name)
                    attributes.add(node.attr)
        self.assertEqual(methods & attributes, set())

    def test_calls(self):
        own = set()
        for _, tree in trees():
            own |= {node.name for node in ast.walk(tree) if isinstance(node, (ast.FunctionDef, ast.ClassDef))}
        for name, tree in trees():
            for node in ast.walk(tree):
                if isinstance(node, ast.Name) and node.id in vars(builtins):
                    self.assertIn(node.id, BUILTINS | {'property', 'classmethod', 'staticmethod', 'super'}, name)
                    if node.id == 'super':
                        # Directly in a method: super().told(..).
                        call = node.parent.parent.parent
                        self.assertTrue(isinstance(call, ast.Call) and isinstance(call.func, ast.Attribute) and call.func.value is node.parent)
                        self.assertEqual(node.parent.args + node.parent.keywords, [])
                        self.assertFalse(call.func.attr.startswith('__'))
                    if node.id in BUILTINS and node.id not in ('ValueError', 'int', 'str', 'tuple', 'bool', 'list'):
                        is_called = isinstance(node.parent, ast.Call) and node.parent.func is node
                        is_key = isinstance(node.parent, ast.keyword) and node.parent.arg == 'key' and node.id == 'len'
                        self.assertTrue(is_called or is_key, (name, node.id))
                if isinstance(node, ast.Call):
                    if isinstance(node.func, ast.Attribute):
                        self.assertIn(node.func.attr, METHODS | own, name)
                        self.assertNotEqual(node.func.attr, 'sort')
                    else:
                        self.assertIsInstance(node.func, ast.Name)
                    for part in node.args:
                        if isinstance(part, ast.Starred):
                            self.assertIsInstance(part.value, ast.Name)
                    if called(node) in BUILTINS:
                        self.assertLessEqual({part.arg for part in node.keywords}, {'key', 'reverse', 'start', 'default'})

    def test_iterated_at_once(self):
        for name, tree in trees():
            for node in ast.walk(tree):
                lazy = called(node) in LAZY or (
                    isinstance(node, ast.Call) and isinstance(node.func, ast.Attribute) and node.func.attr == 'items'
                )
                if lazy:
                    parent = node.parent
                    looped = isinstance(parent, (ast.For, ast.comprehension)) and parent.iter is node
                    self.assertTrue(looped or called(parent) in FROM_LAZY, (name, node.lineno))
                if called(node) == 'reversed':
                    self.assertIn(called(node.args[0]), ('list', 'tuple', 'sorted', 'range'))
                if isinstance(node, ast.GeneratorExp):
                    parent = node.parent
                    joins = isinstance(parent, ast.Call) and isinstance(parent.func, ast.Attribute) and parent.func.attr == 'join'
                    self.assertTrue(joins or called(parent) in ('tuple', 'list', 'dict'), (name, node.lineno))
                if called(node) == 'set' or isinstance(node, ast.SetComp):
                    self.assertIn(called(node.parent), ('sorted', 'len'), (name, node.lineno))
                    self.assertEqual(node.parent.keywords, [])

    def test_is_and_signs(self):
        for name, tree in trees():
            for node in ast.walk(tree):
                if isinstance(node, ast.Compare):
                    for sign, right in zip(node.ops, node.comparators):
                        if isinstance(sign, (ast.Is, ast.IsNot)):
                            self.assertTrue(isinstance(right, ast.Constant) and right.value in (None, True, False))
                if isinstance(node, ast.BinOp):
                    self.assertNotIsInstance(node.op, (ast.Div, ast.Pow, ast.MatMult, ast.Mod))
                if isinstance(node, ast.Constant):
                    self.assertNotIsInstance(node.value, (float, complex, bytes))

    def test_strings(self):
        for name, text in files():
            docs = [
                ast.get_docstring(node, clean=False)
                for node in ast.walk(ast.parse(text))
                if isinstance(node, (ast.Module, ast.ClassDef, ast.FunctionDef))
            ]
            for node in ast.walk(ast.parse(text)):
                if isinstance(node, ast.Constant) and isinstance(node.value, str):
                    self.assertNotIn('%', node.value)
                    self.assertFalse(node.value.endswith(('._', '.__')))
                    self.assertFalse(node.value.startswith('__'))
                    if node.value not in docs:
                        self.assertFalse(set(re.findall(r'\w+', node.value)) & BARRED_WORDS)
                if isinstance(node, (ast.Name, ast.Attribute, ast.arg)):
                    word = getattr(node, 'id', None) or getattr(node, 'attr', None) or getattr(node, 'arg', None)
                    self.assertNotIn(word, BARRED_WORDS)
                    self.assertFalse(keyword.iskeyword(word))

    def test_loops_do_not_change_what_they_go_over(self):
        changing = {'append', 'clear', 'extend', 'insert', 'pop', 'remove', 'reverse', 'setdefault', 'update'}
        for name, tree in trees():
            for loop in ast.walk(tree):
                if not isinstance(loop, ast.For):
                    continue
                over = {ast.dump(part) for part in ast.walk(loop.iter) if isinstance(part, (ast.Name, ast.Attribute))}
                for node in [part for row in loop.body for part in ast.walk(row)]:
                    if isinstance(node, ast.Call) and isinstance(node.func, ast.Attribute) and node.func.attr in changing:
                        self.assertNotIn(ast.dump(node.func.value), over, (name, loop.lineno))
                    if isinstance(node, ast.Subscript) and isinstance(node.ctx, ast.Store):
                        self.assertNotIn(ast.dump(node.value), over, (name, loop.lineno))

    def test_only_what_was_made_here_is_changed(self):
        """A list or dict that is changed was made right here, for a plain local variable, or is an
        attribute of self."""
        for name, tree in trees():
            for function in functions(tree):
                made = {
                    node.targets[0].id
                    for node in ast.walk(function)
                    if isinstance(node, ast.Assign)
                    and isinstance(node.targets[0], ast.Name)
                    and (isinstance(node.value, (ast.List, ast.Dict, ast.ListComp)) or called(node.value) in ('list', 'dict', 'sorted'))
                }
                for node in ast.walk(function):
                    changed = None
                    if isinstance(node, ast.Call) and isinstance(node.func, ast.Attribute):
                        if node.func.attr in ('append', 'extend', 'insert', 'pop', 'update', 'setdefault', 'remove', 'clear'):
                            changed = node.func.value
                    if isinstance(node, ast.Subscript) and isinstance(node.ctx, ast.Store):
                        changed = node.value
                    if isinstance(changed, ast.Attribute) and isinstance(function.parent, ast.ClassDef):
                        self.assertEqual(changed.value.id, function.args.args[0].arg, (name, function.name))
                    elif changed is not None and (name, function.name) != ('readings.py', 'read_lines'):
                        self.assertIsInstance(changed, ast.Name, (name, function.name))
                        self.assertIn(changed.id, made, (name, function.name))

    def test_errors_that_are_caught(self):
        """Own errors alone, by name, around a single statement; only their fields are read."""
        errors = {node.name for node in dict(trees())['errors.py'].body if isinstance(node, ast.ClassDef)}
        for name, tree in trees():
            for node in ast.walk(tree):
                if isinstance(node, ast.Try):
                    self.assertEqual([len(node.body), node.orelse, node.finalbody], [1, [], []], name)
                    for handler in node.handlers:
                        self.assertIn(handler.type.id, errors, name)
                        for part in ast.walk(handler):
                            if isinstance(part, ast.Name) and part.id == handler.name:
                                self.assertIsInstance(part.parent, ast.Attribute, name)

    def test_what_operators_and_properties_run(self):
        """What they call, near or far, changes only what it made itself: nothing of an object, and
        no dict that a comprehension made. (Making an object is let.)"""
        bodies = {}
        for name, tree in trees():
            for function in functions(tree):
                bodies.setdefault(function.name, []).append(function)
        begun = []
        for _, tree in trees():
            for function in functions(tree):
                decorators = [part.id for part in function.decorator_list]
                if function.name in SPECIAL - {'__init__', '__call__', '__iadd__'} or decorators == ['property']:
                    begun.append(function)
        seen = set()
        while begun:
            function = begun.pop()
            if function in seen:
                continue
            seen.add(function)
            for node in ast.walk(function):
                self.assertNotIsInstance(node, ast.AugAssign, function.name)
                if isinstance(node, ast.Attribute) and isinstance(node.ctx, (ast.Store, ast.Del)):
                    self.assertEqual(function.name, '__init__')
                if isinstance(node, ast.Subscript) and isinstance(node.ctx, ast.Store):
                    self.assertIsInstance(node.value, ast.Name, function.name)
                if isinstance(node, ast.Call):
                    word = node.func.id if isinstance(node.func, ast.Name) else node.func.attr
                    self.assertNotIn(word, ('add', 'discard', 'sort'))
                    begun += bodies.get(word, [])
                    if word in classes():
                        begun += [part for part in classes()[word].body if getattr(part, 'name', None) == '__init__']
