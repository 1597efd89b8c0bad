"""The form of the code: those rules of LANGUAGE.md that a plain look at the syntax can check."""

import ast
import builtins
import pathlib
import re
import unittest
import warnings

ROOT = pathlib.Path(__file__).resolve().parent.parent
FOLDER = ROOT / 'endclimbs'
FILES = sorted(path for path in FOLDER.rglob('*') if '__pycache__' not in path.parts and path.is_file())

BUILTINS = set('''len range enumerate zip min max sum abs sorted reversed int str bool bytes list tuple dict set
    frozenset isinstance ord repr any all divmod pow iter next Exception ValueError TypeError KeyError IndexError
    LookupError ZeroDivisionError ArithmeticError OverflowError RuntimeError NotImplementedError NotImplemented
    property staticmethod classmethod'''.split())
DUNDERS = set('''init eq repr str len enter exit call iter lt le gt ge ne add sub mul floordiv mod pow and or xor
    lshift rshift neg pos invert abs bool contains getitem setitem'''.split())
BARRED = re.compile(r'\b(typing|typing_extensions|enum|Enum|IntEnum|StrEnum|Flag|IntFlag|Generic|Protocol|ABC|ABCMeta'
                    r'|namedtuple|NamedTuple|TypedDict|TYPE_CHECKING|abstractmethod|type)\b')
UNUSED_NAMES = {'register', 'mro', 'elements', 'open', 'input', 'law', 'version_info', 'with_traceback', 'add_note',
                'map', 'filter', 'hash', 'id', 'eval', 'exec', 'os', 'gc', 'vars', 'dir', 'help', 'exit', 'quit'}
NODES_BARRED = (ast.Global, ast.AsyncFunctionDef, ast.Await, ast.GeneratorExp, ast.Set, ast.SetComp, ast.Lambda)
# The methods that modify a list, a dict or a set.
CHANGING = ('add', 'append', 'clear', 'discard', 'extend', 'insert', 'pop', 'remove', 'reverse', 'setdefault', 'sort',
            'update')
# The package has signs of order that raise; so sorted, min and max could only take plain numbers, and are not used.
CALLS_BARRED = {'sorted', 'min', 'max', 'getattr', 'setattr', 'hasattr', 'print'}

INTERFACE = {
    'kinds': 'is_integer is_number is_end is_ends is_row is_marks is_phase is_rule is_program is_span',
    'errors': '''ClimbError PaperError RuleError LiveError TextError InvalidPaper NotUsable NotRising Restless
        InvalidEvent NothingToUndo InvalidText InvalidRow''',
    'rulechecker': 'lets_rule',
    'rulechanges': 'with_mark without_mark with_marks shifted with_phase without_phase with_pair',
    'endvalues': 'End Range',
    'rulereadings': 'rule_read ends_read',
    'ruletexts': 'rule_text ends_text',
    'rules': 'Rule Plain Delayed',
    'casing': 'gap_of upper_mark room_of case_of',
    'climbing': 'moved ends_of states_of_row state_of rounds_of settled_end',
    'spots': 'spots_of steady_spots',
    'resting': 'rests rests_from rests_on_steps ring_of rest_paper',
    'restchecker': 'lets_rest',
    'stepping': 'incoming played end_on program_of restless_program',
    'rounds': 'most_rounds longest_row greatest_rounds',
    'programs': 'is_range is_step lets_names incoming_ranges',
    'excesses': 'is_exact inexact_row greatest_excess excess_row',
    'backing': 'is_back back_move narrowed is_safe unsafe_program',
    'choosing': 'least_marks delayed fitting_delays',
    'joint': 'joint_states',
    'alikeness': 'are_alike parting_row',
    'overtaking': 'never_above above_row above_paper',
    'overchecker': 'lets_above',
    'onsteps': 'never_above_on_steps above_program',
    'duels': 'Duel',
    'analyses': 'analysed walks_of all_results is_closed least_ranges',
    'liveevents': 'is_event',
    'lives': 'Live',
    'replaying': 'is_log replayed',
    'eventtexts': 'event_line log_lines',
    'eventreadings': 'read_event read_log',
    'desk': 'Desk',
}

# The parameters of the functions of stages 6 to 20, as the document writes them.
PARAMETERS = '''spots_of(rule) steady_spots(rule) rests(rule) rests_from(rule, first) rests_on_steps(rule) ring_of(rule)
    rest_paper(rule) lets_rest(rule, thing) incoming(program, x) played(rule, program, *, most=200)
    end_on(rule, program, *, most=200) program_of(rule, row) restless_program(rule) most_rounds(rule, first)
    longest_row(rule, first) greatest_rounds(rule) is_exact(rule, span) inexact_row(rule, span)
    greatest_excess(rule, span) excess_row(rule, span) is_back(thing) back_move(marks, back, x, y)
    narrowed(rule, program, back) is_safe(rule, back, span) unsafe_program(rule, back, span)
    least_marks(rule, first, most) delayed(rule, count) fitting_delays(rule, first, most)
    joint_states(rule, other, span) are_alike(rule, other) parting_row(rule, other) is_range(thing) is_step(thing)
    lets_names(thing) incoming_ranges(program, ranges, name) never_above(rule, other, span) above_row(rule, other, span)
    above_paper(rule, other, span) lets_above(rule, other, span, thing) never_above_on_steps(rule, other, span)
    above_program(rule, other, span) analysed(program, widening, order, *, most=60)
    walks_of(program, widening, order, *, most=60) all_results(program, widening) is_closed(program, ranges)
    least_ranges(program, *, most=60) is_event(thing) is_log(thing) replayed(log) event_line(event) log_lines(log)
    read_event(text) read_log(lines)'''

# The parameters of the methods of Live, Desk and Duel, behind self.
METHODS = {
    'duels': '__init__(rule, other) __call__(row) turned()',
    'lives': '''__init__(program, widening) visit(name) walk(names) back(name) add_step(step) drop_step(k)
        set_rule(side, rule) go(event) __call__(event) barred(event) coming(name) open_names() sheet() tried(*events)
        undo() do_all(*events, keep=False) counts() log()''',
    'desk': '__init__() say(row) counts()',
}


def parsed(path):
    with warnings.catch_warnings():
        warnings.simplefilter('error')
        source = path.read_text(encoding='utf-8')
        compile(source, str(path), 'exec')
        return ast.parse(source)


def names_bound(tree):
    """Every name that a file binds: parameters, variables, functions, classes and imports."""
    for node in ast.walk(tree):
        if isinstance(node, ast.arg):
            yield node.arg
        elif isinstance(node, ast.Name) and isinstance(node.ctx, ast.Store):
            yield node.id
        elif isinstance(node, (ast.FunctionDef, ast.ClassDef)):
            yield node.name
        elif isinstance(node, ast.alias):
            yield node.asname or node.name


def definitions():
    """The functions, the methods and the properties of the package, each with what is defined under its name."""
    functions, methods, properties = {}, {}, {}
    for path in FILES:
        for node in parsed(path).body:
            if isinstance(node, ast.FunctionDef):
                functions.setdefault(node.name, []).append(node)
            for inner in node.body if isinstance(node, ast.ClassDef) else []:
                if isinstance(inner, ast.FunctionDef):
                    # A class is called by its own name.
                    name = node.name if inner.name == '__init__' else inner.name
                    is_property = 'property' in map(ast.unparse, inner.decorator_list)
                    (properties if is_property else methods).setdefault(name, []).append(inner)
    return functions, methods, properties


def name_called(call):
    """The last name of what a call calls, None if it is none."""
    return getattr(call.func, 'id', getattr(call.func, 'attr', None))


def run_by_signs():
    """What the double-underscore methods that change nothing and the properties run, through what they call too."""
    functions, methods, properties = definitions()
    found = [node for nodes in properties.values() for node in nodes]
    for name, nodes in methods.items():
        if name.startswith('__') and name not in ('__init__', '__call__', '__setitem__'):
            found += nodes
    for node in found:
        for call in ast.walk(node):
            if isinstance(call, ast.Call):
                name = name_called(call)
                found += [inner for inner in functions.get(name, []) + methods.get(name, []) if inner not in found]
    return found


def made_here(node):
    """The variables of a function that are only ever assigned a list or dict which it makes."""
    made = [target for inner in ast.walk(node) if isinstance(inner, ast.Assign) for target in inner.targets
            if isinstance(inner.value, (ast.List, ast.Dict, ast.ListComp, ast.DictComp))]
    other = {inner.arg for inner in ast.walk(node) if isinstance(inner, ast.arg)}
    for inner in ast.walk(node):
        if isinstance(inner, ast.Name) and isinstance(inner.ctx, ast.Store) and inner not in made:
            other.add(inner.id)
    return {target.id for target in made if isinstance(target, ast.Name)} - other


class LanguageTest(unittest.TestCase):
    def trees(self):
        return [(path, parsed(path)) for path in FILES]

    def test_the_folder_holds_plain_files_only(self):
        self.assertIn('__init__.py', [path.name for path in FILES])
        for path in FILES:
            self.assertRegex(path.name, r'^[a-z0-9_]+\.py$')
            self.assertEqual(path.parent, FOLDER)

    def test_sizes_and_characters(self):
        for path in FILES:
            text = path.read_text(encoding='utf-8')
            lines = text.split('\n')
            self.assertLessEqual(len(lines) - 1, 399, path.name)
            self.assertLessEqual(max(map(len, lines)), 120, path.name)
            self.assertRegex(text, r'\A[ -~\n]*\Z', path.name)
            self.assertNotIn('%', text, path.name)

    def test_functions_are_short_and_plain(self):
        for path, tree in self.trees():
            for node in ast.walk(tree):
                if isinstance(node, ast.FunctionDef):
                    self.assertLessEqual(node.end_lineno - node.lineno + 1, 40, f'{path.name}: {node.name}')
                    for decorator in node.decorator_list:
                        self.assertIn(ast.unparse(decorator), ('property', 'staticmethod', 'classmethod'))
                    defaults = node.args.defaults + [default for default in node.args.kw_defaults if default]
                    for default in defaults:
                        ast.literal_eval(default)

    def test_imports(self):
        for path, tree in self.trees():
            body = [node for node in tree.body if not isinstance(node, ast.Expr)]
            imports = [node for node in ast.walk(tree) if isinstance(node, (ast.Import, ast.ImportFrom))]
            self.assertEqual(body[:len(imports)], imports)
            for node in imports:
                self.assertIsInstance(node, ast.ImportFrom)
                self.assertEqual(node.level, 0)
                self.assertRegex(node.module, r'^endclimbs\.[a-z]+$')
                defined = [inner.name for inner in parsed(FOLDER / f'{node.module[10:]}.py').body
                           if isinstance(inner, (ast.FunctionDef, ast.ClassDef))]
                values = [target.id for inner in parsed(FOLDER / f'{node.module[10:]}.py').body
                          if isinstance(inner, ast.Assign) for target in inner.targets]
                for alias in node.names:
                    self.assertIn(alias.name, defined + values)
                    self.assertIsNone(alias.asname)

    def test_imports_do_not_go_in_a_ring(self):
        needs = {}
        for path, tree in self.trees():
            needs[path.stem] = {node.module[10:] for node in tree.body if isinstance(node, ast.ImportFrom)}
        while needs:
            free = [name for name in needs if not needs[name] & set(needs)]
            self.assertTrue(free, f'a ring among {sorted(needs)}')
            for name in free:
                del needs[name]

    def test_module_level(self):
        for path, tree in self.trees():
            for node in tree.body:
                if isinstance(node, ast.Assign):
                    self.assertEqual(len(node.targets), 1)
                    ast.literal_eval(node.value)
                elif isinstance(node, ast.Expr):
                    self.assertIsInstance(node.value, ast.Constant)
                else:
                    self.assertIsInstance(node, (ast.ImportFrom, ast.FunctionDef, ast.ClassDef))

    def test_names(self):
        for path, tree in self.trees():
            imported = [alias.name for node in tree.body if isinstance(node, ast.ImportFrom) for alias in node.names]
            functions = [node.name for node in tree.body if isinstance(node, (ast.FunctionDef, ast.ClassDef))]
            self.assertEqual(len(set(imported + functions)), len(imported + functions))
            for name in names_bound(tree):
                self.assertNotIn(name, UNUSED_NAMES)
                if name.startswith('__'):
                    self.assertIn(name.strip('_'), DUNDERS)
                elif name != '_':
                    self.assertFalse(hasattr(builtins, name), f'{path.name}: {name}')
            for node in ast.walk(tree):
                if isinstance(node, ast.arg) or (isinstance(node, ast.Name) and isinstance(node.ctx, ast.Store)):
                    name = node.arg if isinstance(node, ast.arg) else node.id
                    self.assertNotIn(name, imported, path.name)

    def test_only_the_builtins_of_the_subset(self):
        for path, tree in self.trees():
            known = set(names_bound(tree)) | BUILTINS
            for node in ast.walk(tree):
                if isinstance(node, ast.Name):
                    self.assertIn(node.id, known)
                    self.assertNotIn(node.id, CALLS_BARRED)

    def test_expressions(self):
        for path, tree in self.trees():
            for node in ast.walk(tree):
                self.assertNotIsInstance(node, NODES_BARRED)
                self.assertNotIsInstance(node, ast.Div)
                if isinstance(node, ast.Constant):
                    self.assertNotIsInstance(node.value, (float, complex))
                if isinstance(node, ast.Compare) and isinstance(node.ops[0], (ast.Is, ast.IsNot)):
                    self.assertIn(ast.unparse(node.comparators[0]), ('None', 'True', 'False'))

    def test_what_stands_in_a_finally(self):
        for _, tree in self.trees():
            for node in ast.walk(tree):
                for inner in node.finalbody if isinstance(node, ast.Try) else []:
                    self.assertIsInstance(inner, ast.Assign)
                    self.assertIsInstance(inner.value, (ast.Name, ast.Attribute))

    def test_signs_change_nothing_but_by_an_item(self):
        for _, tree in self.trees():
            for node in ast.walk(tree):
                name = node.name.strip('_') if isinstance(node, ast.FunctionDef) and node.name.startswith('__') else 'init'
                if name not in ('init', 'call', 'setitem'):
                    for inner in ast.walk(node):
                        self.assertNotIsInstance(inner, (ast.AugAssign, ast.Delete))
                        if isinstance(inner, ast.Attribute):
                            self.assertIsInstance(inner.ctx, ast.Load)

    def test_signs_call_nothing_that_an_object_holds(self):
        functions, methods, _ = definitions()
        attributes = {inner.attr for _, tree in self.trees() for inner in ast.walk(tree)
                      if isinstance(inner, ast.Attribute) and isinstance(inner.ctx, ast.Store)}
        self.assertIn('index', attributes)
        for node in run_by_signs():
            own = set(names_bound(node)) - {node.name}
            for call in ast.walk(node):
                if isinstance(call, ast.Call):
                    # What is called is a function, a class or a method by its name, which no attribute has.
                    self.assertIsInstance(call.func, (ast.Name, ast.Attribute), node.name)
                    self.assertNotIn(name_called(call), attributes, node.name)
                    if isinstance(call.func, ast.Name):
                        self.assertNotIn(call.func.id, own, node.name)
                        self.assertIn(call.func.id, BUILTINS | set(functions) | set(methods), node.name)

    def test_what_signs_run_changes_only_what_it_makes(self):
        run = run_by_signs()
        self.assertGreater(len(run), 90)
        for node in run:
            made = made_here(node)
            for inner in ast.walk(node):
                self.assertNotIsInstance(inner, (ast.AugAssign, ast.Delete, ast.Global, ast.Nonlocal), node.name)
                if isinstance(inner, ast.Attribute) and node.name != '__init__':
                    self.assertIsInstance(inner.ctx, ast.Load, node.name)
                if isinstance(inner, ast.Subscript) and isinstance(inner.ctx, ast.Store):
                    self.assertIn(ast.unparse(inner.value), made, node.name)
                if isinstance(inner, ast.Call) and name_called(inner) in CHANGING:
                    self.assertIn(ast.unparse(inner.func.value), made, node.name)

    def test_words_that_do_not_occur(self):
        for path, tree in self.trees():
            for node in ast.walk(tree):
                if isinstance(node, (ast.Name, ast.Attribute)):
                    self.assertNotRegex(node.id if isinstance(node, ast.Name) else node.attr, BARRED)
                    if isinstance(node, ast.Attribute):
                        self.assertNotIn(node.attr, UNUSED_NAMES)

    def test_the_interface_is_defined_where_it_is_listed(self):
        for module, names in INTERFACE.items():
            tree = parsed(FOLDER / f'{module}.py')
            defined = [node.name for node in tree.body if isinstance(node, (ast.FunctionDef, ast.ClassDef))]
            for name in names.split():
                self.assertIn(name, defined)

    def test_the_parameters_are_those_of_the_interface(self):
        found = {}
        for names in INTERFACE:
            for node in parsed(FOLDER / f'{names}.py').body:
                if isinstance(node, ast.FunctionDef):
                    found[node.name] = ast.unparse(node.args)
        due = re.findall(r'(\w+)\(([^)]*)\)', PARAMETERS)
        self.assertEqual(len(due), 53)
        for name, parameters in due:
            self.assertEqual(found[name], parameters)

    def test_the_parameters_of_the_methods(self):
        for module, methods in METHODS.items():
            found = {}
            for node in ast.walk(parsed(FOLDER / f'{module}.py')):
                if isinstance(node, ast.ClassDef):
                    found = {inner.name: ast.unparse(inner.args) for inner in node.body if isinstance(inner, ast.FunctionDef)}
            for name, parameters in re.findall(r'(\w+)\(([^)]*)\)', methods):
                self.assertEqual(found[name], f'self, {parameters}' if parameters else 'self')


if __name__ == '__main__':
    unittest.main()
