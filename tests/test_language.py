"""The rules of LANGUAGE.md that the code itself shows, and the interface as it is listed."""

import ast
import builtins
import pathlib
import re
import unittest

PACKAGE = pathlib.Path(__file__).resolve().parent.parent / "effectonce"
FILES = sorted(PACKAGE.glob("*.py"))
TREES = {path.stem: ast.parse(path.read_text(encoding="utf-8")) for path in FILES}

INTERFACE = {
    "values": "is_value(value); is_name(value); rank(value); kept_text(text); is_true(value)",
    "commands": "is_command(value); names_in(command); size_of(command); attempt_worth(command, results, attempt); "
                "outcome_of(command, results, tries); folded(command)",
    "books": "is_job(value); is_book(value); names_of_jobs(book); job_of(book, name); units_of(book, thing); "
             "command_text(command); job_text(job); book_text(book); read_command(text); read_job(text); read_book(text)",
    "webs": "judge_book(value); need_book(value); ring_of(jobs); judge_ring(jobs, value); needs_of(book, name); "
            "needed_by(book, name); hangs_on(book, name); hung_on(book, name); way(book, one, other); "
            "judge_way(book, one, other, value)",
    "orders": "ranks(book); in_order(book); judge_order(book, value); widest(book); narrowest(book); "
              "judge_chains(book, value); closed(book, names); only(book, names); without(book, name); "
              "with_job(book, job); lots(book); renamed(book, names)",
    "meaning": "outcomes(book); outcome_due(book, name); results_due(book, name); tries_of(book, name); "
               "judge_outcomes(book, value); why(book, name); judge_why(book, value); blamed(book, name)",
    "swaying": "looked_at(book, name); truly_hangs(book, name); changed(book, other); "
               "with_command(book, name, command); swayed(book, name, command); sure(book, ended); rounds_of(book)",
    "plans": "plan_length(book, plan); judge_plan(book, m, value); dealt(book, begins); job_order(book); list_plan(book, m); "
             "turn_plan(book, m, order); least_plan(book, m); longer_example()",
    "lines": "earliest(book); longest_line(book); least_bound(book, m); judge_bound(book, m, value); line_of(book, m); "
             "judge_line(book, m, plan, value); line_bound(book, m, line)",
    "days": "is_calendar(value); has_time(c, t); times_in(c, low, high); next_time(c, t); count_times(c, high); repeats(c); "
            "plain_calendar(c); first_unlike(c, d); is_endless(c); calendar_of(plain)",
    "series": "made_name(stem, number); made_number(stem, name); made_jobs(series, low, high); "
              "made_book(things, jobs, some, high); makes(some, name)",
    "store": "new_store(book); has_ended(store, job); outcome_in(store, job); results_in(store, job); attempt_in(store, job); "
             "free_units(store); still_open(store); bars_grant(store, job); bar_need(store, job); ticked(store); "
             "store_hears(store, letter); store_again(book, records)",
    "seals": "word_text(word); read_word(text); check_of(text); sealed(text); records(texts); read_records(text)",
    "disks": "words_on(disk); mended(disk); written(disk, words); torn(disk, words, keep); is_record(who, value)",
    "recovery": "recovered_store(book, disk); recovered_keeper(disk); recovered_machine(m, disk); kept_letters(disk)",
    "keeper": "new_keeper(book, machines, epoch); keeper_back(book, machines, last); known_outcome(keeper, job); known_results(keeper, job); "
              "known_free(keeper); idle_machines(keeper); keeper_does(keeper); grants_now(keeper); bars_now(keeper); "
              "keeper_hears(keeper, letter); keeper_lapses(keeper, job); keeper_again(keeper)",
    "machines": "fresh_machine(m); machine_took(machine, job, fence, attempt, results); machine_stepped(machine, fence, steps); "
                "machine_put_away(machine, fence); machine_changed(machine, record); machine_again(m, records); "
                "machine_hears(machine, book, letter); end_letter(machine, book, fence); machine_works(machine, book); "
                "machine_tells(machine, book); open_works(machine, book); steps_missing(machine, book)",
    "air": "taken_out(air, k); doubled(air, k); for_whom(air, whom)",
    "world": "new_world(book, machines); is_event(world, value); after(world, event); played(world, script); who_is_down(world); "
             "store_of(world); outcomes_now(world); calm(world); left_over(world); judge_world(world)",
    "checker": "told_outcomes(store); have_all_ended(store); judge_store(store); judge_ends(store); why_now(store, job); "
               "judge_why_now(store, job, value); ready_now(store); waited_for(store)",
    "scripts": "event_text(event); read_event(text); script_text(script); read_script(text)",
    "letters": "judge_letter(value); is_letter(value); goes_to(letter); letter_text(letter); read_letter(value); "
               "is_answer(letter, answer); unanswered(sent, heard); fields_of(letter)",
}
# The classes of the interface, with their methods, each defined in the class itself.
CLASSES = {
    "house": ("House", "__init__(book, machines); world(); deeds(); do(deed); undo(); redo(); twin(); outcomes(); left(); down(); held(); "
                       "stand(); why(job); right()"),
    "desk": ("Desk", "__init__(book, machines); house(); say(line)"),
}
ERRORS = {"JobError": None, "BadText": ["place"], "BadBook": ["number", "word"], "BadScript": ["number"],
          "BadDisk": ["place"], "NothingDone": None, "TooMany": None, "NameTwice": ["name"]}
ERRORS_BY_FILE = {"books": "BadText", "webs": "BadBook", "orders": "BadBook", "recovery": "BadDisk", "world": "BadScript", "scripts": "BadText",
                  "house": "BadScript"}

BUILTINS = set(
    "len range enumerate zip min max sum abs sorted reversed int str bool list tuple dict set isinstance ord repr any all "
    "divmod pow Exception ValueError TypeError KeyError IndexError LookupError ZeroDivisionError".split())
METHODS = set(
    "append clear copy count endswith extend find get index insert isalnum isalpha isdigit islower isspace isupper items "
    "join keys ljust lower lstrip partition pop remove replace reverse rfind rjust rpartition rsplit rstrip setdefault "
    "split splitlines startswith strip update upper values zfill bit_length add discard".split())
STATEMENTS = (
    ast.Assign, ast.AugAssign, ast.If, ast.While, ast.For, ast.Return, ast.Break, ast.Continue, ast.Pass, ast.Raise, ast.Delete,
    ast.Try, ast.Expr, ast.FunctionDef, ast.ClassDef, ast.ImportFrom)
BARRED_WORDS = ("type", "typing", "enum", "Enum", "Flag", "Generic", "Protocol", "namedtuple", "dataclass", "overload")
BARRED_NAMES = set("register mro elements open input law version_info eval exec exit dir compile globals locals vars id help "
                   "os sys gc super quit copyright credits license builtins importlib".split())


def walked():
    for stem, tree in TREES.items():
        for node in ast.walk(tree):
            yield stem, node


def bound_names(function):
    """The parameters and local variables of a function."""
    arguments = function.args
    names = [each.arg for each in arguments.args + arguments.posonlyargs + arguments.kwonlyargs]
    return names + [each.id for each in ast.walk(function) if isinstance(each, ast.Name) and isinstance(each.ctx, ast.Store)]


class Files(unittest.TestCase):
    def test_only_plain_files(self):
        for path in PACKAGE.iterdir():
            if path.name != "__pycache__":
                self.assertRegex(path.name, r"\A([a-z][a-z0-9_]*|__init__)\.py\Z")

    def test_signs_and_sizes(self):
        for path in FILES:
            text = path.read_text(encoding="utf-8")
            self.assertRegex(text, r"\A[ -~\n]*\Z", path)
            lines = text.split("\n")
            self.assertLessEqual(len(lines), 399, path)
            self.assertLessEqual(max(len(line) for line in lines), 120, path)

    def test_functions_are_short(self):
        for stem, node in walked():
            if isinstance(node, ast.FunctionDef):
                self.assertLessEqual(node.end_lineno - node.lineno + 1, 40, (stem, node.name))
                self.assertEqual(node.decorator_list, [])


class Rules(unittest.TestCase):
    def test_imports(self):
        needed = {}
        for stem, tree in TREES.items():
            needed[stem] = []
            for node in ast.walk(tree):
                self.assertNotIsInstance(node, ast.Import)
                if isinstance(node, ast.ImportFrom):
                    self.assertIn(node, tree.body)
                    self.assertEqual(node.level, 0)
                    if node.module == "math":
                        self.assertLessEqual({name.name for name in node.names}, {"gcd", "lcm", "isqrt"})
                        continue
                    package, _, other = node.module.partition(".")
                    self.assertEqual(package, "effectonce")
                    needed[stem].append(other)
                    defined = [getattr(each, "name", None) for each in TREES[other].body]
                    defined += [each.targets[0].id for each in TREES[other].body if isinstance(each, ast.Assign)]
                    for each in node.names:
                        self.assertIsNone(each.asname)
                        self.assertIn(each.name, defined, (stem, other))
        while needed:
            free = [stem for stem in needed if not set(needed[stem]) & set(needed)]
            self.assertTrue(free, "imports go in a ring: " + ", ".join(needed))
            needed = {stem: needed[stem] for stem in needed if stem not in free}

    def test_imported_names_are_used(self):
        for stem, tree in TREES.items():
            used = {each.id for each in ast.walk(tree) if isinstance(each, ast.Name)}
            for node in tree.body:
                if isinstance(node, ast.ImportFrom):
                    self.assertEqual([each.name for each in node.names if each.name not in used], [], stem)

    def test_module_level(self):
        for stem, tree in TREES.items():
            bound = []
            for node in tree.body:
                self.assertIsInstance(node, (ast.Expr, ast.ImportFrom, ast.FunctionDef, ast.ClassDef, ast.Assign), stem)
                if isinstance(node, ast.Expr):
                    self.assertIsInstance(node.value, ast.Constant)
                if isinstance(node, ast.Assign):
                    self.assert_plain(node.value, bound)
                    bound.append(node.targets[0].id)
                bound += [each.name for each in getattr(node, "names", [])]
                bound += [node.name] if hasattr(node, "name") else []
            self.assertEqual(len(set(bound)), len(bound), stem)

    def assert_plain(self, value, bound):
        """A plain value; in dicts there may also be what is defined above."""
        if isinstance(value, ast.Dict):
            for key, part in zip(value.keys, value.values):
                ast.literal_eval(key)
                if isinstance(part, ast.Name):
                    self.assertIn(part.id, bound)
                else:
                    ast.literal_eval(part)
        else:
            ast.literal_eval(value)

    def test_statements(self):
        for stem, node in walked():
            if isinstance(node, ast.stmt):
                self.assertIsInstance(node, STATEMENTS, (stem, node.lineno))

    def test_names(self):
        known = set(dir(builtins))
        for stem, node in walked():
            if isinstance(node, ast.Name) and node.id in known:
                self.assertIn(node.id, BUILTINS, (stem, node.lineno))
                self.assertIsInstance(node.ctx, ast.Load, (stem, node.lineno))
            if isinstance(node, (ast.FunctionDef, ast.ClassDef)):
                self.assertNotIn(node.name, known | BARRED_NAMES)
            if isinstance(node, ast.Attribute):
                self.assertNotIn(node.attr, BARRED_NAMES | {"args", "format"}, stem)
            if isinstance(node, ast.FunctionDef):
                imported = [name.name for each in TREES[stem].body if isinstance(each, ast.ImportFrom) for name in each.names]
                for name in bound_names(node):
                    self.assertNotIn(name, known | set(imported) | BARRED_NAMES, (stem, node.name))

    def test_methods(self):
        own = {node.name for _, node in walked() if isinstance(node, ast.FunctionDef)}
        for stem, node in walked():
            if isinstance(node, ast.Call) and isinstance(node.func, ast.Attribute):
                self.assertIn(node.func.attr, METHODS | own, (stem, node.lineno))

    def test_strings(self):
        for stem, node in walked():
            if isinstance(node, ast.Constant):
                self.assertNotIsInstance(node.value, (float, complex, bytes))
            if isinstance(node, ast.Constant) and isinstance(node.value, str):
                self.assertNotIn("%", node.value, stem)
                self.assertNotRegex(node.value, r"\A__.*__\Z|\._\Z|\.__\Z")

    def test_words(self):
        for path in FILES:
            for word in BARRED_WORDS:
                self.assertIsNone(re.search(rf"\b{word}\b", path.read_text(encoding="utf-8")), (path, word))

    def test_is_with_plain_constants_alone(self):
        for stem, node in walked():
            if isinstance(node, ast.Compare) and any(isinstance(each, (ast.Is, ast.IsNot)) for each in node.ops):
                self.assertIsInstance(node.comparators[0], ast.Constant, (stem, node.lineno))


class Interface(unittest.TestCase):
    def test_functions(self):
        for stem, listed in INTERFACE.items():
            defined = {node.name: node for node in TREES[stem].body if isinstance(node, ast.FunctionDef)}
            for row in listed.split("; "):
                name, _, arguments = row[:-1].partition("(")
                self.assertIn(name, defined, stem)
                due = arguments.split(", ") if arguments else []
                self.assertEqual([each.arg for each in defined[name].args.args], due, name)

    def test_classes(self):
        for stem, (name, listed) in CLASSES.items():
            defined = {node.name: node for node in TREES[stem].body if isinstance(node, ast.ClassDef)}[name]
            methods = {node.name: node for node in defined.body if isinstance(node, ast.FunctionDef)}
            for row in listed.split("; "):
                method, _, arguments = row[:-1].partition("(")
                self.assertIn(method, methods, name)
                self.assertEqual([each.arg for each in methods[method].args.args], ["self"] + (arguments.split(", ") if arguments else []), method)

    def test_all_files_of_the_document(self):
        self.assertLessEqual(set(INTERFACE) | set(CLASSES) | {"errors"}, set(TREES))

    def test_errors(self):
        classes = {node.name: node for node in TREES["errors"].body if isinstance(node, ast.ClassDef)}
        self.assertEqual(list(classes), list(ERRORS))
        for name, parts in ERRORS.items():
            self.assertEqual([base.id for base in classes[name].bases], ["ValueError" if name == "JobError" else "JobError"])
            made = [each for each in classes[name].body if isinstance(each, ast.FunctionDef)]
            if parts is None:
                self.assertEqual(made, [])
            else:
                self.assertEqual([each.arg for each in made[0].args.args], ["self"] + parts)

    def test_errors_stand_where_they_are_raised(self):
        for stem, name in ERRORS_BY_FILE.items():
            imported = [each.name for node in TREES[stem].body if isinstance(node, ast.ImportFrom) for each in node.names]
            self.assertIn(name, imported)


if __name__ == "__main__":
    unittest.main()
