"""The package as it is written: the interface's names, and the rules of the language that can be read off the text."""

import ast
import builtins
import importlib
import inspect
import unittest
from pathlib import Path

FOLDER = Path(__file__).resolve().parent.parent / "alikeagain"
FILES = sorted(FOLDER.rglob("*.py"))

INTERFACE = {
    "nets": "need_net(net) need_settings(net,settings) many_stations(net) many_rows(net) turned(net) ways(net,one,other)",
    "rounds": "need_round(net,one_round) need_hearing(net,hearing) hears(net,one_round,faults) "
              "track(net,one_round,faults,station) hurt(net,one_round,faults) explaining(net,one_round,hearing)",
    "faults": "need_faults(net,faults) single_faults(net) ways_left(net,faults,one,other) lost_pairs(net,faults)",
    "passing": "can_have(net,hearing,faults) first_settings(net,hearing,faults) count_settings(net,hearing,faults) "
               "have_paper(net,hearing,faults) check_have(net,hearing,faults,paper) need_wants(net,wants) "
               "busiest(net,wants) fewest_rounds(net,wants,faults) serving_rounds(net,wants,faults) "
               "do_serve(net,wants,faults,value)",
    "letters": "need_text(text) need_word(word) need_size(size) need_times(times) copied(word,size,place) "
               "lead(word,size) turns(word,size) stays(word,size) root(word,size) extras(word,size) "
               "copies_from(word,text,size) places_from(word,text,size) heard_count(text,size,times) "
               "heard_words(text,size,times)",
    "books": "need_book(book) mixed_up(book,size,times) is_clear(book,size,times) clear_times(book,size) "
             "is_safe(book,size) book_paper(book,size,times) check_book(book,size,times,paper) "
             "root_count(signs,length,size) safe_most(signs,length,size) safe_length(many,signs,size) "
             "safe_book(many,signs,size)",
    "reading": "heard_of(book,size,times,word) read(book,size,times,word) is_sure(book,size,times,number) "
               "unread_word(book,size,times,number) sure_numbers(book,size,times)",
    "kinds": "need_kind(kind) need_state(kind,state) coming(kind) merged(kind,one,other) updated(kind,state,update) "
             "read(kind,state) is_making(kind,value) made(kind,making) fewest_rows(kind,state) making_of(kind,state) "
             "trimmed(kind)",
    "joins": "joins(kind) broken_rules(kind) join_paper(kind) check_join(kind,paper) let_lots(kind)",
    "hearing": "does_only_that_matter(kind) hearing_paper(kind) check_hearing(kind,paper) heard(kind,stand,steps)",
    "order": "below(kind) joined(kind,states) top(kind) bricks(kind) height(kind) breadth(kind) longest_chain(kind) "
             "bricks_of(kind,state)",
    "telling": "stand_join(kind,stand) does_tell(kind,stand,lot) least_lots(kind,stand) fewest_lot(kind,stand) "
               "needed(kind,stand) stand_count(kind,many,state)",
    "showing": "showing(kind) heard_alike(kind) come_alike(kind) least_kind(kind) enough_lots(kind,stand)",
    "adding": "rises(kind,update) added(kind,update) add_paper(kind) check_add(kind,paper)",
    "plans": "need_plan(net,plan) next_moment(net,plan,moment) hears_at(net,plan,faults,moment) "
             "turned_ring(net,plan,many)",
    "news": "news(net,plan,faults,moment,many) first_news(net,plan,faults,moment) "
            "way_of(net,plan,faults,moment,one,other) is_way(net,plan,faults,moment,way)",
    "delays": "delay(net,plan,faults) moment_delay(net,plan,faults,moment) delay_paper(net,plan,faults) "
              "check_delay(net,plan,faults,paper) doubling_plan(net)",
    "menus": "hears_of_menu(net,menu) all_hear(net,menu) least_lots(net,menu) shortest_ring(net,menu) "
             "soonest_ring(net,menu) needless_rounds(net,plan)",
    "losses": "worst_lot(net,plan,many) worst_paper(net,plan,many) is_lasting(net,plan,many) parting_wires(net,plan) "
              "idle_wires(net,plan) stuck_delays(net,plan)",
    "relays": "need_relay(relay) missable(relay) step(relay,faults,moment,stand,unread) "
              "laters(relay,faults,moment,stand) stand_after(relay,faults,moment,stand,many)",
    "ranks": "stands(relay) ranks(relay,faults) rank_at(relay,faults,moment,stand)",
    "settling": "settles(relay,faults) failing_parts(relay,faults) settle_paper(relay,faults) "
                "check_settle(relay,faults,paper)",
    "runs": "run_stands(relay,faults,moment,stand,steps) heard_updates(relay,faults,moment,stand,steps) "
            "shows(relay,stand) reached(relay,faults,moment,stand,many) surely_read(relay,faults,moment,stand,many)",
    "probes": "need_test(net,kind,test) need_tests(net,kind,tests) outcome(net,kind,faults,test) "
              "outcomes(net,kind,faults,tests) all_faults(net,most) are_alike(net,kind,one,other) "
              "classes(net,kind,most) parting_test(net,kind,one,other)",
    "naming": "names(net,kind,tests,most) mixed_pair(net,kind,tests,most) kinds_told(net,kind,tests,most) "
              "name_paper(net,kind,tests,most) check_names(net,kind,tests,most,paper) enough_tests(net,kind,tests,most)",
    "seen": "need_seen(net,kind,seen) fitting(net,kind,seen,most) first_false(net,kind,seen,most) "
            "heads_left(net,kind,seen,most) is_named(net,kind,seen,most) next_test(net,kind,seen,most,tests)",
    "sayings": "need_saying(relay,saying) is_so(relay,moment,stand,saying) laters_by(relay,faults,may,moment,stand)",
    "wishes": "need_wish(relay,wish) wish_holds(relay,faults,may,begin,wish) least_within(relay,faults,may,begin,saying) "
              "least_from(relay,faults,may,begin,saying) which_hold(relay,faults,may,begin,wishes) "
              "needed_messages(relay,faults,may,wish)",
    "wishpapers": "fulfils(relay,wish,ahead,loop) wish_paper(relay,faults,may,begin,wish) "
                  "check_wish(relay,faults,may,begin,wish,paper)",
    "terms": "need_kind_term(kind_term) need_ring_term(net,ring_term) kind_of(kind_term) ring_of(net,ring_term) "
             "kind_terms_in(kind_term) ring_terms_in(net,ring_term)",
    "lines": "net_text(net) kind_text(kind_term) ring_text(net,ring_term) saying_text(relay,saying) wish_text(relay,wish) "
             "read_net(text) read_kind(text) read_ring(net,text) read_wish(relay,text)",
    "sheets": "relay_of(text) judged(text)",
    "live": "under(manager,deed)",
    "logs": "begin_stands(relay,faults,log) shown_next(relay,faults,log) fitting_faults(relay,menu,log) "
            "first_false(relay,faults,log)",
}
# Of each class the file, its parameters, its properties, its methods with their parameters.
CLASSES = {
    "Live": ("live", "relay,moment,stand", "relay moment stand faults",
             "update(station,number) go(doubled) put(fault) heal(fault) is_alike() settles() undo() copy() trial() "
             "__len__() __eq__(other)"),
    "Desk": ("desk", "text", "live", "say(line)"),
}

LIBRARY = {
    "heapq": "heappush heappop heapify heapreplace heappushpop",
    "math": "gcd lcm isqrt comb perm factorial",
    "itertools": "product combinations permutations",
}
BUILTINS = set(
    "len range enumerate zip min max sum abs sorted reversed int str bool bytes list tuple dict set frozenset isinstance "
    "ord repr any all divmod iter next map super property staticmethod classmethod Exception ValueError TypeError "
    "KeyError IndexError LookupError ZeroDivisionError ArithmeticError OverflowError RuntimeError "
    "NotImplementedError AttributeError StopIteration NotImplemented".split())
METHODS = set(
    "append clear copy count endswith extend find get index insert isalnum isalpha isdigit islower isspace isupper items "
    "join keys ljust lower lstrip partition pop remove replace reverse rfind rjust rpartition rsplit rstrip setdefault "
    "split splitlines startswith strip update upper values zfill bit_length add discard".split())
BARRED = set(
    "register mro elements open input law version_info with_traceback add_note attrgetter breakpoint builtins compile "
    "copyright credits delattr dir eval exec exit gc getattr globals hasattr help id importlib license locals "
    "methodcaller os quit setattr type vars sys".split())
WORDS = ("type", "typing", "typing_extensions", "enum", "Enum", "IntEnum", "StrEnum", "Flag", "IntFlag", "Generic",
         "Protocol", "ABC", "ABCMeta", "namedtuple", "NamedTuple", "TypedDict", "TYPE_CHECKING", "abstractmethod")
NO_NODES = (ast.Global, ast.AsyncFunctionDef, ast.AsyncFor, ast.AsyncWith, ast.Await, ast.GeneratorExp, ast.Div, ast.Import)


def trees():
    return [(file, ast.parse(file.read_text(encoding="utf-8"))) for file in FILES]


def assigned(tree):
    """All names that a tree gives to something, with their lines."""
    for node in ast.walk(tree):
        if isinstance(node, (ast.FunctionDef, ast.ClassDef)):
            yield node.name, node.lineno
        elif isinstance(node, ast.arg):
            yield node.arg, node.lineno
        elif isinstance(node, ast.Name) and not isinstance(node.ctx, ast.Load):
            yield node.id, node.lineno
        elif isinstance(node, ast.alias):
            yield node.asname or node.name, node.lineno


class TestInterface(unittest.TestCase):
    def test_each_function_stands_in_its_file_with_its_arguments(self):
        for name, line in INTERFACE.items():
            module = importlib.import_module(f"alikeagain.{name}")
            for told in line.split():
                word, rest = told[:-1].split("(")
                function = getattr(module, word)
                self.assertEqual(function.__module__, f"alikeagain.{name}")
                parameters = inspect.signature(function).parameters.values()
                self.assertEqual([item.name for item in parameters], rest.split(","), told)
                for item in parameters:
                    self.assertEqual((item.kind, item.default), (item.POSITIONAL_OR_KEYWORD, item.empty))


    def test_each_method_stands_in_its_class_with_its_arguments(self):
        for name, (file, fields, properties, methods) in CLASSES.items():
            found = getattr(importlib.import_module(f"alikeagain.{file}"), name)
            self.assertEqual(found.__module__, f"alikeagain.{file}")
            own = vars(found)
            self.assertEqual(list(inspect.signature(own["__init__"]).parameters), ["self", *fields.split(",")])
            for word in properties.split():
                self.assertIsInstance(own[word], property)
            for told in methods.split():
                word, rest = told[:-1].split("(")
                parameters = inspect.signature(own[word]).parameters
                self.assertEqual(list(parameters), ["self", *(rest.split(",") if rest else [])], told)
                defaults = [item.default for item in parameters.values() if item.default is not item.empty]
                self.assertEqual(defaults, [()] if word == "go" else [], told)
                for item in parameters.values():
                    self.assertEqual(item.kind, item.POSITIONAL_OR_KEYWORD)


class TestLanguage(unittest.TestCase):
    def test_files(self):
        self.assertTrue((FOLDER / "__init__.py").is_file())
        self.assertLessEqual(len(FILES), 100)
        for file in FOLDER.iterdir():
            if file.name != "__pycache__":
                self.assertRegex(file.name, r"^[a-z_][a-z0-9_]*\.py$")

    def test_sizes_and_signs(self):
        for file, tree in trees():
            text = file.read_text(encoding="utf-8")
            lines = text.splitlines()
            self.assertLessEqual(len(lines), 399, file)
            self.assertEqual([line for line in lines if len(line) > 120 or line != line.rstrip()], [], file)
            self.assertEqual([sign for sign in text if sign != "\n" and not " " <= sign <= "~"], [], file)
            for node in ast.walk(tree):
                if isinstance(node, ast.FunctionDef):
                    self.assertLessEqual(node.end_lineno - node.lineno + 1, 40, f"{file} {node.name}")
                    self.assertTrue(node.name.startswith("__") or ast.get_docstring(node), f"{file} {node.name}")

    def test_imports(self):
        defined = {file.stem: {name for name, _ in assigned(tree)} for file, tree in trees()}
        wants = {}
        for file, tree in trees():
            wants[file.stem] = set()
            for node in ast.walk(tree):
                if isinstance(node, ast.ImportFrom):
                    self.assertIn(node, tree.body)
                    self.assertEqual(node.level, 0)
                    names = [alias.name for alias in node.names]
                    if node.module in LIBRARY:
                        self.assertLessEqual(set(names), set(LIBRARY[node.module].split()))
                        continue
                    package, stem = node.module.split(".")
                    self.assertEqual(package, "alikeagain")
                    tops = [item for item in ast.parse((FOLDER / f"{stem}.py").read_text()).body]
                    own = {name for item in tops if not isinstance(item, ast.ImportFrom) for name, _ in assigned(item)}
                    self.assertLessEqual(set(names), own & defined[stem], file)
                    wants[file.stem].add(stem)
        while wants:
            free = [stem for stem, ahead in wants.items() if not ahead & set(wants)]
            self.assertTrue(free, f"these import from each other: {sorted(wants)}")
            wants = {stem: ahead for stem, ahead in wants.items() if stem not in free}

    def test_names(self):
        for file, tree in trees():
            imports = {alias.name for node in ast.walk(tree) if isinstance(node, ast.ImportFrom) for alias in node.names}
            classes = {node.name for node in ast.walk(tree) if isinstance(node, ast.ClassDef)}
            tops = [name for node in tree.body for name, _ in assigned(node) if not isinstance(node, ast.ImportFrom)]
            for name, line in assigned(tree):
                told = f"{file.name}:{line} {name}"
                if name.startswith("__"):
                    continue
                self.assertNotIn(name, BARRED, told)
                self.assertFalse(hasattr(builtins, name), told)
                self.assertRegex(name, r"^_?$|^_?[A-Za-z][A-Za-z0-9_]*$", told)
            for node in tree.body:
                if isinstance(node, (ast.FunctionDef, ast.ClassDef)):
                    inner = {name for part in node.body for name, _ in assigned(part)}
                    inner |= {arg.arg for arg in ast.walk(node) if isinstance(arg, ast.arg)}
                    self.assertEqual(inner & (imports | classes), set(), f"{file.name} {node.name}")
            names = [node.name for node in tree.body if isinstance(node, (ast.FunctionDef, ast.ClassDef))]
            self.assertEqual(len(names), len(set(names)))
            self.assertEqual(set(tops) & imports, set(), file)

    def test_what_is_used(self):
        nodes = [node for _, tree in trees() for node in ast.walk(tree)]
        stored = {node.attr for node in nodes if isinstance(node, ast.Attribute) and isinstance(node.ctx, ast.Store)}
        inner = {item.name for node in nodes if isinstance(node, ast.ClassDef) for item in node.body
                 if isinstance(item, ast.FunctionDef)}
        # No name is both, and a method is nowhere read off a class but for __init__.
        self.assertEqual(stored & inner, set())
        for file, tree in trees():
            known = {name for name, _ in assigned(tree)}
            for node in ast.walk(tree):
                told = f"{file.name}:{getattr(node, 'lineno', 0)}"
                self.assertNotIsInstance(node, NO_NODES, told)
                if isinstance(node, ast.Name) and hasattr(builtins, node.id) and node.id not in known:
                    self.assertIn(node.id, BUILTINS, told)
                if isinstance(node, ast.Attribute):
                    self.assertIn(node.attr, stored | inner | METHODS, told)
                if isinstance(node, ast.BinOp) and isinstance(node.op, ast.Pow):
                    self.assertIsInstance(node.right, ast.Constant, told)
                if isinstance(node, ast.Compare):
                    for sign, other in zip(node.ops, node.comparators):
                        if isinstance(sign, (ast.Is, ast.IsNot)):
                            self.assertIn(getattr(other, "value", 0), (None, True, False), told)
                if isinstance(node, ast.Constant) and isinstance(node.value, str):
                    self.assertNotIn("%", node.value, told)
                if isinstance(node, ast.Constant) and isinstance(node.value, float):
                    self.fail(told)
                if isinstance(node, ast.ExceptHandler):
                    caught = {part.id for part in ast.walk(node.type) if isinstance(part, ast.Name)}
                    self.assertLessEqual(caught, {"AlikeError", "TooGreat"}, told)

    def test_with_blocks_end_plainly(self):
        """What __exit__ and operators do is the least there can be."""
        for file, tree in trees():
            for node in ast.walk(tree):
                if isinstance(node, ast.FunctionDef) and node.name == "__exit__":
                    for row in node.body:
                        self.assertIsInstance(row, ast.Assign, file)
                        self.assertIsInstance(row.value, (ast.Name, ast.Attribute), file)
                if isinstance(node, ast.FunctionDef) and node.name in ("__eq__", "__len__"):
                    self.assertEqual([type(row) for row in node.body], [ast.Return], file)
                if isinstance(node, ast.ClassDef):
                    names = {item.name for item in node.body if isinstance(item, ast.FunctionDef)}
                    known = {"__init__", "__eq__", "__len__", "__enter__", "__exit__"}
                    self.assertLessEqual({name for name in names if name.startswith("__")}, known, file)
                if isinstance(node, ast.Attribute):
                    # As a class has __len__ and __eq__.
                    self.assertNotEqual(node.attr, "sort", file)

    def test_words(self):
        for file, tree in trees():
            strings = " ".join(node.value for node in ast.walk(tree)
                               if isinstance(node, ast.Constant) and isinstance(node.value, str))
            names = {getattr(node, "id", None) for node in ast.walk(tree)}
            for word in WORDS:
                self.assertNotIn(word, names, file)
                self.assertNotIn(word, strings.split(), file)


if __name__ == "__main__":
    unittest.main()
