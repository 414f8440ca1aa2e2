"""The rules of the language of the package that can be seen in its files, and the names of the interface."""
import ast
import builtins
import importlib
import inspect
import os
import unittest

PLACE = os.path.join(os.path.dirname(os.path.dirname(os.path.abspath(__file__))), "listbylist")
FILES = sorted(os.listdir(PLACE))

INTERFACE = {
    "kinds": ("is_integer(thing)", "is_number(thing)", "is_lot(size, thing)", "is_line(size, thing)"),
    "bookkinds": ("is_book(thing)", "is_tie(book, thing)", "is_row(book, thing)"),
    "bookchecker": ("lets_book(thing)",),
    "books": (
        "book_of(size, *lists)", "ties_of(book)", "is_tied(book, here, there)", "near_of(book, here)",
        "between_of(book, tie)"),
    "bookchanges": (
        "kept_to(book, lot)", "with_list(book, things)", "without_list(book, listed)", "beside(book, other)",
        "rebased(book, line)", "mirrored(book)"),
    "fulllists": (
        "full_lists(book)", "is_full(book, thing)", "full_with(book, lot)", "shared_by(book, place, other)"),
    "taking": ("taking_of(book)", "ring_of(book)", "is_bare_ring(book, thing)"),
    "listtrees": ("list_tree(book)", "lets_tree(book, thing)"),
    "joints": (
        "is_jointed(book)", "one_stretch(book, place, other)", "joint_of(book)", "lets_joint(book, thing)",
        "own_hole(book)"),
    "leasts": ("loop_of(book)", "has_least(book)", "lets_loop(book, thing)"),
    "booktexts": ("book_line(book)", "read_book(text)"),
    "sortkinds": ("is_sorting(book, thing)", "is_ties(book, thing)"),
    "rounds": ("round_of(book, ties)", "lets_round(book, ties, thing)"),
    "sortlines": ("sorting_of(book, line)", "fits_line(book, sorting, line)", "line_of(book, sorting)"),
    "ways": ("leads(book, sorting, here, there)", "way_of(book, sorting, here, there)"),
    "listorders": ("orders_of(book, sorting)", "own_orders(book, sorting)", "sorting_by(book, orders)"),
    "opens": (
        "open_ties(book, sorting)", "falls_of(book, sorting)", "rises_of(book, sorting)",
        "bars_of(book, sorting, tie)"),
    "exchanging": (
        "exchanged(book, sorting, tie)", "put_first(book, sorting, here)", "put_last(book, sorting, here)"),
    "stepping": (
        "differing(book, sorting, other)", "steps_between(book, sorting, other)", "stepped(book, sorting, steps)",
        "lets_steps(book, sorting, other, thing)"),
    "alls": ("is_beneath(book, sorting, other)", "all_sortings(book)"),
    "sortturns": (
        "turned_over(book, sorting)", "restricted(book, sorting, lot)", "mirrored_sorting(book, sorting)",
        "rebased_sorting(book, sorting, line)", "carried(book, sorting, other)"),
    "sorttexts": ("sorting_line(book, sorting)", "read_sorting(book, text)"),
    "closures": ("closure_of(book, ties)",),
    "merging": ("least_common(book, sortings)", "greatest_common(book, sortings)"),
    "whyrows": ("why_turned(book, sortings, tie)", "why_kept(book, sortings, tie)"),
    "whychecker": ("lets_turned(book, sortings, tie, thing)", "lets_kept(book, sortings, tie, thing)"),
    "listmerges": (
        "list_order(book, place, sortings)", "list_orders(book, sortings)", "fits_lists(book, sortings)",
        "merged_by_lists(book, sortings)", "own_merges(book, sortings)", "fits_own(book, sortings)"),
    "firstlast": ("first_last(book, here)", "fits_first_last(book)"),
    "unfits": ("unfit_pair(book)", "lets_unfit(book, thing)", "unfit_own(book)"),
    "noleasts": (
        "unmerged_paper(book, sorting, other)", "lets_unmerged(book, sorting, other, thing)", "unmerged_pair(book)"),
    "tried": ("least_ones(book, sorting, other)", "greatest_ones(book, sorting, other)"),
    "spans": ("between_sortings(book, sorting, other)", "agreed_ties(book, sortings)"),
    "ropekinds": ("is_rope(book, thing)", "is_ropes(book, thing)", "behind_of(book, rope)", "middle_of(book, rope)"),
    "ropelists": ("ropes_of(book)", "rope_count(book)"),
    "showing": ("shows(book, sorting, rope)", "rope_at(book, sorting, tie)"),
    "showings": ("least_showing(book, rope)", "beneath_showing(book, rope)", "greatest_rising(book, rope)"),
    "reasons": ("reasons_of(book, sorting)", "sorting_by_reasons(book, ropes)"),
    "crossings": (
        "crossing_of(book, rope, other)", "crossed_pair(book, ropes)", "lets_crossing(book, rope, other, thing)"),
    "origins": ("who_shows(book, sortings, rope)", "merged_reasons(book, sortings)"),
    "makings": (
        "makes(book, sorting, sortings)", "reason_sortings(book, sorting)", "is_reason_lot(book, sorting, thing)",
        "reasons_apart(book, sorting, other)"),
    "rising": ("rise_reasons(book, sorting)", "sorting_by_rises(book, ropes)"),
    "turning": ("turn_of(book, sorting)", "turn_back(book, sorting)", "turn_round(book, sorting)"),
    "ropetexts": (
        "rope_line(book, rope)", "read_rope(book, text)", "ropes_text(book, ropes)", "read_ropes(book, text)"),
    "patternkinds": ("is_pattern(book, thing)", "is_plain(book, thing)"),
    "patternlots": ("in_pattern(book, pattern, rope)", "pattern_ropes(book, pattern)"),
    "patterntexts": ("pattern_line(book, pattern)", "read_pattern(book, text)"),
    "pieces": ("is_piece(book, rope, other)", "cut_rope(book, rope, tie)", "pieces_of(book, rope)"),
    "uppers": ("above_of(book, ropes)",),
    "undoing": (
        "falls_in(book, sorting, pattern)", "is_end(book, sorting, pattern)", "undo_first(book, sorting, pattern)",
        "end_first(book, sorting, pattern)", "undone(book, sorting, pattern, steps)"),
    "undochecker": ("lets_undoing(book, sorting, pattern, thing)",),
    "endings": (
        "ends_from(book, sorting, pattern)", "all_ends(book, pattern)", "lots_outside(book, pattern)",
        "told_back(book, sortings)"),
    "corners": ("corner_of(book, sorting, tie, other)", "corner_ropes(book, sorting, tie, other)"),
    "evens": ("sides_of(book, rope, other)", "is_even(book, pattern)", "uneven_pair(book, pattern)"),
    "unlikes": ("unlike_ends(book, pattern)", "lets_unlike(book, pattern, thing)"),
    "rungs": (
        "is_rung(thing)", "on_rung(book, pattern, rung)", "rungs_of(book, pattern)",
        "rung_fault(book, pattern, rung)"),
    "faultchecker": ("lets_fault(book, pattern, rung, thing)",),
    "oversides": ("over_ropes(book, rope, rung)",),
    "growing": (
        "least_on(book, ropes, rung)", "falls_with(book, ropes, rung)", "most_without(book, ropes, rung)"),
    "orderfaults": ("order_fault(book, pattern)", "lets_order(book, pattern, thing)"),
    "mergefaults": ("merge_fault(book, pattern, rung)", "lets_merge(book, pattern, rung, thing)"),
    "viewmerges": (
        "even_end(book, sorting, pattern)", "least_in(book, sortings, pattern)", "greatest_in(book, sortings, pattern)"),
    "tops": (
        "alike_by(book, sorting, other, pattern)", "is_top(book, sorting, pattern)", "top_of(book, sorting, pattern)",
        "alike_sortings(book, sorting, pattern)"),
    "viewpartings": (
        "parting_of(book, sorting, other, pattern)", "lets_parting(book, sorting, other, pattern, thing)"),
    "finests": (
        "step_ropes(book, sorting, other)", "finest_alike(book, sorting, other, rung)", "base_ties(book)",
        "base_turned(book, sorting)"),
    "numbers": (
        "sorting_count(book)", "places_of(book, sorting)", "sorting_by_places(book, places)",
        "number_of(book, sorting)", "sorting_at(book, number)", "next_sorting(book, sorting)"),
    "listends": (
        "list_book(book, place)", "cut_pattern(book, place, pattern)", "list_ends(book, place, pattern)",
        "end_order(book, place, order, pattern)", "end_by_lists(book, sorting, pattern)",
        "top_by_lists(book, sorting, pattern)"),
    "endcounts": ("ends_count(book, pattern)", "seam_counts(book, place, lot, pattern)"),
    "searchtrees": ("is_tree(thing)", "tree_of(order)", "own_order(tree)", "tree_cut(tree, lot)"),
    "treeturns": ("tree_turned(tree, here, there)", "tree_turned_back(tree, here, there)"),
    "gluetrees": ("trees_of(book, sorting)", "sorting_by_trees(book, trees)", "tree_count(book)"),
    "leaving": ("loss_of(book, other)", "hole_of(book, lot)", "filled(book, lot)"),
    "cutpairs": ("cut_pair(book, lot)", "lets_cut(book, lot, thing)"),
    "bases": ("is_base(book, sorting)", "base_gap(book, sorting)", "lets_base_gap(book, sorting, thing)"),
    "liveevents": ("is_event(thing)", "is_log(thing)"),
    "barring": ("reason_of(book, branches, event)",),
    "deeds": ("deed_of(book, branches, event)",),
    "replaying": ("replayed(size, lists, log)", "cut_log(log, many)"),
    "journals": ("days_of(size, lists, log)",),
    "eventtexts": ("event_line(event)", "log_text(log)", "read_event(text)", "read_log(text)"),
    "desk": ("desk_line(live, text)",),
}
CLASSES = {
    ("bookclasses", "Book"): (
        "__init__(self, size, *lists)", "__len__(self)", "__eq__(self, other)", "__add__(self, other)",
        "ties(self)", "full(self)", "jointed(self)", "kept(self, lot)", "grown(self, things)", "told(self)"),
    ("sortclasses", "Sorting"): (
        "__init__(self, book, line)", "__eq__(self, other)", "falls(self)", "rises(self)", "orders(self)",
        "told(self)", "moved(self, tie)", "apart(self, other)", "beneath(self, other)"),
    ("mergeclasses", "Merge"): (
        "__init__(self, book, *sortings)", "__eq__(self, other)", "least(self)", "greatest(self)", "why(self, tie)",
        "orders(self)", "grown(self, sorting)", "told(self)"),
    ("reasonclasses", "Reasons"): (
        "__init__(self, book, sorting)", "__len__(self)", "__eq__(self, other)", "ropes(self)", "turned_on(self)",
        "merged(self, other)", "told(self)"),
    ("undoclasses", "Undoing"): (
        "__init__(self, book, pattern)", "__eq__(self, other)", "even(self)", "ropes(self)", "last(self, sorting)",
        "falls(self, sorting)", "ends(self)", "told(self)"),
    ("viewclasses", "View"): (
        "__init__(self, book, pattern)", "__eq__(self, other)", "last(self, sorting)", "top(self, sorting)",
        "alike(self, sorting, other)", "least(self, *sortings)", "greatest(self, *sortings)", "told(self)"),
    ("glueclasses", "Glue"): (
        "__init__(self, book, pattern)", "__eq__(self, other)", "total(self)", "ends(self, place)", "last(self, sorting)",
        "number(self, sorting)", "told(self)"),
    ("liveasks", "LiveAsks"): (
        "book_now(self)", "branches_now(self)", "view_now(self)", "sorting_now(self, branch)", "orders_now(self, branch)",
        "reasons_now(self, branch)", "same(self, branch, other)", "apart(self, branch, other)", "who_has(self, rope)",
        "sortings_now(self)", "harmless(self, listed)", "tally(self)"),
    ("live", "Desk"): (
        "__init__(self, size, *lists)", "__eq__(self, other)", "add_thing(self)", "add_list(self, things)",
        "drop_list(self, listed)", "add_branch(self, branch)", "exchange(self, branch, low, high)",
        "follow(self, branch, line)", "least(self, branch, other)", "greatest(self, branch, other)",
        "undo_by(self, branch, pattern)", "turn(self, branch)", "look(self, pattern)", "day(self)", "go(self, event)",
        "barred(self, event)", "do_all(self, events, keep=False)", "undo(self, steps=1)", "tried(self, events)", "log(self)"),
}
# Errors and their fields; each but the first is derived from the one behind it.
ERRORS = {
    "ListsError": (ValueError, None), "PaperError": ("ListsError", None), "BookError": ("ListsError", None),
    "LiveError": ("ListsError", None), "TextError": ("ListsError", None),
    "InvalidPaper": ("PaperError", "word at"), "NotUsable": ("BookError", "word at"), "BareRing": ("BookError", "ring"),
    "Unjointed": ("BookError", "paper"), "InRound": ("BookError", "things"), "Quarrel": ("BookError", "tie"),
    "Blocked": ("BookError", "way"), "Crossed": ("BookError", "rope other"), "OffRung": ("BookError", "rung given missing"),
    "Unglued": ("BookError", "place other"), "InvalidEvent": ("LiveError", "event reason"), "NothingToUndo": ("LiveError", "steps"),
    "InvalidText": ("TextError", "line field"), "InvalidRow": ("TextError", "row"),
}
GENERATORS = (("alls", "all_sortings"), ("spans", "between_sortings"))
CALLED = (
    "len range enumerate zip min max sum abs sorted reversed int str bool list tuple dict set isinstance repr any all "
    "divmod"
).split()
METHODS = (
    "append endswith extend get index isascii isdigit items join pop setdefault split startswith count bit_length values"
).split()
OWN_METHODS = [head.split("(")[0] for heads in CLASSES.values() for head in heads] + ["_both_now"]
BARRED = (
    "register mro elements open input law type typing enum Enum Flag Generic Protocol ABC NamedTuple TypedDict"
).split()


def text_of(name):
    with open(os.path.join(PLACE, name), encoding="utf-8") as file:
        return file.read()


def tree_of(name):
    return ast.parse(text_of(name))


def functions_of(tree):
    return [node for node in ast.walk(tree) if isinstance(node, ast.FunctionDef)]


def bound_in(function):
    """The parameters and local variables of a function."""
    args = function.args
    names = [arg.arg for arg in args.posonlyargs + args.args + args.kwonlyargs]
    names += [arg.arg for arg in (args.vararg, args.kwarg) if arg]
    return names + [
        node.id for node in ast.walk(function) if isinstance(node, ast.Name) and isinstance(node.ctx, ast.Store)]


class Interface(unittest.TestCase):
    def same_head(self, owner, head):
        name, rest = head.split("(", 1)
        made = vars(owner)[name]
        parameters = ", ".join(str(parameter) for parameter in inspect.signature(made).parameters.values())
        self.assertEqual(parameters + ")", rest, head)
        self.assertTrue(inspect.isfunction(made))
        return made

    def test_functions(self):
        for file, heads in INTERFACE.items():
            module = importlib.import_module("listbylist." + file)
            for head in heads:
                self.assertEqual(self.same_head(module, head).__module__, module.__name__)

    def test_classes(self):
        for (file, name), heads in CLASSES.items():
            module = importlib.import_module("listbylist." + file)
            made = vars(module)[name]
            base = "LiveAsks" if name == "Desk" else "object"
            self.assertEqual((made.__module__, [one.__name__ for one in made.__bases__]), (module.__name__, [base]))
            for head in heads:
                self.same_head(made, head)

    def test_errors(self):
        module = vars(importlib.import_module("listbylist.errors"))
        for name, (base, fields) in ERRORS.items():
            self.assertEqual(module[name].__bases__, (module.get(base, base),))
            if fields is not None:
                parameters = list(inspect.signature(module[name]).parameters)
                self.assertEqual(parameters, fields.split())
                values = [[k] for k in range(len(parameters))]
                made = module[name](**dict(zip(parameters, values)))
                self.assertTrue(all(getattr(made, one) is value for one, value in zip(parameters, values)))
        classes = {name for name, value in module.items() if inspect.isclass(value)}
        self.assertEqual(classes, set(ERRORS))

    def test_generators(self):
        for file, name in GENERATORS:
            made = vars(importlib.import_module("listbylist." + file))[name]
            self.assertTrue(inspect.isgeneratorfunction(made))
        every = [vars(importlib.import_module("listbylist." + name[:-3])) for name in FILES if name.endswith(".py")]
        found = {
            (value.__module__, key) for file in every for key, value in file.items() if inspect.isgeneratorfunction(value)}
        self.assertEqual(found, {("listbylist." + file, name) for file, name in GENERATORS})


class Files(unittest.TestCase):
    def test_files(self):
        self.assertLessEqual(len(FILES), 100)
        for name in FILES:
            if name != "__pycache__":
                self.assertRegex(name, r"\A(__init__|[a-z]+)\.py\Z")

    def sources(self):
        for name in FILES:
            if name.endswith(".py"):
                yield name, text_of(name), tree_of(name)

    def test_characters_and_size(self):
        for name, text, tree in self.sources():
            lines = text.split("\n")
            self.assertLessEqual(len(lines), 399, name)
            self.assertLessEqual(max(map(len, lines)), 120, name)
            self.assertTrue(all(" " <= letter <= "~" or letter == "\n" for letter in text), name)
            for function in functions_of(tree):
                self.assertLessEqual(function.end_lineno - function.lineno + 1, 40, function.name)

    def plain(self, value):
        """True if a value at module level is a string, a number, a tuple of strings, or a dict of strings and such."""
        if isinstance(value, ast.Dict):
            return all(isinstance(one, ast.Constant) for one in value.keys) and all(
                not isinstance(one, ast.Dict) and self.plain(one) for one in value.values)
        if isinstance(value, ast.Tuple):
            return all(isinstance(one, ast.Constant) and isinstance(one.value, str) for one in value.elts)
        return isinstance(value, ast.Constant) and isinstance(value.value, (str, int))

    def test_module_level(self):
        for name, _, tree in self.sources():
            self.assertTrue(ast.get_docstring(tree), name)
            bound = []
            for node in tree.body[1:]:
                self.assertIsInstance(node, (ast.ImportFrom, ast.FunctionDef, ast.ClassDef, ast.Assign), name)
                if isinstance(node, ast.ImportFrom):
                    bound += [one.asname or one.name for one in node.names]
                elif isinstance(node, ast.Assign):
                    bound += [one.id for one in node.targets]
                    self.assertTrue(self.plain(node.value), name)
                else:
                    bound.append(node.name)
            self.assertEqual(len(bound), len(set(bound)), name)

    def test_imports(self):
        needs = {}
        for name, _, tree in self.sources():
            needs[name[:-3]] = set()
            used = {node.id for node in ast.walk(tree) if isinstance(node, ast.Name)}
            for node in tree.body:
                if not isinstance(node, ast.ImportFrom):
                    continue
                package, _, file = node.module.partition(".")
                self.assertEqual((package, node.level), ("listbylist", 0), name)
                needs[name[:-3]].add(file)
                body = tree_of(file + ".py").body
                own = [one.name for one in body if hasattr(one, "name")]
                own += [one.targets[0].id for one in body if isinstance(one, ast.Assign)]
                for one in node.names:
                    self.assertIn(one.name, own, name)
                    self.assertIsNone(one.asname)
                    self.assertIn(one.name, used, name)
        while needs:
            free = [file for file, needed in needs.items() if not needed & set(needs)]
            self.assertTrue(free, "these import from each other: " + " ".join(needs))
            needs = {file: needed for file, needed in needs.items() if file not in free}

    def test_names(self):
        for name, _, tree in self.sources():
            taken = set(dir(builtins)) | set(BARRED)
            for node in tree.body:
                if isinstance(node, ast.ImportFrom):
                    taken |= {one.name for one in node.names}
                elif isinstance(node, ast.ClassDef):
                    taken.add(node.name)
                elif isinstance(node, ast.Assign):
                    self.assertNotIn(node.targets[0].id, taken, name)
                elif isinstance(node, ast.FunctionDef):
                    self.assertNotIn(node.name, taken, name)
            for function in functions_of(tree):
                self.assertFalse(taken & set(bound_in(function)), (name, function.name))

    def test_nodes(self):
        barred = (
            ast.GeneratorExp, ast.Global, ast.Nonlocal, ast.With, ast.AsyncFunctionDef, ast.Await, ast.Set,
            ast.SetComp, ast.AugAssign, ast.AnnAssign, ast.Lambda, ast.NamedExpr, ast.Delete, ast.Div, ast.Match,
        )
        for name, _, tree in self.sources():
            for node in ast.walk(tree):
                self.assertNotIsInstance(node, barred, (name, getattr(node, "lineno", None)))
                if isinstance(node, ast.Try):
                    self.assertEqual((node.finalbody, node.orelse), ([], []), name)
                    self.assertTrue(all(handler.type.id in ERRORS for handler in node.handlers), name)
                if isinstance(node, (ast.FunctionDef, ast.ClassDef)):
                    self.assertEqual(node.decorator_list, [], name)
                if isinstance(node, ast.Constant):
                    self.assertIsInstance(node.value, (int, str, type(None)), name)
                    self.assertNotIn("%", str(node.value), name)
                if isinstance(node, ast.Compare):
                    for sign, right in zip(node.ops, node.comparators):
                        if isinstance(sign, (ast.Is, ast.IsNot)):
                            self.assertIsInstance(right, ast.Constant, name)

    def test_calls(self):
        for name, _, tree in self.sources():
            own = {node.name for node in ast.walk(tree) if isinstance(node, (ast.FunctionDef, ast.ClassDef))}
            own |= {one.name for node in tree.body if isinstance(node, ast.ImportFrom) for one in node.names}
            for node in ast.walk(tree):
                if isinstance(node, ast.Name) and isinstance(node.ctx, ast.Load) and hasattr(builtins, node.id):
                    self.assertIn(node.id, CALLED + ["ValueError"], name)
                if not isinstance(node, ast.Call):
                    continue
                self.assertEqual(node.keywords, [], name)
                if isinstance(node.func, ast.Attribute):
                    self.assertIn(node.func.attr, METHODS + OWN_METHODS, (name, node.lineno))
                else:
                    self.assertIn(node.func.id, own | set(CALLED), (name, node.lineno))
                    if node.func.id == "set":
                        self.assertTrue(self.measured(tree, node), (name, node.lineno))

    def measured(self, tree, call):
        """True if the set is directly sorted or measured."""
        return any(
            isinstance(node, ast.Call) and isinstance(node.func, ast.Name) and node.func.id in ("sorted", "len")
            and node.args == [call] for node in ast.walk(tree))


if __name__ == "__main__":
    unittest.main()
