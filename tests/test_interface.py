"""The whole interface: each name in its module, with its parameters by name, and what papers and errors keep."""

import ast
import importlib
import inspect
import os
import unittest

import oneflip
from oneflip import errors, papers
from oneflip.books import Book
from oneflip.cards import Card
from oneflip.codes import Code
from oneflip.devices import Device
from oneflip.keepers import Keeper
from oneflip.layouts import Layout
from oneflip.lives import Life
from oneflip.machines import Machine
from oneflip.players import Player
from oneflip.stores import Store
from tests.tools import Case

FUNCTIONS = {
    "checks": "is_integer(value) is_within(value, least, most) is_lot(value) lot_of(bits)",
    "papers": "fixed(value)",
    "words": "flipped(word, bits) differing(one, other) neighbours_of(word, many) ones_in(number) most_pairs(many) "
             "pairs_among(words) lots_of(words) gray(number) place_of(word)",
    "machines": "any_to_any(states) line(states) ring(states) hub(states) beside(one, other) both_ways(machine) "
                "fewest_leads(machine)",
    "layouts": "meaning_of(layout, word) words_for(layout, state) pieces_of(layout) piece_at(layout, word) "
               "touched_by(layout, word, state)",
    "kept": "kept_of(layout, machine) stands_for(layout, machine) judged_layout(layout, machine) "
            "rank_of(layout, machine, word) next_ask(layout, machine, word) road(layout, machine, word, state)",
    "check_kept": "shows_layout(layout, machine, value)",
    "rings": "ring_layout(states) hub_layout(states)",
    "flips_one": "one_flip_layout(size) value_by_flips(word, size) flip_to(word, size, value)",
    "turns": "beside_layout(one, other, states) turned_layout(layout, order, mask, names) renamed(machine, names)",
    "codes": "meant_by(code, word) first_word(code, value) road_to(code, word, value) code_for(values)",
    "doubles": "listed(code) doubled(layout, states)",
    "bounds": "least_bits(states, leads) why_not(states, leads, bits) between(values) flips_needed(values, bits) "
              "counted(layout, machine)",
    "rooms": "changes_of(cells, size, most) store_least(cells, size, most) spare_bits(cells, size, most)",
    "trials": "smallest(machine, bits)",
    "wear": "flips_by_bit(plans, many) most_worn(plans, many)",
    "check_bounds": "shows_why(states, leads, bits, value) shows_found(machine, bits, value)",
    "devices": "",
    "phases": "phases_text(phases) phases_read(text) landed(word, phases, many, lot) cut_words(word, phases)",
    "plans": "let_phases(layout, machine, word, state) judged_plan(layout, machine, word, phases, state) "
             "least_plan(layout, machine, word, state)",
    "check_plans": "shows_plan(layout, machine, word, phases, state, value)",
    "stores": "values_in(store, word) is_open(store, word) rows_in(store, word) word_for(store, values) "
              "mend_plan(store, word) deed_plan(store, word, deed) done_in(store, word, deed)",
    "lives": "",
    "check_stores": "counting_in(store, word) is_plain(store, word, phase) shows_whole(store, word, deed, value)",
    "lines": "clauses_of(line) reckoned(line, names, size, worths)",
    "books": "",
    "tables": "table_of(layout, words=None) strip_of(store, word)",
    "scripts": "is_script(value) script_text(script) read_script(text) played(store, values, script) "
               "counted(script, story)",
    "fits": "fitted(machine) longest_road(layout, machine)",
    "keepers": "",
    "cards": "",
    "players": "",
}
# Each class: its module, its parameters, its methods, and those of Python's own that it must have itself.
CLASSES = {
    "Machine": ("machines", "(states, changes)", "leads(self, state) read(text)", "eq str"),
    "Layout": ("layouts", "(bits, means)", "read(text)", "eq str"),
    "Code": ("codes", "(base, doubles)", "read(text)", "eq str"),
    "Store": ("stores", "(cells, size, most)", "read(text)", "eq str"),
    "Device": ("devices", "(bits, word)", "read(text) flip(self, bit) barrier(self) cut(self, lot) look(self) "
               "may_lie(self) run(self, phases) run_cut(self, phases, many, lot) copy(self)", "eq str"),
    "Life": ("lives", "(store, values)", "do(self, deed) mend(self) do_cut(self, deed, phase, lot) "
             "mend_cut(self, phase, lot)", ""),
    "Book": ("books", "(size, names)", "tell(self, line) pull(self, line, phase, lot) worth(self, name) "
             "sum_of(self, names) story(self)", ""),
    "Keeper": ("keepers", "(layout, machine, word)", "ask(self, state) ask_cut(self, state, many) copy(self)", "eq"),
    "Card": ("cards", "(names, changes)", "lines(self) read(lines)", "eq"),
    "Player": ("players", "(card)", "ask(self, name) pull(self, name, many) tale(self)", ""),
}
# Each paper: its module, whether it is a denial, and its parts.
PAPERS = {
    "Stands": ("kept", False, "pieces"), "Falls": ("kept", True, "strikes lacks"), "Few": ("bounds", False, "words"),
    "Tight": ("bounds", False, "inside across most"), "Found": ("trials", False, "means"), "Not": ("trials", True, "bits"),
    "Safe": ("plans", False, "words"), "Torn": ("plans", True, "phase lot"), "Short": ("plans", True, "lies"),
    "Story": ("scripts", False, "rows lies flips cuts"),
}
VALUES = (None, True, 0, -1, 10 ** 5000, 1.5, "", "word", (), (1, (2,)), object(), {"a": [1]}, ValueError("x"), int)


def module_of(name):
    return importlib.import_module("oneflip." + name)


def calls_in(told):
    """Pairs of a name and its parameters, as they are told in a row."""
    return [(call.partition("(")[0], "(" + call.partition("(")[2] + ")") for call in told.split(")")
            for call in [call.strip()] if call]


class Interface(Case):
    def test_functions(self):
        for name, told in FUNCTIONS.items():
            for function, parameters in calls_in(told):
                made = vars(module_of(name))[function]
                self.assertEqual(made.__module__, "oneflip." + name)
                self.assertEqual(str(inspect.signature(made)), parameters, function)

    def test_classes(self):
        for name, (module, parameters, methods, own) in CLASSES.items():
            made = vars(module_of(module))[name]
            self.assertEqual(made.__module__, "oneflip." + module)
            self.assertEqual(str(inspect.signature(made)), parameters, name)
            for method, told in calls_in(methods):
                self.assertIn(method, vars(made))
                self.assertEqual(str(inspect.signature(getattr(made, method))), told, method)
            for method in own.split():
                self.assertIn(f"__{method}__", vars(made), name)

    def test_attributes(self):
        till = Store(3, 2, 1)
        for value, told in ((Machine(2, []), "states changes"), (Layout(1, [0, 1]), "bits means"),
                            (Code(2, 1), "base doubles many bits"), (till, "cells size most place_bits bits"),
                            (Device(3, 1), "bits lies waiting reached pulled"),
                            (Life(till, [1, 2, 3]), "store word_now values_now flips cuts"),
                            (Book(6, ["a"]), "size names worths flips"),
                            (Keeper(Layout(1, [0, 1]), Machine(2, []), 0), "layout machine lies meant flips cuts asked"),
                            (Card(["a"], []), "names changes machine layout"),
                            (Player(Card(["a"], [])), "card now lies flips")):
            for name in told.split():
                self.assertFalse(callable(getattr(value, name)), name)

    def test_modules(self):
        folder = os.path.dirname(oneflip.__file__)
        files = sorted(name for name in os.listdir(folder) if name != "__pycache__")
        helpers = {"__init__.py", "errors.py", "texts.py", "names.py"}
        self.assertEqual(set(files), {name + ".py" for name in FUNCTIONS} | helpers)
        for name in files:
            with open(os.path.join(folder, name), encoding="utf-8") as file:
                for node in ast.walk(ast.parse(file.read())):
                    # By full names, from the package or from the few modules that are wanted of Python's own.
                    self.assertNotIsInstance(node, ast.Import)
                    if isinstance(node, ast.ImportFrom):
                        self.assertRegex(node.module, r"^(oneflip\.\w+|itertools|math)$")

    def test_what_is_passed_by_name(self):
        self.same(module_of("words").flipped(bits=[0], word=4), 5)
        self.same(module_of("tables").table_of(words=[1], layout=Layout(1, [0, 1])), (".1",))
        self.same(module_of("scripts").counted(story=module_of("scripts").Story([], 0, 0, 0), script=[]), ())
        self.same(module_of("check_plans").shows_plan(value=None, state=1, phases=[[0]], word=0, machine=Machine(2, [(0, 1)]),
                                                      layout=Layout(1, [0, 1])), False)


class Kept(Case):
    def test_papers(self):
        for name, (module, is_denial, told) in PAPERS.items():
            made, parts = vars(module_of(module))[name], told.split()
            self.assertEqual(made.__module__, "oneflip." + module)
            self.assertEqual(made.__bases__, (papers.Denial if is_denial else papers.Paper,))
            self.assertEqual(list(inspect.signature(made).parameters), parts)
            for at, part in enumerate(parts):
                for value in VALUES:
                    row = list(range(len(parts)))
                    row[at] = value
                    for paper in (made(*row), made(**dict(zip(parts, row)))):
                        self.assertEqual(getattr(paper, part), value)
                        self.assertEqual(paper.parts, tuple(row))
                        self.same((paper.word, bool(paper)), (name.lower(), not is_denial))
                        self.same(paper == made(*row), True)
                        self.same(paper == papers.Paper(name.lower(), *row), False)
                row[at] = [1, [2, (3,)]]
                self.same(getattr(made(*row), part), (1, (2, (3,))))

    def test_papers_are_no_others(self):
        for name in FUNCTIONS:
            for made in vars(module_of(name)).values():
                if isinstance(made, type) and issubclass(made, papers.Paper):
                    self.assertIn(made.__name__, ["Paper", "Denial"] + list(PAPERS))

    def test_errors(self):
        for made in vars(errors).values():
            if isinstance(made, type) and made is not errors.FlipError:
                fields = list(inspect.signature(made).parameters)
                for value in VALUES + ([1, [2]],):
                    row = [value] + ["other"] * (len(fields) - 1)
                    for error in (made(*row), made(**dict(zip(fields, row)))):
                        for field, wanted in zip(fields, row):
                            self.assertIs(getattr(error, field), wanted)


if __name__ == "__main__":
    unittest.main()
