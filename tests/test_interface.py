"""The interface: each name stands where the document lists it, with its arguments."""

import ast
import importlib
import inspect
import pathlib
import unittest

PACKAGE = pathlib.Path(__file__).resolve().parent.parent / "leastshelf"

FUNCTIONS = {
    "kinds": {
        "kind_named": "(name)", "is_word": "(thing)", "is_plain": "(kind, thing)", "check_word": "(thing)",
        "plain_word": "(kind, word)", "joined": "(kind, *words)", "rest": "(kind, one, other)",
        "fresh_word": "(kind, *words)", "under": "(one, other)", "parted_words": "(one, other)",
    },
    "effects": {
        "is_effect": "(kind, thing)", "normal": "(kind, effect)", "then": "(kind, *effects)",
        "effect_on": "(kind, effect, state)", "parting_state": "(kind, one, other)", "narrowed_effect": "(kind, effect)",
    },
    "steps": {
        "step": "(kind, one, other)", "running": "(kind, row)", "steps_between": "(kind, row, *, start=(False, ()))",
        "row_letters": "(row)", "row_count": "(row)",
    },
    "swaps": {
        "change_places": "(kind, one, other)", "parting_swap": "(kind, one, other)", "swallowed": "(kind, small, large)",
        "parting_word": "(kind, small, large)", "twice_at_once": "(kind, word)", "twice_later": "(kind, word)",
        "twice_earlier": "(kind, word)",
    },
    "stretches": {
        "is_key": "(thing)", "is_stretch": "(thing)", "check_key": "(key)", "check_stretch": "(stretch, place=0)",
        "common_stretch": "(one, other)", "lies_within": "(one, other)", "cut_at": "(stretch, border)",
    },
    "fields": {},
    "overlays": {
        "borders": "(fields)", "gaps": "(fields)", "overlay": "(fields, act, *, neutral)", "unlike": "(one, other)",
        "key_set": "(stretches)", "union": "(one, other)", "common": "(one, other)", "without": "(one, other)",
        "meeting": "(one, other)",
    },
    "batches": {
        "is_stroke": "(thing)", "check_batch": "(kind, batch)", "touched": "(batch)", "batch_effects": "(kind, batch)",
        "after": "(kind, one, other)", "on_store": "(kind, effects, store)", "empty_store": "()",
        "batch_between": "(kind, one, other)", "batch_of": "(effects)", "parting_key": "(kind, one, other)",
        "narrowed_field": "(kind, field)", "narrowed_batch": "(kind, batch)",
    },
    "deeds": {
        "is_name": "(thing)", "is_deed": "(step)", "plain_step": "(kind, step, /, place=0)", "narrowed_step": "(kind, step)",
    },
    "leasts": {
        "check_most": "(most)", "plain_least": "(kind, least, *, most=8)", "history_of": "(kind, least)",
        "losses": "(kind, least)", "narrowed_least": "(kind, least)",
    },
    "books": {},
    "futures": {"answers": "(book, steps)", "parting": "(one, other)", "alike": "(one, other)"},
    "menus": {},
    "tables": {
        "check_table": "(table, steps)", "step_count": "(table)", "run_table": "(table, row, *, start=0)",
        "reached": "(table)",
    },
    "classes": {
        "class_numbers": "(table)", "least_table": "(table)", "parting_row": "(table, one, other)",
        "without_steps": "(table, numbers)", "doubled": "(table, state)",
    },
    "rightness": {"erring": "(menu, table)", "mapping": "(menu, table)"},
    "counts": {
        "word_count": "(kind, letters, *, longest=0)", "store_count": "(words, keys, *, loose=0, widths=())",
        "menu_count": "(words, keys, *, most, widths=())",
    },
    "entries": {"is_entry": "(kind, begin, end, thing)", "effect_up_to": "(kind, row, number)"},
    "runs": {},
    "cuts": {"is_mark": "(thing)", "check_marks": "(marks)", "cuts_at": "(begin, end, marks, key)"},
    "rows": {
        "stack_window": "(stack)", "stack_reach": "(stack)", "stack_up_to": "(stack, key, number)",
        "row_at": "(stack, marks, key)", "told_row": "(stack, marks, under, key)", "told_rows": "(stack, marks, under)",
    },
    "leastruns": {
        "least_run": "(stack, marks, under)", "entry_count": "(run, key)", "letter_count": "(run, key)",
        "whole_counts": "(run, *, over=None)",
    },
    "noticed": {
        "parting_beneath": "(one, other, marks, under)", "notices": "(run, marks, under)", "narrowed_run": "(kind, run)",
    },
    "dropping": {
        "changes": "(stack, marks, under)", "gone": "(stack, marks, under, left)",
        "gone_at": "(stack, marks, under, key, cuts)", "spans_at": "(stack, marks, under, key)",
        "without_marks": "(marks, drop)", "narrowed_marks": "(marks, place, a, b)",
    },
    "ledgers": {
        "ledger": "(kind, history, *, most=8)", "history_run": "(kind, history, *, most=8)",
        "history_count": "(kind, history, *, most=8)",
    },
    "cursors": {},
    "spares": {
        "weights": "(stack, under, numbers)", "spare_table": "(stack, under, numbers)",
        "kept_cuts": "(stack, under, numbers, many)", "fewest_to_drop": "(stack, under, numbers, entries)",
    },
    "chains": {
        "most_entries": "(kind, cuts, letters, *, puts=True, beneath=True)",
        "chain_run": "(kind, cuts, letters, key, *, puts=True)",
    },
    "shelves": {},
    "orders": {
        "stands_over": "(reaches, i, j)", "kept": "(reaches, order)", "below": "(reaches, lot)", "way_back": "(reaches, lot)",
        "pour_order": "(reaches, lot)", "sandwiched": "(reaches, lot)", "split_order": "(reaches, lot)",
        "ring": "(reaches, lots)", "lots_order": "(reaches, lots)",
    },
    "pours": {
        "stack_of": "(shelf, lot)", "beneath": "(shelf, lot)", "in_place": "(shelf, lot, run)",
        "poured": "(shelf, lot, marks)", "split_poured": "(shelf, lot, marks)", "poured_lots": "(shelf, lots, marks)",
    },
    "partings": {
        "turned_pair": "(reaches, lot, order)", "pair_shelf": "(kind, reaches, i, j, key, *, puts=True)",
        "refilled": "(shelf, lot, key, effects)", "parted_outcome": "(shelf, lot, run, marks)",
    },
    "toldlots": {
        "group_outcome": "(shelf, lot, upper)", "group_poured": "(shelf, lot, upper)", "group_fault": "(shelf, lot, upper)",
        "swapped_parting": "(one, other, marks, under)",
    },
    "logtexts": {"log_text": "(first, batches)", "read_log": "(text)"},
    "devices": {"come_up": "(left)"},
    "windows": {
        "device_windows": "(steps)", "faults": "(steps)", "is_right": "(steps)", "breaking": "(steps)", "numbers_up": "(steps)",
    },
    "syncs": {
        "fewest_firms": "(steps)", "apart_windows": "(steps)", "may_leave_out": "(steps, places)", "needed_firms": "(steps)",
        "own_apart": "(steps)",
    },
    "replays": {"replay_key": "(kind, batches, begin, middle)"},
    "keepers": {"kept_fault": "(menu, table, kept)", "kept_map": "(menu, table, kept)"},
    "plans": {"check_sizes": "(sizes, spills)"},
    "prices": {},
    "spreads": {
        "most_spills": "(height, writings)", "fewest_writings": "(spills, height)",
        "spread": "(height, writings, *, spills=None)", "unlike_sizes": "(spills)", "unlike_price": "(spills, height)",
    },
    "sizes": {
        "spill_sizes": "(spills, *, marks=(), beneath=None)", "added_sizes": "(spills, *, marks=(), beneath=None)",
        "played": "(plan, spills, *, marks=(), beneath=None)",
    },
    "desks": {},
    "scans": {
        "scan": "(desk, begin, end, *, name=None, backward=False, limit=None)", "walk": "(desk, begin, end, *, name=None)",
    },
    "trials": {"tried": "(desk, steps)"},
    "listings": {"listing": "(desk)"},
}

CLASSES = {
    "kinds": {
        "Kind": {"plain": "(self, word)", "rest_between": "(self, one, other)"},
        "BagKind": {"plain": "(self, word)", "rest_between": "(self, one, other)"},
        "SetKind": {"plain": "(self, word)"}, "HeadsKind": {"plain": "(self, word)"},
        "FirstKind": {"plain": "(self, word)"},
        "TailsKind": {"plain": "(self, word)", "rest_between": "(self, one, other)"},
        "LastKind": {"plain": "(self, word)", "rest_between": "(self, one, other)"},
        "EndsKind": {"plain": "(self, word)", "rest_between": "(self, one, other)"},
    },
    "fields": {
        "Field": {
            "__init__": "(self, neutral, pieces=())", "pieces": "(self)", "at": "(self, key)", "within": "(self, a, b)",
            "painted": "(self, a, b, thing)",
        },
    },
    "books": {
        "Book": {
            "__init__": "(self, kind, *, most=8)", "made": "(cls, kind, least, *, most=8)", "write": "(self, batch)",
            "sync": "(self)", "crash": "(self, number)", "hold": "(self, name, a, b)", "narrow": "(self, name, a, b)",
            "drop": "(self, name)", "read": "(self, key)", "ask": "(self, name, key)", "answer": "(self, step)",
            "store": "(self)", "view": "(self, name)", "names": "(self)", "least_store": "(self)", "twin": "(self)",
        },
    },
    "menus": {
        "Menu": {
            "__init__": "(self, kind, steps, *, most)", "steps": "(self)", "states": "(self)",
            "row_to": "(self, number)", "table": "(self)", "full_pair": "(self)",
        },
    },
    "runs": {
        "Run": {
            "__init__": "(self, kind, begin, end, reach, pieces)", "of_batches": "(kind, begin, batches)",
            "reach": "(self)", "contents": "(self)", "pieces": "(self)", "entries_at": "(self, key)",
            "up_to": "(self, key, number)", "within": "(self, a, b)", "applied": "(self, store, number)",
        },
    },
    "cursors": {
        "Cursor": {
            "__init__": "(self, book, name)", "forward": "(self)", "backward": "(self)", "sweep": "(self, *, back=False)",
        },
    },
    "shelves": {
        "Shelf": {
            "__init__": "(self, kind, runs)", "runs": "(self)", "reaches": "(self)", "run_at": "(self, place)",
            "read": "(self, key, number=None)", "reads": "(self, number=None)", "added": "(self, run)",
            "order_fault": "(self, *, throughout=False)",
        },
    },
    "devices": {
        "Device": {
            "__init__": "(self, steps=())", "take": "(self, step)", "steps": "(self)", "left_parts": "(self)",
        },
    },
    "plans": {
        "Plan": {
            "__init__": "(self, rows)", "outcomes": "(self)", "standing": "(self, spill)", "writings": "(self)",
            "price": "(self, sizes)",
        },
    },
    "prices": {
        "PriceTable": {
            "__init__": "(self, sizes, height)", "__call__": "(self, k, i, j)", "seam": "(self, k, i, j)",
            "closed_rows": "(self)", "cheapest": "(self)",
        },
    },
    "desks": {
        "Desk": {
            "__init__": "(self, kind, *, most=8)", "write": "(self, batch)", "sync": "(self)", "crash": "(self, number)",
            "hold": "(self, name, a, b)", "narrow": "(self, name, a, b)", "drop": "(self, name)", "read": "(self, key)",
            "ask": "(self, name, key)", "answer": "(self, step)", "store": "(self)", "view": "(self, name)",
            "names": "(self)", "least_store": "(self)", "twin": "(self)", "spill": "(self)", "pour": "(self, lot)",
            "pour_split": "(self, lot)", "shelf": "(self)", "marks": "(self)", "log": "(self)", "steps": "(self)",
            "as_text": "(self)", "crash_text": "(self, text)", "count_at": "(self, key)", "whole_count": "(self)",
        },
    },
    "trials": {"Trial": {"__init__": "(self, desk)", "__enter__": "(self)"}},
}

PROPERTIES = {
    ("fields", "Field"): ("neutral", "size"), ("books", "Book"): ("kind", "most", "loose"),
    ("menus", "Menu"): ("kind", "most"), ("runs", "Run"): ("kind", "begin", "end"),
    ("cursors", "Cursor"): ("done",), ("shelves", "Shelf"): ("kind",), ("devices", "Device"): ("noted", "told", "lasting"),
    ("plans", "Plan"): ("height",), ("prices", "PriceTable"): ("least", "least_to_one"),
    ("desks", "Desk"): ("kind", "most", "loose", "noted", "kept", "spilled"), ("trials", "Trial"): ("entered",),
}

# what the interface lists for a class by a sign, by len(..), by `in` or by iterating
SIGNS = {
    ("fields", "Field"): ("__eq__", "__len__", "__iter__", "__contains__"), ("menus", "Menu"): ("__len__",),
    ("runs", "Run"): ("__eq__", "__len__", "__contains__"), ("shelves", "Shelf"): ("__eq__", "__len__", "__iter__"),
    ("devices", "Device"): ("__len__",), ("plans", "Plan"): ("__eq__", "__len__", "__iter__"),
    ("prices", "PriceTable"): ("__call__",), ("trials", "Trial"): ("__enter__", "__exit__"),
}

CONSTANTS = {
    "kinds": ("KIND_NAMES", "IDEMPOTENT"), "effects": ("IDLE", "STONE"), "stretches": ("TOP",),
    "deeds": ("DEEDS", "QUESTIONS", "REASONS"),
}


def tree_of(module):
    """Returns the tree of the file of a module."""
    return ast.parse((PACKAGE / (module + ".py")).read_text(encoding="utf-8"))


class InterfaceTest(unittest.TestCase):
    def test_functions(self):
        for module, names in FUNCTIONS.items():
            made = importlib.import_module("leastshelf." + module)
            here = [node.name for node in tree_of(module).body if isinstance(node, ast.FunctionDef)]
            for name, signature in names.items():
                self.assertIn(name, here)
                self.assertEqual(str(inspect.signature(getattr(made, name))), signature, (module, name))

    def test_classes(self):
        for module, names in CLASSES.items():
            made = importlib.import_module("leastshelf." + module)
            bodies = {node.name: node.body for node in tree_of(module).body if isinstance(node, ast.ClassDef)}
            for name, methods in names.items():
                self.assertIn(name, bodies)
                for method, signature in methods.items():
                    own = vars(getattr(made, name))[method]
                    own = own.__func__ if isinstance(own, (classmethod, staticmethod)) else own
                    self.assertEqual(str(inspect.signature(own)), signature, (module, name, method))
        self.assertIsInstance(vars(importlib.import_module("leastshelf.books").Book)["made"], classmethod)
        self.assertIsInstance(vars(importlib.import_module("leastshelf.runs").Run)["of_batches"], staticmethod)

    def test_properties(self):
        for (module, name), properties in PROPERTIES.items():
            made = getattr(importlib.import_module("leastshelf." + module), name)
            for attribute in properties:
                self.assertIsInstance(vars(made)[attribute], property)

    def test_signs(self):
        for (module, name), methods in SIGNS.items():
            made = getattr(importlib.import_module("leastshelf." + module), name)
            for method in methods:
                self.assertIn(method, vars(made))

    def test_constants(self):
        for module, names in CONSTANTS.items():
            made = importlib.import_module("leastshelf." + module)
            for name in names:
                self.assertTrue(hasattr(made, name))

    def test_generators(self):
        for module, name in (("overlays", "gaps"), ("leasts", "losses"), ("tables", "reached"), ("rows", "told_rows"),
                             ("scans", "walk")):
            self.assertTrue(inspect.isgeneratorfunction(getattr(importlib.import_module("leastshelf." + module), name)))
        self.assertTrue(inspect.isgeneratorfunction(importlib.import_module("leastshelf.cursors").Cursor.sweep))


if __name__ == "__main__":
    unittest.main()
