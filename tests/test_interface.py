"""The interface's names and arguments, each defined in the file that lists it."""

import importlib
import inspect
import unittest

LISTED = {
    "houses": {"is_house": ["thing"], "is_standing": ["house", "thing"], "is_wish": ["house", "thing"],
               "fault_of": ["thing"], "broken": ["house", "numbers"], "meets": ["house", "numbers", "wish"]},
    "walks": {"walked": ["house", "standing", "walk"], "spread": ["house", "standing", "strength"]},
    "chains": {"is_chain": ["house", "thing"]},
    "finding": {"some_standing": ["house"], "bars_all": ["house", "thing"], "spans": ["house", "wish"]},
    "rings": {"ring": ["house", "place"]},
    "nearest": {"nearest": ["house", "standing", "wish"], "reason": ["house", "standing", "wish", "name"],
                "why": ["house", "standing", "wish"], "bars": ["house", "standing", "wish", "paper"]},
    "weakness": {"weak": ["house", "standing", "wish", "strength"],
                 "bars_weak": ["house", "standing", "wish", "strength", "paper"]},
    "heaving": {"heaves": ["house", "standing", "wish", "most"]},
    "orders": {"in_order": ["house", "standing", "wishes"], "any_order": ["house", "standing", "wishes"],
               "bars_order": ["house", "standing", "wishes", "paper"],
               "bars_any": ["house", "standing", "wishes", "paper"], "ahead": ["house", "standing", "wishes"],
               "spared": ["house", "standing", "wishes"], "cheapest": ["house", "standing", "wishes"],
               "open_now": ["house", "standing", "wishes"], "till": ["house", "standing", "wish", "name"]},
    "beats": {"quickest": ["house", "standing", "wish"], "at_beat": ["house", "standing", "wish", "t"],
              "beat_of": ["house", "standing", "wish", "name", "number"]},
    "hands": {"meeting": ["house", "hands"], "no_meeting": ["house", "hands", "thing"]},
    "ruling": {"follows": ["house", "rule"], "needless": ["house"], "alike": ["house", "second"]},
    "forgetting": {"forgotten": ["house", "name"]},
    "texts": {"show_house": ["house"], "show_chain": ["chain"], "read_house": ["text"], "read_chain": ["text"]},
    "keepers": {"Keeper": ["house", "standing", "strength"]},
    "desk": {"Desk": []},
}
METHODS = {
    ("keepers", "Keeper"): {"do": ["deed"], "undo": [], "again": [], "stand_now": [], "coins_now": [], "paid_now": [],
                            "house_now": [], "deeds_now": [], "can_meet": ["wish"], "loses": ["deed", "wishes"],
                            "copied": []},
    ("desk", "Desk"): {"say": ["row"]},
}


class Interface(unittest.TestCase):
    def test_names_arguments_and_files(self):
        for file, functions in LISTED.items():
            module = importlib.import_module("pawldials." + file)
            for name, arguments in functions.items():
                with self.subTest(file=file, name=name):
                    function = getattr(module, name)
                    self.assertEqual(list(inspect.signature(function).parameters), arguments)
                    self.assertEqual(function.__module__, "pawldials." + file)

    def test_methods_stand_in_the_class_itself(self):
        for (file, name), methods in METHODS.items():
            kind = getattr(importlib.import_module("pawldials." + file), name)
            for method, arguments in methods.items():
                with self.subTest(name=name, method=method):
                    self.assertEqual(list(inspect.signature(vars(kind)[method]).parameters), ["self", *arguments])


if __name__ == "__main__":
    unittest.main()
