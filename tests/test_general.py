"""[1], [2] and the interface: where names stand, what they take, and that nothing passed or returned is shared."""

import importlib
import inspect
import unittest

INTERFACE = {
    "rules": {
        "Rule": ["label", "head", "told", "pairs=None", "denied=None"],
        "Book": ["rules"],
        "Question": ["columns", "told", "pairs=None"],
    },
    "texts": {
        "fact_text": ["fact"], "rule_text": ["rule"], "book_text": ["book"], "store_text": ["store"],
        "read_fact": ["text"], "read_rule": ["text"], "read_book": ["text"], "read_store": ["text"],
        "renamed": ["thing", "names"],
    },
    "matching": {
        "variables": ["question"], "matches": ["question", "store"], "count_matches": ["question", "store"],
        "matches_with": ["question", "store", "fact"], "partials": ["question", "store"], "best_order": ["question", "store"],
    },
}
MEMBERS = {
    ("rules", "Rule"): {"label": None, "head": None, "told": None, "pairs": None, "denied": None},
    ("rules", "Book"): {"rules": [], "labels": [], "rule": ["label"], "without": ["label"], "plain": None, "__len__": [],
                        "__add__": ["other"], "__eq__": ["other"]},
    ("rules", "Question"): {"columns": None, "told": None, "pairs": None},
}


def parameters(thing):
    """The parameters of a function or a class, without a method's own object."""
    found = [str(one) for one in inspect.signature(thing).parameters.values()]
    return [one for one in found if one != "self"]


class Interface(unittest.TestCase):
    def test_each_name_is_defined_in_its_module_with_its_arguments(self):
        for module, names in INTERFACE.items():
            place = importlib.import_module(f"neverapart.{module}")
            for name, expected in names.items():
                thing = getattr(place, name)
                self.assertEqual(thing.__module__, f"neverapart.{module}")
                self.assertEqual(parameters(thing), expected, name)

    def test_each_member_is_defined_in_its_class_itself(self):
        for (module, name), members in MEMBERS.items():
            kind = getattr(importlib.import_module(f"neverapart.{module}"), name)
            for member, expected in members.items():
                thing = vars(kind)[member]
                if expected is None:
                    self.assertIsInstance(thing, property)
                else:
                    self.assertEqual(parameters(thing), expected, member)


if __name__ == "__main__":
    unittest.main()
