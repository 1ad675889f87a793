"""The names of the interface stand in the files under which the document lists them."""

import inspect
import unittest

from leastroads import ends, glass, states, trees, webs

FUNCTIONS = {
    webs: {
        "neighbours": ["web", "house"], "rank": ["web", "one", "other"], "by_ranks": ["web"],
    },
    trees: {
        "least_tree": ["web"], "is_tree": ["web", "thing"], "way": ["web", "tree", "one", "other"],
        "weight_of": ["web", "tree"], "paper_of": ["web", "tree"],
        "is_paper": ["web", "tree", "thing"], "better": ["web", "tree"],
    },
    states: {
        "begun": ["web", "house"], "is_word": ["web", "thing"], "is_state": ["web", "house", "thing"],
        "woken": ["web", "house", "state"], "heard": ["web", "house", "state", "sender", "word"],
    },
    glass: {
        "first_glass": ["web"], "moved": ["web", "glass", "move"], "is_glass": ["web", "thing"],
        "moves": ["web", "glass"], "marked": ["web", "glass"], "fragments": ["web", "glass"],
        "broken": ["web", "glass"],
    },
    ends: {"run_out": ["web", "choices"], "bounds": ["web"]},
}


class Interface(unittest.TestCase):
    def test_functions_are_defined_in_their_files_with_these_arguments(self):
        for module, functions in FUNCTIONS.items():
            for name, arguments in functions.items():
                with self.subTest(name):
                    call = getattr(module, name)
                    self.assertEqual(call.__module__, module.__name__)
                    self.assertEqual(list(inspect.signature(call).parameters), arguments)

    def test_the_class_web_is_defined_in_its_file_with_its_own_equality(self):
        self.assertEqual(webs.Web.__module__, "leastroads.webs")
        self.assertEqual(list(inspect.signature(webs.Web).parameters), ["many", "ties"])
        self.assertIn("__eq__", vars(webs.Web))
        self.assertIn("__init__", vars(webs.Web))


if __name__ == "__main__":
    unittest.main()
