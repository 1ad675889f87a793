"""The names of the interface stand in the files under which the document lists them."""

import inspect
import unittest

from leastroads import (
    desks, disks, ends, films, glass, links, nets, posts, records, rows, savings, states, texts, trees, waves, webs,
)

FUNCTIONS = {
    webs: {
        "neighbours": ["web", "house"], "rank": ["web", "one", "other"], "by_ranks": ["web"],
    },
    trees: {
        "least_tree": ["web"], "is_tree": ["web", "thing"], "way": ["web", "tree", "one", "other"],
        "weight_of": ["web", "tree"], "paper_of": ["web", "tree"],
        "is_paper": ["web", "tree", "thing"], "better": ["web", "tree"],
    },
    states: {
        "begun": ["web", "house"], "is_word": ["web", "thing"], "is_state": ["web", "house", "thing"],
        "woken": ["web", "house", "state"], "heard": ["web", "house", "state", "sender", "word"],
    },
    glass: {
        "first_glass": ["web"], "moved": ["web", "glass", "move"], "is_glass": ["web", "thing"],
        "moves": ["web", "glass"], "marked": ["web", "glass"], "fragments": ["web", "glass"],
        "broken": ["web", "glass"],
    },
    ends: {"run_out": ["web", "choices"], "bounds": ["web"]},
    records: {
        "first_wrong": ["record"], "glass_then": ["record", "at"], "causes": ["record"],
        "vectors": ["record"], "seen": ["record", "house"], "longest_chain": ["record"],
        "is_alike": ["record", "thing"], "by_least": ["record"], "recorded": ["web", "choices"],
    },
    links: {"outgoing_of": ["state"], "incoming_of": ["state"]},
    rows: {
        "row_of": ["parcel"], "sealed": ["parcel"], "parcel_of": ["row"], "is_parcel": ["thing"],
        "mark": ["row"], "unsealed": ["row"],
    },
    disks: {"kept_parcels": ["blocks"]},
    posts: {"post_of": ["web", "number", "past"]},
    nets: {"led_by": ["net", "deeds"], "round_trip": ["net"], "settle": ["net", "most"]},
    texts: {
        "web_text": ["web"], "tree_text": ["tree"], "moves_text": ["moves"], "record_text": ["record"],
        "read_web": ["text"], "read_tree": ["text"], "read_moves": ["text"], "read_record": ["text"],
    },
    films: {"drawn_marks": ["web", "glass"], "drawn": ["web", "glass"], "drawn_tree": ["web", "tree"]},
}
POST = {"state": [], "past": [], "letter": ["to"], "deed": ["thing"], "copy": []}
# For each class what it is made with, and its methods with what they are passed.
CLASSES = {
    webs: {"Web": (["many", "ties"], {"__eq__": ["other"]})},
    waves: {"Wave": (["web", "tree", "values"], {
        "want": ["house"], "take": ["one", "other"], "answer": ["house"], "ways": [], "taken": [], "copy": [],
    })},
    records: {"Record": (["web", "events"], {"__eq__": ["other"]})},
    links: {
        "Outgoing": ([], {
            "put": ["thing"], "known": ["number"], "many_put": [], "waiting": [], "state": [], "copy": [],
        }),
        "Incoming": ([], {"take": ["number", "thing"], "taken": [], "held": [], "state": [], "copy": []}),
    },
    disks: {"Disk": ([], {
        "write": ["row"], "sync": [], "synced": [], "blocks": [], "cut": ["kept"], "drop": ["number"], "copy": [],
    })},
    posts: {"Post": (["web", "number"], POST)},
    savings: {"SavedHouse": (["web", "number", "disk"], {**POST, "keep": [], "moved": ["disk"]})},
    nets: {"Net": (["web"], {"house": ["number"], "disk": ["number"], "bag": [], "glass": [], "deed": ["thing"]})},
    films: {"Reel": (["web", "moves", "every"], {
        "stands": [], "worked": [], "glass_there": [], "seek": ["at"], "kept": [], "copy": [],
    })},
    desks: {"Desk": ([], {"tell": ["line"]})},
}


class Interface(unittest.TestCase):
    def test_functions_are_defined_in_their_files_with_these_arguments(self):
        for module, functions in FUNCTIONS.items():
            for name, arguments in functions.items():
                with self.subTest(name):
                    call = getattr(module, name)
                    self.assertEqual(call.__module__, module.__name__)
                    self.assertEqual(list(inspect.signature(call).parameters), arguments)

    def test_classes_are_defined_in_their_files_with_their_own_methods(self):
        for module, classes in CLASSES.items():
            for name, (arguments, methods) in classes.items():
                with self.subTest(name):
                    kind = getattr(module, name)
                    self.assertEqual(kind.__module__, module.__name__)
                    self.assertEqual(list(inspect.signature(kind).parameters), arguments)
                    self.assertIn("__init__", vars(kind))
                    for method, passed in methods.items():
                        self.assertIn(method, vars(kind))
                        self.assertEqual(list(inspect.signature(vars(kind)[method]).parameters), ["self"] + passed)

    def test_a_saved_house_is_a_post_and_no_other_class_has_a_base(self):
        self.assertEqual(savings.SavedHouse.__bases__, (posts.Post,))
        for module, classes in CLASSES.items():
            for name in classes:
                if name != "SavedHouse":
                    self.assertEqual(getattr(module, name).__bases__, (object,))


if __name__ == "__main__":
    unittest.main()
