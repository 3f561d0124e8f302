"""The interface: names, arguments, and which class stands under which."""

import importlib
import inspect
import unittest

# What stands in each file, function by function, with its arguments.
FUNCTIONS = {
    "keys": {"stamp": "key", "mixed": "number salt size", "mark": "key width", "look_keys": "keys"},
    "bits": {"written": "numbers width", "read_bits": "bits width", "ones_before": "bits place", "width_for": "number"},
    "peel": {"look_edges": "edges size", "peeled": "edges size"},
    "tries": {
        "part_size": "many kind", "places_of": "key salt kind part", "edges_of": "keys salt kind",
        "fate": "keys salt kind", "first_try": "keys kind most",
    },
    "fill": {"summed": "table places modulus", "filled": "edges size order wanted modulus"},
    "values": {"mistaken": "marked keys low high"},
    "retold": {"house_told": "house", "made_again": "what"},
}
# Class by class: its base, the arguments with which it is made (None: it isn't), and its methods with theirs.
CLASSES = {
    ("houses", "House"): ("object", None, {"many": "", "room": "key", "rooms": "keys"}),
    ("houses", "Peeled"): (
        "House", "keys kind most",
        {"many": "", "room": "key", "rooms": "keys", "salt": "", "table": "", "used": "", "places": "key"},
    ),
    ("houses", "Ordered"): (
        "House", "keys kind most",
        {"many": "", "room": "key", "rooms": "keys", "salt": "", "table": "", "places": "key"},
    ),
    ("values", "Kept"): (
        "object", "keys values width kind most", {"many": "", "salt": "", "table": "", "places": "key", "value": "key"},
    ),
    ("values", "Marked"): (
        "object", "keys width kind most", {"many": "", "salt": "", "table": "", "places": "key", "knows": "key"},
    ),
    ("buckets", "Buckets"): (
        "House", "keys many_buckets most",
        {"many": "", "room": "key", "rooms": "keys", "numbers": "", "bucket": "key"},
    ),
    ("halves", "Halved"): ("House", "keys leaf most", {"many": "", "room": "key", "rooms": "keys", "numbers": ""}),
    ("living", "Living"): (
        "object", "part salt modulus",
        {"value": "key", "kept": "", "table": "", "places": "key", "ring": "key", "put": "key value", "drop": "key"},
    ),
}


def arguments_of(call):
    return " ".join(inspect.signature(call).parameters)


class InterfaceTest(unittest.TestCase):
    def test_functions(self):
        for file, functions in FUNCTIONS.items():
            module = importlib.import_module(f"lodge.{file}")
            for name, arguments in functions.items():
                function = getattr(module, name)
                self.assertEqual(function.__module__, f"lodge.{file}")
                self.assertEqual(arguments_of(function), arguments, name)

    def test_classes(self):
        for (file, name), (base, arguments, methods) in CLASSES.items():
            which = getattr(importlib.import_module(f"lodge.{file}"), name)
            self.assertEqual(which.__module__, f"lodge.{file}")
            self.assertEqual([each.__name__ for each in which.__bases__], [base], name)
            if arguments is not None:
                self.assertEqual(arguments_of(which), arguments, name)
            for method, handed in methods.items():
                self.assertEqual(arguments_of(getattr(which, method)), f"self {handed}".strip(), (name, method))


if __name__ == "__main__":
    unittest.main()
