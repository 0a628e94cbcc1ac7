"""The names of the document's interface, and that each class has its methods in its own body."""

import importlib
import unittest

FUNCTIONS = {
    "pictures": ("look_at_picture",),
    "texts": ("picture_shown", "picture_read", "run_shown", "run_read"),
    "reach": ("reached",),
    "papers": ("wanted_holds", "cut_holds", "pointed_holds"),
    "reasons": ("wanted_for", "cut_for", "why"),
    "mail": ("mail_holds",),
    "world": ("run",),
    "replay": ("picture_at", "taken_holds"),
}
PART = ("hand_on", "got", "is_held", "pinned", "let_go", "take", "lapse", "knows", "copied")
CLASSES = {
    "ringways": ("RingWay", ("seek", "verdicts")),
    "trial": ("Trial", ("seek", "verdicts")),
    "marks": ("Marks", ("seek", "verdicts", "rounds")),
    "track": ("Track", ("seek", "verdicts", "gone")),
    "mail": ("Mail", ("write", "packets", "unowned", "written", "done", "take", "copied")),
    "net": ("Net", ("put", "under_way", "come", "double", "lose", "copied")),
    "parts": ("Part", PART),
    "listpart": ("ListPart", PART + ("told",)),
    "weightpart": ("WeightPart", PART + ("out", "weight")),
    "leasepart": ("LeasePart", PART + ("lease",)),
    "house": ("House", ("do", "hear", "take", "told", "lapse", "copied", "hands", "still", "things", "events",
                        "taken")),
    "world": ("World", ("do", "told", "picture", "histories")),
}


class InterfaceTest(unittest.TestCase):
    def test_functions(self):
        for module, names in FUNCTIONS.items():
            for name in names:
                self.assertTrue(callable(getattr(importlib.import_module("heldafar." + module), name)))

    def test_methods_stand_in_the_class_itself(self):
        for module, (name, methods) in CLASSES.items():
            kind = getattr(importlib.import_module("heldafar." + module), name)
            for method in methods:
                self.assertIn(method, vars(kind), (name, method))
