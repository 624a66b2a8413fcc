"""The interface: names and arguments as the document lists them."""

import inspect
import unittest

from lanternrows import desk, forever, joining, laying, pictures, plates, roll, sheets, texts, timing

LISTED = [
    (sheets, "is_layer", ["thing"]),
    (sheets, "is_window", ["thing"]),
    (sheets, "is_sheet", ["thing"]),
    (sheets, "layer_length", ["layer"]),
    (sheets, "window_length", ["window"]),
    (sheets, "sheet_length", ["sheet"]),
    (pictures, "drawing_at", ["layer", "moment"]),
    (pictures, "place_at", ["window", "moment"]),
    (pictures, "picture_at", ["sheet", "moment"]),
    (pictures, "pictures_from", ["sheet", "moment", "many"]),
    (laying, "laid", ["layer", "many"]),
    (laying, "folded", ["drawings"]),
    (forever, "is_round", ["layer", "thing"]),
    (forever, "least_round", ["layer"]),
    (forever, "sheet_round", ["sheet"]),
    (forever, "parting", ["one", "other"]),
    (forever, "are_alike", ["one", "other"]),
    (joining, "behind", ["one", "other"]),
    (joining, "beside", ["one", "other"]),
    (timing, "evened", ["layer", "many"]),
    (timing, "retimed", ["layer", "many"]),
    (timing, "sheet_retimed", ["sheet", "many"]),
    (plates, "plates", ["sheet", "many"]),
    (plates, "changed", ["sheet", "layer", "place", "row"]),
    (plates, "is_paper", ["one", "other", "many", "thing"]),
    (plates, "made_by", ["one", "other", "many", "paper"]),
    (plates, "least_paper", ["one", "other", "many"]),
    (texts, "sheet_text", ["sheet"]),
    (texts, "read_sheet", ["text"]),
    (roll, "Roll", []),
    (desk, "Desk", []),
]
METHODS = [
    (roll.Roll, "put", ["self", "deed"]),
    (roll.Roll, "sheet_now", ["self"]),
    (roll.Roll, "standing", ["self"]),
    (roll.Roll, "leaning", ["self", "number"]),
    (roll.Roll, "undo", ["self", "number"]),
    (desk.Desk, "tell", ["self", "row"]),
]


class Interface(unittest.TestCase):
    def test_names_and_arguments(self):
        for module, name, arguments in LISTED:
            with self.subTest(name=name):
                asked = getattr(module, name)
                self.assertEqual(list(inspect.signature(asked).parameters), arguments)

    def test_methods_stand_in_their_class_itself(self):
        for owner, name, arguments in METHODS:
            with self.subTest(name=name):
                self.assertIn(name, vars(owner))
                self.assertEqual(list(inspect.signature(vars(owner)[name]).parameters), arguments)
