"""The interface: names and arguments as the document lists them."""

import inspect
import unittest

from lanternrows import forever, joining, laying, pictures, sheets, timing

LISTED = [
    (sheets, "is_layer", ["thing"]),
    (sheets, "is_window", ["thing"]),
    (sheets, "is_sheet", ["thing"]),
    (sheets, "layer_length", ["layer"]),
    (sheets, "window_length", ["window"]),
    (sheets, "sheet_length", ["sheet"]),
    (pictures, "drawing_at", ["layer", "moment"]),
    (pictures, "place_at", ["window", "moment"]),
    (pictures, "picture_at", ["sheet", "moment"]),
    (pictures, "pictures_from", ["sheet", "moment", "many"]),
    (laying, "laid", ["layer", "many"]),
    (laying, "folded", ["drawings"]),
    (forever, "is_round", ["layer", "thing"]),
    (forever, "least_round", ["layer"]),
    (forever, "sheet_round", ["sheet"]),
    (forever, "parting", ["one", "other"]),
    (forever, "are_alike", ["one", "other"]),
    (joining, "behind", ["one", "other"]),
    (joining, "beside", ["one", "other"]),
    (timing, "evened", ["layer", "many"]),
    (timing, "retimed", ["layer", "many"]),
    (timing, "sheet_retimed", ["sheet", "many"]),
]


class Interface(unittest.TestCase):
    def test_names_and_arguments(self):
        for module, name, arguments in LISTED:
            with self.subTest(name=name):
                asked = getattr(module, name)
                self.assertEqual(list(inspect.signature(asked).parameters), arguments)
