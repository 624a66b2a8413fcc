"""The interface: names and arguments as the document lists them."""

import inspect
import unittest

from lanternrows import pictures, sheets

LISTED = [
    (sheets, "is_layer", ["thing"]),
    (sheets, "is_window", ["thing"]),
    (sheets, "is_sheet", ["thing"]),
    (sheets, "layer_length", ["layer"]),
    (sheets, "window_length", ["window"]),
    (sheets, "sheet_length", ["sheet"]),
    (pictures, "drawing_at", ["layer", "moment"]),
    (pictures, "place_at", ["window", "moment"]),
    (pictures, "picture_at", ["sheet", "moment"]),
    (pictures, "pictures_from", ["sheet", "moment", "many"]),
]


class Interface(unittest.TestCase):
    def test_names_and_arguments(self):
        for module, name, arguments in LISTED:
            with self.subTest(name=name):
                asked = getattr(module, name)
                self.assertEqual(list(inspect.signature(asked).parameters), arguments)
