import importlib
import os
import unittest

import finesse

FOLDER = os.path.dirname(os.path.abspath(finesse.__file__))
INTERFACE = {
    "cards": ["check_deck", "suit_of", "rank_of", "card_of", "card_text", "read_card",
              "cards_of", "mask_of", "count_cards", "of_suit"],
    "deals": ["next_player", "partner_of", "side_of", "check_deal", "hand_text", "deal_text",
              "read_hand", "read_deal", "lengths", "points", "is_balanced", "turned",
              "holder_of", "squeezed"],
    "numbering": ["choices", "set_of_number", "number_of_set", "count_deals",
                  "deal_of_number", "number_of_deal", "spread"],
}


class Layout(unittest.TestCase):
    def test_the_folder_holds_only_files_of_python(self):
        names = [name for name in os.listdir(FOLDER) if name != "__pycache__"]
        self.assertIn("__init__.py", names)
        self.assertEqual([name for name in names if not name.endswith(".py")], [])

    def test_each_function_is_defined_in_the_file_of_its_heading(self):
        for file, names in INTERFACE.items():
            module = importlib.import_module("finesse." + file)
            for name in names:
                with self.subTest(file=file, name=name):
                    self.assertEqual(getattr(module, name).__module__, "finesse." + file)
                    self.assertEqual(getattr(module, name).__name__, name)


if __name__ == "__main__":
    unittest.main()
