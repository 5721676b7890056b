import importlib
import os
import unittest

import finesse

FOLDER = os.path.dirname(os.path.abspath(finesse.__file__))
INTERFACE = {
    "cards": ["check_deck", "suit_of", "rank_of", "card_of", "card_text", "read_card",
              "cards_of", "mask_of", "count_cards", "of_suit"],
    "deals": ["next_player", "partner_of", "side_of", "check_deal", "hand_text", "deal_text",
              "read_hand", "read_deal", "lengths", "points", "is_balanced", "turned",
              "holder_of", "squeezed"],
    "numbering": ["choices", "set_of_number", "number_of_set", "count_deals",
                  "deal_of_number", "number_of_deal", "spread"],
    "auction": ["Auction", "call_text", "read_call", "count_auctions"],
    "play": ["winner_of", "Play", "play_at"],
    "scores": ["needed", "score", "score_for", "compared"],
    "forced": ["share", "card_shares", "best_cards", "alike", "line_of"],
    "strategy": ["paper_holds", "paper_for", "follow", "shortened"],
    "papertext": ["paper_text", "read_paper"],
    "par": ["table_of", "par", "par_contracts", "makeable"],
    "views": ["check_view", "view_of_play", "count_fits", "fit_of_number", "fits", "holding_chance",
              "length_chances"],
    "chances": ["share_chances", "card_chances"],
    "conditions": ["Condition", "count_where", "fits_where", "chance_where"],
    "records": ["Record"],
    "console": ["run_console"],
    "plans": ["plan_wins", "plan_chance", "best_plan"],
    "alike": ["with_suits", "with_trump", "standard", "count_alike"],
    "claims": ["least_tricks", "most_tricks", "claim_holds"],
    "systems": ["System", "unused", "boards", "overlap"],
}
METHODS = {
    ("auction", "Auction"): ["turn", "calls", "legal", "call", "is_over", "contract"],
    ("play", "Play"): ["deck", "trump", "hands", "leader", "led", "turn", "legal", "put", "take_back", "history",
                       "tricks", "left", "is_over", "copy", "position"],
    ("conditions", "Condition"): ["holds", "text"],
    ("records", "Record"): ["deck", "hands", "dealer", "vulnerable", "auction", "play", "result", "text"],
    ("systems", "System"): ["rules", "call_for", "auction_for", "counts"],
}


class Layout(unittest.TestCase):
    def test_the_folder_holds_only_files_of_python(self):
        names = [name for name in os.listdir(FOLDER) if name != "__pycache__"]
        self.assertIn("__init__.py", names)
        self.assertEqual([name for name in names if not name.endswith(".py")], [])

    def test_each_function_is_defined_in_the_file_of_its_heading(self):
        for file, names in INTERFACE.items():
            module = importlib.import_module("finesse." + file)
            for name in names:
                with self.subTest(file=file, name=name):
                    self.assertEqual(getattr(module, name).__module__, "finesse." + file)
                    self.assertEqual(getattr(module, name).__name__, name)

    def test_each_method_is_defined_in_its_class(self):
        for (file, name), methods in METHODS.items():
            found = getattr(importlib.import_module("finesse." + file), name)
            for method in ["__init__"] + methods:
                with self.subTest(file=file, name=name, method=method):
                    self.assertIn(method, vars(found))


if __name__ == "__main__":
    unittest.main()
