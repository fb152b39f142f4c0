"""The interface: each name that has landed exists in its module, with the arguments told there."""

import importlib
import inspect
import unittest

FUNCTIONS = {
    "claims": {"is_claim": "thing", "is_book": "thing", "is_wide": "one other"},
    "settings": {"holds": "claim setting", "failing": "book setting", "follows": "book claim"},
    "cuts": {"cut": "one other k"},
    "ladders": {
        "is_ladder": "book thing", "claims_of": "book ladder", "heights": "book ladder",
        "how_many_cuts": "book ladder",
    },
    "standing": {"stands_on": "book ladder", "needed": "book ladder", "trimmed": "book ladder"},
    "once": {"told_once": "book ladder"},
    "instead": {"put_instead": "book ladder old other"},
    "bare": {"is_bare": "book ladder", "made_bare": "book ladder"},
    "trees": {
        "is_tree": "book thing", "claim_of_tree": "book tree", "how_many_pieces": "tree", "cuts_of_tree": "tree",
    },
    "backing": {"pieces_of": "book ladder", "tree_of": "book ladder", "rows_of": "tree"},
    "regular": {"is_regular": "tree", "made_regular": "book tree"},
    "late": {"is_put_off": "book ladder first", "put_off": "book ladder"},
    "force": {
        "forced": "claims says", "shows_fall": "claims says steps number", "shows_stand": "claims says steps",
    },
    "tellings": {"wrong_at": "book telling", "made_whole": "book telling", "spared": "book telling"},
    "cores": {"core": "book claim", "shows_core": "book claim numbers settings"},
    "fewest": {
        "fewest": "book claim", "shows_needed": "book claim many table", "floor_of": "book claim",
    },
    "least": {
        "least_cuts": "book", "least_heights": "book", "least_tree": "book claim", "to_spare": "book tree",
    },
    "bearing": {"bears_cuts": "book thing", "bears_heights": "book thing"},
    "chains": {"is_chain": "book ladder thing", "shortened": "book ladder"},
    "texts": {
        "show_book": "book", "show_ladder": "ladder", "show_claim": "claim", "read_book": "text", "read_ladder": "text",
    },
}


class Interface(unittest.TestCase):
    def test_functions_and_their_arguments(self):
        for module, functions in FUNCTIONS.items():
            found = importlib.import_module(f"sparecut.{module}")
            for name, arguments in functions.items():
                told = inspect.signature(getattr(found, name)).parameters
                self.assertEqual(list(told), arguments.split(), f"{module}.{name}")

    def test_the_desk_and_its_method(self):
        desk = importlib.import_module("sparecut.desk").Desk
        self.assertEqual(list(inspect.signature(desk).parameters), [])
        self.assertEqual(list(inspect.signature(vars(desk)["say"]).parameters), ["self", "row"])


if __name__ == "__main__":
    unittest.main()
