"""The interface: its names, where they are defined, and their parameters."""

import importlib
import inspect
import unittest

from joinmore.base.games import Game
from joinmore.desk.desk import Desk
from tests.cases import PAIRS

FUNCTIONS = {
    "joinmore.base.names": {"is_integer": "value", "is_name": "value"},
    "joinmore.base.gaps": {
        "is_test": "game value", "tests": "game", "gap": "game test", "is_growing": "game", "is_shrinking": "game",
        "is_additive": "game", "broken": "game", "is_growing_by": "game one other",
    },
    "joinmore.pay.pays": {
        "is_order": "game value", "orders": "game", "pay": "game order", "pays": "game", "orders_of": "game sharing",
    },
    "joinmore.pay.sharings": {
        "is_sharing": "game value", "share_for": "game sharing group", "slack": "game sharing group",
        "leaving": "game sharing", "is_kept": "game value",
    },
    "joinmore.pay.mixtures": {
        "are_weights": "game value", "weight_of": "game weights", "mix": "game weights", "is_mixture": "game sharing value",
    },
    "joinmore.pay.papers": {"paper": "game sharing", "is_paper": "game sharing value"},
    "joinmore.pay.verdict": {
        "left_by": "game test", "left_orders": "game", "game_paper": "game", "is_game_paper": "game value",
        "are_kept_within": "game group",
    },
    "joinmore.pay.bounds": {
        "least_share": "game group", "greatest_share": "game group", "tight": "game sharing",
        "room": "game sharing giver getter", "gift": "game sharing giver getter amount",
    },
    "joinmore.more.moves": {
        "moves": "game sharing", "moved": "game sharing giver getter", "distance": "game one other",
        "getter_for": "game one other giver", "way": "game one other", "is_way": "game one other value", "kept_sharings": "game",
    },
    "joinmore.more.even": {
        "ladder": "game sizes", "even": "game sizes", "even_sharing": "game sizes", "is_even": "game sizes value",
        "barring": "game sizes poorer richer", "unevenness": "game sizes sharing",
    },
    "joinmore.more.parts": {
        "does_split": "game group", "splitting": "game", "parts": "game", "part_of": "game person", "freedom": "game",
        "part_games": "game", "short_paper": "game sharing", "is_short_paper": "game sharing value",
    },
    "joinmore.more.between": {
        "are_between": "low high value", "between_paper": "low high", "is_between_paper": "low high value",
        "span": "low high person", "split": "one other amounts", "is_split": "one other amounts value",
    },
    "joinmore.more.fair": {
        "fair": "game", "fair_sharing": "game", "dividends": "game", "by_dividends": "people dividends",
        "told_back": "people sharings", "is_told_back": "game",
    },
    "joinmore.more.built": {
        "estate": "people total claims", "queue": "people times urges", "airfield": "people costs", "tree": "people above costs",
        "savings": "game", "flow": "people links",
    },
    "joinmore.text.formats": {
        "write_game": "game", "write_sharing": "game sharing", "write_weights": "game weights", "write_value": "value",
        "read_game": "text", "read_sharing": "game text", "read_weights": "game text", "read_value": "text",
    },
    "joinmore.more.beaten": {
        "does_beat": "game factor better sharing group", "needy": "game sharing", "steady_paper": "game sharing",
        "is_steady_paper": "game sharing value",
    },
    "joinmore.more.plans": {
        "order_plan": "game order", "is_plan": "game factor value", "falls": "game factor plan", "mixed_plan": "game weights",
        "plan_to": "game sharing", "fall_by": "game test", "plans_paper": "game", "is_plans_paper": "game value",
    },
    "joinmore.more.poorest": {
        "poorest": "game factor sharing", "is_fairer": "game factor one other", "is_levelling": "game factor sharing value",
        "levelling": "game factor sharing", "levelled": "game sharing", "is_levelled": "game sharing value",
    },
}
CLASSES = {
    "joinmore.errors": {
        "MoreError": {}, "InvalidName": {}, "InvalidGame": {}, "InvalidSharing": {}, "InvalidWeights": {},
        "InvalidOperation": {}, "ParseError": {"__init__": "index"}, "InvalidNumber": {"__init__": "value"},
        "UnknownName": {"__init__": "name"}, "TooMany": {"__init__": "limit"}, "NothingToUndo": {"__init__": "many"},
        "NotGrowing": {"__init__": "test"}, "Left": {"__init__": "group"},
    },
    "joinmore.base.games": {
        "Game": {
            "__init__": "people worths", "with_worth": "group worth", "only": "group", "renamed": "names", "turned": "",
            "beside": "other", "__add__": None, "__mul__": None, "__getitem__": None, "__contains__": None,
            "__len__": "", "__eq__": None, "__str__": "", "__iter__": "",
        },
    },
    "joinmore.desk.desk": {
        "Desk": {
            "__init__": "game", "put": "group worth", "hold": "", "release": "", "keep": "sharing", "forget": "",
            "give": "giver getter amount", "paper": "", "bounds": "person", "rooms": "", "undo": "many", "redo": "many", "trial": "",
            "during": "call", "twin": "", "__contains__": None, "__len__": "", "__eq__": None, "__str__": "",
        },
    },
    "joinmore.text.shell": {"Shell": {"__init__": "game_text", "__call__": "line", "answer": "line", "desk": ""}},
}


class Interface(unittest.TestCase):
    def test_functions(self):
        for place, functions in FUNCTIONS.items():
            for name, parameters in functions.items():
                function = getattr(importlib.import_module(place), name)
                self.assertTrue(inspect.isfunction(function), name)
                self.assertEqual(function.__module__, place, name)
                self.assertEqual(list(inspect.signature(function).parameters), parameters.split(), name)

    def test_classes(self):
        for place, classes in CLASSES.items():
            for name, methods in classes.items():
                told = getattr(importlib.import_module(place), name)
                self.assertTrue(inspect.isclass(told), name)
                self.assertEqual(told.__module__, place, name)
                for method, parameters in methods.items():
                    self.assertIn(method, vars(told), name)
                    found = list(inspect.signature(vars(told)[method]).parameters)[1:]
                    if parameters is not None:
                        self.assertEqual(found, parameters.split(), (name, method))

    def test_properties(self):
        for told, names in ((Game, ("people", "groups")), (Desk, ("game", "sharing", "held"))):
            for name in names:
                self.assertIsInstance(vars(told)[name], property)

    def test_many_is_a_keyword(self):
        for name in ("undo", "redo"):
            many = inspect.signature(getattr(Desk, name)).parameters["many"]
            self.assertEqual((many.kind, many.default), (inspect.Parameter.KEYWORD_ONLY, 1))

    def test_constants(self):
        told = (
            ("base.names", "MAX_LETTERS", 8), ("base.games", "MAX_PEOPLE", 5), ("base.games", "MAX_WORTH", 10 ** 9), ("more.moves", "MAX_KEPT", 2000),
        )
        for place, name, value in told:
            self.assertEqual(getattr(importlib.import_module("joinmore." + place), name), value)

    def test_additive_is_a_class_method(self):
        told = vars(PAIRS.__class__)["additive"]
        self.assertIsInstance(told, classmethod)
        self.assertEqual(list(inspect.signature(PAIRS.__class__.additive).parameters), ["people", "amounts"])


if __name__ == "__main__":
    unittest.main()
