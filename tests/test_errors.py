"""[1.1], [1.2]: the errors."""

import unittest

from joinmore import errors
from tests.cases import PAIRS, strange

WORDS = ("InvalidName", "InvalidGame", "InvalidSharing", "InvalidWeights", "InvalidOperation")
KEEPERS = {
    "InvalidNumber": (IndexError, "value"),
    "UnknownName": (KeyError, "name"),
    "TooMany": (OverflowError, "limit"),
    "NothingToUndo": (LookupError, "many"),
    "NotGrowing": (ArithmeticError, "test"),
    "Left": (ArithmeticError, "group"),
    "ParseError": (errors.MoreError, "index"),
}
KEPT = {
    "InvalidNumber": 7, "UnknownName": "x", "TooMany": 2000, "NothingToUndo": 3,
    "NotGrowing": (("a",), "b", "c"), "Left": ("a", "b"), "ParseError": 4,
}


def made(name):
    return getattr(errors, name)(KEPT.get(name, "told"))


class Bases(unittest.TestCase):
    def test_direct_bases(self):
        self.assertEqual(errors.MoreError.__bases__, (ValueError,))
        for name in WORDS:
            self.assertEqual(getattr(errors, name).__bases__, (errors.MoreError,), name)
        for name, (base, _) in KEEPERS.items():
            self.assertEqual(getattr(errors, name).__bases__, (base,), name)

    def test_none_is_derived_from_another_one(self):
        names = WORDS + tuple(KEEPERS)
        for one in names:
            for other in names:
                if one != other:
                    self.assertFalse(issubclass(getattr(errors, one), getattr(errors, other)), (one, other))

    def test_only_the_words_and_parse_error_are_more_errors(self):
        for name in KEEPERS:
            self.assertEqual(issubclass(getattr(errors, name), errors.MoreError), name == "ParseError", name)
            self.assertEqual(issubclass(getattr(errors, name), ValueError), name == "ParseError", name)

    def test_the_roots_lie_apart(self):
        self.assertFalse(issubclass(errors.InvalidNumber, KeyError))
        self.assertFalse(issubclass(errors.UnknownName, IndexError))
        self.assertFalse(issubclass(errors.NothingToUndo, (IndexError, KeyError)))
        self.assertFalse(issubclass(errors.NotGrowing, (OverflowError, ZeroDivisionError)))
        self.assertFalse(issubclass(errors.Left, (OverflowError, ZeroDivisionError)))

    def test_caught_by_its_class_its_base_and_no_other_one(self):
        names = ("MoreError",) + WORDS + tuple(KEEPERS)
        for name in names:
            base = getattr(errors, name).__bases__[0]
            for catcher in (getattr(errors, name), base):
                with self.assertRaises(catcher):
                    raise made(name)
            for other in names:
                if other == name or getattr(errors, other) is base:
                    continue
                with self.assertRaises(getattr(errors, name)):
                    try:
                        raise made(name)
                    except getattr(errors, other):
                        self.fail(f"{other} catches {name}")


class Keeping(unittest.TestCase):
    def test_what_is_kept(self):
        for name, (_, attribute) in KEEPERS.items():
            self.assertEqual(getattr(made(name), attribute), KEPT[name], name)

    def test_every_value_is_kept(self):
        for value in strange():
            self.assertEqual(errors.InvalidNumber(value).value, value)
            self.assertEqual(errors.UnknownName(value).name, value)
        self.assertIs(errors.InvalidNumber(True).value, True)
        self.assertIs(errors.InvalidNumber(None).value, None)

    def test_messages(self):
        for name in ("MoreError",) + WORDS:
            self.assertEqual(str(getattr(errors, name)("some words")), "some words")

    def test_str_is_repr_of_what_is_kept(self):
        told = ("a", "", "two words", "it's", 7, -3, True, None, 10 ** 61, (), ("a",), (1, 2), [1], {"a": [2]})
        for value in told:
            self.assertEqual(str(errors.InvalidNumber(value)), repr(value))
            self.assertEqual(str(errors.UnknownName(value)), repr(value))
        self.assertEqual(str(errors.UnknownName("x")), "'x'")
        self.assertEqual(str(errors.InvalidNumber("x")), "'x'")
        self.assertEqual(str(errors.InvalidNumber((1, 2))), "(1, 2)")

    def test_no_state_is_shared(self):
        value = [1, [2], {"a": [3]}, ([4],)]
        error = errors.InvalidNumber(value)
        other = errors.UnknownName(value)
        value[1].append(5)
        value[2]["a"].append(5)
        value[3][0].append(5)
        value.append(5)
        self.assertEqual(error.value, [1, [2], {"a": [3]}, ([4],)])
        self.assertEqual(other.name, [1, [2], {"a": [3]}, ([4],)])
        error.value.append(6)
        self.assertEqual(len(value), 5)
        self.assertEqual(len(other.name), 4)

    def test_no_state_is_shared_by_a_call(self):
        value = [1]
        with self.assertRaises(errors.InvalidNumber) as caught:
            PAIRS * value
        value.append(2)
        self.assertEqual(caught.exception.value, [1])

    def test_errors_are_not_iterated_over(self):
        for name in ("MoreError",) + WORDS + tuple(KEEPERS):
            with self.assertRaises(TypeError):
                iter(made(name))


if __name__ == "__main__":
    unittest.main()
