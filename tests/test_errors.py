"""[1.1], [1.2]: the error classes."""

from eachshare import errors
from tests.samples import Case, duo, odd_values

MESSAGES = ["InvalidName", "InvalidRow", "InvalidHouse", "InvalidWish", "InvalidShare", "InvalidOperation"]
KEPT = {
    "Unmatched": "pair", "ParseError": "index", "InvalidNumber": "value", "UnknownName": "name",
    "TooMany": "limit", "NothingToUndo": "many", "Unsteady": "breach", "Refused": "name",
}
BASES = {
    "InvalidNumber": IndexError, "UnknownName": KeyError, "TooMany": OverflowError,
    "NothingToUndo": LookupError, "Unsteady": ArithmeticError, "Refused": ArithmeticError,
}
OF_SHARE_ERROR = MESSAGES + ["Unmatched", "ParseError"]
ALL = ["ShareError"] + OF_SHARE_ERROR + list(BASES)


def many_values():
    return odd_values() + ["l", ("l", "r"), (("a", "b"), 0), {"a": ("l",)}]


def caught_by(error, kind):
    try:
        raise error
    except kind:
        return True
    except Exception:
        return False


class Derived(Case):
    def test_share_error_comes_of_value_error(self):
        self.assertEqual(errors.ShareError.__bases__, (ValueError,))

    def test_directly_and_only(self):
        for name in OF_SHARE_ERROR:
            self.assertEqual(getattr(errors, name).__bases__, (errors.ShareError,), name)
        for name, base in BASES.items():
            self.assertEqual(getattr(errors, name).__bases__, (base,), name)

    def test_caught_by_no_other_own_class(self):
        for name in ALL:
            wanted = {name, "ShareError"} if name in OF_SHARE_ERROR else {name}
            found = {other for other in ALL if caught_by(getattr(errors, name)("l"), getattr(errors, other))}
            self.assertEqual(found, wanted)

    def test_caught_by_the_classes_of_python(self):
        for name in ALL:
            base = BASES.get(name, ValueError)
            self.assertTrue(caught_by(getattr(errors, name)("l"), base), name)
            for other in (ValueError, IndexError, KeyError, OverflowError, TypeError, RuntimeError):
                self.assertIs(caught_by(getattr(errors, name)("l"), other), issubclass(base, other), name)

    def test_defined_in_the_module(self):
        for name in ALL:
            self.assertEqual(getattr(errors, name).__module__, "eachshare.errors")


class Keeping(Case):
    def test_keeps_the_very_value(self):
        for name, kept in KEPT.items():
            for value in many_values():
                self.assertIs(getattr(getattr(errors, name)(value), kept), value, name)

    def test_keeps_it_when_raised(self):
        for name, kept in KEPT.items():
            value = ["l"]
            with self.assertRaises(getattr(errors, name)) as found:
                raise getattr(errors, name)(value)
            self.assertIs(getattr(found.exception, kept), value)

    def test_keeps_nothing_else(self):
        for name, kept in KEPT.items():
            self.assertEqual(vars(getattr(errors, name)(5)), {kept: 5})

    def test_one_behind_the_other(self):
        values = many_values()
        for name, kept in KEPT.items():
            for one, other in zip(values, values[1:]):
                first = getattr(errors, name)(one)
                second = getattr(errors, name)(other)
                self.assertIs(getattr(first, kept), one)
                self.assertIs(getattr(second, kept), other)

    def test_by_keyword(self):
        for name, kept in KEPT.items():
            self.assertEqual(getattr(getattr(errors, name)(**{kept: (1, 2)}), kept), (1, 2))


class Texts(Case):
    def test_repr_of_what_is_kept(self):
        for error in (errors.InvalidNumber, errors.UnknownName):
            for value in many_values():
                self.assertEqual(str(error(value)), repr(value))

    def test_known_texts(self):
        self.assertEqual(str(errors.InvalidNumber(7)), "7")
        self.assertEqual(str(errors.InvalidNumber("7")), "'7'")
        self.assertEqual(str(errors.InvalidNumber(-(10 ** 99))), "-1" + "0" * 99)
        self.assertEqual(str(errors.UnknownName("x")), "'x'")
        self.assertEqual(str(errors.UnknownName(("x", True, None))), "('x', True, None)")
        self.assertEqual(str(errors.UnknownName({"a": ["b"]})), "{'a': ['b']}")
        self.assertEqual(str(errors.UnknownName("")), "''")

    def test_equal_houses_have_equal_texts(self):
        self.assertEqual(str(errors.UnknownName(duo())), str(errors.UnknownName(duo())))

    def test_messages(self):
        for name in ["ShareError"] + MESSAGES:
            self.assertEqual(str(getattr(errors, name)("a message")), "a message")
