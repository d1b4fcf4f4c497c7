"""[0.1], [0.7]: integers, names, sets of names, tuples of names."""

from eachshare.base import names
from eachshare.base.names import is_integer, is_name, is_names, is_set
from tests.samples import Case, nested_values, odd_values, own_objects, plain_values

LETTERS = "abcdefghijklmnopqrstuvwxyz"


class Judging(Case):
    def all_are(self, judge, wanted, values):
        for value in values:
            self.assertIs(judge(value), wanted, f"{judge.__name__} {value!r:.100}")


class Integers(Judging):
    def test_sixty_digits(self):
        most = 10 ** 60 - 1
        self.assertEqual(len(str(most)), 60)
        self.all_are(is_integer, True, [0, 1, -1, 7, -3, 10 ** 59, -(10 ** 59), most, -most, most - 1, 1 - most])

    def test_sixty_one_digits(self):
        least = 10 ** 60
        self.assertEqual(len(str(least)), 61)
        self.all_are(is_integer, False, [least, -least, least + 1, -least - 1, 10 ** 61 - 1, 1 - 10 ** 61])
        self.all_are(is_integer, False, [10 ** 99, -(10 ** 99), 10 ** 100 - 1, 1 - 10 ** 100])

    def test_no_integers(self):
        self.all_are(is_integer, False, [True, False, None, "", "1", "-1", (), (1,), [], [1], {}, {1: 1}])
        self.all_are(is_integer, False, nested_values() + own_objects())


class Names(Judging):
    def test_limit(self):
        self.assertEqual(names.MAX_LETTERS, 8)

    def test_letters(self):
        self.all_are(is_name, True, list(LETTERS))
        self.all_are(is_name, True, [LETTERS[at:at + 8] for at in range(19)] + ["left", "aaaaaaaa", "zz"])

    def test_lengths(self):
        self.all_are(is_name, True, [letter * size for letter in "amz" for size in range(1, 9)])
        self.all_are(is_name, False, ["", "a" * 9, "abcdefghi", "z" * 10, "a" * 4000])

    def test_every_other_sign(self):
        signs = [chr(code) for code in range(128) if chr(code) not in LETTERS] + ["\u00e9", "\u00df", "\uff41"]
        for sign in signs:
            self.all_are(is_name, False, [sign, sign + "a", "a" + sign, "a" + sign + "z", "abcdefg" + sign])

    def test_no_strings(self):
        self.all_are(is_name, False, [1, True, None, ("a",), ["a"], {"a": "a"}, ("a", "b")])

    def test_odd_values(self):
        self.all_are(is_name, False, odd_values())


class Sets(Judging):
    def test_sets(self):
        self.all_are(is_set, True, [(), ("a",), ("a", "b"), ("a", "aa", "b"), ("b", "ba", "c"), tuple(LETTERS)])

    def test_equal_neighbours(self):
        self.all_are(is_set, False, [("a", "a"), ("a", "b", "b"), ("a", "a", "b"), ("b",) * 5])

    def test_descending(self):
        self.all_are(is_set, False, [("b", "a"), ("a", "c", "b"), ("b", "a", "c"), ("aa", "a"), ("a", "b", "a")])

    def test_no_tuples(self):
        self.all_are(is_set, False, [["a"], ["a", "b"], [], "ab", "a", {"a": 1}, {}, None, 1])

    def test_members(self):
        self.all_are(is_set, False, [("A",), ("a", "B"), ("a", 1), (1, 2), ("a", None), (("a",),), ("",), ("a", ["b"])])
        self.all_are(is_set, False, [(value,) for value in odd_values()])
        self.all_are(is_set, False, [("a", value) for value in odd_values()])
        self.all_are(is_set, False, [(value, "z") for value in odd_values()])

    def test_odd_values(self):
        self.all_are(is_set, False, odd_values())


class TuplesOfNames(Judging):
    def test_any_order(self):
        self.all_are(is_names, True, [(), ("a",), ("a", "b"), ("b", "a"), ("b", "b", "a"), ("a", "a"), ("c", "a", "b")])
        self.all_are(is_names, True, [tuple(LETTERS) * 40, ("overlong",)])

    def test_no_tuples(self):
        self.all_are(is_names, False, [["a"], [], "ab", "a", {"a": 1}, {}, None, 0, True])

    def test_members(self):
        self.all_are(is_names, False, [("A",), ("a", "B"), ("b", 1), ("overlongx",), (("a",),), ("a", True), ("",)])
        self.all_are(is_names, False, [("b", "a", value, "a") for value in odd_values()])

    def test_odd_values(self):
        self.all_are(is_names, False, odd_values())


class Unchanged(Judging):
    def test_no_argument_changes(self):
        for judge in (is_integer, is_name, is_set, is_names):
            values = plain_values() + nested_values()
            for value in values:
                judge(value)
            self.assertEqual(values, plain_values() + nested_values())
