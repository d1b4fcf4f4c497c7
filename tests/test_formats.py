"""[19.1], [19.2], stage 19: texts of houses, wishes, rows and values."""

from random import Random

from eachshare.base.houses import House
from eachshare.errors import InvalidHouse, InvalidOperation, InvalidRow, InvalidWish, ParseError, TooMany
from eachshare.text.formats import (
    read_house, read_row, read_value, read_wish, write_house, write_row, write_value, write_wish,
)
from eachshare.wish.wishes import Wish
from tests import again
from tests.samples import Case, calm, crowd, duo, even, falling, first, grid, many_houses, nested, odd_values, odd_values_but
from tests.samples import once, steady, turning

DUO = "hands l r\ndeed a l\ndeed b r\ndeed m l r"
EVEN = "deeds a b m\nstate 1 1 0 kept\nstate 0 0 1"
READERS = (read_house, read_wish, read_row, read_value)


class Texts(Case):
    def wrong(self, index, call, text):
        """The call must raise ParseError with this index."""
        self.assertEqual(self.caught(ParseError, call, text).index, index, text[:300])


class WriteAndRead(Texts):
    def test_houses(self):
        for house in many_houses():
            text = write_house(house)
            self.assertEqual(read_house(text), house)
            lines = [line.split(" ") for line in text.split("\n")]
            self.assertEqual(lines[0], ["hands", *house.hands])
            self.assertEqual(lines[1:], [["deed", deed, *house[deed]] for deed in house.deeds])
        self.assertEqual([write_house(duo()), read_house(DUO)], [DUO, duo()])

    def test_wishes(self):
        rng = Random(1)
        wishes = [wish for _, wish in steady(81, each=2)] + [wish for _, wish, _ in falling()] + [first(), turning(crowd(), 24, {})]
        for _ in range(60):
            deeds = tuple("abcdefgh"[:rng.randint(1, 8)])
            try:
                wishes.append(Wish(*again.random_machine(rng, deeds, 12)))
            except TooMany:
                pass
        for wish in wishes:
            text = write_wish(wish)
            self.assertEqual(read_wish(text), wish)
            lines = [line.split(" ") for line in text.split("\n")]
            self.assertEqual(lines[0], ["deeds", *wish.deeds])
            for state, line in enumerate(lines[1:]):
                kept = ["kept"] if state in wish.kept else []
                self.assertEqual(line, ["state", *[str(end) for end in wish.targets[state]], *kept])
            self.assertEqual(len(lines), len(wish) + 1)
        self.assertEqual([write_wish(even()), read_wish(EVEN)], [EVEN, even()])
        self.assertEqual(write_wish(Wish(("a",), ((0,),), ())), "deeds a\nstate 0")

    def test_rows(self):
        rng = Random(2)
        rows = [(), ("a",), ("zz", "a", "zz"), ("abcdefgh",) * 3, ("a",) * 3000]
        rows += [again.random_row(rng, crowd().deeds, size) for size in (1, 2, 30, 900)]
        for row in rows:
            self.assertEqual(write_row(row), " ".join(row))
            self.assertEqual(read_row(write_row(row)), row)
        self.assertEqual([write_row(()), read_row("")], ["", ()])

    def drawn_value(self, rng, deep, is_key=False):
        sorts = ["name", "number", "constant", "tuple"] + ([] if is_key else ["dict", "tuple", "dict"])
        sort = rng.choice(sorts[:3] if deep == 0 else sorts)
        if sort == "name":
            return rng.choice(("a", "b", "yes", "no", "none", "missed", "abcdefgh"))
        if sort == "number":
            return rng.choice((0, 1, 2, 10, 11, 9, 100, 10 ** 59, 10 ** 60 - 1))
        if sort == "constant":
            return rng.choice((True, False, None))
        if sort == "tuple":
            return tuple(self.drawn_value(rng, deep - 1, is_key) for _ in range(rng.randint(0, 3)))
        return {self.drawn_value(rng, deep - 1, True): self.drawn_value(rng, deep - 1) for _ in range(rng.randint(0, 4))}

    def text_of(self, value):
        """The text of a value, by what the section says."""
        if isinstance(value, tuple):
            return " ".join(["(", *[self.text_of(part) for part in value], ")"])
        if isinstance(value, dict):
            parts = [self.text_of(part) for key in sorted(value, key=repr) for part in (key, value[key])]
            return " ".join(["{", *parts, "}"])
        words = {"True": "yes", "False": "no", "None": "none"}
        return f"={value}" if isinstance(value, str) else words.get(repr(value), str(value))

    def same(self, one, other):
        """Whether two values are equal and of the same kinds throughout."""
        return repr(one) == repr(other)

    def test_values(self):
        rng = Random(3)
        for deep in (0, 1, 2, 3, 5, 8):
            for _ in range(150):
                value = self.drawn_value(rng, deep)
                text = write_value(value)
                self.assertEqual(text, self.text_of(value))
                found = read_value(text)
                self.assertEqual(found, value)
                self.assertTrue(self.same(self.ordered(found), self.ordered(value)))

    def ordered(self, value):
        if isinstance(value, tuple):
            return tuple(self.ordered(part) for part in value)
        if isinstance(value, dict):
            return {key: self.ordered(value[key]) for key in sorted(value, key=repr)}
        return value

    def test_known_values(self):
        for value, text in (
            ((), "( )"), ({}, "{ }"), ("yes", "=yes"), (True, "yes"), (False, "no"), (None, "none"), (0, "0"), (1, "1"), (60, "60"),
            (("a",), "( =a )"), (((),), "( ( ) )"), ({"b": 1, "a": ()}, "{ =a ( ) =b 1 }"), ({10: 1, 9: 2}, "{ 10 1 9 2 }"),
            ({None: None, True: 0, "a": 1, 0: 2, (): 3}, "{ =a 1 ( ) 3 0 2 none none yes 0 }"), (("missed", (), "a", "b"), "( =missed ( ) =a =b )"),
            ({((0, 1), (0, 0)): 3, ((0, 0), (0, 1)): 0}, "{ ( ( 0 0 ) ( 0 1 ) ) 0 ( ( 0 1 ) ( 0 0 ) ) 3 }"),
        ):
            self.assertEqual(write_value(value), text)
            self.assertTrue(self.same(read_value(text), self.ordered(value)))

    def test_deep_values(self):
        for wrap, opening, closing in (
            (lambda part: (part,), "( ", " )"), (lambda part: {0: part}, "{ 0 ", " }"), (lambda part: (1, part, 2), "( 1 ", " 2 )"),
        ):
            for core, word in ((5, "5"), ("a", "=a"), (True, "yes")):
                for deep in range(9):
                    text = opening * deep + word + closing * deep
                    self.assertEqual(write_value(nested(wrap, core, deep)), text)
                    self.assertEqual(read_value(text), nested(wrap, core, deep))
                self.caught(InvalidOperation, write_value, nested(wrap, core, 9))
                self.caught(InvalidOperation, write_value, nested(wrap, core, 10))
                for deep in (9, 10, 300):
                    self.wrong(0, read_value, opening * deep + word + closing * deep)
        self.assertEqual(write_value(nested(lambda part: (part,), (), 7)), "( " * 8 + ") " * 7 + ")")
        self.caught(InvalidOperation, write_value, nested(lambda part: (part,), (), 8))
        self.caught(InvalidOperation, write_value, nested(lambda part: (part,), {}, 8))

    def test_deep_keys(self):
        key = nested(lambda part: (part,), 0, 7)
        text = "{ " + "( " * 7 + "0 " + ") " * 7 + "1 }"
        self.assertEqual([write_value({key: 1}), read_value(text)], [text, {key: 1}])
        self.caught(InvalidOperation, write_value, {(key,): 1})
        self.wrong(0, read_value, "{ " + "( " * 8 + "0 " + ") " * 8 + "1 }")

    def test_arguments_stay_as_they_are(self):
        value = {"b": {"z": 1, "y": ()}, "a": 2}
        write_value(value)
        self.assertEqual(repr(value), "{'b': {'z': 1, 'y': ()}, 'a': 2}")
        found = read_value("{ =a { } }")
        found["a"]["x"] = 1
        self.assertEqual(read_value("{ =a { } }"), {"a": {}})


class Writing(Texts):
    def test_kinds(self):
        for odd in odd_values_but(House):
            self.caught(InvalidHouse, write_house, odd)
        for odd in odd_values_but(Wish):
            self.caught(InvalidWish, write_wish, odd)
        for odd in [value for value in odd_values() if value != ()] + ["a", ["a"], ("A",), ("a", ""), (("a",),), ("overlongx",), {}, ("a", 1)]:
            self.caught(InvalidRow, write_row, odd)

    def test_values_without_a_text(self):
        values = [-1, 10 ** 60, 10 ** 99, "", "A", "a b", "overlongx", "=a", [], ["a"], [1], {"A": 1}, {1: "A"}, {-1: 1}, {1: -1}, (-1,)]
        values += [("a", []), ({"a": []},), {(("A",),): 1}, duo(), even(), (duo(),), {"a": even()}, ValueError, 0.5, b"a", {1}, frozenset()]
        values += [{(1, -1): 0}, {"a": {"b": {"c": "D"}}}, 1 - 10 ** 60]
        for odd in values:
            self.caught(InvalidOperation, write_value, odd)
        for odd in odd_values():
            try:
                self.assertEqual(read_value(write_value(odd)), odd)
            except InvalidOperation:
                self.assertFalse(self.has_text(odd))
            else:
                self.assertTrue(self.has_text(odd))

    def has_text(self, value, deep=0, is_key=False):
        if isinstance(value, (tuple, dict)):
            if deep == 8 or (is_key and isinstance(value, dict)):
                return False
            if isinstance(value, tuple):
                return all(self.has_text(part, deep + 1, is_key) for part in value)
            keys = all(self.has_text(key, deep + 1, True) for key in value)
            return keys and all(self.has_text(part, deep + 1) for part in value.values())
        if isinstance(value, str):
            return 1 <= len(value) <= 8 and all("a" <= sign <= "z" for sign in value)
        return value is None or isinstance(value, bool) or (isinstance(value, int) and 0 <= value < 10 ** 60)


class Reading(Texts):
    def test_no_strings(self):
        for call in READERS:
            for odd in odd_values_but(str):
                self.caught(InvalidOperation, call, odd)

    def test_odd_strings(self):
        for text in [value for value in odd_values() if isinstance(value, str)] + ["\n\n", "( )\n", "\n( )", " ", "  ", "\t", "a\tb"]:
            lines = text.split("\n")
            self.wrong(0, read_house, text)
            self.wrong(0, read_wish, text)
            names = lines[0].split(" ")
            fine = lines[0] == "" or all(1 <= len(name) <= 8 and name.isalpha() and name.islower() and name.isascii() for name in names)
            if not fine:
                self.wrong(0, read_row, text)
            elif len(lines) > 1:
                self.wrong(1, read_row, text)
            else:
                self.assertEqual(read_row(text), tuple(names) if text else ())

    def test_empty_text_and_empty_lines(self):
        for call in (read_house, read_wish, read_value):
            self.wrong(0, call, "")
            self.wrong(0, call, "\n")
        self.wrong(1, read_row, "\n")
        self.wrong(4, read_house, DUO + "\n")
        self.wrong(3, read_wish, EVEN + "\n")
        self.wrong(1, read_row, "a b\n")
        self.wrong(1, read_value, "( )\n")
        self.wrong(0, read_house, "\n" + DUO)
        self.wrong(0, read_wish, "\n" + EVEN)
        self.wrong(1, read_row, "\na")
        self.wrong(0, read_value, "\n( )")
        self.wrong(2, read_house, DUO.replace("\ndeed b", "\n\ndeed b"))
        self.wrong(2, read_wish, EVEN.replace("\nstate 0", "\n\nstate 0"))

    def test_several_lines(self):
        self.wrong(1, read_row, "a\nb")
        self.wrong(1, read_row, "a\nB")
        self.wrong(0, read_row, "A\nb")
        self.wrong(1, read_value, "1\n2")
        self.wrong(1, read_value, "1\nx")
        self.wrong(0, read_value, "x\n2")
        self.wrong(0, read_value, "(\n)")


class ReadHouse(Texts):
    def test_lines_that_have_no_form(self):
        for index, line in enumerate(DUO.split("\n")):
            for bad in (
                "", " ", "x", "deed", "deed a", "hands", "deeds a", "state 0", "deed A l", "deed a L", "deed a  l", " deed a l", "deed a l ",
                "deed a 1", "Deed a l", "deed overlongx l", "deed a overlongx", "hands l", "hands  l", "hands l ", " hands l", "hands L", "hands 1",
                "deed\ta l", "deed a l\t", "hand l r", "deed a (l)",
            ):
                lines = DUO.split("\n")
                lines[index] = bad
                right = bad in ("hands", "hands l") if index == 0 else False
                self.wrong(4 if right else index, read_house, "\n".join(lines))

    def test_where_lines_stand(self):
        lines = DUO.split("\n")
        self.wrong(0, read_house, "\n".join(lines[1:]))
        self.wrong(0, read_house, "\n".join(lines[1:] + lines[:1]))
        self.wrong(1, read_house, "\n".join(lines[:1] + lines))
        self.wrong(4, read_house, "\n".join(lines + lines[:1]))
        self.wrong(2, read_house, "\n".join(lines[:2] + lines[:1] + lines[2:]))
        self.wrong(1, read_house, "hands l\nhands r")
        self.wrong(1, read_house, "hands\nhands")

    def test_the_first_wrong_line(self):
        self.wrong(1, read_house, "hands l\nx\ny")
        self.wrong(2, read_house, "hands r l\ndeed a l\ny\nz")
        self.wrong(0, read_house, "x\nhands l\ndeed a l")

    def test_no_house_has_this_text(self):
        lines = DUO.split("\n")
        for text in (
            "hands l", "hands", "hands l r", "hands r l\ndeed a l", "hands l l\ndeed a l", "hands l r\ndeed a r l", "hands l\ndeed a r",
            "hands l r\ndeed b l\ndeed a r", "hands l r\ndeed a l\ndeed a l", "hands l r\ndeed a l\ndeed a r", "hands l\ndeed a l l",
            "hands l m r\ndeed a l m r", "hands a b c d e f\ndeed a a", "hands\ndeed a l", "hands l r\ndeed a l r l",
            "hands p q r\ndeed a p q\ndeed b q r\ndeed c p r", "hands l\n" + "\n".join(f"deed {deed} l" for deed in "abcdefghi"),
        ):
            self.wrong(len(text.split("\n")), read_house, text)
        self.wrong(4, read_house, "\n".join([lines[0], lines[2], lines[1], lines[3]]))
        self.wrong(5, read_house, DUO + "\n" + lines[-1])

    def test_lines_left_out(self):
        lines = DUO.split("\n")
        for index in range(1, 4):
            text = "\n".join(lines[:index] + lines[index + 1:])
            self.assertEqual(read_house(text), duo().without_deed(lines[index].split(" ")[1]))

    def test_every_sign_changed(self):
        # A text that is changed at one place is no text, or that of what it tells.
        rng = Random(4)
        for house in many_houses():
            text = write_house(house)
            for _ in range(60):
                place = rng.randrange(len(text))
                other = text[:place] + rng.choice(["", " ", "\n", "a", "l", "z", "A", "1", text[place] * 2]) + text[place + 1:]
                try:
                    self.assertEqual(write_house(read_house(other)), other)
                except ParseError as error:
                    self.assertTrue(0 <= error.index <= len(other.split("\n")))


class ReadWish(Texts):
    def test_lines_that_have_no_form(self):
        for index, line in enumerate(EVEN.split("\n")):
            for bad in (
                "", " ", "x", "state 1 1 -1", "state 1 1 01", "state 1 1 00", "state 1  1 0", "state 1 1 0 ", " state 1 1 0", "state kept 1",
                "state 1 kept 0", "state 1 1 0 kept kept", "state 1 1 0 Kept", "State 1 1 0", "deeds a b m", "deeds", "deeds a 1", "deeds A",
                "deeds a  b", "deeds a ", "deed a", "hands l", "state " + "1" * 61, "state 1 1 " + "9" * 100, "state a", "state +1", "state 1.0",
                "state 0x1", "state 1_0", "state ()", "state kept kept", "kept", "state =a",
            ):
                lines = EVEN.split("\n")
                lines[index] = bad
                right = bad in ("deeds a b m", "deeds") if index == 0 else False
                if index == 0 and bad == "deeds a b m":
                    self.assertEqual(read_wish("\n".join(lines)), even())
                else:
                    self.wrong(3 if right else index, read_wish, "\n".join(lines))

    def test_where_lines_stand(self):
        lines = EVEN.split("\n")
        self.wrong(0, read_wish, "\n".join(lines[1:]))
        self.wrong(1, read_wish, "\n".join(lines[:1] + lines))
        self.wrong(3, read_wish, "\n".join(lines + lines[:1]))
        self.wrong(1, read_wish, "deeds a\ndeeds b")
        self.wrong(2, read_wish, "deeds a\nstate 0\ndeeds a")

    def test_right_lines_but_no_text(self):
        for text in (
            "deeds", "deeds a", "deeds\nstate", "deeds\nstate kept", "deeds a\nstate", "deeds a\nstate kept", "deeds a\nstate 0 0", "deeds a\nstate 1",
            "deeds b a\nstate 0 0", "deeds a a\nstate 0 0", "deeds a\nstate " + "9" * 60, "deeds a\nstate 0 kept\nstate 0", "deeds a\nstate 1\nstate 1",
            "deeds a\nstate 1 kept\nstate 0 kept", "deeds a b\nstate 2 1\nstate 1 1 kept\nstate 2 2", "deeds a b c d e f g h i\nstate 0 0 0 0 0 0 0 0 0",
            EVEN + "\nstate 2 2 2", "deeds a\n" + "\n".join(["state 0"] * 101), "deeds a b\nstate 0\nstate 0 0", "deeds a\nstate 0 0 kept",
        ):
            self.wrong(len(text.split("\n")), read_wish, text)

    def test_machines_that_are_not_least(self):
        rng = Random(5)
        many = 0
        for _ in range(300):
            deeds, targets, kept = again.random_machine(rng, tuple("ab"), 5)
            text = "\n".join(["deeds a b"] + [
                " ".join(["state", *map(str, ends)] + ["kept"] * (state in kept)) for state, ends in enumerate(targets)
            ])
            wish = Wish(deeds, targets, kept)
            if (wish.targets, wish.kept) == (targets, kept):
                self.assertEqual(read_wish(text), wish)
            else:
                many += 1
                self.wrong(len(targets) + 1, read_wish, text)
        self.assertGreater(many, 50)

    def test_more_than_24_states(self):
        rows = [f"state {state + 1}" for state in range(23)] + ["state 23 kept"]
        self.assertEqual(len(read_wish("deeds a\n" + "\n".join(rows))), 24)
        rows = [f"state {state + 1}" for state in range(24)] + ["state 24 kept"]
        self.wrong(26, read_wish, "deeds a\n" + "\n".join(rows))

    def test_every_sign_changed(self):
        rng = Random(6)
        for wish in (even(), once(), calm(), grid(duo(), {"a": 2, "b": 3}), turning(crowd(), 12, {})):
            text = write_wish(wish)
            for _ in range(60):
                place = rng.randrange(len(text))
                other = text[:place] + rng.choice(["", " ", "\n", "a", "0", "1", "7", "kept", text[place] * 2]) + text[place + 1:]
                try:
                    self.assertEqual(write_wish(read_wish(other)), other)
                except ParseError as error:
                    self.assertTrue(0 <= error.index <= len(other.split("\n")))


class ReadRow(Texts):
    def test_words(self):
        for text in ("a  b", " a", "a ", "A", "a B", "overlongx", "a overlongx b", "1", "a 1", "=a", "a\tb", " ", "  ", "a,b", "( )"):
            self.wrong(0, read_row, text)
        self.assertEqual(read_row("abcdefgh zz a"), ("abcdefgh", "zz", "a"))


class ReadValue(Texts):
    def test_words(self):
        for text in (
            "a", "=", "=A", "=overlongx", "= a", "==a", "=a b", "1 2", "-1", "+1", "01", "00", "1.0", "1" * 61, "True", "None", "Yes", "YES", " 1", "1 ",
            "()", "( )( )", "(  )", "( ) ", " ( )", "( 1", "1 )", "( ) )", "( ( )", "( }", "{ )", "{ 1 }", "{ 1 2 3 }", "{ 1 2", "{ 1 ( }", "[ ]", "( , )",
            "( 1  2 )", "{  }", "{1 2}", ")", "}", "(", "{", "{ } { }", "( =a=b )", "( yes no", "( 1 2 ) 3", "=a =b", "'a'", "( -0 )", "( \t )",
        ):
            self.wrong(0, read_value, text)
        self.assertEqual(read_value("1" * 60), int("1" * 60))
        self.assertEqual([read_value("=none"), read_value("none"), read_value("=yes")], ["none", None, "yes"])

    def test_keys(self):
        for text in (
            "{ { } 1 }", "{ ( { } ) 1 }", "{ ( ( 1 { 2 3 } ) ) 1 }", "{ 1 2 1 3 }", "{ 1 no yes no }", "{ yes no 1 no }", "{ 0 1 no 1 }", "{ =b 1 =a 2 }",
            "{ 9 1 10 2 }", "{ 2 1 10 2 }", "{ none 1 =a 2 }", "{ ( 1 ) 1 ( yes ) 2 }", "{ ( 1 ) 1 ( 1 ) 2 }", "{ ( yes ) 1 ( 1 ) 2 }", "{ yes 1 none 2 }",
            "( { =a 1 =a 1 } )", "{ =a { =z 1 =y 2 } }", "{ ( ) 1 =a 2 }",
        ):
            self.wrong(0, read_value, text)
        self.assertEqual(read_value("{ 10 1 9 2 }"), {10: 1, 9: 2})
        self.assertEqual(read_value("{ =a 2 ( ) 1 }"), {"a": 2, (): 1})
        self.assertEqual(read_value("{ =a { } =b { 1 { } } }"), {"a": {}, "b": {1: {}}})

    def test_every_word_changed(self):
        rng = Random(7)
        for text in ("( =missed ( =a =b ) =a =b )", "{ ( ( 0 0 ) ( 0 1 ) ) 0 ( ( 0 1 ) ( 0 0 ) ) 3 }", "( =meets { =a ( ) 1 { 2 yes } } none )"):
            words = text.split(" ")
            for _ in range(200):
                place = rng.randrange(len(words))
                others = words[:place] + rng.choice([[], ["("], [")"], ["{"], ["}"], ["1"], ["yes"], ["=a"], [""], ["x"], words[place:place + 1] * 2]) + words[place + 1:]
                other = " ".join(others)
                try:
                    self.assertEqual(write_value(read_value(other)), other)
                except ParseError as error:
                    self.assertEqual(error.index, 0)

    def test_long_texts(self):
        text = "( " + "1 " * 1900 + ")"
        self.assertEqual(read_value(text), (1,) * 1900)
        self.wrong(0, read_value, "( " * 1900)
        self.wrong(0, read_value, ") " * 1900)
        self.wrong(0, read_value, "{ ( " * 900)
