"""The examples of the document, with just the values that it shows."""

from eachshare.base.houses import House
from eachshare.base.names import is_integer, is_name, is_names, is_set
from eachshare.errors import InvalidHouse
from tests.samples import Case

DUO = House(("l", "r"), {"a": ("l",), "b": ("r",), "m": ("l", "r")})
LINE = House(("p", "q", "r"), {"a": ("p",), "c": ("r",), "x": ("p", "q"), "y": ("q", "r")})


class Stage1(Case):
    def test_names(self):
        answers = [
            is_integer(-3), is_integer(True), is_name("left"), is_name("Left"),
            is_set(("a", "b")), is_set(("b", "a")), is_names(("b", "b", "a")), is_names(["a"]),
        ]
        for answer, wanted in zip(answers, [True, False, True, False, True, False, True, False], strict=True):
            self.assertIs(answer, wanted)


class Stage2(Case):
    def test_line(self):
        answers = [
            LINE.links, LINE.apart, LINE["x"], LINE.deeds_of("q"),
            LINE.above("r"), LINE.above("p"), LINE.side("q"), str(LINE),
        ]
        wanted = [
            (("p", "q"), ("q", "r")), (("a", "c"), ("a", "y"), ("c", "x")), ("p", "q"), ("x", "y"),
            "q", None, ("q", "r"), "house of 3 hands, 4 deeds",
        ]
        self.assertEqual(answers, wanted)

    def test_duo(self):
        answers = [
            DUO.are_apart("a", "b"), DUO.are_apart("a", "m"), DUO.given("m", "l").apart,
            LINE.as_one("p", "r")["y"], "q" in LINE, "x" in LINE,
        ]
        self.assertEqual(answers, [True, False, (("a", "b"), ("b", "m")), ("p", "q"), True, False])

    def test_ring(self):
        self.caught(InvalidHouse, House, ("p", "q", "r"), {"a": ("p", "q"), "b": ("q", "r"), "c": ("p", "r")})

    def test_a_text_is_like_its_example(self):
        self.assertEqual(str(DUO), "house of 2 hands, 3 deeds")
        self.assertEqual(str(House(("l",), {"a": ("l",)})), "house of 1 hands, 1 deeds")
