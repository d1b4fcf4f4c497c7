"""Stage 20: the shell."""

from random import Random

from eachshare.base.houses import House
from eachshare.desk.desk import Desk
from eachshare.errors import InvalidOperation, NothingToUndo, ParseError, Refused, Unsteady
from eachshare.know.endless import does_meet
from eachshare.know.noticing import notice_paper
from eachshare.know.refusing import refusal_paper
from eachshare.put.crews import greatest_gifts, least_crews
from eachshare.share.steady import is_breach
from eachshare.text.formats import read_house, write_house, write_value, write_wish
from eachshare.text.shell import Shell
from eachshare.wish.wishes import Wish
from tests import again
from tests.samples import Case, calm, crowd, duo, even, falling, first, grid, line, odd_values, odd_values_but, once, snake
from tests.samples import steady, turning

WORDS = (
    "do", "guard", "forget", "merge", "give", "undo", "redo", "row", "own", "names", "can", "house", "has", "view", "may", "noticed", "kept",
    "goal", "crews", "gifts",
)
# How many names each command has, and what other words: none, numbers, one number or none, names, or one name at least.
FORMS = {
    "do": (0, "some"), "guard": (1, "numbers"), "forget": (1, ""), "merge": (2, ""), "give": (2, ""), "undo": (0, "many"), "redo": (0, "many"),
    "row": (0, ""), "own": (1, ""), "names": (0, ""), "can": (1, ""), "house": (0, ""), "has": (1, ""), "view": (1, "names"), "may": (1, "names"),
    "noticed": (1, "numbers"), "kept": (1, "numbers"), "goal": (2, "numbers"), "crews": (1, "numbers"), "gifts": (1, ""),
}


def shell_of(house, **wishes):
    return Shell(write_house(house), {name: write_wish(wish) for name, wish in wishes.items()})


def small():
    return shell_of(duo(), calm=calm(), even=even())


def is_name(word):
    return 1 <= len(word) <= 8 and all("a" <= sign <= "z" for sign in word)


def is_number(word):
    return 1 <= len(word) <= 60 and all("0" <= sign <= "9" for sign in word) and (word == "0" or word[0] != "0")


def fits(line):
    """Whether a line is a command with right words."""
    word, *rest = line.split(" ")
    if word not in FORMS:
        return False
    many, ending = FORMS[word]
    names, rest = rest[:many], rest[many:]
    if len(names) < many or not all(map(is_name, names)):
        return False
    if ending in ("", "many"):
        return len(rest) <= len(ending[:1]) and all(map(is_number, rest))
    if ending == "numbers":
        return all(map(is_number, rest))
    return all(map(is_name, rest)) and (ending == "names" or bool(rest))


class Answers(Case):
    def ask(self, shell, *pairs):
        for line_, wanted in pairs:
            self.assertEqual(shell(line_), wanted, line_)

    def test_calls_of_the_desk(self):
        shell = small()
        self.ask(
            shell, ("do a b", "done"), ("row", "a b"), ("own l", "a"), ("own r", "b"), ("names", "calm even"), ("can calm", "a b m"), ("has calm", "no"),
            ("has even", "yes"), ("view calm", "0"), ("view calm l", "1"), ("view calm l r", "3"), ("view calm r", "2"), ("may calm", "0 1 2 3"),
            ("may calm l", "1 3"), ("may calm l r", "3"), ("house", write_house(duo())), ("guard calm 3", "done"), ("can calm", "a b"), ("do m", "refused calm"),
            ("do a a", "done"), ("row", "a b a a"), ("undo", "done"), ("row", "a b"), ("redo 1", "done"), ("undo 2", "done"), ("can calm", "a b m"),
            ("forget even", "done"), ("names", "calm"), ("has even", "unknown even"), ("undo", "done"), ("give m l", "unsteady"), ("forget calm", "done"),
            ("give m l", "done"), ("house", "hands l r\ndeed a l\ndeed b r\ndeed m l"), ("merge r l", "done"), ("house", "hands r\ndeed a r\ndeed b r\ndeed m r"),
            ("own l", "unknown l"), ("own r", "a b"), ("forget even", "done"), ("names", "none"),
        )

    def test_papers(self):
        shell = small()
        self.ask(
            shell, ("noticed calm 3", "( =missed ( ) =a =b )"), ("kept calm 3", "( =lost ( =a =b ) )"), ("noticed calm", "( =noticed )"),
            ("kept calm", "( =kept )"), ("noticed calm 0 1 2 3", "( =noticed )"), ("kept calm 0 1 2 3", "( =kept )"), ("noticed calm 0", "operation"),
            ("goal calm l 0", "misses"), ("goal calm l 0 1 3", "meets"), ("goal calm r", "misses"), ("goal calm l 0 1 2 3", "meets"), ("goal calm z 9", "unknown z"),
            ("goal calm l 9", "operation"), ("goal x z 9", "unknown x"),
        )

    def test_crews_and_gifts(self):
        shell = small()
        self.ask(
            shell, ("crews calm 3", "l r"), ("crews calm 1 2", "l\nr"), ("crews calm 0", "nobody"), ("crews calm", "none"), ("gifts even", "m l\nm r"),
            ("gifts calm", "nothing"), ("do a", "done"), ("crews calm 3", "r"), ("crews calm 0", "l r"), ("do b", "done"), ("crews calm 0", "none"),
            ("gifts x", "unknown x"), ("crews x 0", "unknown x"), ("crews calm 4", "operation"),
        )
        house = House(("k", "n"), {"x": ("k", "n"), "y": ("k", "n")})
        self.assertEqual(shell_of(house, w=Wish(("x", "y"), ((1, 2), (1, 1), (2, 2)), (1,)))("gifts w"), "x k, y k\nx n, y n")

    def test_as_the_functions(self):
        rng = Random(1)
        for house, wish, lasting in falling()[::2]:
            shell = shell_of(house, w=wish)
            row = again.random_row(rng, house.deeds, 4)
            self.assertEqual(shell("do " + " ".join(row)), "done")
            for states in lasting[:5]:
                numbers = "".join(f" {state}" for state in states)
                self.assertEqual(shell("noticed w" + numbers), write_value(notice_paper(house, wish, states)))
                self.assertEqual(shell("kept w" + numbers), write_value(refusal_paper(house, wish, states)))
                crews = least_crews(house, wish, row, states)
                self.assertEqual(shell("crews w" + numbers), "\n".join(" ".join(crew) or "nobody" for crew in crews) or "none")
                for hand in house.hands:
                    meets = does_meet(house, wish, hand, states)
                    self.assertEqual(shell(f"goal w {hand}{numbers}"), "meets" if meets else "misses")
            gifts = greatest_gifts(house, wish)
            wanted = "\n".join(", ".join(f"{deed} {hand}" for deed, hand in some) or "nothing" for some in gifts)
            self.assertEqual(shell("gifts w"), wanted)
            self.assertEqual(shell("house"), write_house(house))
            self.assertEqual(read_house(shell("house")), house)

    def test_answer_is_the_call(self):
        for line_ in ("row", "do a", "fly", "", "view calm l", "forget x"):
            self.assertEqual(small()(line_), small().answer(line_))

    def test_answers_without_anything(self):
        shell = shell_of(duo())
        self.ask(shell, ("row", "none"), ("own l", "none"), ("names", "none"))
        shell = small()
        self.ask(shell, ("do a", "done"), ("own r", "none"), ("own l", "a"))
        # Each deed of the only hand is refused.
        house = House(("l",), {"a": ("l",)})
        shell = shell_of(house, w=Wish(("a",), ((1,), (1,)), (0,)))
        self.ask(shell, ("can w", "a"), ("guard w 1", "done"), ("can w", "none"), ("do a", "refused w"))


class Errors(Case):
    def test_every_word(self):
        house = snake()
        shell = shell_of(house, w=grid(house, {"bc": 1, "de": 1}), t=turning(house, 24, {}))
        for line_, wanted in (
            ("forget x", "unknown x"), ("own z", "unknown z"), ("merge a z", "unknown z"), ("give z a", "unknown z"), ("give bc z", "unknown z"),
            ("do bc z", "row"), ("do z", "row"), ("guard w 0", "operation"), ("merge a a", "operation"), ("give bc a", "operation"), ("view w b a", "operation"),
            ("may w z", "operation"), ("view w a a", "operation"), ("guard w 1 0", "operation"), ("guard w 4", "operation"), ("merge b d", "house"),
            ("guard w 0 1 2 3", "refused w"), ("guard x 0", "unknown x"), ("goal t a 0", "many 2000"), ("undo 3", "undo 3"),
            ("undo 99", "undo 99"), ("redo", "undo 1"), ("redo 5", "undo 5"), ("undo " + "9" * 60, "undo " + "9" * 60), ("goal t a", "many 2000"),
        ):
            self.assertEqual(shell(line_), wanted, line_)
        self.assertEqual(shell("redo 0"), "done")

    def test_more_gifts_than_can_be_told(self):
        house = House(("l", "r"), {deed: ("l", "r") for deed in "abcdefgh"})
        shell = shell_of(house, w=turning(house, 2, {}), v=Wish(house.deeds, ((1,) * 8, (1,) * 8), (0,)))
        self.assertEqual([shell("gifts w"), shell("gifts v")], ["many 200"] * 2)
        house = house.without_deed("h")
        self.assertEqual(len(shell_of(house, w=turning(house, 2, {}))("gifts w").split("\n")), 128)

    def test_refused_lines_change_nothing(self):
        shell = small()
        shell("guard calm 3")
        shell("do a b")
        shell("undo")
        before = shell.desk()
        for line_ in ("do a b m", "give m l", "merge l l", "forget x", "guard calm 0", "undo 9", "redo 2", "fly", "do", "undo 1 1", "", "do z"):
            shell(line_)
            self.assertEqual(shell.desk(), before)
        self.assertEqual([shell("redo"), shell("row")], ["done", "a b"])


class Lines(Case):
    def test_every_command(self):
        shell = small()
        for word in WORDS:
            for names in range(4):
                for rest in ([], ["1"], ["1", "2"], ["a"], ["0", "a"]):
                    line_ = " ".join([word] + ["calm", "l", "r"][:names] + rest)
                    self.assertEqual(shell.desk() is not None and small()(line_) == "what", not fits(line_), line_)

    def test_drawn_lines(self):
        rng = Random(2)
        parts = list(WORDS) + ["calm", "even", "l", "r", "a", "b", "m", "0", "1", "3", "00", "01", "-1", "", "A", "overlongx", "z", "9" * 60, "9" * 61, "yes"]
        answers = []
        for _ in range(6000):
            line_ = " ".join([rng.choice(WORDS)] + [rng.choice(parts) for _ in range(rng.randint(0, 4))])
            answers.append(small()(line_) == "what")
            self.assertEqual(answers[-1], not fits(line_), line_)
        self.assertTrue(500 < sum(answers) < len(answers) - 500)

    def test_blanks(self):
        for line_ in (" row", "row ", "do  a", "do a ", " do a", "do a  b", "row\n", "\nrow", "do a\nb", "row\nrow", "do\ta", " ", "", "\n", "view  calm", "undo "):
            self.assertEqual(small()(line_), "what", line_)

    def test_numbers(self):
        for word in ("01", "00", "-1", "+1", "1.0", "x", "A", "9" * 61, "1_0", "0x1", "=1", "(1)"):
            for line_ in (f"undo {word}", f"redo {word}", f"guard calm {word}", f"crews calm 0 {word}", f"goal calm l {word}", f"kept calm {word}"):
                self.assertEqual(small()(line_), "what", line_)
        self.assertEqual([small()("undo 0"), small()("undo 2"), small()("undo 10")], ["done", "done", "undo 10"])

    def test_names(self):
        for word in ("A", "a1", "overlongx", "1", "=a", "é", "a-b", "(", "L"):
            for line_ in (f"do {word}", f"do a {word}", f"own {word}", f"forget {word}", f"merge l {word}", f"view calm {word}", f"has {word}", f"goal {word} l 0"):
                self.assertEqual(small()(line_), "what", line_)

    def test_other_words(self):
        for line_ in ("fly", "Do a", "ROW", "keep calm", "do_all a", "quit", "help", "__class__", "desk", "answer row", "hands l r"):
            self.assertEqual(small()(line_), "what", line_)

    def test_other_values(self):
        shell = small()
        for odd in odd_values():
            self.assertEqual(shell(odd), "what")
            self.assertEqual(shell.answer(odd), "what")
        for odd in odd_values_but(str) + [b"row", ["row"], ("row",), {"row": 1}]:
            self.assertEqual(shell(odd), "what")
        self.assertEqual(shell.desk(), small().desk())


class Starting(Case):
    def test_the_calls_of_keep_can_be_undone(self):
        shell = small()
        for line_, wanted in (
            ("names", "calm even"), ("undo", "done"), ("names", "calm"), ("undo", "done"), ("names", "none"), ("undo", "undo 1"), ("redo 2", "done"),
            ("names", "calm even"), ("undo 3", "undo 3"), ("undo 2", "done"), ("do a", "done"), ("redo", "undo 1"), ("names", "none"),
        ):
            self.assertEqual(shell(line_), wanted, line_)

    def test_the_desk(self):
        shell = small()
        desk = shell.desk()
        self.assertIsInstance(desk, Desk)
        other = Desk(duo())
        other.keep("calm", calm())
        other.keep("even", even())
        self.assertEqual([desk == other, desk.guard("calm"), desk.undo(many=2)], [True, (), 0])

    def test_a_desk_taken_earlier_stays(self):
        shell = small()
        desk = shell.desk()
        shell("do a b")
        shell("forget calm")
        self.assertEqual([desk.row, desk.names, shell.desk().row, shell.desk().names], [(), ("calm", "even"), ("a", "b"), ("even",)])
        desk.do("m")
        desk.undo(many=3)
        self.assertEqual([shell("row"), shell("names"), shell("undo 4"), shell("redo 4")], ["a b", "even", "done", "done"])

    def test_the_dict_stays_and_its_order_has_no_effect(self):
        texts = {"even": write_wish(even()), "calm": write_wish(calm())}
        shell = Shell(write_house(duo()), texts)
        self.assertEqual([shell("undo"), shell("names")], ["done", "calm"])
        self.assertEqual(list(texts), ["even", "calm"])
        texts.clear()
        self.assertEqual([shell("redo"), shell("names")], ["done", "calm even"])

    def test_without_wishes(self):
        shell = Shell(write_house(line()), {})
        self.assertEqual([shell("undo"), shell("house"), shell("do a x")], ["undo 1", write_house(line()), "done"])

    def test_wishes_that_are_no_dict_from_names_to_strings(self):
        text = write_wish(even())
        values = [None, [], (), "even", {"Even": text}, {"": text}, {1: text}, {("a",): text}, {True: text}, {"even": None}, {"even": even()}]
        values += [{"even": [text]}, {"even": text, "x": 1}, {"x": text, "overlongx": text}, [("even", text)], text]
        for odd in values + [odd for odd in odd_values() if odd != {}]:
            self.caught(InvalidOperation, Shell, write_house(duo()), odd)
            self.caught(InvalidOperation, Shell, "no house", odd)
            self.caught(InvalidOperation, Shell, odd, odd)

    def test_the_first_error(self):
        house, good = write_house(duo()), write_wish(even())
        for odd in odd_values_but(str):
            self.caught(InvalidOperation, Shell, odd, {})
            self.caught(InvalidOperation, Shell, odd, {"x": "x"})
        for text, index in (("", 0), ("x", 0), ("hands l\nhands r", 1), ("hands l", 1), (house + "\n", 4), (house + " ", 3)):
            for wishes in ({}, {"x": "x"}, {"x": good}):
                self.assertEqual(self.caught(ParseError, Shell, text, wishes).index, index)
        other, unsteady = write_wish(turning(line(), 2, {})), write_wish(first())
        self.assertEqual(self.caught(ParseError, Shell, house, {"a": good, "b": "deeds a\nx", "c": unsteady}).index, 1)
        self.assertEqual(self.caught(ParseError, Shell, house, {"c": unsteady, "b": "x", "a": good}).index, 0)
        self.caught(Unsteady, Shell, house, {"a": unsteady, "b": "x"})
        self.caught(InvalidOperation, Shell, house, {"a": other, "b": unsteady, "c": "x"})
        self.caught(Unsteady, Shell, house, {"a": good, "b": unsteady, "c": other})
        found = self.caught(Unsteady, Shell, house, {"a": unsteady}).breach
        self.assertIs(is_breach(duo(), first(), found), True)

    def test_nothing_is_iterated_over(self):
        self.not_iterated_over(small())


class Desks(Case):
    def test_drawn_lines_against_a_desk(self):
        rng = Random(3)
        words = {"merge": ("merge", "house.hands", "house.hands"), "give": ("give", "house.deeds", "house.hands")}
        for house, wish in steady(91, each=2, most=5):
            shell, desk = shell_of(house, w=wish, v=wish), Desk(house)
            for name in ("v", "w"):
                desk.keep(name, wish)
            lasting = again.lasting_sets(wish)
            for _ in range(25):
                sort = rng.choice(("do", "do", "guard", "forget", "undo", "redo", *words))
                wanted = "done"
                try:
                    if sort == "do":
                        row = again.random_row(rng, house.deeds, rng.randint(1, 3))
                        given = " ".join(("do",) + row)
                        desk.do_all(row)
                    elif sort == "guard":
                        states = rng.choice(lasting)
                        given = " ".join(["guard", "w", *map(str, states)])
                        desk.keep("w", desk["w"], guarded=states)
                    elif sort == "forget":
                        given = "forget v"
                        desk.forget("v")
                    elif sort in ("undo", "redo"):
                        many = rng.randint(0, 3)
                        given = f"{sort} {many}"
                        (desk.undo if sort == "undo" else desk.redo)(many=many)
                    else:
                        one = rng.choice(desk.house.hands if sort == "merge" else desk.house.deeds)
                        other = rng.choice(desk.house.hands)
                        given = f"{sort} {one} {other}"
                        (desk.merge if sort == "merge" else desk.give)(one, other)
                except (Refused, KeyError) as error:
                    wanted = f"refused {error.name}" if isinstance(error, Refused) else f"unknown {error.name}"
                except NothingToUndo as error:
                    wanted = f"undo {error.many}"
                except InvalidOperation:
                    wanted = "operation"
                except Unsteady:
                    wanted = "unsteady"
                except ValueError:
                    wanted = "house"
                self.assertEqual(shell(given), wanted, given)
                self.assertEqual(shell.desk(), desk)
                self.assertEqual(shell("row"), " ".join(desk.row) or "none")
                self.assertEqual(shell("names"), " ".join(desk.names) or "none")

    def test_five_hands(self):
        shell = shell_of(crowd(), w=turning(crowd(), 24, {}))
        self.assertEqual(shell("do " + " ".join(("ac", "on", "fi", "tw") * 200)), "done")
        self.assertEqual([shell("view w"), shell("view w a b c d e"), shell("goal w e 0")], ["0", str(800 - 800 // 24 * 24), "many 2000"])
