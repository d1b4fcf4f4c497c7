"""The examples of the document, with just the values that it shows."""

from eachshare.base.houses import House
from eachshare.base.names import is_integer, is_name, is_names, is_set
from eachshare.base.rows import alike_rows, are_alike, exchanged, first_alike, layers, own_rows, past, whole
from eachshare.desk.desk import Desk
from eachshare.errors import InvalidHouse, InvalidOperation, InvalidShare, ParseError, Refused, Unmatched
from eachshare.know.cuts import avoiding, count_alike, cuts, next_cuts, perhaps, row_at, state_at, surely
from eachshare.know.endless import does_meet, for_ever, goal_paper, is_goal_paper
from eachshare.know.knowing import does_know, doubt, hopeless, lasting_from, may_be, view, won
from eachshare.know.noticing import first_notice, is_notice_paper, is_noticed, knowers, least_noticed, notice_paper
from eachshare.know.refusing import is_let, is_refusal_paper, is_refused, let_rows, refusal_paper
from eachshare.put.crews import against, gifted, greatest_gifts, is_crew, least_crews, plan
from eachshare.put.together import from_own, is_own_paper, own_paper, own_wishes, then_alike
from eachshare.share.informed import is_informed, views
from eachshare.share.joins import join, next_outlook, outlook, outlooks, rest_ends, side_ends
from eachshare.share.judged import is_same_paper, parting, parting_of, same_paper, wish_of
from eachshare.share.made import is_paper, made, paper
from eachshare.share.shares import Share
from eachshare.share.steady import breach, commuting, is_breach, is_steady
from eachshare.text.formats import (
    read_house, read_row, read_value, read_wish, write_house, write_row, write_value, write_wish,
)
from eachshare.text.shell import Shell
from eachshare.wish.wishes import Wish
from tests import again
from tests.samples import Case

DUO = House(("l", "r"), {"a": ("l",), "b": ("r",), "m": ("l", "r")})
LINE = House(("p", "q", "r"), {"a": ("p",), "c": ("r",), "x": ("p", "q"), "y": ("q", "r")})
EVEN = Wish(("a", "b", "m"), ((1, 1, 0), (0, 0, 1)), (0,))
ONCE = Wish(("a", "b", "m"), ((1, 1, 0), (2, 2, 0), (2, 2, 2)), (0, 1))
CALM = Wish(("a", "b", "m"), ((1, 2, 0), (1, 3, 0), (3, 2, 0), (3, 3, 3)), (0, 1, 2))
FIRST = Wish(("a", "b", "m"), ((1, 2, 0), (1, 1, 1), (2, 2, 2)), (0, 1))


class Stage1(Case):
    def test_names(self):
        answers = [
            is_integer(-3), is_integer(True), is_name("left"), is_name("Left"),
            is_set(("a", "b")), is_set(("b", "a")), is_names(("b", "b", "a")), is_names(["a"]),
        ]
        for answer, wanted in zip(answers, [True, False, True, False, True, False, True, False], strict=True):
            self.assertIs(answer, wanted)


class Stage2(Case):
    def test_line(self):
        answers = [
            LINE.links, LINE.apart, LINE["x"], LINE.deeds_of("q"),
            LINE.above("r"), LINE.above("p"), LINE.side("q"), str(LINE),
        ]
        wanted = [
            (("p", "q"), ("q", "r")), (("a", "c"), ("a", "y"), ("c", "x")), ("p", "q"), ("x", "y"),
            "q", None, ("q", "r"), "house of 3 hands, 4 deeds",
        ]
        self.assertEqual(answers, wanted)

    def test_duo(self):
        answers = [
            DUO.are_apart("a", "b"), DUO.are_apart("a", "m"), DUO.given("m", "l").apart,
            LINE.as_one("p", "r")["y"], "q" in LINE, "x" in LINE,
        ]
        self.assertEqual(answers, [True, False, (("a", "b"), ("b", "m")), ("p", "q"), True, False])

    def test_ring(self):
        self.caught(InvalidHouse, House, ("p", "q", "r"), {"a": ("p", "q"), "b": ("q", "r"), "c": ("p", "r")})

    def test_a_text_is_like_its_example(self):
        self.assertEqual(str(DUO), "house of 2 hands, 3 deeds")
        self.assertEqual(str(House(("l",), {"a": ("l",)})), "house of 1 hands, 1 deeds")


class Wishes(Case):
    def test_what_they_want(self):
        for row in again.all_rows(("a", "b", "m"), 6):
            parts = "".join(row).split("m")
            self.assertIs(row in EVEN, len("".join(parts)) % 2 == 0)
            self.assertIs(row in ONCE, all(len(part) <= 1 for part in parts))
            self.assertIs(row in CALM, not any("a" in part and "b" in part for part in parts))
            self.assertIs(row in FIRST, "b" not in row or "a" in row[:row.index("b")])

    def test_least_as_they_are_written(self):
        self.assertEqual([len(wish) for wish in (EVEN, ONCE, CALM, FIRST)], [2, 3, 4, 3])
        self.assertEqual([CALM.targets, CALM.kept], [((1, 2, 0), (1, 3, 0), (3, 2, 0), (3, 3, 3)), (0, 1, 2)])

    def test_first_is_not_steady(self):
        self.assertEqual([is_steady(DUO, wish) for wish in (EVEN, ONCE, CALM, FIRST)], [True, True, True, False])


class Stage3(Case):
    row = ("a", "c", "x", "a", "y", "c")

    def test_own_rows_and_pasts(self):
        answers = [
            own_rows(LINE, self.row), past(LINE, self.row, "p"), past(LINE, self.row, "q"),
            past(LINE, self.row, "r") == self.row,
        ]
        wanted = [
            {"p": ("a", "x", "a"), "q": ("x", "y"), "r": ("c", "y", "c")}, ("a", "x", "a"), ("a", "c", "x", "y"), False,
        ]
        self.assertEqual(answers, wanted)

    def test_alike(self):
        answers = [
            first_alike(LINE, ("c", "x", "a")), are_alike(LINE, ("c", "x"), ("x", "c")), layers(LINE, self.row),
            len(list(alike_rows(LINE, ("a", "c", "x")))),
        ]
        self.assertEqual(answers, [("c", "x", "a"), True, (("a", "c"), ("x",), ("a", "y"), ("c",)), 3])

    def test_whole(self):
        answers = [whole(DUO, {"l": ("a", "m"), "r": ("b", "m", "b")}), exchanged(DUO, ("a", "b"), 0)]
        self.assertEqual(answers, [("a", "b", "m", "b"), ("b", "a")])
        self.assertEqual(self.caught(Unmatched, whole, DUO, {"l": ("m", "a"), "r": ("b",)}).pair, ("l", "r"))


class Stage4(Case):
    def test_asking(self):
        answers = [
            len(EVEN), EVEN.after(("a", "m", "b", "a")), ("a", "b") in EVEN, EVEN[1, "b"], EVEN.count(2),
            ONCE.far(1), str(FIRST),
        ]
        self.assertEqual(answers, [2, 1, True, 0, 5, (0, 1, 2), "wish of 3 states, 3 deeds"])

    def test_made_of_wishes(self):
        answers = [
            (EVEN & ONCE).shortest(), (ONCE - EVEN).rows(1), EVEN.parting(ONCE), (~EVEN).kept, FIRST.turned() == FIRST,
        ]
        self.assertEqual(answers, [(), (("a",), ("b",)), ("a",), (1,), False])

    def test_least(self):
        answers = [
            Wish.of_rows(("a", "b"), (("a",), ())).targets, Wish(("a",), ((1,), (2,), (1,)), (0, 2)).targets,
            Wish(("a",), ((0,),), (0,)) == ~Wish.of_rows(("a",), ()),
        ]
        self.assertEqual(answers, [((1, 2), (2, 2), (2, 2)), ((1,), (0,)), True])


class Stage5(Case):
    def test_steady(self):
        answers = [
            is_steady(DUO, EVEN), is_steady(DUO, ONCE), is_steady(DUO, FIRST), is_steady(DUO.given("m", "l"), ONCE),
            commuting(ONCE), commuting(FIRST),
        ]
        self.assertEqual(answers, [True, True, False, False, (("a", "b"),), (("a", "m"), ("b", "m"))])

    def test_breaches(self):
        answers = [
            breach(DUO, EVEN), breach(DUO, FIRST) in ((("a", "b"), 0), (("b", "a"), 0)),
            is_breach(DUO, FIRST, (("m", "b", "a", "a"), 1)), is_breach(DUO, FIRST, (("m", "b", "a"), 0)),
        ]
        self.assertEqual(answers, [None, True, True, False])


class Stage6(Case):
    sizes = {"l": 2, "r": 2}
    tables = {"a": (1, 0), "b": (1, 0), "m": (((0, 0), (0, 1)), ((1, 0), (1, 1)))}

    def test_share(self):
        odd = Share(DUO, self.sizes, self.tables, {"r": ((0, 1), (1, 0))}, (1,))
        answers = [
            odd.after(("a", "b", "b")), odd.told((1, 1)), ("a",) in odd, ("a", "b") in odd, odd.step((0, 1), "a"),
            len(odd.standings()), str(odd),
        ]
        self.assertEqual(answers, [(1, 0), 0, True, False, (1, 1), 4, "share of 2 hands, 4 states"])

    def test_no_share(self):
        self.caught(InvalidShare, Share, DUO, self.sizes, self.tables, {}, (1,))


class Stage7(Case):
    def test_joins(self):
        answers = [
            side_ends(DUO, ONCE, "r", 0), rest_ends(DUO, ONCE, "r", 1), join(DUO, ONCE, "r", 0, 1, 1),
            join(DUO, EVEN, "r", 1, 0, 0), side_ends(DUO, EVEN, "l", 0),
        ]
        self.assertEqual(answers, [(0, 1, 2), (1, 2), 2, 1, (0, 1)])

    def test_outlooks(self):
        answers = [
            outlook(DUO, EVEN, ("a", "b")), outlook(DUO, EVEN, ("a", "b", "a", "m", "b")),
            next_outlook(DUO, EVEN, ((0, 1), (0, 1)), "m"), len(outlooks(DUO, EVEN)),
        ]
        self.assertEqual(answers, [((0, 1), (0, 1)), ((0, 1), (1, 0)), ((0, 0), (0, 0)), 8])

    def test_no_end(self):
        self.wrong_number(2, join, DUO, EVEN, "l", 0, 2, 0)


class Stage8(Case):
    odd = Share(DUO, Stage6.sizes, Stage6.tables, {"r": ((0, 1), (1, 0))}, (1,))

    def test_papers(self):
        answers = [
            paper(DUO, FIRST)[0], is_paper(DUO, FIRST, ("breach", ("b", "a"), 0)),
            is_paper(DUO, ~EVEN, ("share", self.odd)), is_paper(DUO, EVEN, ("share", self.odd)),
        ]
        self.assertEqual(answers, ["breach", True, True, False])

    def test_made(self):
        share = made(DUO, ONCE)
        answers = [
            ("a", "m", "b") in share, ("a", "b") in share, share.after(("a", "b")) == share.after(("b", "a")),
            share.sizes["l"] <= 3, share.sizes["r"] <= 9,
        ]
        self.assertEqual(answers, [True, False, True, True, True])


class Stage9(Case):
    odd = Stage8.odd

    def test_parting(self):
        answers = [
            parting(EVEN, self.odd), parting(~EVEN, self.odd), parting(ONCE, made(DUO, ONCE)),
            parting_of(self.odd, made(DUO, EVEN)), wish_of(self.odd) == ~EVEN,
        ]
        self.assertEqual(answers, [(), None, None, (), True])

    def test_papers(self):
        answers = [
            same_paper(EVEN, self.odd)[0], is_same_paper(EVEN, self.odd, ("row", ("m", "a", "b"))),
            len(same_paper(~EVEN, self.odd)[1]) >= 4,
        ]
        self.assertEqual(answers, ["row", True, True])


class Stage10(Case):
    odd = Stage8.odd

    def test_informed(self):
        answers = [
            is_informed(DUO, ~EVEN, self.odd), is_informed(DUO, ONCE, made(DUO, ONCE)),
            sorted(set(views(DUO, ONCE, made(DUO, ONCE))["l"]) - {None}),
        ]
        self.assertEqual(answers, [False, True, [0, 1, 2]])

    def test_another_wish(self):
        self.caught(InvalidOperation, views, DUO, EVEN, self.odd)


class Stage11(Case):
    def test_views(self):
        answers = [
            view(DUO, CALM, ("a", "b"), ("l",)), view(DUO, CALM, ("a", "b"), ("l", "r")),
            may_be(DUO, CALM, ("a", "b"), ("l",)), may_be(DUO, CALM, ("a", "m"), ()),
        ]
        self.assertEqual(answers, [1, 3, (1, 3), (0, 1, 2, 3)])

    def test_knowing(self):
        answers = [
            does_know(DUO, CALM, ("a", "b", "m"), ("r",), (3,)), doubt(DUO, CALM, ("a",), ("l",), 3), hopeless(CALM),
            won(CALM), lasting_from(CALM, (1,)),
        ]
        self.assertEqual(answers, [True, ("b",), (3,), (), (0, 1, 2, 3)])


class Stage12(Case):
    def test_sets(self):
        answers = [
            is_noticed(DUO, CALM, (3,)), notice_paper(DUO, CALM, (3,))[0], least_noticed(DUO, CALM, (3,)),
            knowers(DUO, CALM, ("a", "b", "m"), (3,)),
        ]
        self.assertEqual(answers, [False, "missed", ((0, 1, 2, 3),), ("l", "r")])

    def test_rows(self):
        answers = [
            first_notice(DUO, CALM, ("a", "b", "a", "m"), (3,)), first_notice(DUO, CALM, ("a", "b"), (3,)),
            is_notice_paper(DUO, CALM, (3,), ("missed", ("m",), "b", "a")),
        ]
        self.assertEqual(answers, [(4, ("l", "r")), None, True])


class Stage13(Case):
    def test_refused(self):
        answers = [
            is_refused(DUO, CALM, ("a",), "b", (3,)), is_refused(DUO, CALM, ("a", "b"), "m", (3,)),
            is_let(DUO, CALM, ("a", "b", "a"), (3,)), is_let(DUO, CALM, ("a", "b", "m"), (3,)),
        ]
        self.assertEqual(answers, [False, True, True, False])

    def test_papers(self):
        answers = [
            refusal_paper(DUO, CALM, (0, 1, 2, 3)), is_refusal_paper(DUO, CALM, (3,), ("lost", ("a", "b"))),
            ("a", "b", "b") in let_rows(DUO, CALM, (3,)), len(let_rows(DUO, CALM, (3,))),
        ]
        self.assertEqual(answers, [("kept",), True, True, 5])


class Stage14(Case):
    row = ("a", "b", "m")

    def test_cuts(self):
        answers = [
            cuts(DUO, self.row), row_at(DUO, self.row, (0, 1)), next_cuts(DUO, self.row, (0, 0)), count_alike(DUO, self.row),
        ]
        wanted = [((0, 0), (0, 1), (1, 0), (1, 1), (2, 2)), ("b",), (("a", (1, 0)), ("b", (0, 1))), 2]
        self.assertEqual(answers, wanted)

    def test_states(self):
        answers = [
            perhaps(DUO, CALM, ("a", "b")), surely(DUO, CALM, ("a", "b"), (1, 2)), avoiding(DUO, CALM, ("a", "b"), (1,)),
            state_at(DUO, CALM, self.row, (2, 2)),
        ]
        self.assertEqual(answers, [(0, 1, 2, 3), True, ("b", "a"), 3])


class Stage15(Case):
    def test_for_ever(self):
        answers = [
            for_ever(DUO, CALM, (), ("a", "m"), "l"), for_ever(DUO, CALM, ("b",), ("a",), "l"),
            for_ever(DUO, CALM, (), ("a",), "r"),
        ]
        self.assertEqual(answers, [(0, 1), (1,), ()])

    def test_goals(self):
        answers = [
            does_meet(DUO, CALM, "l", (0, 1, 3)), is_goal_paper(DUO, CALM, "l", (0,), ("misses", (), ("a",))),
            is_goal_paper(DUO, EVEN, "r", (0,), ("misses", ("b",), ("b", "b"))),
        ]
        self.assertEqual(answers, [True, True, False])
        self.assertEqual([goal_paper(DUO, EVEN, "l", (0, 1))[0], does_meet(DUO, EVEN, "l", (1,))], ["meets", False])


class Stage16(Case):
    both = then_alike(DUO, Wish.of_rows(("a", "b", "m"), (("a",),)), Wish.of_rows(("a", "b", "m"), (("b",),)))

    def test_then_alike(self):
        answers = [("b", "a") in self.both, self.both.count(2), own_paper(DUO, self.both), own_paper(DUO, EVEN)[0]]
        self.assertEqual(answers, [True, 2, ("own",), "shared"])

    def test_own(self):
        answers = [
            own_wishes(DUO, self.both)["l"] == Wish.of_rows(("a", "m"), (("a",),)),
            from_own(DUO, own_wishes(DUO, EVEN)) == from_own(DUO, {}), is_own_paper(DUO, EVEN, ("shared", ("m", "b"))),
        ]
        self.assertEqual(answers, [True, True, True])


class Stage17(Case):
    def test_crews(self):
        answers = [
            least_crews(DUO, CALM, ("a",), (3,)), least_crews(DUO, CALM, ("a",), (0,)),
            plan(DUO, CALM, ("a",), (0,), ("l", "r")), is_crew(DUO, CALM, ("a",), (1, 2), ()),
        ]
        self.assertEqual(answers, [(("r",),), (("l", "r"),), ("m",), True])

    def test_gifts(self):
        answers = [
            greatest_gifts(DUO, EVEN), greatest_gifts(DUO, CALM), gifted(DUO, (("m", "l"),))["m"],
            [gift for gift, _ in against(DUO, CALM, ())],
        ]
        self.assertEqual(answers, [((("m", "l"),), (("m", "r"),)), ((),), ("l",), [("m", "l"), ("m", "r")]])


class Stage18(Case):
    def test_desk(self):
        desk = Desk(DUO)
        answers = [
            desk.keep("calm", CALM, guarded=(3,)), desk.keep("even", EVEN), desk.do_all(("a", "b")), desk.can_do("calm"),
            desk.has("even"), str(desk),
        ]
        self.assertEqual(answers, [None, None, None, ("a", "b"), True, "desk of 2 hands, 2 deeds done"])
        self.assertEqual(self.caught(Refused, desk.do, "m").name, "calm")
        self.assertEqual(self.caught(Refused, desk.merge, "l", "r").name, "calm")
        answers = [
            desk.undo(), desk.view("calm", ("r",)), desk.do("m"), desk.row, desk.undo(many=2), desk.redo(),
            len(desk.house["m"]),
        ]
        self.assertEqual(answers, [2, 0, None, ("m",), 1, 2, 2])


class Stage19(Case):
    def test_writing(self):
        answers = [
            write_house(DUO).split("\n"), write_wish(EVEN).split("\n"), write_row(("a", "m")),
            write_value(("misses", ("b",), {})),
        ]
        wanted = [
            ["hands l r", "deed a l", "deed b r", "deed m l r"], ["deeds a b m", "state 1 1 0 kept", "state 0 0 1"], "a m",
            "( =misses ( =b ) { } )",
        ]
        self.assertEqual(answers, wanted)

    def test_reading(self):
        answers = [
            read_house(write_house(DUO)) == DUO, read_wish(write_wish(CALM)) == CALM, read_row(""),
            read_value("( =missed ( ) =a =b none )"),
        ]
        self.assertEqual(answers, [True, True, (), ("missed", (), "a", "b", None)])
        self.assertEqual(self.caught(ParseError, read_house, "hands l\nhands r").index, 1)


class Stage20(Case):
    def test_shell(self):
        shell = Shell(write_house(DUO), {"calm": write_wish(CALM), "even": write_wish(EVEN)})
        answers = [
            shell("guard calm 3"), shell("do a b"), shell("view calm l"), shell("may calm r"), shell("do m"),
            shell("can calm"), shell("give m l"),
        ]
        self.assertEqual(answers, ["done", "done", "1", "2 3", "refused calm", "a b", "unsteady"])
        answers = [
            shell("crews calm 3"), shell("gifts even"), shell("goal calm l 0"), shell("undo 2"), shell("row"),
            shell("forget x"), shell("fly"),
        ]
        self.assertEqual(answers, ["nobody", "m l\nm r", "misses", "done", "none", "unknown x", "what"])
