"""selfprint.desk: [95] and [98], things, deeds, answers, errors and limits."""

import unittest

from helper import A, COUNT, ODD, DeskChecks, filled, fun, inner_lists, same, seen
from selfprint.codes import shaken
from selfprint.compiler import compiled
from selfprint.desk import Desk
from selfprint.errors import (
    BadKind, BadText, CommandFailed, InvalidArguments, InvalidClaim, InvalidCommand, InvalidLetter, InvalidPosition, InvalidProgram,
    LabelTaken, NameTaken, NoStep, NotData, NothingNamed, NothingToRedo, NothingToUndo, NotShown, TermError, TooMany,
    UnknownLabel, UnknownName, UnlikeKinds)
from selfprint.reader import read_kind, read_program

SAME = [("fun", A), ("name", 0)]
FOUR = [("told", 4)]
LONG = "fun g : a > a. fun x : a. let h = (g, fun y : a. y) in first h ((second h) x)"
GREAT = "turns 3000 (x : count. next x) 0"


def limit(what, most):
    return {"what": what, "limit": most}


class Things(DeskChecks):
    def test_at_first(self):
        desk = Desk()
        self.assertEqual((desk.names, desk.labels, len(desk), desk.lines()), ([], [], 0, []))
        self.assertEqual([desk.do(command) for command in ("names", "states")], ["-", "-"])

    def test_names_of_one_to_eight_signs(self):
        desk = Desk()
        for name in ("a", "abcdefgh", "z2345678", "program", "x0"):
            self.does("-", desk, f"program {name} 5")
            self.assertIn(name, desk)
        self.assertEqual(desk.names, ["a", "abcdefgh", "program", "x0", "z2345678"])
        self.does("a abcdefgh program x0 z2345678", desk, "names")
        for name in ("abcdefghi", "A", "1a", "", "a_b", "a-b"):
            self.fails(InvalidCommand, {"value": f"program {name} 5"}, desk, f"program {name} 5")

    def test_names_and_labels_are_apart(self):
        desk = filled("program k 5", "claim k plain k")
        self.assertEqual((desk.names, desk.labels), (["k"], ["k"]))
        self.does("k gone", desk, "drop k")
        self.does("-", desk, "forget k")

    def test_what_is_kept_is_new(self):
        desk = filled("program f fun x : a. x", "kind k a > a", "code c f")
        wanted = {"f": SAME, "k": fun(A, A), "c": compiled(SAME)}
        for name, value in wanted.items():
            one, other = desk[name], desk[name]
            self.assertTrue(same(one, value))
            self.assertEqual(len({id(row) for row in inner_lists(one) + inner_lists(other)}), 2 * len(inner_lists(value)))
            for row in inner_lists(one):
                row.append("changed")
            self.assertTrue(same(desk[name], value))
        self.does("yes", filled("program f fun x : a. x", "code c f", "code d f"), "same c d")

    def test_nothing_named(self):
        desk = filled("program f 5", "claim k plain f")
        for value in ODD + ["g", "k", "F", "f ", "", ["f"], ("f",), b"f"]:
            self.assertIs(value in desk, False)
            with self.assertRaises(NothingNamed) as caught:
                desk[value]
            self.assertIs(type(caught.exception), NothingNamed)
            self.assertIs(caught.exception.value, value)
        self.assertIs("f" in desk, True)

    def test_a_desk_is_not_iterated_over(self):
        with self.assertRaises(TypeError):
            list(filled("program f 5"))

    def test_properties(self):
        desk = filled("program f 5", "claim k plain f")
        for row in (desk.names, desk.labels, desk.lines()):
            row.append("changed")
        self.assertEqual((desk.names, desk.labels, desk.lines()), (["f"], ["k"], ["program f 5", "claim k plain f"]))
        self.assertEqual(len(desk), 2)
        desk.do_all("program b 5", "program a 5", "claim d plain a", "claim c plain b")
        self.assertEqual((desk.names, desk.labels), (["a", "b", "f"], ["c", "d", "k"]))


# Commands behind one another on one desk, and their answers.
ROWS = [
    # Each deed that keeps something under a new name.
    [(f"program f {LONG}", "-"), ("form p f", "-"), ("print q f", "-"), ("show p", "fun x0 : a > a. fun x1 : a. x0 x1"),
     ("same p q", "yes"), ("same p f", "no"), ("size f", "14"), ("size p", "5")],
    [("program f fun n : count. fun m : count. (n, m)", "-"), ("program n 1", "-"), ("program m next 1", "-"),
     ("call g f n", "-"), ("call h f n m", "-"), ("show g", "(fun x0 : count. fun x1 : count. (x0, x1)) 1"),
     ("worth h", "(1, 2)"), ("left l f n m", "-"), ("show l", "(1, 2)"), ("kindof k f", "-"),
     ("show k", "count > count > count * count"), ("kindof j g", "-"), ("show j", "count > count * count")],
    [("program f fun a : count. fun b : count. fun c : count. fun d : count. (a, (b, (c, d)))", "-"), ("program n 7", "-"),
     ("program m 8", "-"), ("call g f n m n m", "-"), ("worth g", "(7, (8, (7, 8)))"), ("left h f n m n m", "-"),
     ("show h", "(7, (8, (7, 8)))"), ("call i f n m n", "-"), ("call j i m", "-"), ("same g j", "yes")],
    [("program f fun x : a. (x, x)", "-"), ("program g fun p : a * a. first p", "-"), ("after h f g", "-"),
     ("show h", "fun x0 : a. (fun x1 : a * a. first x1) ((fun x1 : a. (x1, x1)) x0)"), ("print i h", "-"),
     ("show i", "fun x0 : a. x0")],
    [("program f fun x : a. let y = x in y", "-"), ("code c f", "-"), ("show c", "a > a"), ("entries c", "3"),
     ("shaken s c", "-"), ("same s c", "yes"), ("back b c", "-"), ("show b", "fun x0 : a. x0"), ("program n next 4", "-"),
     ("code d n", "-"), ("run d", "5"), ("show d", "count"), ("same c d", "no")],
    [("kind k a*b+count", "-"), ("show k", "a * b + count"), ("kind j a > (a > a)", "-"), ("show j", "a > a > a"),
     ("same k j", "no"), ("kind i a > a > a", "-"), ("same j i", "yes")],
    [("program f #one\n fun x : a. # two\nx", "-"), ("show f", "fun x0 : a. x0"), ("program g  5 ", "-"), ("show g", "5")],
    # Steps, and letters put, in what is kept.
    [("program f next (next 1)", "-"), ("step f 1 next", "-"), ("show f", "next 2"), ("firsts f", "0 next"),
     ("step f 0 next", "-"), ("show f", "3"), ("firsts f", "-"), ("ready f", "yes")],
    [("program f fun x : a. fun y : b. x", "-"), ("kind k count * a", "-"), ("letter f 0 k", "-"),
     ("show f", "fun x0 : count * a. fun x1 : b. x0"), ("kind c count", "-"), ("letter f 1 c", "-"), ("letter f 5 k", "-"),
     ("letter f 0 c", "-"), ("show f", "fun x0 : count * count. fun x1 : count. x0")],
    [("program f fun h : a > a. (fun g : a > a. g) h", "-"), ("firsts f", "1 call, 1 long, 3 long, 4 long"),
     ("ready f", "no"), ("step f 1 call", "-"), ("step f 1 long", "-"), ("show f", "fun x0 : a > a. fun x1 : a. x0 x1")],
    # Worths, and calls.
    [("program a 7", "-"), ("program b left[count] (1, 2)", "-"), ("worth a", "7"), ("worth b", "left (1, 2)"),
     ("program d ((1, 2), (left[count] 3, 4))", "-"), ("worth d", "((1, 2), (left 3, 4))"), ("code g d", "-"),
     ("run g", "((1, 2), (left 3, 4))"), ("program h left[count] (right[count] 4)", "-"), ("worth h", "left right 4"),
     ("program e turns 3 (x : count. let y = next x in next y) 1", "-"), ("worth e", "7"), ("calls e", "6"),
     ("calls a", "0"), ("program i fun n : count. n", "-"), ("calls i", "0")],
    # What is dropped is kept no more, and its name is new again.
    [("program f 5", "-"), ("program g 6", "-"), ("drop f", "-"), ("names", "g"), ("kind f a", "-"), ("names", "f g"),
     ("show f", "a"), ("drop f", "-"), ("drop g", "-"), ("names", "-")],
    # What is kept does not hang on other names.
    [("program f next 1", "-"), ("code c f", "-"), ("kindof k f", "-"), ("form n f", "-"), ("drop f", "-"), ("run c", "2"),
     ("show k", "count"), ("show n", "2")],
    # Claims of each line, by their words.
    [("program f next 1", "-"), ("program g 2", "-"), ("program h 3", "-"), ("code c f", "-"),
     ("program s fun n : count. next n", "-"), ("claim a1 alike f g", "a1 true"), ("claim a2 alike f h", "a2 false"),
     ("claim b1 unlike f h", "b1 true"), ("claim b2 unlike f g", "b2 false"), ("claim c1 prints c g", "c1 true"),
     ("claim c2 misprints c g", "c2 false"), ("claim d1 plain g", "d1 true"), ("claim d2 steps g", "d2 false"),
     ("claim e1 leaves s h g", "e1 true"), ("claim e2 leavesnot s h g", "e2 false"),
     ("states", "a1 true, a2 false, b1 true, b2 false, c1 true, c2 false, d1 true, d2 false, e1 true, e2 false"),
     ("claimed a1", "alike f g"), ("claimed c2", "misprints c g"), ("claimed d1", "plain g"), ("claimed e1", "leaves s h g"),
     ("state a2", "false"), ("state e1", "true"), ("forget a2", "-"),
     ("states", "a1 true, b1 true, b2 false, c1 true, c2 false, d1 true, d2 false, e1 true, e2 false"),
     ("claim a2 steps f", "a2 true")],
    [("program f fun a : count. fun b : count. fun c : count. (a, (b, c))", "-"), ("program n 1", "-"), ("program m 2", "-"),
     ("program r (1, (2, 1))", "-"), ("claim k leaves f r n m n", "k true"), ("claimed k", "leaves f r n m n"),
     ("claim j leavesnot f r n m n", "j false"), ("claim i leaves f r m m n", "i false")],
]


class Answers(DeskChecks):
    def test_each_command(self):
        for row in ROWS:
            desk, other = Desk(), Desk()
            for command, answer in row:
                self.does(answer, desk, command)
                self.assertEqual(other(command), answer)
            self.assertEqual(seen(desk), seen(other))
            self.assertEqual(Desk().do_all(*[command for command, _ in row]), [answer for _, answer in row])

    def test_what_is_kept(self):
        desk = filled(f"program f {LONG}", "print p f", "code c f", "shaken s c", "back b c", "kindof k f", "form q f", "kind l count")
        self.assertEqual(desk["f"], read_program(LONG))
        self.assertEqual(desk["p"], read_program("fun f : a > a. fun x : a. f x"))
        self.assertEqual(desk["c"], compiled(desk["f"]))
        self.assertEqual(desk["s"], shaken(compiled(desk["f"])))
        self.assertEqual((desk["b"], desk["q"]), (desk["p"], desk["p"]))
        self.assertEqual((desk["k"], desk["l"]), (fun(fun(A, A), fun(A, A)), COUNT))
        desk.do("letter f 0 l")
        self.assertEqual(desk["f"][0], ("fun", fun(COUNT, COUNT)))
        self.assertEqual(desk["k"], fun(fun(A, A), fun(A, A)))

    def test_shaken_codes(self):
        # No deed makes a code with an entry that is not reached, so all are as they were.
        desk = filled("program f fun x : a. let y = (x, 3) in first y", "code c f", "shaken s c")
        self.assertEqual(desk["s"], shaken(desk["c"]))
        self.does("3", desk, "entries s")

    def test_claims_as_tuples(self):
        desk = filled("program s fun n : count. next n", "program h 3", "program g 4", "claim k leaves s g h", "code c g",
                      "claim j misprints c g", "claim i plain s")
        wanted = {"k": ("leaves", desk["s"], [desk["h"]], desk["g"]), "j": ("misprints", desk["c"], desk["g"]),
                  "i": ("plain", desk["s"])}
        for label, claim in wanted.items():
            self.assertTrue(same(desk.claim_of(label), claim))
            found = desk.claim_of(label=label)
            for row in inner_lists(found):
                row.append("changed")
            self.assertTrue(same(desk.claim_of(label), claim))
        desk.do("drop g")
        self.assertIsNone(desk.claim_of("k"))
        desk.do("kind g a")
        self.assertIsNone(desk.claim_of("k"))
        desk.do_all("drop g", "program g fun x : a. x")
        self.assertIsNone(desk.claim_of("k"))
        desk.do_all("drop g", "program g 5")
        self.assertTrue(same(desk.claim_of("k"), ("leaves", desk["s"], [desk["h"]], [("told", 5)])))
        for value in ODD + ["s", "K", "k ", ["k"], ("k",)]:
            with self.assertRaises(UnknownLabel) as caught:
                desk.claim_of(value)
            self.assertIs(type(caught.exception), UnknownLabel)
            self.assertIs(caught.exception.value, value)


NO_COMMANDS = ["", "undos", "undo ", "program", "program x", "program g ", "state", "drop", "names ", " names", "names f",
               "claim x like f f", "call g f", "step f 0 jump", "step f 00 call", "step f 1000 call", ["undo"], ("undo",), b"undo"]

# Commands with names under which nothing of the wanted sort is kept, and the first of these.
NOT_NAMED = [
    ("form g zz", "zz"), ("form g k", "k"), ("form g c", "c"), ("print g l", "l"), ("call g zz yy", "zz"),
    ("call g f yy zz", "yy"), ("call g f f k", "k"), ("left g k zz", "k"), ("left g f c", "c"), ("after g f zz", "zz"),
    ("after g zz yy", "zz"), ("code g c", "c"), ("shaken g f", "f"), ("back g n", "n"), ("back g zz", "zz"),
    ("kindof g k", "k"), ("step zz 0 call", "zz"), ("step k 0 call", "k"), ("letter zz 0 yy", "zz"), ("letter f 0 f", "f"),
    ("letter f 9 zz", "zz"), ("letter k 0 k", "k"), ("drop zz", "zz"), ("drop l", "l"), ("claim m alike f zz", "zz"),
    ("claim m alike zz yy", "zz"), ("claim m prints f n", "f"), ("claim m prints c k", "k"), ("claim m plain c", "c"),
    ("claim m misprints zz yy", "zz"), ("claim m steps k", "k"), ("claim m leaves f f k", "k"), ("claim m leaves f k zz", "k"),
    ("claim m leavesnot zz k f", "zz"), ("show zz", "zz"), ("show l", "l"), ("size c", "c"), ("size k", "k"),
    ("worth k", "k"), ("calls zz", "zz"), ("firsts c", "c"), ("ready k", "k"), ("entries f", "f"), ("run n", "n"),
    ("same zz f", "zz"), ("same f zz", "zz"), ("same f k", "k"), ("same k f", "f"), ("same c n", "n"), ("same k c", "c"),
    ("same zz yy", "zz"),
]

# Commands that the functions behind them stop.
STOPPED = [
    ("program g fun", BadText, {"spot": 3}), ("program g fun x : a. y", UnknownName, {"spot": 11}),
    ("program g 1000001", TooMany, limit("told", 1000000)), ("program g next (fun x : a. x)", BadKind, {"spot": 0}),
    ("kind g a >", BadText, {"spot": 3}), ("kind g " + " > ".join("a" * 13), TooMany, limit("depth", 12)),
    ("print g u", NotShown, {}), ("call g f n", InvalidArguments, {"value": [FOUR]}),
    ("call g n n n", InvalidArguments, {"value": [FOUR, FOUR]}), ("left g f n", InvalidArguments, {"value": [FOUR]}),
    ("after g f u", UnlikeKinds, {}), ("after g n f", UnlikeKinds, {}), ("step f 2 call", InvalidPosition, {"value": 2}),
    ("step f 999 call", InvalidPosition, {"value": 999}), ("step f 0 call", NoStep, {}), ("step n 0 next", NoStep, {}),
    ("letter f 6 k", InvalidLetter, {"value": 6}), ("letter f 999 k", InvalidLetter, {"value": 999}), ("worth f", NotData, {}),
]


class Errors(DeskChecks):
    def setUp(self):
        # Two deeds are taken back, and one of these is done again: so one is left for redo.
        self.desk = filled(
            "program f fun x : a. x", "program n 4", "kind k a > a", "code c n", "claim l plain f", "program u fun n : count. n",
            "program s fun x : a. let y = x in y", "kind i count", "undo", "undo", "redo")

    def test_no_commands(self):
        for value in ODD + NO_COMMANDS:
            self.fails(InvalidCommand, {"value": value}, self.desk, value)

    def test_names_that_are_taken(self):
        for name in ("f", "n", "k", "c"):
            for rest in ("program {} 5", "kind {} a", "form {} f", "print {} zz", "call {} f zz", "left {} zz zz", "after {} zz f",
                         "code {} n", "shaken {} zz", "back {} c", "kindof {} zz", "program {} not right"):
                self.fails(NameTaken, {"name": name}, self.desk, rest.format(name))
        for words in ("alike zz zz", "plain f", "prints c n", "leaves f f f", "steps l"):
            self.fails(LabelTaken, {"label": "l"}, self.desk, f"claim l {words}")

    def test_nothing_named(self):
        # Whether nothing is kept there, or another sort.
        for command, name in NOT_NAMED:
            self.fails(NothingNamed, {"value": name}, self.desk, command)

    def test_unknown_labels(self):
        for command, label in (("state f", "f"), ("claimed zz", "zz"), ("forget zz", "zz"), ("forget n", "n")):
            self.fails(UnknownLabel, {"value": label}, self.desk, command)

    def test_nothing_to_undo_and_to_redo(self):
        self.fails(NothingToUndo, {}, Desk(), "undo")
        self.fails(NothingToRedo, {}, Desk(), "redo")
        desk = filled("program f 5")
        self.fails(NothingToRedo, {}, desk, "redo")
        self.does("program f 5", desk, "undo")
        self.fails(NothingToUndo, {}, desk, "undo")

    def test_errors_of_what_makes_and_tells_it(self):
        for command, wanted, attributes in STOPPED:
            self.fails(wanted, attributes, self.desk, command)
        desk = filled("program u fun n : count. n", "code c u", "program f fun n : count. fun m : count. n", "program n 4")
        self.fails(NotShown, {}, desk, "back g c")
        self.fails(NotData, {}, desk, "run c")
        self.fails(NotShown, {}, desk, "left g f n")

    def test_limits_of_what_makes_and_tells_it(self):
        desk = filled(f"program t {GREAT}", "code c t", "program f fun n : count. n",
                      "program p fun n : count. fun x : a. turns n (y : a. y) x", "program w fun x : a * a * a * a * a * a. 1",
                      "kind k a * a * a * a * a * a * a", "program v fun x : b > b > b > b > b > b > b > b > a. 1", "kind d a > a > a > a > a")
        for command in ("worth t", "calls t", "run c", "back g c", "print g t", "left g f t", "left g p t"):
            self.fails(TooMany, limit("calls", 2000), desk, command)
        self.fails(TooMany, limit("steps", 200), desk, "form g t")
        self.fails(TooMany, limit("signs", 60), desk, "letter w 0 k")
        self.fails(TooMany, limit("depth", 12), desk, "letter v 0 d")
        # Many nodes: what is behind itself again and again.
        desk = filled("program f fun n : count. next (next (next (next (next n))))", "program n 5")
        for name, other in ("gf", "hg", "ih", "ji"):
            desk.do(f"after {name} {other} {other}")
        self.fails(TooMany, limit("nodes", 300), desk, "after k j j")

    def test_letters_that_fit_no_more(self):
        # Each kind that is told may stay one, while a node's kind grows too great.
        desk = filled("program f fun x : a * a * a * a. fun y : a * a * a * a. x", "kind k a * a * a * a")
        big = read_kind("(a * a * a * a) * (a * a * a * a) * (a * a * a * a) * (a * a * a * a)")
        self.fails(InvalidProgram, {"value": [("fun", big), ("fun", big), ("name", 1)]}, desk, "letter f 0 k")
        # The other letters may be put.
        self.does("-", desk, "letter f 1 k")
        desk.do_all("program g fun p : a * a * a. (p, p)", "kind d a * a * a * a * a * a")
        self.fails(InvalidProgram, {"value": in_letter(desk, "g", "d")}, desk, "letter g 0 d")
        desk.do_all("drop f", "program f fun x : b > b > b > b > b > b > b > a. 1", "drop k", "kind k a > a > a > a > a")
        self.fails(InvalidProgram, {"value": in_letter(desk, "f", "k")}, desk, "letter f 0 k")

    def test_claims_that_are_none(self):
        desk = filled("program f fun x : a. x", "program n 4", "program u fun n : count. n", "code c u", f"program t {GREAT}", "code d n")
        f, n, u, c, t, d = (desk[name] for name in "fnuctd")
        for words, claim in (
                ("alike f n", ("alike", f, n)), ("unlike u u", ("unlike", u, u)), ("prints c u", ("prints", c, u)),
                ("misprints d f", ("misprints", d, f)), ("leaves f n f", ("leaves", f, [f], n)), ("leaves u n f", ("leaves", u, [f], n)),
                ("leaves u f n", ("leaves", u, [n], f)), ("leavesnot u n n n", ("leavesnot", u, [n, n], n)),
                # A limit stops these.
                ("alike n t", ("alike", n, t)), ("unlike t n", ("unlike", t, n)), ("prints d t", ("prints", d, t)),
                ("leaves u n t", ("leaves", u, [t], n)), ("leavesnot u t n", ("leavesnot", u, [n], t))):
            self.fails(InvalidClaim, {"value": claim}, desk, f"claim k {words}")
        self.does("k false", desk, "claim k plain t")

    def test_what_errors_hold_is_new(self):
        desk = filled("program f fun x : a. x", "program n 4", "program p fun p : a * a * a. (p, p)", "kind d a * a * a * a * a * a")
        before = seen(desk)
        for command in ("call g f n", "left g f n n", "claim k alike f n", "claim k leaves f n n", "letter p 0 d"):
            for call in (desk.do, desk.attempt):
                try:
                    call(command)
                except TermError as why:
                    value = why.value
                except CommandFailed as why:
                    value = why.__cause__.value
                self.assertTrue(inner_lists(value))
                for row in inner_lists(value):
                    row.append("changed")
                self.assertEqual(seen(desk), before)

    def test_the_first_error_is_told(self):
        full = [f"program n{place} 5" for place in range(12)] + [f"claim k{place} plain n0" for place in range(12)]
        desk = filled(*full)
        for command, wanted, attributes in (
                ("program n0 wrong", NameTaken, {"name": "n0"}), ("form n0 zz", NameTaken, {"name": "n0"}),
                ("form g zz", NothingNamed, {"value": "zz"}), ("program g wrong(", BadText, {"spot": 6}),
                ("program g wrong", UnknownName, {"spot": 0}), ("call g n0 n1", InvalidArguments, {"value": [[("told", 5)]]}),
                ("claim k0 plain zz", LabelTaken, {"label": "k0"}), ("claim k plain zz", NothingNamed, {"value": "zz"}),
                ("program g 5", TooMany, limit("names", 12)), ("kind g a", TooMany, limit("names", 12)),
                ("kindof g n0", TooMany, limit("names", 12)), ("claim k plain n0", TooMany, limit("labels", 12))):
            self.fails(wanted, attributes, desk, command)
        desk.do_all("drop n11", "program n11 fun n : count. n")
        self.fails(InvalidClaim, {"value": ("alike", desk["n11"], desk["n0"])}, desk, "claim k alike n11 n0")


def in_letter(desk, name, kind):
    """The program with the kind for the letter a, told once more."""
    def put(value):
        if not isinstance(value, tuple):
            return value
        return desk[kind] if value == A else tuple(put(inner) for inner in value)
    return [put(node) for node in desk[name]]


class Limits(DeskChecks):
    def test_twelve_names_of_all_sorts(self):
        desk = filled("program a 5", "kind b a", "code c a")
        for place in range(9):
            self.does("-", desk, f"program n{place} 5")
        self.assertEqual(len(desk.names), 12)
        desk.do_all("drop n0", "program n0 fun n : count. n")
        for command in ("program g 5", "kind g a", "form g a", "print g a", "call g n0 a", "left g n0 a", "after g n0 n0",
                        "code g a", "shaken g c", "back g c", "kindof g a"):
            self.fails(TooMany, limit("names", 12), desk, command)
        # What is under a name already is changed all the same, and a name that is dropped makes room.
        desk.do_all("drop a", "program a next 5")
        self.does("-", desk, "step a 0 next")
        self.does("-", desk, "letter a 0 b")
        self.fails(TooMany, limit("names", 12), desk, "program g 5")

    def test_twelve_labels(self):
        desk = filled("program f 5")
        for place in range(12):
            self.does(f"k{place} true", desk, f"claim k{place} plain f")
        self.assertEqual(len(desk.labels), 12)
        self.fails(TooMany, limit("labels", 12), desk, "claim k plain f")
        self.does("-", desk, "forget k3")
        self.does("k true", desk, "claim k plain f")
        self.fails(TooMany, limit("labels", 12), desk, "claim k3 plain f")

    def test_three_hundred_deeds(self):
        desk = Desk()
        for place in range(150):
            desk.do_all("program f next 5", "drop f")
        self.assertEqual((len(desk), len(desk.lines())), (300, 300))
        deeds = limit("deeds", 300)
        self.fails(TooMany, deeds, desk, "program f 5")
        self.fails(TooMany, deeds, desk, "kind f a")
        self.fails(BadText, {"spot": 1}, desk, "program f 5)")
        # Questions are no deeds, and what is taken back is none either.
        self.does("-", desk, "names")
        self.does("drop f", desk, "undo")
        self.assertEqual(len(desk), 299)
        self.does("-", desk, "step f 0 next")
        for command in ("drop f", "claim k plain f", "code c f"):
            self.fails(TooMany, deeds, desk, command)
        self.fails(NoStep, {}, desk, "step f 0 next")
        self.does("step f 0 next", desk, "undo")
        self.does("step f 0 next", desk, "redo")
        desk.do_all("undo", "claim k plain f")
        self.fails(TooMany, deeds, desk, "forget k")
        self.fails(UnknownLabel, {"value": "j"}, desk, "forget j")

    def test_names_then_labels_then_deeds(self):
        desk = filled(*[f"program n{place} 5" for place in range(12)], *[f"claim k{place} plain n0" for place in range(12)])
        for _ in range(138):
            desk.do_all("forget k0", "claim k0 plain n0")
        self.assertEqual(len(desk), 300)
        self.fails(TooMany, limit("names", 12), desk, "program g 5")
        self.fails(TooMany, limit("labels", 12), desk, "claim k plain n0")
        self.fails(TooMany, limit("deeds", 300), desk, "drop n1")


if __name__ == "__main__":
    unittest.main()
