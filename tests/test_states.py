"""selfprint.desk: [96] and [97], states, what is taken back, all or none, trials, copies and papers."""

import random
import unittest

from helper import ODD, DeskChecks, all_seen, filled, inner_lists, same, seen
from selfprint.callers import test_of as found_test
from selfprint.claims import is_claim, is_true, paper_of
from selfprint.desk import Desk, Trial, tried
from selfprint.errors import (
    BadKind, CommandFailed, InvalidClaim, InvalidCommand, InvalidLines, InvalidPaper, LimitError, MissingError, NameTaken,
    NoStep, NothingNamed, NothingToRedo, NothingToUndo, StateError, TermError, TooMany, UnknownLabel)

ALL = (TermError, MissingError, StateError, LimitError)
GREAT = "turns 3000 (x : count. next x) 0"


class States(DeskChecks):
    def test_names_dropped_and_kept_again(self):
        desk = filled("program f next 1", "program g 2", "claim k alike f g", "claim j plain g", "claim i unlike f f")
        for command, answer in (
                ("states", "i false, j true, k true"), ("drop g", "j gone, k gone"), ("state k", "gone"),
                ("states", "i false, j gone, k gone"),
                # Another one under the name, then one of another sort.
                ("program g 3", "j true, k false"), ("drop g", "j gone, k gone"), ("kind g a", "-"), ("drop g", "-"),
                ("code g f", "-"), ("claimed k", "alike f g"), ("states", "i false, j gone, k gone"), ("drop g", "-"),
                # One of another kind.
                ("program g fun x : a. x", "j true"), ("state k", "gone"), ("drop g", "j gone"),
                ("program g next 1", "j false, k true"), ("step g 0 next", "j true"), ("step f 0 next", "-"),
                ("drop f", "i gone, k gone"), ("forget k", "-"), ("states", "i gone, j true")):
            self.does(answer, desk, command)

    def test_a_limit(self):
        desk = filled("program f 2", "program g 2", "claim k alike f g")
        for command, answer in (("drop g", "k gone"), (f"program g {GREAT}", "-"), ("state k", "gone"), ("drop g", "-"),
                                ("program g turns 2 (x : count. next x) 0", "k true")):
            self.does(answer, desk, command)
        # A limit of the arguments' nodes, and of what a code prints.
        desk = filled("program f fun n : count. n", "program n 4", "program r 4", "claim k leaves f r n", "code c n", "claim j prints c r")
        for command, answer in (("drop n", "k gone"), ("program n " + "next (" * 39 + "0" + ")" * 39, "k false"), ("drop c", "j gone"),
                                (f"program t {GREAT}", "-"), ("code c t", "-"), ("states", "j gone, k false")):
            self.does(answer, desk, command)

    def test_letters(self):
        desk = filled("program f fun x : a. x", "program g fun x : a. x", "claim k alike f g", "kind c count", "claim j plain f")
        # The one is of another kind now; then both, but it is not shown.
        for command, answer in (("letter f 0 c", "k gone"), ("letter g 0 c", "-"), ("undo", "letter g 0 c"), ("undo", "letter f 0 c"),
                                ("states", "j true, k true"), ("drop c", "-"), ("kind c b > b", "-"),
                                ("letter f 0 c", "j false, k gone"), ("letter g 0 c", "k true")):
            self.does(answer, desk, command)

    def test_codes(self):
        desk = filled("program f next 1", "program g 2", "code c f", "claim k prints c g")
        for command, answer in (("drop c", "k gone"), ("program c 2", "-"), ("drop c", "-"), ("code c g", "k true"), ("drop g", "k gone"),
                                ("program g 3", "k false"), ("drop c", "k gone"), ("code c g", "k true")):
            self.does(answer, desk, command)

    def test_arguments(self):
        desk = filled("program f fun n : count. next n", "program n 1", "program m 2", "claim k leaves f m n", "claim j leavesnot f m n")
        for command, answer in (("drop n", "j gone, k gone"), ("program n 2", "j true, k false"), ("drop n", "j gone, k gone"),
                                ("program n fun x : a. x", "-"), ("drop n", "-"), ("kind n a", "-")):
            self.does(answer, desk, command)

    def test_noted_and_forgotten(self):
        desk = filled("program f 2", "program g 3")
        for command, answer in (("claim k plain f", "k true"), ("forget k", "-"), ("claim k plain f", "k true"),
                                ("claim j alike f g", "j false"), ("undo", "claim j alike f g"), ("redo", "claim j alike f g"),
                                ("forget k", "-"), ("claim k unlike f g", "k true"), ("claimed k", "unlike f g")):
            self.does(answer, desk, command)
        self.assertEqual(desk.labels, ["j", "k"])
        # A state that is gone is forgotten as well.
        desk.do_all("drop f", "forget k")
        self.assertEqual(desk.labels, ["j"])
        self.does("j gone", desk, "states")


class TakenBack(DeskChecks):
    def test_back_and_forth(self):
        lines = ["program f next 1", "program g 2", "claim k alike f g", "kind c a", "step f 0 next", "claim j plain f", "forget k",
                 "drop g", "code g f", "letter f 0 c"]
        desk, states = Desk(), []
        for line in lines:
            states.append(seen(desk))
            desk.do(line)
        states.append(seen(desk))
        for _ in range(2):
            for place in range(len(lines) - 1, -1, -1):
                self.does(lines[place], desk, "undo")
                self.assertEqual((seen(desk), len(desk), desk.lines()), (states[place], place, lines[:place]))
            self.fails(NothingToUndo, {}, desk, "undo")
            for place, line in enumerate(lines):
                self.does(line, desk, "redo")
                self.assertEqual(seen(desk), states[place + 1])
            self.fails(NothingToRedo, {}, desk, "redo")

    def test_a_deed_takes_away_what_could_be_done_again(self):
        for command, takes in (("program g 3", True), ("claim k plain f", True), ("step f 0 next", True), ("drop f", True), ("forget j", True),
                               ("names", False), ("states", False), ("show f", False), ("state j", False), ("same f f", False), ("size f", False),
                               # These fail.
                               ("step f 0 let", False), ("program f 3", False), ("worth j", False), ("forget k", False), ("no command", False)):
            desk = filled("program f next 1", "claim j plain f", "kind c a", "undo")
            try:
                desk.do(command)
            except ALL:
                pass
            if takes:
                self.fails(NothingToRedo, {}, desk, "redo")
            else:
                self.does("kind c a", desk, "redo")

    def test_a_paper_does_not(self):
        desk = filled("program f next 1", "claim j plain f", "kind c a", "undo")
        desk.attach("j", (0, "next"))
        self.assertEqual(len(desk), 2)
        self.does("kind c a", desk, "redo")
        with self.assertRaises(InvalidPaper):
            desk.attach("j", (0, "let"))
        desk.do("undo")
        desk.fits("j")
        self.does("kind c a", desk, "redo")


class AllOrNone(DeskChecks):
    def test_all(self):
        desk = Desk()
        self.assertTrue(same(desk.do_all("program f 5", "names", "claim k plain f", "undo", "redo", "size f"),
                             ["-", "f", "k true", "claim k plain f", "claim k plain f", "1"]))
        self.assertEqual(desk.lines(), ["program f 5", "claim k plain f"])
        self.assertEqual(desk.do_all(), [])
        self.assertEqual(desk.attempt(), [])

    def test_none(self):
        for commands, position, wanted, attributes in (
                (("program f 5", "step f 0 next", "drop f"), 1, NoStep, {}), (("undo", "undo", "undo", "undo"), 3, NothingToUndo, {}),
                (("drop f",), 0, NothingNamed, {"value": "f"}), (("undo", "program g 5", "redo"), 2, NothingToRedo, {}),
                (("undo", 5), 1, InvalidCommand, {"value": 5}), (("kind f a", "program f 5"), 1, NameTaken, {"name": "f"}),
                (("redo", "size e", "redo"), 2, NothingToRedo, {}), ((["names"],), 0, InvalidCommand, {"value": ["names"]}),
                (("forget k", "state k"), 1, UnknownLabel, {"value": "k"}), (("program g next (fun x : a. x)",), 0, BadKind, {"spot": 0}),
                (("drop e", "claim j alike d d"), 1, InvalidClaim, {"value": ("alike", [("fun", ("count",)), ("name", 0)], [("fun", ("count",)), ("name", 0)])}),
                (("names", "worth d"), 1, None, None)):
            desk = filled("program e 5", "program d fun n : count. n", "claim k plain e", "kind z a", "undo")
            before = all_seen(desk)
            for call in (desk.do_all, desk.attempt):
                with self.assertRaises(CommandFailed) as caught:
                    call(*commands)
                self.assertIs(type(caught.exception), CommandFailed)
                self.assertEqual(vars(caught.exception), {"position": position})
                if wanted is not None:
                    self.assertIs(type(caught.exception.__cause__), wanted)
                    self.assertEqual(vars(caught.exception.__cause__), attributes)
                self.assertEqual(all_seen(desk), before)

    def test_attempt(self):
        desk = filled("program f next 1", "claim k plain f", "kind z a", "undo")
        before = all_seen(desk)
        self.assertTrue(same(desk.attempt("step f 0 next", "undo", "drop f", "states", "names"), ["k true", "step f 0 next", "k gone", "k gone", "-"]))
        self.assertEqual(all_seen(desk), before)
        self.does("kind z a", desk, "redo")


class Trials(DeskChecks):
    def test_a_block(self):
        desk = filled("program f next 1", "claim k plain f", "kind z a", "undo")
        before = all_seen(desk)
        with Trial(desk) as held:
            self.assertIs(held, desk)
            held.do_all("redo", "undo", "undo", "program g 5", "drop f")
            held.do("program f 5")
            held.do("claim k plain f")
        self.assertEqual(all_seen(desk), before)
        with Trial(desk=desk):
            desk.attach("k", (0, "next"))
            self.assertTrue(desk.fits("k"))
        self.assertFalse(desk.fits("k"))
        self.assertEqual(all_seen(desk), before)

    def test_an_error_goes_on(self):
        desk = filled("program f next 1", "kind z a", "undo")
        before = all_seen(desk)
        for error in (KeyError, ZeroDivisionError, NothingToUndo):
            with self.assertRaises(error):
                with Trial(desk):
                    desk.do("drop f")
                    raise error()
            self.assertEqual(all_seen(desk), before)
        with self.assertRaises(NothingNamed):
            with Trial(desk):
                desk.do_all("drop f", "program g 5")
                desk.do("show f")
        self.assertEqual(all_seen(desk), before)

    def test_one_within_another_and_again(self):
        desk = filled("program f next 1")
        trial = Trial(desk)
        for _ in range(2):
            with trial:
                desk.do("program g 5")
                middle = all_seen(desk)
                with Trial(desk):
                    desk.do_all("drop f", "drop g")
                self.assertEqual(all_seen(desk), middle)
            self.assertEqual(desk.names, ["f"])
        # What came between two blocks stays.
        desk.do("program h 5")
        with trial:
            desk.do("undo")
        self.assertEqual(desk.names, ["f", "h"])

    def test_tried(self):
        desk = filled("program f next 1", "kind z a", "undo")
        before = all_seen(desk)
        self.assertEqual(tried(desk, lambda held: held.do_all("drop f", "names")), ["-", "-"])
        self.assertIs(tried(desk=desk, action=lambda held: held), desk)
        self.assertIsNone(tried(desk, lambda held: None))
        self.assertEqual(all_seen(desk), before)
        with self.assertRaises(NothingNamed):
            tried(desk, lambda held: held.do_all("drop f") + [held["f"]])
        self.assertEqual(all_seen(desk), before)


class Copies(DeskChecks):
    def test_copies_go_on_by_themselves(self):
        desk = filled("program f next 1", "program g fun x : a. fun y : a. x", "program h fun x : a. fun y : a. y", "claim k plain f",
                      "claim j alike g h", "kind z a", "undo")
        desk.attach("k", (0, "next"))
        other = desk.copy()
        self.assertIs(type(other), Desk)
        before = all_seen(desk)
        self.assertEqual(all_seen(other), before)
        self.assertTrue(other.fits("k"))
        other.do_all("redo", "drop f", "forget k")
        other.attach("j", found_test(desk["g"], desk["h"]))
        self.assertEqual(all_seen(desk), before)
        self.assertTrue(desk.fits("k") and not desk.fits("j") and other.fits("j"))
        changed = all_seen(other)
        desk.do("step f 0 next")
        self.assertEqual(all_seen(other), changed)

    def test_again(self):
        desk = filled("program f next 1", "claim k plain f", "names", "drop f", "undo", "step f 0 next")
        lines = desk.lines()
        self.assertEqual(lines, ["program f next 1", "claim k plain f", "step f 0 next"])
        for again in (Desk.again(lines), Desk.again(tuple(lines)), Desk.again(lines=lines)):
            self.assertIs(type(again), Desk)
            self.assertEqual(all_seen(again), all_seen(desk)[:1])
        self.assertEqual(lines, ["program f next 1", "claim k plain f", "step f 0 next"])
        self.assertEqual(Desk.again([]).lines(), [])

    def test_wrong_lines(self):
        for value in ODD:
            if not isinstance(value, (list, tuple)):
                self.check_lines(InvalidLines, None, value)
            elif value:
                self.check_lines(InvalidLines, 0, value)
        for lines, position in ((["undo"], 0), (["program f 5", "names"], 1), (["program f 5", "state k", "undo"], 1), (["drop f", 5], 1),
                                (["drop f", ["drop f"]], 1), (["program f "], 0), (["drop f", "claim k plain"], 1), (["kind k a", True], 1)):
            self.check_lines(InvalidLines, position, lines)
        for value in ("program f 5", {"program f 5": 1}, {0: 1}):
            self.check_lines(InvalidLines, None, value)
        for lines, position in ((["drop f"], 0), (["program f 5", "drop f", "drop f"], 2), (["program f 5", "step f 0 next"], 1),
                                (["program f 5"] * 2, 1), (["program f 5", "drop f"] * 150 + ["kind f a"], 300)):
            self.check_lines(CommandFailed, position, lines)

    def check_lines(self, wanted, position, lines):
        for call in (lambda: Desk.again(lines), lambda: Desk.again(lines=lines)):
            with self.assertRaises(wanted) as caught:
                call()
            self.assertIs(type(caught.exception), wanted)
            self.assertEqual(vars(caught.exception), {"position": position})
            if wanted is CommandFailed:
                self.assertIsNotNone(caught.exception.__cause__)


class Papers(DeskChecks):
    def refused(self, desk, label, paper):
        before = all_seen(desk)
        for call in (lambda: desk.attach(label, paper), lambda: desk.attach(label=label, paper=paper)):
            with self.assertRaises(InvalidPaper) as caught:
                call()
            self.assertIs(type(caught.exception), InvalidPaper)
            self.assertIs(caught.exception.value, paper)
        self.assertEqual(all_seen(desk), before)

    def test_unknown_labels(self):
        desk = filled("program f 5", "claim k plain f")
        for value in ODD + ["f", "K", "k ", ("k",), ["k"]]:
            for call in (lambda: desk.attach(value, []), lambda: desk.fits(value)):
                with self.assertRaises(UnknownLabel) as caught:
                    call()
                self.assertIs(type(caught.exception), UnknownLabel)
                self.assertIs(caught.exception.value, value)

    def test_papers_of_each_line_and_of_its_contrary(self):
        desk = filled("program f next 1", "program g 2", "program h 3", "code c f", "program s fun n : count. next n")
        for words, paper in (
                ("alike f g", ([("told", 2)], [(0, "next")], [])), ("unlike f g", ([("told", 2)], [(0, "next")], [])),
                ("alike f h", found_test([("told", 2)], [("told", 3)])), ("unlike f h", found_test([("told", 2)], [("told", 3)])),
                ("prints c g", []), ("misprints c g", []), ("prints c f", [(0, "next")]), ("misprints c h", found_test([("told", 2)], [("told", 3)])),
                ("plain f", (0, "next")), ("steps f", (0, "next")), ("leaves s h g", ([("told", 3)], [(0, "call"), (0, "next")], [])),
                ("leavesnot s g h", found_test([("told", 4)], [("told", 2)]))):
            desk.do(f"claim k {words}")
            self.assertIsNone(desk.attach("k", paper))
            self.assertIs(desk.fits("k"), True, words)
            self.assertIs(desk.fits(label="k"), True)
            for other in ODD + [[paper], (paper,), (paper, paper)]:
                if other not in ([], ()) or paper != []:
                    self.refused(desk, "k", other)
            self.assertTrue(desk.fits("k"))
            desk.do("forget k")

    def test_what_is_attached_is_copied(self):
        desk = filled("program f next 1", "program g 2", "claim k alike f g")
        paper = ([("told", 2)], [(0, "next")], [])
        desk.attach("k", paper)
        for row in inner_lists(paper):
            row.append("changed")
        self.assertTrue(desk.fits("k"))

    def test_none_is_kept_at_first(self):
        desk = filled("program f 5", "claim k plain f")
        self.assertIs(desk.fits("k"), False)
        # There is no paper of what is plain.
        for value in ODD + [(0, "next"), (0, "long")]:
            self.refused(desk, "k", value)

    def test_gone(self):
        desk = filled("program f next 1", "program g 2", "claim k alike f g", "claim j steps f")
        paper = ([("told", 2)], [(0, "next")], [])
        desk.attach("k", paper)
        desk.attach("j", (0, "next"))
        desk.do("drop f")
        self.assertIs(desk.fits("k"), False)
        self.refused(desk, "k", paper)
        self.refused(desk, "j", (0, "next"))
        # It stays there, and fits again with the things.
        desk.do("program f next 1")
        self.assertTrue(desk.fits("k") and desk.fits("j"))
        desk.do("step f 0 next")
        self.assertFalse(desk.fits("k") or desk.fits("j"))
        desk.do("undo")
        self.assertTrue(desk.fits("k") and desk.fits("j"))
        desk.do_all("undo", "undo", "undo")
        self.assertEqual(desk.labels, ["k"])
        self.assertTrue(desk.fits("k"))
        desk.do("redo")
        self.assertTrue(desk.fits("j"))
        desk.do_all("undo", "undo", "undo", "undo", "redo", "redo", "redo", "redo")
        self.assertTrue(desk.fits("k") and desk.fits("j"))

    def test_a_paper_takes_the_place_of_another(self):
        desk = filled("program f next (next 1)", "program g 3", "claim k alike f g")
        short = ([("next",), ("told", 2)], [(1, "next")], [])
        whole = ([("told", 3)], [(1, "next"), (0, "next")], [])
        self.refused(desk, "k", short)
        desk.attach("k", whole)
        desk.do_all("drop g", "program g next 2")
        self.assertFalse(desk.fits("k"))
        desk.attach("k", short)
        self.assertTrue(desk.fits("k"))
        desk.do_all("step g 0 next")
        self.assertFalse(desk.fits("k"))
        desk.attach("k", whole)
        self.assertTrue(desk.fits("k"))
        # One that is refused leaves the one that is there.
        self.refused(desk, "k", short)
        self.assertTrue(desk.fits("k"))

    def test_forgotten_and_noted_again(self):
        desk = filled("program f next 1", "program g 2", "claim k alike f g")
        desk.attach("k", ([("told", 2)], [(0, "next")], []))
        desk.do("forget k")
        with self.assertRaises(UnknownLabel):
            desk.fits("k")
        desk.do("claim k alike f g")
        self.assertTrue(desk.fits("k"))
        # Only for the words for which it was attached, though it is a paper of the contrary.
        for words in ("unlike f g", "alike g f", "steps f"):
            desk.do_all("forget k", f"claim k {words}")
            self.assertFalse(desk.fits("k"), words)
        desk.do_all("forget k", "claim j alike f g", "claim k alike f g")
        self.assertTrue(desk.fits("k"))
        self.assertFalse(desk.fits("j"))
        desk.do_all("forget k", "drop g", "drop f", "program f 2", "program g 2", "claim k alike f g")
        self.assertFalse(desk.fits("k"))
        desk.do_all("drop f", "program f next 1")
        self.assertTrue(desk.fits("k"))

    def test_words_that_are_the_same_with_other_things(self):
        # One claim's papers may be those of the contrary by now; it was kept for the one that it was of.
        desk = filled("program f fun x : a. fun y : a. x", "program g fun x : a. fun y : a. y", "claim k alike f g")
        desk.attach("k", found_test(desk["f"], desk["g"]))
        self.assertTrue(desk.fits("k"))
        desk.do_all("drop f", "program f fun x : a. fun y : a. y", "drop g", "program g fun x : a. fun y : a. x")
        self.assertFalse(desk.fits("k"))
        desk.do_all("drop g", "program g fun x : a. fun y : a. y")
        self.assertFalse(desk.fits("k"))
        desk.do_all("drop f", "program f fun x : a. let z = x in fun y : a. z")
        self.assertTrue(desk.fits("k"))

    def test_a_limit_stops_it(self):
        desk = filled("program f 1", "program g 5", "claim k alike f g")
        paper = found_test([("told", 1)], [("told", 5)])
        slow = (1, paper[1][:1] + [("let",)] + [("turns", ("count",)), ("told", 1999), ("next",), ("name", 0), ("told", 0)] + lifted_body(paper[1]))
        self.refused(desk, "k", slow)
        desk.attach("k", paper)
        desk.do_all("drop f", "program f turns 1 (x : count. next x) 0")
        self.assertTrue(desk.fits("k"))
        # The claim is false still; but the test comes to its end no more.
        desk.do_all("drop f", "program f turns 1999 (x : count. 1) 0")
        self.does("k false", desk, "states")
        self.assertFalse(desk.fits("k"))
        self.refused(desk, "k", paper)
        desk.do_all("undo", "undo")
        self.assertTrue(desk.fits("k"))

    def test_kept_over_all_that_is_done(self):
        desk = filled("program f next 1", "claim k steps f")
        desk.attach("k", (0, "next"))
        for commands in (("program g 5", "undo", "redo"), ("drop g", "kind g a"), ("forget k", "undo"), ("undo", "undo", "redo", "redo")):
            desk.do_all(*commands)
            self.assertTrue(desk.fits("k"))
        # The desk that does the same deeds has no papers.
        self.assertFalse(Desk.again(desk.lines()).fits("k"))
        self.assertTrue(tried(desk, lambda held: held.fits("k")))

    def test_random_papers(self):
        rng = random.Random(122)
        attached = 0
        for _ in range(30):
            desk = Desk()
            papers = {}
            for _ in range(40):
                try:
                    desk.do(random_command(rng, desk))
                except ALL:
                    pass
                for label in desk.labels:
                    claim, words = desk.claim_of(label), desk.do(f"claimed {label}")
                    kept = papers.get(label)
                    self.assertEqual(desk.fits(label), kept is not None and claim is not None and kept[:2] == (words, claim))
                    if claim is not None and rng.randrange(4) == 0:
                        try:
                            paper = paper_of(claim) if is_true(claim) else paper_of(contrary_told(claim))
                        except TooMany:
                            continue
                        if paper is not None:
                            desk.attach(label, paper)
                            attached += 1
                            papers[label] = (words, claim)
                            self.assertTrue(desk.fits(label))
        self.assertGreater(attached, 50)


def contrary_told(claim):
    words = [("alike", "unlike"), ("prints", "misprints"), ("plain", "steps"), ("leaves", "leavesnot")]
    return (next(other for pair in words for other in pair if claim[0] in pair and other != claim[0]),) + claim[1:]


def lifted_body(caller):
    """The body of a caller, with one binder more around its own one."""
    around, found = 0, []
    for node in caller[1:]:
        found.append(("name", node[1] + 1) if node == ("name", 0) and around == 0 else node)
    return found


class Random(DeskChecks):
    def test_random_desks(self):
        rng = random.Random(121)
        for _ in range(12):
            desk = Desk()
            lines, undone = [], []
            for _ in range(60):
                command = random_command(rng, desk)
                before = told_states(desk)
                try:
                    answer = desk.do(command)
                except ALL:
                    self.assertEqual((desk.lines(), told_states(desk)), (lines, before))
                    continue
                word = command.split(" ")[0]
                after = told_states(desk)
                if word == "undo":
                    self.assertEqual(answer, lines[-1])
                    undone.append(lines.pop())
                elif word == "redo":
                    self.assertEqual(answer, undone[-1])
                    lines.append(undone.pop())
                elif word not in ("states", "names"):
                    lines.append(command)
                    undone = []
                    changed = [f"{label} {after[label]}" for label in sorted(after) if before.get(label) != after[label]]
                    self.assertEqual(answer, ", ".join(changed) or "-")
                self.assertEqual((desk.lines(), len(desk)), (lines, len(lines)))
                self.assertEqual(desk.do("states"), ", ".join(f"{label} {after[label]}" for label in sorted(after)) or "-")
                self.assertEqual(seen(Desk.again(lines)), seen(desk))


def told_states(desk):
    """The states of all labels, told anew from the claims' words and from what is kept."""
    found = {}
    for label in desk.labels:
        word, *names = desk.do(f"claimed {label}").split(" ")
        found[label] = "gone"
        if all(name in desk for name in names):
            things = [desk[name] for name in names]
            claim = (word, things[0], things[2:], things[1]) if word.startswith("leaves") else (word, *things)
            try:
                found[label] = ("true" if is_true(claim) else "false") if is_claim(claim) else "gone"
            except TooMany:
                pass
    return found


PROGRAMS = ["1", "2", "next 1", "fun n : count. next n", "fun x : a. x", "fun x : a. let y = x in y", "fun x : a. fun y : a. x",
            "fun x : a. fun y : a. y", "fun f : a > a. f", "fun f : a > a. fun x : a. f x", GREAT, "first (1, 2)"]


def random_command(rng, desk):
    def name():
        return rng.choice("fghi")

    def label():
        return rng.choice("klm")

    def claim():
        words = rng.choice(["alike", "alike", "unlike", "prints", "misprints", "plain", "steps", "leaves", "leavesnot"])
        many = {"plain": 1, "steps": 1, "leaves": 3, "leavesnot": 3}.get(words, 2)
        return f"claim {label()} {words} " + " ".join(name() for _ in range(many))

    def deed():
        return rng.choice([
            f"drop {name()}", f"code {name()} {name()}", f"form {name()} {name()}", f"print {name()} {name()}", f"kindof {name()} {name()}",
            f"letter {name()} 0 {name()}", f"step {name()} {rng.randrange(4)} {rng.choice(['next', 'let', 'long', 'first'])}",
            f"call {name()} {name()} {name()}", f"left {name()} {name()} {name()}", f"forget {label()}", f"drop {name()}"])

    # At first things are wanted, then claims, then all sorts of commands.
    if len(desk.names) < 3:
        return f"program {name()} {rng.choice(PROGRAMS)}"
    return rng.choice([claim(), claim(), deed(), deed(), deed(), f"program {name()} {rng.choice(PROGRAMS)}",
                       rng.choice(["undo", "undo", "redo", "redo", "states", "names"])])


if __name__ == "__main__":
    unittest.main()
