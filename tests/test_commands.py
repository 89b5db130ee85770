"""selfprint.commands: [95] and [98], by words alone."""

import unittest

from helper import ODD, Checks
from selfprint.commands import is_command, is_deed, is_name

NAMES = ["a", "z", "k1", "abcdefgh", "a2345678", "x0", "fun", "program", "alike", "count", "undo", "first", "z9"]
NO_NAMES = ["", "A", "aB", "1", "1a", "9", "abcdefghi", "a_b", "a b", "a-b", " a", "a ", "a\n", "_a", ".", "a.b", "a2345678 ", "a23456789", "aa,"]
TEXTS = ["5", "x", " ", "  ", "fun x : a. x", "f g", " 5", "5 ", "\n", "5\n6", "#", "not at all a text (", "undo"]
RULES = ["call", "first", "second", "which", "turns", "next", "let", "long"]

# Each deed and each other command, with its parts behind one another; N, L stand for names, T for a text.
DEEDS = ["program N T", "kind N T", "form N N", "print N N", "call N N N", "call N N N N", "call N N N N N", "call N N N N N N", "left N N N",
         "left N N N N", "left N N N N N", "left N N N N N N", "after N N N", "code N N", "shaken N N", "back N N", "kindof N N", "step N C R",
         "letter N C N", "drop N", "claim N alike N N", "claim N unlike N N", "claim N prints N N", "claim N misprints N N", "claim N plain N",
         "claim N steps N", "claim N leaves N N N", "claim N leaves N N N N", "claim N leaves N N N N N", "claim N leaves N N N N N N",
         "claim N leavesnot N N N", "claim N leavesnot N N N N", "claim N leavesnot N N N N N", "claim N leavesnot N N N N N N", "forget N"]
OTHERS = ["undo", "redo", "state N", "states", "claimed N", "names", "show N", "size N", "worth N", "calls N", "firsts N", "ready N", "entries N",
          "run N", "same N N"]
# Too few, or too many, of what one to four may stand of.
WRONG_MANY = ["call N N", "call N N N N N N N", "left N N", "left N N N N N N N", "claim N leaves N N", "claim N leaves N N N N N N N",
              "claim N leavesnot N N", "claim N leavesnot N N N N N N N", "after N N", "after N N N N"]
GOOD = {"N": "ab1", "T": "fun x : a. x", "C": "12", "R": "call"}


def filled(shape, told=None):
    """The command of a shape, of which one part may be told: a tuple of its place and its text."""
    parts = shape.split(" ")
    made = [GOOD.get(part, part) for part in parts]
    if told is not None:
        made[told[0]] = told[1]
    return " ".join(made)


class Names(Checks):
    def test_names(self):
        for value in NAMES:
            self.check(True, is_name, value=value)
        for value in NO_NAMES + [["a"], ("a",), b"a", {"a"}, {"a": 1}, None, 1, object()]:
            self.check(False, is_name, value=value)

    def test_any_value(self):
        for value in ODD:
            self.check(value in ("x", "count", "letter"), is_name, value=value)


class Commands(Checks):
    def judged(self, text, is_right, is_done):
        self.check(is_right, is_command, value=text)
        self.check(is_right and is_done, is_deed, value=text)

    def test_each_command(self):
        for shapes, is_done in ((DEEDS, True), (OTHERS, False)):
            for shape in shapes:
                self.judged(filled(shape), True, is_done)

    def test_names_whatever_is_kept(self):
        for shapes, is_done in ((DEEDS, True), (OTHERS, False)):
            for shape in shapes:
                for place, part in enumerate(shape.split(" ")):
                    if part == "N":
                        for name in NAMES:
                            self.judged(filled(shape, (place, name)), True, is_done)

    def test_one_thing_otherwise(self):
        for shapes, is_done in ((DEEDS, True), (OTHERS, False)):
            for shape in shapes:
                parts = shape.split(" ")
                whole = filled(shape)
                for place, part in enumerate(parts):
                    if part == "N":
                        for name in NO_NAMES:
                            # What stands ahead of a text may be part of it, and a name may be one of two parts.
                            text = filled(shape, (place, name))
                            if not is_right_by_chance(shape, text):
                                self.judged(text, False, is_done)
                    if part == "R":
                        for rule in ("", "jump", "Call", "call ", " call", "calls", "right"):
                            self.judged(filled(shape, (place, rule)), False, is_done)
                    if part not in GOOD:
                        for word in ("", part.upper(), part + "s", part[:-1], part + " ", "x"):
                            text = filled(shape, (place, word))
                            if not any(text.split(" ") == filled(other).split(" ") for other in DEEDS + OTHERS):
                                self.judged(text, False, is_done)
                for other in (" " + whole, "\n" + whole, whole.upper()):
                    self.judged(other, False, is_done)
                if "T" not in parts:
                    for other in (whole + " ", whole + "\n", whole.replace(" ", "  ", 1) + " " * (" " not in whole), whole + ".", whole + " ab1 ab1 ab1 ab1 ab1"):
                        self.judged(other, False, is_done)

    def test_a_part_less_and_more(self):
        shapes = DEEDS + OTHERS
        for shape in shapes:
            parts = shape.split(" ")
            for place in range(1, len(parts)):
                less = " ".join(parts[:place] + parts[place + 1:])
                if less not in shapes and "T" not in less:
                    self.judged(filled(less), False, False)
            if "T" not in parts and shape + " N" not in shapes:
                self.judged(filled(shape + " N"), False, False)
        for shape in WRONG_MANY:
            self.judged(filled(shape), False, False)
        for shape in ("program N", "kind N", "program", "kind"):
            self.judged(filled(shape), False, False)
            self.judged(filled(shape) + " ", False, False)

    def test_texts(self):
        for word in ("program", "kind"):
            for text in TEXTS:
                self.judged(f"{word} f {text}", True, True)
            # All that is left is the text, and it has one sign at least.
            self.judged(f"{word} f ", False, True)
            self.judged(f"{word} f", False, True)
            self.judged(f"{word}  f 5", False, True)
            self.judged(f"{word} 1 5", False, True)
            self.judged(f"{word} f\n5", False, True)

    def test_counts(self):
        for shape in ("step N C R", "letter N C N"):
            for count in ("0", "1", "9", "10", "299", "300", "999", "100"):
                self.judged(filled(shape, (2, count)), True, True)
            for count in ("", "00", "01", "007", "1000", "9999", "-1", "+1", "x", "1x", "1.0", " 1", "1 ", "0x1", "1_0", "1,0", "10000000000"):
                self.judged(filled(shape, (2, count)), False, True)

    def test_rules(self):
        for rule in RULES:
            self.judged(f"step f 0 {rule}", True, True)

    def test_claims(self):
        for word in ("like", "alikes", "Alike", "", "print", "leave", "leavenot", "claim", "true"):
            for names in ("f g", "f", "f g h"):
                self.judged(f"claim k {word} {names}", False, True)
        for text in ("claim", "claim ", "claim k", "claim k ", "claim alike f g", "claim k alike", "claim k plain", "claim K alike f g", "claim k alike f g h",
                     "claim k plain f g", "claim k prints f", "claim  k alike f g", "claim k  alike f g"):
            self.judged(text, False, True)

    def test_any_value(self):
        for value in ODD + [["undo"], ("undo",), b"undo", {"undo"}, 5]:
            self.check(False, is_command, value=value)
            self.check(False, is_deed, value=value)
        for value in ("", " ", "\n", "undos", "do", "help", "Undo", "undo undo", "redo 1", "states k", "state", "names f", "names ", "same f", "same f g h",
                      "show", "show f g", "worth", "run", "entries", "sizes f"):
            self.judged(value, False, False)


def is_right_by_chance(shape, text):
    """Whether a text, made of the shape with a wrong name in it, is a command for other reasons."""
    parts = text.split(" ")
    if shape.split(" ")[-1] == "T":
        return len(parts) > 2 and parts[1] in NAMES + ["ab1", "a"]
    shapes = DEEDS + OTHERS
    return any(len(other.split(" ")) == len(parts) and all(is_plainly(one, told) for one, told in zip(other.split(" "), parts)) for other in shapes)


def is_plainly(part, text):
    if part == "N":
        return text not in NO_NAMES
    if part == "C":
        return text == "12"
    return text == GOOD.get(part, part)


if __name__ == "__main__":
    unittest.main()
