"""Claims, and the papers that show that they are true."""

from selfprint.basics import renewed
from selfprint.callers import test_of
from selfprint.checked import found_kinds, is_program
from selfprint.codes import is_code
from selfprint.decompiler import decompiled
from selfprint.errors import InvalidClaim
from selfprint.forms import is_step, is_steps, led_to_form, steps_of
from selfprint.kinds import seen_as_shown
from selfprint.left import are_arguments, called, kind_behind
from selfprint.parting import is_test
from selfprint.printing import printed
from selfprint.steps import steps_from

WORDS = (("alike", "unlike"), ("prints", "misprints"), ("plain", "steps"), ("leaves", "leavesnot"))


def words():
    """The list of the tuples of the two words of each line, in their sequence."""
    return list(WORDS)


def pair_of_words(word):
    """The tuple of the two words of any value's line; None if it is no word of a claim."""
    for pair in WORDS:
        if isinstance(word, str) and word in pair:
            return pair
    return None


def is_contrary_word(word):
    """Whether the word is the second one of its line."""
    return word == pair_of_words(word)[1]


def line_of(claim):
    """The first word of a claim's line."""
    return pair_of_words(claim[0])[0]


def is_claim(value):
    """Whether any value is a claim."""
    if not isinstance(value, tuple) or not value or pair_of_words(value[0]) is None:
        return False
    action = PARTS[line_of(value)]
    return action(value[1:])


# Each tells whether a tuple is that of the parts of a claim.


def are_two_programs(parts):
    """Two programs of one kind, a shown one."""
    return len(parts) == 2 and is_program(parts[0]) and is_like(parts[1], found_kinds([], parts[0])[0])


def is_like(value, kind):
    """Whether any value is a program of this kind, and the kind a shown one."""
    return is_program(value) and found_kinds([], value)[0] == kind and seen_as_shown(kind)


def are_code_and_program(parts):
    """A code of a shown kind, and a program of its kind."""
    return len(parts) == 2 and is_code(parts[0]) and is_like(parts[1], parts[0][0][2])


def is_one_program(parts):
    """A program."""
    return len(parts) == 1 and is_program(parts[0])


def are_called_and_program(parts):
    """A program, arguments for it, and a program of the kind of what is left."""
    if len(parts) != 3 or not is_program(parts[0]):
        return False
    kind = found_kinds([], parts[0])[0]
    return are_arguments(kind, parts[1]) and is_like(parts[2], kind_behind(kind, len(parts[1])))


PARTS = {
    "alike": are_two_programs,
    "prints": are_code_and_program,
    "plain": is_one_program,
    "leaves": are_called_and_program,
}


def need_claim(claim):
    """InvalidClaim unless it is a claim."""
    if not is_claim(claim):
        raise InvalidClaim(claim)


def contrary(claim):
    """The contrary claim, with new lists and tuples."""
    need_claim(claim)
    first, second = pair_of_words(claim[0])
    return (first if claim[0] == second else second,) + renewed(claim[1:])


def compared(claim):
    """The two programs of which a claim but of the line of "plain" tells whether they print alike."""
    line = line_of(claim)
    if line == "prints":
        return decompiled(claim[1]), claim[2]
    if line == "leaves":
        return called(claim[1], claim[2]), claim[3]
    return claim[1], claim[2]


def is_true(claim):
    """Whether a claim is true."""
    need_claim(claim)
    if line_of(claim) == "plain":
        holds = steps_from(claim[1]) == []
    else:
        one, other = compared(claim)
        holds = printed(one) == printed(other)
    return holds != is_contrary_word(claim[0])


def paper_of(claim):
    """A paper of a claim; None if it is not true, or if its word has none."""
    if not is_true(claim):
        return None
    if line_of(claim) == "plain":
        return steps_from(claim[1])[0] if claim[0] == "steps" else None
    one, other = compared(claim)
    if is_contrary_word(claim[0]):
        return test_of(one, other)
    if line_of(claim) == "prints":
        return steps_of(other)
    made, steps = led_to_form(one)
    return (made, steps, steps_of(other))


def is_paper_of(claim, value):
    """Whether any value is a paper of a claim."""
    need_claim(claim)
    if line_of(claim) == "plain":
        return claim[0] == "steps" and is_step(value) and value in steps_from(claim[1])
    one, other = compared(claim)
    if is_contrary_word(claim[0]):
        return is_test(one, other, value)
    if line_of(claim) == "prints":
        return is_steps(other, one, value)
    return is_meeting(one, other, value)


def is_meeting(program, other, value):
    """Whether any value is a tuple of a program, and of rows of steps that lead both programs to it."""
    if not isinstance(value, tuple) or len(value) != 3 or not is_program(value[0]):
        return False
    return is_steps(program, value[0], value[1]) and is_steps(other, value[0], value[2])
