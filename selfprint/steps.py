"""Single steps: where a rule makes one, and what it makes."""

from selfprint.checked import found_kinds, need_program
from selfprint.errors import InvalidRule, NoStep
from selfprint.nodes import MOST_TOLD, child_parts, ends, lifted_freely, put_in_freely
from selfprint.terms import need_few_nodes, need_position

RULES = ("call", "first", "second", "which", "turns", "next", "let", "long")
HOLDERS = ("call", "first", "second")

# For each rule named as its node, what the first child must be.
TAKEN_FROM = {
    "call": ("fun",),
    "first": ("both",),
    "second": ("both",),
    "which": ("left", "right"),
    "turns": ("told",),
    "next": ("told",),
}


def is_rule(value):
    """Whether any value is the word of a rule."""
    return isinstance(value, str) and value in RULES


def need_rule(rule):
    """InvalidRule unless it is the word of a rule."""
    if not is_rule(rule):
        raise InvalidRule(rule)


def first_steps(program):
    """The sorted list of the first steps."""
    need_program(program)
    return steps_from(program)


def is_plain(program):
    """Whether a program has no first steps."""
    return first_steps(program) == []


def steps_from(program):
    """As first_steps, of what is surely a program."""
    kinds = found_kinds([], program)
    found = []
    for position in range(len(program)):
        if can_be_taken(program, position):
            found.append((position, program[position][0]))
        if can_be_long(program, position, kinds[position]):
            found.append((position, "long"))
    return sorted(found)


def can_be_taken(program, position):
    """Whether the rule that is named as the node makes a step there."""
    word = program[position][0]
    if word in TAKEN_FROM:
        # The first child stands right behind its node.
        return program[position + 1][0] in TAKEN_FROM[word]
    return word == "let"


def can_be_long(program, position, kind):
    """Whether the node, of this kind, can be made long."""
    if kind[0] not in ("fun", "pair") or program[position][0] in ("fun", "both"):
        return False
    # A node can only be held by the one right ahead, as first children alone are held.
    return position == 0 or program[position - 1][0] not in HOLDERS


def stepped(program, position, rule):
    """What the step makes of the program."""
    need_program(program)
    need_position(program, position)
    need_rule(rule)
    if (position, rule) not in steps_from(program):
        raise NoStep()
    return small_step(list(program), position, rule)


def small_step(program, position, rule):
    """What a first step makes of the list of a program's nodes: TooMany if it has more nodes than a program."""
    made = step_made(program, position, rule)
    need_few_nodes(made)
    return made


def step_made(program, position, rule):
    """What a first step makes, however many nodes it has."""
    end = ends(program)[position]
    node_part = program[position:end]
    if rule == "long":
        made = made_long(node_part, found_kinds([], program)[position])
    else:
        action = MAKERS[rule]
        made = action(node_part[0], child_parts(node_part))
    return program[:position] + made + program[end:]


def made_long(node_part, kind):
    """A fun, or a both, around a call, or around the parts, of the node with all that belongs to it."""
    if kind[0] == "fun":
        return [("fun", kind[1]), ("call",)] + lifted_freely(node_part, 1) + [("name", 0)]
    return [("both",), ("first",)] + node_part + [("second",)] + node_part


def call_taken(node, parts):
    """The fun's body, the argument put in."""
    function, argument = parts
    return put_in_freely(function[1:], argument)


def first_taken(node, parts):
    """The both's first child."""
    return child_parts(parts[0])[0]


def second_taken(node, parts):
    """The both's second child."""
    return child_parts(parts[0])[1]


def which_taken(node, parts):
    """The arm of the side, what is on it put in."""
    told, left_arm, right_arm = parts
    arm = left_arm if told[0][0] == "left" else right_arm
    return put_in_freely(arm, told[1:])


def turns_taken(node, parts):
    """The start, or the step, the turns that are left put in."""
    how_many, step, start = parts
    told = how_many[0][1]
    if told == 0:
        return start
    return put_in_freely(step, [node, ("told", told - 1)] + step + start)


def next_taken(node, parts):
    """The count behind, which the last one is of itself."""
    return [("told", min(parts[0][0][1] + 1, MOST_TOLD))]


def let_taken(node, parts):
    """The body, what is let put in."""
    what, body = parts
    return put_in_freely(body, what)


# Each is called with a node and the list of its children, each as a term.
MAKERS = {
    "call": call_taken,
    "first": first_taken,
    "second": second_taken,
    "which": which_taken,
    "turns": turns_taken,
    "next": next_taken,
    "let": let_taken,
}
