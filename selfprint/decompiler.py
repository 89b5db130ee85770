"""Codes printed by calls alone."""

from selfprint.coderun import CodeRun
from selfprint.codes import need_code
from selfprint.kinds import need_shown
from selfprint.readers import read_worth


def decompiled(code):
    """The plain long form that a code prints."""
    need_code(code)
    kind = code[0][2]
    need_shown(kind)
    run = CodeRun(code)
    return read_worth(run, kind, run.worth())
