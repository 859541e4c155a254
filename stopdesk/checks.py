"""What is no program, no wish and no count."""

from stopdesk.errors import BadCount, BadProgram
from stopdesk.words import can_be_held, is_number, kinds_behind, things_within

MOST_CELLS = 8
MOST_FUNS = 4
MOST_NAMES = 4
MOST_HANDS = 3
MOST_THINGS = 100
MOST_ABOVE = 7
MOST_DEEDS = 2000


class Scope:
    """What the parts and deeds of one fun may speak of."""

    def __init__(self, program, fun):
        cells, funs, _ = program
        self.many_cells = len(cells)
        self.many_names = funs[fun][1]
        self.params = [other[0] for other in funs]


def check_count(many):
    """Refuses a number of deeds that can't be done."""
    if not 0 <= many <= MOST_DEEDS:
        raise BadCount("a count is from 0 to 2000")


def check_program(program):
    """Refuses what is no program."""
    why = _fault_of_head(program)
    if why is not None:
        raise BadProgram(-1, why)
    funs = program[1]
    at = 0
    for number, fun in enumerate(funs):
        at = _check_body(fun[2], Scope(program, number), at)


def is_part(part, scope):
    """Whether it is a part; how deep and how large a part alone may be is not limited."""
    waiting = [part]
    while waiting:
        thing = waiting.pop()
        if _fault_of(thing, False, scope) is not None:
            return False
        waiting.extend([inner for inner, _ in things_within(thing, False)])
    return True


def _fault_of_head(program):
    cells, funs, hands = program
    if not _is_tuple_of(cells, MOST_CELLS) or not all([can_be_held(number) for number in cells]):
        return "cells"
    if not _is_tuple_of(funs, MOST_FUNS) or not all([_is_fun(fun) for fun in funs]):
        return "funs"
    if not all([_has_names(fun) for fun in funs]):
        return "names"
    if not _is_tuple_of(hands, MOST_HANDS) or not all([_can_be_done(fun, funs) for fun in hands]):
        return "hands"
    return None


def _is_tuple_of(what, most):
    return isinstance(what, tuple) and 1 <= len(what) <= most


def _is_fun(fun):
    # A body is no thing with a number, so one that is no tuple is a fault of the funs.
    return isinstance(fun, tuple) and len(fun) == 3 and isinstance(fun[2], tuple)


def _has_names(fun):
    params, names, _ = fun
    return is_number(params) and is_number(names) and 0 <= params <= names <= MOST_NAMES


def _can_be_done(fun, funs):
    return is_number(fun) and 0 <= fun < len(funs) and funs[fun][0] == 0


def _check_body(body, scope, first):
    """Refuses the first thing that can't be, numbered from `first` on; the number behind the last one."""
    at = first
    waiting = [(deed, True, 0) for deed in reversed(body)]
    while waiting:
        thing, is_deed, above = waiting.pop()
        why = _fault_by_limits(at, above)
        if why is None:
            why = _fault_of(thing, is_deed, scope)
        if why is not None:
            raise BadProgram(at, why)
        within = things_within(thing, is_deed)
        waiting.extend([(inner, is_inner_deed, above + 1) for inner, is_inner_deed in reversed(within)])
        at += 1
    return at


def _fault_by_limits(at, above):
    if at >= MOST_THINGS:
        return "many"
    if above > MOST_ABOVE:
        return "deep"
    return None


def _fault_of(thing, is_deed, scope):
    """What is wrong with a thing itself, not with those within it; None if nothing is."""
    if not _has_shape(thing, is_deed):
        return "shape"
    for kind, what in zip(kinds_behind(thing[0], is_deed), thing[1:]):
        if kind == "number" and not can_be_held(what):
            return "number"
        if kind == "name" and not 0 <= what < scope.many_names:
            return "name"
        if kind == "cell" and not 0 <= what < scope.many_cells:
            return "cell"
        if kind == "fun" and not 0 <= what < len(scope.params):
            return "fun"
        # The fun stands ahead of its parts, so by now there is one.
        if kind == "parts" and len(what) != scope.params[thing[1]]:
            return "params"
    return None


def _has_shape(thing, is_deed):
    if not isinstance(thing, tuple) or not thing or not isinstance(thing[0], str):
        return False
    kinds = kinds_behind(thing[0], is_deed)
    if kinds is None or len(thing) != len(kinds) + 1:
        return False
    return all([_is_of_kind(what, kind) for kind, what in zip(kinds, thing[1:])])


def _is_of_kind(what, kind):
    if kind == "part":
        # It has a number of its own, and is refused by that.
        return True
    if kind in ("body", "parts"):
        return isinstance(what, tuple)
    return is_number(what)
