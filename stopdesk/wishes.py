"""Wishes, and how a watched program answers them."""

from stopdesk.errors import BadCount, BadNumber, BadPlace, BadWay, BadWish, Ended, Full, NoFrame, NoHand, NoStop
from stopdesk.watched import Watched


def answered(program, wishes):
    """The answers of wishes that are done one behind the other by a program."""
    watched = Watched(program)
    return [_answer(watched, wish) for wish in wishes]


def is_going_wish(wish):
    """Whether a wish is a going: it is done deed by deed, and can be halted."""
    return wish[0] in ("go", "step")


def begun(watched, wish):
    """(going, None) where the wish is a going that begins now, else (None, the wish's answer)."""
    try:
        if is_going_wish(wish):
            return _going_of(watched, wish), None
        return None, _told(watched, wish)
    except BadCount:
        word = "count"
    except BadNumber:
        word = "number"
    except BadPlace:
        word = "place"
    except BadWay:
        word = "way"
    except BadWish:
        word = "wish"
    except Ended:
        word = "ended"
    except Full:
        word = "full"
    except NoFrame:
        word = "frame"
    except NoHand:
        word = "hand"
    except NoStop:
        word = "stop"
    return None, ("refused", word)


def _answer(watched, wish):
    going, answer = begun(watched, wish)
    return answer if going is None else going.finish()


def _going_of(watched, wish):
    if wish[0] == "go":
        return watched.begin_go(wish[1])
    _, hand, way, many = wish
    return watched.begin_step(hand, way, many)


def _told(watched, wish):
    """What a Watched tells of a wish that is no going."""
    match wish:
        case ("stop", place, hand, part):
            return watched.stop(place, hand, part)
        case ("clear", number):
            return watched.clear(number)
        case ("stack", hand):
            return watched.stack(hand)
        case ("look", hand, deep):
            return watched.look(hand, deep)
        case ("change", hand, deep, name, number):
            return watched.change(hand, deep, name, number)
        case ("put", cell, number):
            return watched.put(cell, number)
        case ("cells",):
            return watched.cells()
    return watched.said()
