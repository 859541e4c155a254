"""A desk with wishes and a post with a program, and the letters between them.

The desk tells each wish until its answer came, the post each answer until the desk told that it came. So a letter
that is lost is told again, and one that comes late or again changes nothing.
"""

from stopdesk.errors import Full, NoStop
from stopdesk.watched import Watched
from stopdesk.wishes import begun, is_going_wish

MOST_WISHES = 60


class Desk:
    """The wishes that were asked, and the answers that came."""

    def __init__(self):
        # Wishes by their numbers; the numbers of those that are to be halted; answers by the numbers of their wishes.
        self.wishes = []
        self.halts = {}
        self.came = {}

    def ask(self, wish):
        """Asks a wish; its number."""
        if len(self.wishes) >= MOST_WISHES:
            raise Full("sixty wishes were asked")
        self.wishes.append(tuple(wish))
        return len(self.wishes) - 1

    def halt(self, number):
        """Asks that a go or a step be ended ahead of its next deed."""
        if not 0 <= number < len(self.wishes) or not is_going_wish(self.wishes[number]):
            raise NoStop("there is no such go or step")
        self.halts[number] = True

    def answers(self):
        """(number, answer) of all answers that came, rising."""
        return [(number, _copied(self.came[number])) for number in sorted(self.came)]

    def is_waiting(self):
        """Whether some answers didn't come."""
        return len(self.came) < len(self.wishes)

    def letters(self):
        """What there is to be told to the post now."""
        waiting = [number for number in range(len(self.wishes)) if number not in self.came]
        wishes = [("wish", number, self.wishes[number]) for number in waiting]
        return wishes + [("halt", number) for number in waiting if number in self.halts]

    def hear(self, what):
        """Hears a letter of the post; what there is to be told behind it."""
        _, number, answer = what
        self.came[number] = _copied(answer)
        # Told whenever the answer comes, for the post tells it until this is heard.
        return [("came", number)]


class Post:
    """A program, ahead of its first deed, and what was heard of wishes."""

    def __init__(self, program):
        self.watched = Watched(program)
        # By the numbers of wishes: those that wait for their turn, and which are to be halted.
        self.waiting = {}
        self.halts = {}
        # How many wishes were begun; a going that is under way is the last of them.
        self.many_begun = 0
        self.going = None
        # The answers of which the desk did not tell yet that they came.
        self.unsure = {}

    def turn(self):
        """Does a deed of the going under way, or ends it."""
        if self.going is None:
            return
        number = self.many_begun - 1
        ending = self.going.halting() if number in self.halts else self.going.ending()
        if ending is None:
            self.going.do_deed()
        else:
            self.going = None
            self.unsure[number] = ending
            self._do_wishes()

    def is_going(self):
        """Whether a going is under way."""
        return self.going is not None

    def letters(self):
        """What there is to be told to the desk now."""
        return [("answer", number, _copied(answer)) for number, answer in self.unsure.items()]

    def hear(self, what):
        """Hears a letter of the desk; what there is to be told behind it."""
        number = what[1]
        if what[0] == "came":
            self.unsure.pop(number, None)
        elif what[0] == "halt":
            self.halts[number] = True
        elif number >= self.many_begun:
            self.waiting[number] = what[2]
            self._do_wishes()
        # Answers are told by letters until they came, and need no telling here.
        return []

    def _do_wishes(self):
        """Does the wishes whose turn it is, up to the next going."""
        while self.going is None and self.many_begun in self.waiting:
            number = self.many_begun
            self.many_begun += 1
            self.going, answer = begun(self.watched, self.waiting.pop(number))
            if self.going is None:
                self.unsure[number] = answer


def _copied(answer):
    """An answer of its own; what stands within a list that is told can't be changed."""
    return list(answer) if isinstance(answer, list) else answer
