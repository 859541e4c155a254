"""Wires between a desk and a post: each letter once, or as a random.Random draws it."""

from unittest import mock

from stopdesk.machine import Machine
from stopdesk.wire import Desk, Post
from stopdesk.wishes import answered


def hand_on(letter, there, here):
    """Lets `there` hear a letter, and `here` what is told behind it, and so on."""
    for behind in there.hear(letter):
        hand_on(behind, here, there)


def brought(desk, post):
    """All letters of both are heard, each once."""
    ours, theirs = desk.letters(), post.letters()
    for letter in ours:
        hand_on(letter, post, desk)
    for letter in theirs:
        hand_on(letter, desk, post)


def rounds(desk, post, many):
    for _ in range(many):
        brought(desk, post)
        post.turn()


def asked(program, *wishes):
    """A desk of which nobody heard yet, and its post."""
    desk, post = Desk(), Post(program)
    for wish in wishes:
        desk.ask(wish)
    return desk, post


def deeds_of(program, wishes):
    """How many deeds are done when the wishes are answered at once."""
    with mock.patch.object(Machine, "do_next", autospec=True, side_effect=Machine.do_next) as done:
        answered(program, wishes)
    return done.call_count


class Drawn:
    """A wire that loses letters, and brings them late, again and in any order."""

    def __init__(self, chance, desk, post):
        self.chance = chance
        self.desk = desk
        self.post = post
        # (letter, who hears it, who told it) of those that are under way, and of all that there ever were.
        self.bag = []
        self.ever = []
        self.loss = chance.choice((0, 0.2, 0.6))
        self.again = chance.choice((0, 0.2, 0.5))

    def tell(self, letters, there, here):
        for letter in letters:
            self.ever.append((letter, there, here))
            if self.chance.random() >= self.loss:
                self.bag.append((letter, there, here))

    def gather(self):
        self.tell(self.desk.letters(), self.post, self.desk)
        self.tell(self.post.letters(), self.desk, self.post)

    def bring(self):
        """Lets one letter be heard, which may come once more."""
        if self.bag:
            at = self.chance.randrange(len(self.bag))
            letter, there, here = self.bag[at]
            if self.chance.random() >= self.again:
                self.bag.pop(at)
            self.tell(there.hear(letter), here, there)

    def bring_long_ago(self, times):
        """All letters that there ever were are heard again, so many times, in any order."""
        for _ in range(times):
            letters = list(self.ever)
            self.chance.shuffle(letters)
            for letter, there, here in letters:
                hand_on(letter, there, here)
