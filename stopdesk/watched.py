"""Programs that are stopped, looked at, changed and gone on with."""

from stopdesk.checks import Scope, check_count, is_part
from stopdesk.errors import BadNumber, BadPlace, BadWay, BadWish, Ended, Full, NoFrame, NoHand, NoStop
from stopdesk.goings import Going, Stop
from stopdesk.machine import Machine
from stopdesk.words import can_be_held

MOST_STOPS = 20


class Watched:
    """A program, ahead of its first deed."""

    def __init__(self, program):
        self.machine = Machine(program)
        self.program = program
        self.stops = {}
        self.next_stop = 0

    def stop(self, place, hand, wish):
        """Sets a stop at a place for a hand (None: any) and a wish (None: always); its number."""
        deeds = self.machine.layout.deeds
        if not 0 <= place < len(deeds):
            raise BadPlace("there is no such place")
        if hand is not None:
            self._check_hand(hand)
        if wish is not None and not is_part(wish, Scope(self.program, deeds[place].fun)):
            raise BadWish("a wish is a part over the names of its place")
        if len(self.stops) >= MOST_STOPS:
            raise Full("twenty stops stand")
        number = self.next_stop
        self.stops[number] = Stop(place, hand, wish)
        self.next_stop += 1
        return number

    def clear(self, number):
        """Takes a stop away."""
        if number not in self.stops:
            raise NoStop("no such stop stands")
        del self.stops[number]

    def go(self, many):
        """Goes on for at most so many deeds; what ended it."""
        return self.begin_go(many).finish()

    def step(self, hand, way, many):
        """Goes on until a hand has stepped in, over or out; what ended it."""
        return self.begin_step(hand, way, many).finish()

    def begin_go(self, many):
        """The going of a go, ahead of its first deed."""
        check_count(many)
        if self.is_over():
            raise Ended("all hands are at their end")
        return Going(self.machine, self.stops, None, None, many)

    def begin_step(self, hand, way, many):
        """The going of a step, ahead of its first deed."""
        self._check_hand(hand)
        if way not in ("in", "over", "out"):
            raise BadWay("a way is in, over or out")
        check_count(many)
        if not self.machine.hands[hand].frames:
            raise Ended("this hand is at its end")
        return Going(self.machine, self.stops, hand, way, many)

    def stack(self, hand):
        """(fun, place) of a hand's funs under way, the innermost first."""
        self._check_hand(hand)
        frames = self.machine.hands[hand].frames
        return [(frame.fun, frame.deed().place) for frame in reversed(frames)]

    def look(self, hand, deep):
        """What the names of a fun under way hold; 0 is the innermost."""
        return list(self._frame(hand, deep).names)

    def change(self, hand, deep, name, number):
        """Lets a name of a fun under way hold a number."""
        frame = self._frame(hand, deep)
        if not 0 <= name < len(frame.names):
            raise NoFrame("there is no such name")
        _check_number(number)
        frame.names[name] = number

    def put(self, cell, number):
        """Lets a cell hold a number."""
        if not 0 <= cell < len(self.machine.held):
            raise NoFrame("there is no such cell")
        _check_number(number)
        self.machine.held[cell] = number

    def cells(self):
        """What all cells hold."""
        return list(self.machine.held)

    def said(self):
        """(hand, number) of all that was said so far."""
        return list(self.machine.spoken)

    def is_over(self):
        """Whether all hands are at their end."""
        return self.machine.all_ended()

    def _check_hand(self, hand):
        if not 0 <= hand < len(self.machine.hands):
            raise NoHand("there is no such hand")

    def _frame(self, hand, deep):
        self._check_hand(hand)
        frames = self.machine.hands[hand].frames
        if not 0 <= deep < len(frames):
            raise NoFrame("so many funs are not under way")
        return frames[-1 - deep]


def _check_number(number):
    if not can_be_held(number):
        raise BadNumber("a number is from 0 to 10006")
