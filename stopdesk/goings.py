"""Stops, and goings from where a program stands to what ends them."""

from stopdesk.parts import reckoned


class Stop:
    """A place, a hand or None for any, and a wish or None."""

    def __init__(self, place, hand, wish):
        self.place = place
        self.hand = hand
        self.wish = wish

    def is_met(self, hand, frame, cells):
        """Whether the next deed of a hand's innermost fun meets it."""
        if frame.deed().place != self.place:
            return False
        if self.hand is not None and self.hand != hand:
            return False
        return self.wish is None or reckoned(self.wish, frame.names, cells) != 0


class Going:
    """A going of so many deeds at the most; of a step the hand and the way, else None and None."""

    def __init__(self, machine, stops, hand, way, many):
        self.machine = machine
        self.stops = stops
        self.hand = hand
        self.way = way
        self.many = many
        self.done = 0
        # Of the step's hand: how many deeds it did, and its funs under way at the beginning.
        self.done_by_hand = 0
        self.depth = 0 if hand is None else len(machine.hands[hand].frames)

    def do_deed(self):
        """Does the next deed."""
        if self.machine.next_hand() == self.hand:
            self.done_by_hand += 1
        self.machine.do_next()
        self.done += 1

    def finish(self):
        """Goes on to the end; what ended it."""
        ending = self.ending()
        while ending is None:
            self.do_deed()
            ending = self.ending()
        return ending

    def halting(self):
        """What ends the going ahead of the next deed if a halt of it was asked."""
        ending = self.ending()
        if ending is None:
            ending = ("halted",) + self._next_deed()
        return ending

    def ending(self):
        """What ends the going ahead of the next deed, or None if it goes on."""
        if self.machine.all_ended():
            return ("over",)
        if self.hand is not None and not self.machine.hands[self.hand].frames:
            return ("ended", self.hand)
        hand, place = self._next_deed()
        number = self._stop_met()
        if number is not None:
            return ("stop", hand, place, number)
        if hand == self.hand and self._has_stepped():
            return ("step", hand, place)
        if self.done >= self.many:
            return ("paused", hand, place)
        return None

    def _next_deed(self):
        """The hand and the place of the next deed."""
        return self.machine.next_hand(), self.machine.next_frame().deed().place

    def _stop_met(self):
        """The least number of the stops that the next deed meets, or None."""
        # A going that began at a stop must be able to leave it.
        if self.done == 0:
            return None
        hand = self.machine.next_hand()
        frame = self.machine.next_frame()
        cells = self.machine.held
        met = [number for number, stop in self.stops.items() if stop.is_met(hand, frame, cells)]
        return min(met, default=None)

    def _has_stepped(self):
        depth = len(self.machine.hands[self.hand].frames)
        if self.done_by_hand == 0:
            return False
        if self.way == "over":
            return depth <= self.depth
        if self.way == "out":
            return depth < self.depth
        return True
