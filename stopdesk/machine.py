"""Programs that are done deed by deed."""

from stopdesk.checks import check_count, check_program
from stopdesk.frames import Frame, Hand
from stopdesk.layout import Layout
from stopdesk.parts import reckoned

MOST_FRAMES = 20


def plain(program, many):
    """Does at most so many deeds of a program: (said, cells, over, done)."""
    machine = Machine(program)
    check_count(many)
    done = 0
    while done < many and not machine.all_ended():
        machine.do_next()
        done += 1
    return machine.spoken, machine.held, machine.all_ended(), done


class Machine:
    """A program that is under way."""

    def __init__(self, program):
        check_program(program)
        cells, funs, hands = program
        # How many names each fun has.
        self.names_of = [fun[1] for fun in funs]
        self.layout = Layout(funs)
        self.held = list(cells)
        self.spoken = []
        self.hands = [Hand(self._begun(fun, [])) for fun in hands]
        # The hand whose turn it is, unless it is at its end.
        self.up = 0

    def all_ended(self):
        """Whether all hands are at their end."""
        return self.next_hand() is None

    def next_hand(self):
        """The number of the hand whose deed is next, or None if all are at their end."""
        many = len(self.hands)
        for behind in range(many):
            number = (self.up + behind) % many
            if self.hands[number].frames:
                return number
        return None

    def next_frame(self):
        """The innermost fun of the hand whose deed is next."""
        return self.hands[self.next_hand()].frames[-1]

    def do_next(self):
        """Does the next deed."""
        number = self.next_hand()
        hand = self.hands[number]
        frame = hand.frames[-1]
        told = frame.deed().told
        if told[0] == "call":
            self._call(hand, frame, told)
        elif told[0] == "return":
            hand.end_fun(reckoned(told[1], frame.names, self.held))
        elif told[0] in ("if", "again"):
            self._choose(frame)
        else:
            self._note(number, frame, told)
        hand.settle()
        self.up = (number + 1) % len(self.hands)

    def _begun(self, fun, handed):
        names = handed + [0] * (self.names_of[fun] - len(handed))
        return Frame(fun, names, self.layout.bodies[fun])

    def _call(self, hand, frame, told):
        _, fun, parts, name = told
        if len(hand.frames) >= MOST_FRAMES:
            frame.names[name] = 0
            frame.move_on()
            return
        # The caller stays at its call until the fun ends.
        handed = [reckoned(part, frame.names, self.held) for part in parts]
        hand.frames.append(self._begun(fun, handed))

    def _choose(self, frame):
        deed = frame.deed()
        number = reckoned(deed.told[1], frame.names, self.held)
        frame.move_on()
        if deed.told[0] == "again":
            frame.enter(deed.bodies[0], number % 10)
        else:
            frame.enter(deed.bodies[0 if number != 0 else 1], 1)

    def _note(self, hand, frame, told):
        """Does a set, a put or a say."""
        number = reckoned(told[-1], frame.names, self.held)
        if told[0] == "set":
            frame.names[told[1]] = number
        elif told[0] == "put":
            self.held[told[1]] = number
        else:
            self.spoken.append((hand, number))
        frame.move_on()
