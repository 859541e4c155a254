"""The document's points [3], [4], [6] and [8] once more, written in another way: funs are generators.

A hand is a generator that yields ahead of each of its deeds. It is compared with the package by test_random.py.
"""


class Told(Exception):
    """A return, on its way out of the bodies of its fun."""


class Slow:
    def __init__(self, program):
        cells, self.funs, hands = program
        self.cells = list(cells)
        self.said = []
        self.frames = [[] for _ in hands]
        self.hands = [self.fun(at, fun, []) for at, fun in enumerate(hands)]
        self.starts = []
        start = 0
        for _, _, body in self.funs:
            self.starts.append(start)
            start += sum(map(deeds_in, body))
        self.places = start
        self.alive = [next(hand, None) is not None for hand in self.hands]
        self.turns = list(range(len(hands)))

    def value(self, part, names):
        word, *rest = part
        if word in ("num", "name", "cell"):
            return {"num": lambda k: k, "name": lambda k: names[k], "cell": lambda k: self.cells[k]}[word](*rest)
        one, other = [self.value(inner, names) for inner in rest]
        return {"add": one + other, "take": one - other, "times": one * other,
                "less": int(one < other), "same": int(one == other)}[word] % 10007

    def fun(self, hand, number, handed):
        params, names, body = self.funs[number]
        frame = {"fun": number, "names": handed + [0] * (names - params), "place": None}
        self.frames[hand].insert(0, frame)
        told = 0
        try:
            yield from self.body(hand, frame, body, self.starts[number])
        except Told as returned:
            told = returned.args[0]
        self.frames[hand].pop(0)
        return told

    def body(self, hand, frame, body, place):
        names = frame["names"]
        for deed in body:
            frame["place"] = place
            yield True
            word = deed[0]
            if word == "set":
                names[deed[1]] = self.value(deed[2], names)
            elif word == "put":
                self.cells[deed[1]] = self.value(deed[2], names)
            elif word == "say":
                self.said.append((hand, self.value(deed[1], names)))
            elif word == "return":
                raise Told(self.value(deed[1], names))
            elif word == "if":
                if self.value(deed[1], names):
                    yield from self.body(hand, frame, deed[2], place + 1)
                else:
                    yield from self.body(hand, frame, deed[3], place + 1 + sum(map(deeds_in, deed[2])))
            elif word == "again":
                for _ in range(self.value(deed[1], names) % 10):
                    yield from self.body(hand, frame, deed[2], place + 1)
            elif len(self.frames[hand]) == 20:
                names[deed[3]] = 0
            else:
                handed = [self.value(part, names) for part in deed[2]]
                names[deed[3]] = yield from self.fun(hand, deed[1], handed)
            place += deeds_in(deed)

    def next_hand(self):
        return next((hand for hand in self.turns if self.alive[hand]), None)

    def do(self):
        hand = self.next_hand()
        self.alive[hand] = next(self.hands[hand], None) is not None
        self.turns.remove(hand)
        behind = [other for other in range(len(self.hands)) if other > hand]
        self.turns = behind + [other for other in range(len(self.hands)) if other <= hand]

    def going(self, stops, hand, way, many):
        """What ends a going, of a step if a hand is told."""
        done = own = 0
        began = None if hand is None else len(self.frames[hand])
        while True:
            up = self.next_hand()
            if up is None:
                return ("over",)
            if hand is not None and not self.alive[hand]:
                return ("ended", hand)
            frame = self.frames[up][0]
            met = [number for number, (place, by, wish) in sorted(stops.items())
                   if place == frame["place"] and by in (None, up)
                   and (wish is None or self.value(wish, frame["names"]))]
            if done and met:
                return ("stop", up, frame["place"], met[0])
            if up == hand and own and len(self.frames[up]) <= {"in": 99, "over": began, "out": began - 1}[way]:
                return ("step", up, frame["place"])
            if done == many:
                return ("paused", up, frame["place"])
            self.do()
            done += 1
            own += up == hand


def deeds_in(deed):
    """How many deeds stand in a deed, itself too."""
    bodies = deed[2:] if deed[0] in ("if", "again") else ()
    return 1 + sum(deeds_in(inner) for body in bodies for inner in body)
