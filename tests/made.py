"""Programs and wishes that are made by chance, always the same."""

import random

from stopdesk.errors import BadProgram
from stopdesk.watched import Watched

WORDS = ("stop", "stop", "clear", "go", "go", "step", "step", "stack", "look", "change", "put", "cells", "said")


class Maker:
    """Makes programs; what it is handed is a random.Random."""

    def __init__(self, chance):
        self.chance = chance
        self.cells = chance.randint(1, 3)
        self.params = [0] + [chance.randint(0, 2) for _ in range(chance.randint(0, 3))]
        self.names = [chance.randint(max(1, params), 4) for params in self.params]

    def program(self):
        free = [fun for fun, params in enumerate(self.params) if params == 0]
        cells = tuple(self.chance.choice((0, 1, 2, 10006)) for _ in range(self.cells))
        funs = tuple((params, self.names[fun], self.body(fun, 2, 4)) for fun, params in enumerate(self.params))
        return cells, funs, tuple(self.chance.choice(free) for _ in range(self.chance.randint(1, 3)))

    def body(self, fun, deep, most):
        return tuple(self.deed(fun, deep) for _ in range(self.chance.randint(0, most)))

    def deed(self, fun, deep):
        name = self.chance.randrange(self.names[fun])
        word = self.chance.choice(("set", "set", "put", "say", "say", "call", "call", "return", "if", "again"))
        if word == "set":
            return (word, name, self.part(fun))
        if word == "put":
            return (word, self.chance.randrange(self.cells), self.part(fun))
        if word == "call":
            called = self.chance.randrange(len(self.params))
            return (word, called, tuple(self.part(fun) for _ in range(self.params[called])), name)
        if word == "if" and deep:
            return (word, self.part(fun), self.body(fun, deep - 1, 2), self.body(fun, deep - 1, 2))
        if word == "again" and deep:
            return (word, self.part(fun), self.body(fun, deep - 1, 3))
        return ("return" if word == "return" and self.chance.random() < 0.3 else "say", self.part(fun))

    def part(self, fun, deep=2):
        word = self.chance.choice(("num", "name", "cell", "add", "take", "times", "less", "same"))
        if word == "name":
            return (word, self.chance.randrange(self.names[fun]))
        if word == "cell":
            return (word, self.chance.randrange(self.cells))
        if word == "num" or deep == 0:
            return ("num", self.chance.choice((0, 1, 2, 3, 5, 10, 10006)))
        return (word, self.part(fun, deep - 1), self.part(fun, deep - 1))

    def wish(self, program):
        """One that is answered or refused, with numbers somewhat beyond what there is, too."""
        hand = self.chance.randint(-1, len(program[2])) if self.chance.random() < 0.1 else 0
        hand = hand or self.chance.randrange(len(program[2]))
        many = self.chance.choice((0, 1, 2, 3, 5, 8, 13, 30, 2000, 2001, -1))
        deep = self.chance.choice((0, 0, 0, 1, 2, -1))
        number = self.chance.choice((0, 1, 2, 10006, 10007, -1))
        at = self.chance.randint(-1, 4) if self.chance.random() < 0.2 else 0
        word = self.chance.choice(WORDS)
        handed = {
            "stop": (self.chance.randint(-1, 12), self.chance.choice((None, None, hand)),
                     self.chance.choice((None, None, self.part(0), ("less", ("cell", 0), ("num", 3))))),
            "clear": (self.chance.randint(-1, 5),),
            "go": (many,),
            "step": (hand, self.chance.choice(("in", "in", "over", "over", "out", "out", "up")), many),
            "stack": (hand,),
            "look": (hand, deep),
            "change": (hand, deep, at, number),
            "put": (at, number),
        }
        return (word,) + handed.get(word, ())


def programs(many, seed=20):
    """So many (chance, maker, program), none of more than a hundred things."""
    chance = random.Random(seed)
    while many:
        maker = Maker(chance)
        program = maker.program()
        try:
            Watched(program)
        except BadProgram as refused:
            assert refused.why == "many", (refused.why, program)
            continue
        many -= 1
        yield chance, maker, program
