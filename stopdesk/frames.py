"""How far a hand has come: its funs under way, and in each of them the bodies."""


class Block:
    """A body that is being done: its next deed, and how many rounds are left, this one too."""

    def __init__(self, deeds, rounds):
        self.deeds = deeds
        self.rounds = rounds
        self.at = 0


class Frame:
    """A fun that is under way."""

    def __init__(self, fun, names, deeds):
        self.fun = fun
        self.names = names
        self.blocks = [Block(deeds, 1)]

    def deed(self):
        """Its next deed or, while a fun that it called is under way, that call."""
        block = self.blocks[-1]
        return block.deeds[block.at]

    def move_on(self):
        """Leaves its deed behind."""
        block = self.blocks[-1]
        block.at += 1

    def enter(self, deeds, rounds):
        """Does a body next, so often."""
        if rounds > 0:
            self.blocks.append(Block(deeds, rounds))

    def find_deed(self):
        """Leaves the bodies that are at their end, and tells whether a deed is left."""
        while self.blocks:
            block = self.blocks[-1]
            if block.at < len(block.deeds):
                return True
            block.rounds -= 1
            block.at = 0
            if block.rounds == 0:
                self.blocks.pop()
        return False


class Hand:
    """What one hand does: its funs under way, the innermost last; none at its end."""

    def __init__(self, frame):
        self.frames = [frame]
        self.settle()

    def settle(self):
        """Ends the funs whose bodies are at their end, so that the innermost has a next deed."""
        while self.frames and not self.frames[-1].find_deed():
            self.end_fun(0)

    def end_fun(self, number):
        """Ends the innermost fun, which tells the number."""
        self.frames.pop()
        if self.frames:
            caller = self.frames[-1]
            name = caller.deed().told[3]
            caller.names[name] = number
            caller.move_on()
