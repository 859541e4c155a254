"""The places of a program's deeds."""


class Deed:
    """A deed at its place: the tuple it was told as, and its bodies, laid out too."""

    def __init__(self, place, fun, told):
        self.place = place
        self.fun = fun
        self.told = told
        self.bodies = []


class Layout:
    """All deeds by their places, and each fun's body as a list of its deeds."""

    def __init__(self, funs):
        self.deeds = []
        self.bodies = [self._laid_out(fun[2], number) for number, fun in enumerate(funs)]

    def _laid_out(self, body, fun):
        deeds = []
        for told in body:
            deed = Deed(len(self.deeds), fun, told)
            # It takes its place ahead of those within it.
            self.deeds.append(deed)
            deed.bodies = [self._laid_out(inner, fun) for inner in _bodies_in(told)]
            deeds.append(deed)
        return deeds


def _bodies_in(told):
    return told[2:] if told[0] in ("if", "again") else ()
