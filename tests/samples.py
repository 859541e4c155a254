"""Programs that several tests use, and what they are built of."""


def num(number):
    return ("num", number)


def name(number):
    return ("name", number)


def cell(number):
    return ("cell", number)


def say(number):
    return ("say", ("num", number))


def one_fun(*body, cells=(0,), names=2):
    """A program of one hand that does one fun without params."""
    return (cells, ((0, names, tuple(body)),), (0,))


def said_by(program, many=2000):
    """What is said by a program, without the hands."""
    from stopdesk.machine import plain
    return [number for _, number in plain(program, many)[0]]


def value_of(part, cells=(7, 10006), names=()):
    """What a part comes to, said behind the setting of the names."""
    body = [("set", at, num(number)) for at, number in enumerate(names)]
    return said_by(one_fun(*body, ("say", part), cells=cells, names=4))[-1]


# Calls within calls: place 0 to 3 fun 0, 4 to 6 fun 1, 7 and 8 fun 2.
#   fun 0: n0 = 5, n1 = double(n0), say n1, say c0
#   fun 1 (a, b): b = inc(a), put c0 b, return b + b
#   fun 2 (a): say a, return a + 1
NESTED = (
    (9,),
    (
        (0, 2, (
            ("set", 0, num(5)),
            ("call", 1, (name(0),), 1),
            ("say", name(1)),
            ("say", cell(0)),
        )),
        (1, 2, (
            ("call", 2, (name(0),), 1),
            ("put", 0, name(1)),
            ("return", ("add", name(1), name(1))),
        )),
        (1, 1, (
            ("say", name(0)),
            ("return", ("add", name(0), num(1))),
        )),
    ),
    (0,),
)

# Two hands that count: fun 0 adds one to cell 0 three times, fun 1 says cell 0 four times.
#   places 0 and 1 (the again and the put), 2 to 5 (the says)
COUNTING = (
    (0,),
    (
        (0, 0, (("again", num(3), (("put", 0, ("add", cell(0), num(1))),)),)),
        (0, 0, (("say", cell(0)), ("say", cell(0)), ("say", cell(0)), ("say", cell(0)))),
    ),
    (0, 1),
)

# A hand that does six says, places 0 to 5.
SIX = one_fun(say(1), say(2), say(3), say(4), say(5), say(6))

# Two hands, each of hundreds of deeds: one counts in cell 0, the other says it.
LONG = (
    (0,),
    (
        (0, 0, (("again", num(9), (("again", num(9), (("put", 0, ("add", cell(0), num(1))),)),)),)),
        (0, 1, (("again", num(9), (("set", 0, cell(0)), ("again", num(9), (("say", name(0)),)))),)),
    ),
    (0, 1),
)
