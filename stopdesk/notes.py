"""Programs as texts of words, one blank between."""

from stopdesk.checks import check_program
from stopdesk.reading import BodyReader, Row
from stopdesk.words import joins_parts, kinds_behind


def written(program):
    """The text of a program."""
    check_program(program)
    cells, funs, hands = program
    words = ["cells"] + _words_of_numbers(cells)
    for params, names, body in funs:
        words.extend(["fun", str(params), str(names)])
        words.extend(_words_of_body(body))
    words.append("hands")
    words.extend(_words_of_numbers(hands))
    return " ".join(words)


def read(text):
    """The program of a text."""
    row = Row(text)
    row.take_word(("cells",))
    cells = row.take_numbers()
    funs = []
    while row.take_word(("fun", "hands")) == "fun":
        params = row.take_number()
        names = row.take_number()
        funs.append((params, names, BodyReader(row).read_body()))
    hands = row.take_numbers()
    row.check_end()
    program = (cells, tuple(funs), hands)
    check_program(program)
    return program


def _words_of_numbers(numbers):
    return [str(len(numbers))] + [str(number) for number in numbers]


def _words_of_body(body):
    words = []
    for deed in body:
        words.extend(_words_of_deed(deed))
    return words + ["end"]


def _words_of_deed(deed):
    words = [deed[0]]
    for kind, what in zip(kinds_behind(deed[0], True), deed[1:]):
        if kind == "body":
            words.extend(_words_of_body(what))
        elif kind == "part":
            words.extend(_words_of_part(what))
        elif kind == "parts":
            words.append(str(len(what)))
            for part in what:
                words.extend(_words_of_part(part))
        else:
            words.append(str(what))
    return words


def _words_of_part(part):
    if joins_parts(part[0]):
        return [part[0]] + _words_of_part(part[1]) + _words_of_part(part[2])
    signs = {"num": "", "name": "n", "cell": "c"}
    return [f"{signs[part[0]]}{part[1]}"]
