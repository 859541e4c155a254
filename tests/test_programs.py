"""[2] and [5]: what a program is, and what is refused of one that is none."""

import unittest

from samples import NESTED, cell, name, num, one_fun, say
from stopdesk.errors import BadProgram
from stopdesk.machine import plain
from stopdesk.notes import read, written
from stopdesk.watched import Watched
from stopdesk.wire import Post
from stopdesk.wishes import answered

FUN = (0, 1, ())


class Case(unittest.TestCase):
    def refused(self, program, at, why):
        for make in (lambda: plain(program, 10), lambda: plain(program, -1), lambda: plain(program, 2001),
                     lambda: Watched(program), lambda: answered(program, []), lambda: answered(program, [("go", -1)]),
                     lambda: Post(program), lambda: written(program)):
            with self.assertRaises(BadProgram) as caught:
                make()
            self.assertEqual((caught.exception.at, caught.exception.why), (at, why), program)

    def fine(self, program):
        plain(program, 2000)
        Watched(program)
        answered(program, [("go", 2000)])
        Post(program)
        self.assertEqual(read(written(program)), program)

    def body_refused(self, at, why, *body, **more):
        self.refused(one_fun(*body, **more), at, why)


class Heads(Case):
    def test_cells(self):
        self.fine(((0,), (FUN,), (0,)))
        self.fine((tuple(range(8)), (FUN,), (0,)))
        self.fine(((10006,), (FUN,), (0,)))
        for cells in ((), tuple(range(9)), (-1,), (10007,), (0, 10007), (0, True), (None,)):
            self.refused((cells, (FUN,), (0,)), -1, "cells")

    def test_funs(self):
        self.fine(((0,), (FUN,) * 4, (0,)))
        for funs in ((), (FUN,) * 5):
            self.refused(((0,), funs, (0,)), -1, "funs")

    def test_a_body_that_is_no_tuple_is_a_fault_of_the_funs(self):
        for body in ("say", 5, True, None, ""):
            self.refused(((0,), (FUN, (0, 1, body)), (0,)), -1, "funs")

    def test_names(self):
        for params, names in ((0, 0), (0, 4), (4, 4), (1, 2)):
            self.fine(((0,), (FUN, (params, names, ())), (0,)))
        for params, names in ((-1, 0), (-1, -1), (2, 1), (0, 5), (5, 5), (1, 0), (0, True), (False, 1)):
            self.refused(((0,), (FUN, (params, names, ())), (0,)), -1, "names")

    def test_hands(self):
        two = (FUN, (1, 1, ()))
        self.fine(((0,), two, (0, 0, 0)))
        for hands in ((), (0,) * 4, (1,), (0, 1), (2,), (-1,), (-2,), (False,)):
            self.refused(((0,), two, hands), -1, "hands")
        for hands in ((-1,), (0, 2), (1, -2)):
            self.refused(((0,), (FUN, FUN), hands), -1, "hands")

    def test_the_first_of_two_faults(self):
        bad_body = (0, 0, (("say",),))
        self.refused(((), (), ()), -1, "cells")
        self.refused(((0,), (), ()), -1, "funs")
        self.refused(((0,), ((0, 5, ()),), ()), -1, "names")
        self.refused(((0,), ((0, 5, ()),) * 5, ()), -1, "funs")
        self.refused(((0,), ((0, 5, ()), (0, 0, None)), (0,)), -1, "funs")
        self.refused(((0,), (bad_body,), (1,)), -1, "hands")
        self.refused(((0,), (bad_body, (0, 5, ())), (0,)), -1, "names")


class Numbers(Case):
    def test_deeds_and_parts_are_numbered_ahead_of_those_within(self):
        bad = ("name", 2)
        self.body_refused(0, "shape", None)
        self.body_refused(1, "name", ("say", bad))
        self.body_refused(2, "name", ("say", ("add", bad, bad)))
        self.body_refused(3, "name", ("say", ("add", num(1), bad)))
        self.body_refused(4, "shape", ("say", ("add", num(1), num(1))), None)

    def test_an_ifs_part_then_its_bodies(self):
        bad = ("say",)
        self.body_refused(1, "number", ("if", num(-1), (bad,), (bad,)))
        self.body_refused(2, "shape", ("if", num(1), (bad,), (bad,)))
        self.body_refused(4, "shape", ("if", num(1), (say(1),), (bad,)))
        self.body_refused(6, "shape", ("if", num(1), (say(1),), (say(1),)), bad)

    def test_an_agains_part_and_body(self):
        self.body_refused(1, "cell", ("again", cell(1), (("say",),)))
        self.body_refused(2, "shape", ("again", cell(0), (("say",),)))
        self.body_refused(4, "shape", ("again", cell(0), (say(1), 5)))

    def test_a_calls_parts_in_their_order(self):
        def program(*parts):
            return ((0,), ((0, 1, (("call", 1, parts, 0), say(1), None)), (2, 2, ())), (0,))
        self.refused(program(name(1), name(2)), 1, "name")
        self.refused(program(name(0), name(2)), 2, "name")
        self.refused(program(name(0), name(0)), 5, "shape")

    def test_through_all_funs_as_they_stand(self):
        program = ((0,), ((0, 1, (say(1),)), (0, 1, ()), (0, 1, (say(1), say(1), ("say", name(1))))), (2,))
        self.refused(program, 7, "name")

    def test_a_fault_of_the_thing_goes_ahead_of_those_within(self):
        self.body_refused(0, "name", ("set", 2, None))
        self.body_refused(0, "cell", ("put", 1, num(-1)))
        self.body_refused(0, "fun", ("call", 1, (None,), 0))
        self.body_refused(0, "name", ("call", 0, (), 2))


class Limits(Case):
    def test_a_hundred_things_are_let_by(self):
        self.fine(one_fun(*[say(1)] * 50))

    def test_the_one_numbered_a_hundred_is_many(self):
        self.body_refused(100, "many", *[say(1)] * 51)
        self.body_refused(100, "many", *[say(1)] * 5000)

    def test_many_through_all_funs(self):
        fun = (0, 0, (say(1),) * 25)
        self.fine(((0,), (fun, fun), (0,)))
        self.refused(((0,), (fun, fun, (0, 0, (say(1),))), (0,)), 100, "many")

    def test_many_goes_ahead_of_deep_and_shape(self):
        self.body_refused(100, "many", *[say(1)] * 50, None)
        # Of the last say's things the one below eight others is numbered 92 + 8, then 90 + 8.
        self.body_refused(100, "many", *[say(1)] * 46, ("say", left_adds(7, num(1))))
        self.body_refused(98, "deep", *[say(1)] * 45, ("say", left_adds(7, num(1))))
        self.body_refused(99, "shape", *[say(1)] * 49, ("say", None))

    def test_a_fault_ahead_of_the_hundredth_goes_first(self):
        self.body_refused(99, "number", *[say(1)] * 49, ("say", num(-1)), say(1))

    def test_parts_below_seven_others_are_let_by(self):
        self.fine(one_fun(("say", left_adds(6, num(1)))))

    def test_parts_below_eight_others_are_deep(self):
        self.body_refused(8, "deep", ("say", left_adds(7, num(1))))
        self.body_refused(14, "deep", ("say", right_adds(7, num(1))))

    def test_deeds_below_seven_others_are_let_by(self):
        self.fine(one_fun(ifs(6, say(1))))
        self.fine(one_fun(ifs(7, ("call", 0, (), 0))))

    def test_deeds_below_eight_others_are_deep(self):
        # Seven ifs with their parts are 0 to 13, the say is 14, its part below eight others 15.
        self.body_refused(15, "deep", ifs(7, say(1)))
        self.body_refused(15, "deep", ifs(7, ("if", num(1), (), ())))
        # Below the eighth if its part comes first.
        self.body_refused(15, "deep", ifs(8, ("call", 0, (), 0)))

    def test_deep_goes_ahead_of_shape(self):
        self.body_refused(8, "deep", ("say", left_adds(7, None)))
        self.body_refused(7, "shape", ("say", left_adds(6, None)))

    def test_a_very_deep_program_is_refused_too(self):
        self.body_refused(8, "deep", ("say", left_adds(3000, num(1))))

    def test_bodies_are_no_things(self):
        agains = say(1)
        for _ in range(6):
            agains = ("again", num(1), (agains,))
        self.fine(one_fun(agains))


def left_adds(many, part):
    for _ in range(many):
        part = ("add", part, ("num", 0))
    return part


def right_adds(many, part):
    for _ in range(many):
        part = ("add", ("num", 0), part)
    return part


def ifs(many, deed):
    for _ in range(many):
        deed = ("if", ("num", 1), (deed,), ())
    return deed


class Shapes(Case):
    def test_no_tuple(self):
        for what in ("say", 5, True, None, ""):
            self.body_refused(0, "shape", what)
            self.body_refused(1, "shape", ("say", what))

    def test_no_word(self):
        for what in ((), (5, num(1)), (None,), (True, num(1)), ((), num(1)), (("say",), num(1))):
            self.body_refused(0, "shape", what)
            self.body_refused(1, "shape", ("say", what))

    def test_another_word(self):
        for word in ("", "Say", "say ", "num", "add", "stop"):
            self.body_refused(0, "shape", (word, num(1)))
        for word in ("", "Num", "say", "set", "more"):
            self.body_refused(1, "shape", ("say", (word, num(1))))
        self.body_refused(0, "shape", num(1))
        self.body_refused(1, "shape", ("say", say(1)))

    def test_another_count_behind_it(self):
        fine = (("set", 0, num(1)), ("put", 0, num(1)), say(1), ("if", num(1), (), ()), ("again", num(1), ()),
                ("call", 0, (), 0), ("return", num(1)))
        for deed in fine:
            self.fine(one_fun(deed))
            self.body_refused(0, "shape", deed[:-1])
            self.body_refused(0, "shape", deed + (num(1),))
            self.body_refused(0, "shape", deed[:1])
        for part in (num(1), name(0), cell(0), *[(word, num(1), num(1)) for word in
                                                 ("add", "take", "times", "less", "same")]):
            self.fine(one_fun(("say", part)))
            self.body_refused(1, "shape", ("say", part[:-1]))
            self.body_refused(1, "shape", ("say", part + (num(1),)))

    def test_no_number(self):
        for what in ("1", None, True, False, (), ("num", 0)):
            self.body_refused(0, "shape", ("set", what, num(1)))
            self.body_refused(0, "shape", ("put", what, num(1)))
            self.body_refused(0, "shape", ("call", what, (), 0))
            self.body_refused(0, "shape", ("call", 0, (), what))
            for word in ("num", "name", "cell"):
                self.body_refused(1, "shape", ("say", (word, what)))

    def test_no_tuple_where_one_is_told(self):
        for what in ("", "ab", None, 5, True):
            self.body_refused(0, "shape", ("if", num(1), what, ()))
            self.body_refused(0, "shape", ("if", num(1), (), what))
            self.body_refused(0, "shape", ("again", num(1), what))
            self.body_refused(0, "shape", ("call", 0, what, 0))

    def test_a_part_that_is_no_tuple_is_refused_by_its_own_number(self):
        self.body_refused(1, "shape", ("set", 0, 5))
        self.body_refused(1, "shape", ("put", 0, None))
        self.body_refused(1, "shape", ("if", 1, (), ()))
        self.body_refused(1, "shape", ("again", 1, ()))
        self.body_refused(1, "shape", ("return", "x"))
        self.body_refused(3, "shape", ("say", ("add", num(1), 5)))
        self.refused(((0,), ((0, 1, (("call", 1, (5,), 0),)), (1, 1, ())), (0,)), 1, "shape")

    def test_shape_goes_ahead_of_what_there_isnt(self):
        self.body_refused(0, "shape", ("call", 9, None, 0))
        self.body_refused(0, "shape", ("call", 9, (), None))
        self.body_refused(0, "shape", ("call", True, (), 9))
        self.body_refused(0, "shape", ("set", 9))
        self.body_refused(0, "shape", ("if", None, None, ()))


class Parts(Case):
    def test_number(self):
        for number in (0, 10006):
            self.fine(one_fun(say(number)))
        for number in (-1, 10007, 10 ** 30):
            self.body_refused(1, "number", say(number))

    def test_name(self):
        self.fine(one_fun(("say", name(1))))
        for number in (-1, 2, 9):
            self.body_refused(1, "name", ("say", name(number)))
            self.body_refused(0, "name", ("set", number, num(1)))
            self.body_refused(0, "name", ("call", 0, (), number))
        self.body_refused(1, "name", ("say", name(0)), names=0)

    def test_a_name_is_one_of_its_own_fun(self):
        self.refused(((0,), ((0, 1, (("say", name(1)),)), (2, 2, (("say", name(1)),))), (0,)), 1, "name")
        self.fine(((0,), ((0, 1, ()), (2, 2, (("say", name(1)),))), (0,)))

    def test_cell(self):
        self.fine(one_fun(("say", cell(1)), ("put", 1, num(0)), cells=(0, 0)))
        for number in (-1, 2, 8):
            self.body_refused(1, "cell", ("say", cell(number)), cells=(0, 0))
            self.body_refused(0, "cell", ("put", number, num(1)), cells=(0, 0))

    def test_fun(self):
        for number in (-1, 1, 4):
            self.body_refused(0, "fun", ("call", number, (), 0))

    def test_params(self):
        def program(*parts):
            return ((0,), ((0, 1, (("call", 1, parts, 0),)), (2, 3, ())), (0,))
        self.fine(program(num(1), num(2)))
        for parts in ((), (num(1),), (num(1),) * 3):
            self.refused(program(*parts), 0, "params")

    def test_a_call_is_refused_part_by_part(self):
        self.body_refused(0, "fun", ("call", 1, (num(1),), 9))
        self.body_refused(0, "params", ("call", 0, (num(1),), 9))
        self.body_refused(0, "name", ("call", 0, (), 9))

    def test_the_samples_are_programs(self):
        self.fine(NESTED)


if __name__ == "__main__":
    unittest.main()
