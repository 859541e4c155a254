"""[14]: programs as texts of words, and texts that are refused."""

import copy
import unittest

from made import programs
from samples import COUNTING, LONG, NESTED, SIX, cell, name, num, one_fun, say
from stopdesk.errors import BadProgram, BadText
from stopdesk.notes import read, written

EXAMPLE = "cells 1 5 fun 0 1 set 0 add c0 3 say n0 end hands 1 0"
EXAMPLE_PROGRAM = ((5,), ((0, 1, (("set", 0, ("add", cell(0), num(3))), ("say", name(0)))),), (0,))
# Each kind of word that a text has: bodies within bodies, calls with parts and without.
ALL = "cells 2 0 10006 fun 0 2 if less n0 1 call 1 0 1 end again c1 end end call 2 2 n0 7 0 end fun 0 1 return 0 end " \
      "fun 2 2 put 0 same take n0 n1 times 2 c1 end hands 3 0 1 0"


class Case(unittest.TestCase):
    def same(self, program, text):
        self.assertEqual(written(program), text)
        self.assertEqual(read(text), program)

    def body(self, text, *deeds):
        """A body in a program of one fun, and how it is written."""
        self.same(one_fun(*deeds, cells=(0,), names=2), f"cells 1 0 fun 0 2 {text}end hands 1 0")

    def part(self, text, part):
        self.body(f"say {text} ", ("say", part))

    def bad_text(self, place, text):
        with self.assertRaises(BadText) as caught:
            read(text)
        self.assertEqual(caught.exception.place, place, text)

    def bad_program(self, at, why, text):
        with self.assertRaises(BadProgram) as caught:
            read(text)
        self.assertEqual((caught.exception.at, caught.exception.why), (at, why), text)


class Writing(Case):
    def test_the_example(self):
        self.same(EXAMPLE_PROGRAM, EXAMPLE)

    def test_the_least_program(self):
        self.same(((0,), ((0, 0, ()),), (0,)), "cells 1 0 fun 0 0 end hands 1 0")

    def test_each_part(self):
        self.part("0", num(0))
        self.part("10006", num(10006))
        self.part("n1", name(1))
        self.part("c0", cell(0))
        for word in ("add", "take", "times", "less", "same"):
            self.part(f"{word} n0 c0", (word, name(0), cell(0)))
        self.part("add add 1 2 take n1 times 4 5", ("add", ("add", num(1), num(2)), ("take", name(1),
                                                                                    ("times", num(4), num(5)))))
        self.part("less same 1 2 3", ("less", ("same", num(1), num(2)), num(3)))

    def test_each_deed(self):
        self.body("")
        self.body("set 1 n0 ", ("set", 1, name(0)))
        self.body("put 0 7 ", ("put", 0, num(7)))
        self.body("say c0 ", ("say", cell(0)))
        self.body("return add 1 2 ", ("return", ("add", num(1), num(2))))
        self.body("if n0 say 1 end say 2 end ", ("if", name(0), (say(1),), (say(2),)))
        self.body("again 3 say 1 say 2 end ", ("again", num(3), (say(1), say(2))))
        self.body("call 0 0 1 ", ("call", 0, (), 1))

    def test_empty_bodies(self):
        self.body("if 1 end end ", ("if", num(1), (), ()))
        self.body("if 1 say 1 end end ", ("if", num(1), (say(1),), ()))
        self.body("if 1 end say 1 end ", ("if", num(1), (), (say(1),)))
        self.body("again 1 end say 1 ", ("again", num(1), ()), say(1))

    def test_bodies_within_bodies(self):
        self.body("again 1 if 2 again 3 say 4 end say 5 end say 6 end say 7 end say 8 ", ("again", num(1), (
            ("if", num(2), (("again", num(3), (say(4),)), say(5)), (say(6),)), say(7))), say(8))

    def test_calls(self):
        callee = (4, 4, (("call", 2, (), 3),))
        program = ((1, 2), ((0, 1, (("call", 1, (num(1), ("add", name(0), cell(1)), cell(0), num(2)), 0),)), callee,
                            (0, 0, ())), (2, 0))
        self.same(program, "cells 2 1 2 fun 0 1 call 1 4 1 add n0 c1 c0 2 0 end fun 4 4 call 2 0 3 end fun 0 0 end "
                           "hands 2 2 0")

    def test_several_cells_funs_and_hands(self):
        fun = (0, 3, (say(1),))
        self.same(((1, 2, 3, 4, 5, 6, 7, 10006), (fun,) * 4, (3, 0, 3)),
                  "cells 8 1 2 3 4 5 6 7 10006" + " fun 0 3 say 1 end" * 4 + " hands 3 3 0 3")

    def test_samples(self):
        self.assertEqual(written(COUNTING), "cells 1 0 fun 0 0 again 3 put 0 add c0 1 end end "
                                            "fun 0 0 say c0 say c0 say c0 say c0 end hands 2 0 1")
        for program in (NESTED, COUNTING, SIX, LONG):
            self.assertEqual(read(written(program)), program)
        self.assertEqual(written(read(ALL)), ALL)

    def test_the_largest_programs(self):
        deep = ("say", num(1))
        for _ in range(6):
            deep = ("again", num(9), (deep,))
        body = deep
        program = one_fun(body, *[say(10006)] * 43)
        self.assertEqual(read(written(program)), program)

    def test_made_by_chance(self):
        for _, _, program in programs(300, seed=51):
            self.assertEqual(read(written(program)), program)
            self.assertEqual(" ".join(written(program).split()), written(program))

    def test_kinds(self):
        program = read(ALL)
        kinds = set()

        def kinds_in(what):
            kinds.add(type(what))
            if isinstance(what, tuple):
                for inner in what:
                    kinds_in(inner)

        kinds_in(program)
        self.assertEqual(kinds, {tuple, int, str})
        self.assertIs(type(written(NESTED)), str)

    def test_what_is_handed_in_is_not_changed(self):
        program = copy.deepcopy(NESTED)
        self.assertEqual(written(program), written(program))
        self.assertEqual(program, NESTED)

    def test_no_program_is_not_written(self):
        for program, at, why in ((((), ((0, 0, ()),), (0,)), -1, "cells"), (((0,), (), (0,)), -1, "funs"),
                                 (((0,), ((1, 0, ()),), (0,)), -1, "names"), (((0,), ((0, 0, ()),), ()), -1, "hands"),
                                 (one_fun(("say", name(2))), 1, "name"), (one_fun(("shout", num(1))), 0, "shape"),
                                 (one_fun(("call", 0, (num(1),), 0)), 0, "params"), (one_fun(5), 0, "shape"),
                                 (one_fun(*[say(1)] * 51), 100, "many"), (one_fun(("say", num(True))), 1, "shape")):
            with self.assertRaises(BadProgram) as caught:
                written(program)
            self.assertEqual((caught.exception.at, caught.exception.why), (at, why), program)


class WrongWords(Case):
    def test_at_any_place(self):
        words = ALL.split(" ")
        for place in range(len(words)):
            for wrong in ("wrong", "", "-1", "+1", "1.", "Cells", "n", "c", "x0", "num", "name", "cell", "000", "nn0"):
                self.bad_text(place, " ".join(words[:place] + [wrong] + words[place + 1:]))

    def test_too_few_words(self):
        words = ALL.split(" ")
        for many in range(1, len(words)):
            self.bad_text(many, " ".join(words[:many]))

    def test_a_word_behind_the_last(self):
        for wrong in ("0", "end", "fun", "hands", "cells", "wrong", "", "0 0", "wrong "):
            self.bad_text(17, f"{EXAMPLE} {wrong}")

    def test_empty_words(self):
        self.bad_text(0, "")
        self.bad_text(0, " ")
        self.bad_text(0, " " + EXAMPLE)
        self.bad_text(17, EXAMPLE + " ")
        self.bad_text(1, "cells ")
        words = EXAMPLE.split(" ")
        for place in range(1, len(words)):
            self.bad_text(place, " ".join(words[:place]) + "  " + " ".join(words[place:]))

    def test_numbers(self):
        for place in (1, 2, 4, 5, 7, 10, 15, 16):
            words = EXAMPLE.split(" ")
            for wrong in ("100000", "000000", "123456", "00", "01", "00000", "05", "-1", "-0", "+1", "1_0", "0x1", "1.0",
                          "1e1", "n", "c", "one", "1n", "end"):
                words[place] = wrong
                self.bad_text(place, " ".join(words))

    def test_names_and_cells(self):
        for place in (9, 12):
            words = EXAMPLE.split(" ")
            for sign in "nc":
                for wrong in ("100000", "00", "01", "-1", "+1", "", "n0", "c0", "a", "1n"):
                    words[place] = sign + wrong
                    self.bad_text(place, " ".join(words))
            for wrong in ("N0", "C0", "0n", "a0", "m0", "cn0", "num", "cell"):
                words[place] = wrong
                self.bad_text(place, " ".join(words))

    def test_names_and_cells_stand_in_parts_alone(self):
        for place in (1, 2, 4, 5, 7, 15, 16):
            for wrong in ("n0", "c0", "add"):
                words = EXAMPLE.split(" ")
                words[place] = wrong
                self.bad_text(place, " ".join(words))

    def test_counts(self):
        self.bad_text(3, "cells 2 5 fun 0 1 end hands 1 0")
        self.bad_text(2, "cells 0 5 fun 0 1 end hands 1 0")
        self.bad_text(2, "cells 1 fun 0 1 end hands 1 0")
        self.bad_text(10, "cells 1 5 fun 0 1 end hands 2 0")
        self.bad_text(9, "cells 1 5 fun 0 1 end hands 0 0")
        self.bad_text(9, "cells 1 5 fun 0 1 end hands 99999")
        self.bad_text(5, "cells 99999 1 2 3")
        self.bad_text(4, "cells 99999 1 2 fun 0 1 end hands 1 0")
        call = "cells 1 5 fun 0 1 call 0 {} 0 end hands 1 0"
        self.bad_text(10, call.format("1"))
        self.bad_text(11, call.format("1 0 1"))
        self.bad_text(11, call.format("2 0"))
        self.bad_text(12, call.format("99999 0 n0"))
        self.bad_text(10, call.format("0 0 1"))

    def test_words_of_other_places(self):
        self.bad_text(0, "fun 0 0 end hands 1 0")
        self.bad_text(3, "cells 1 0 end hands 1 0")
        self.bad_text(6, "cells 1 0 fun 0 0 hands 1 0")
        self.bad_text(6, "cells 1 0 fun 0 0 fun 0 0 end hands 1 0")
        self.bad_text(7, "cells 1 0 fun 0 0 end end hands 1 0")
        self.bad_text(7, "cells 1 0 fun 0 0 end cells 1 0 hands 1 0")
        self.bad_text(7, "cells 1 0 fun 0 0 end say 1 hands 1 0")
        self.bad_text(7, "cells 1 0 fun 0 0 say say 1 end hands 1 0")
        self.bad_text(7, "cells 1 0 fun 0 0 say end hands 1 0")
        self.bad_text(6, "cells 1 0 fun 0 0 add 1 1 end hands 1 0")
        self.bad_text(6, "cells 1 0 fun 0 0 5 end hands 1 0")
        self.bad_text(9, "cells 1 0 fun 0 0 if 1 end hands 1 0")
        self.bad_text(8, "cells 1 0 fun 0 0 again 1 hands 1 0")
        self.bad_text(8, "cells 1 0 fun 0 0 say 1")
        self.bad_text(7, "cells 1 0 fun 0 0 say num 5 end hands 1 0")

    def test_the_first_of_two(self):
        self.bad_text(1, "cells x 5 foo")
        self.bad_text(2, "cells 1 y fun 0 1 z")

    def test_deeper_than_any_program(self):
        self.bad_text(2407, "cells 1 5 fun 0 1 say" + " add" * 2400)
        self.bad_text(3007, "cells 1 5 fun 0 1" + " again 1" * 1500 + " end")


class NoPrograms(Case):
    def test_heads(self):
        self.bad_program(-1, "cells", "cells 0 fun 0 0 end hands 1 0")
        self.bad_program(-1, "cells", "cells 9 0 0 0 0 0 0 0 0 0 fun 0 0 end hands 1 0")
        self.bad_program(-1, "cells", "cells 1 10007 fun 0 0 end hands 1 0")
        self.bad_program(-1, "cells", "cells 2 0 99999 fun 0 0 end hands 1 0")
        self.bad_program(-1, "cells", "cells 0 hands 0")
        self.bad_program(-1, "funs", "cells 1 0 hands 0")
        self.bad_program(-1, "funs", "cells 1 0" + " fun 0 0 end" * 5 + " hands 1 0")
        self.bad_program(-1, "names", "cells 1 0 fun 1 0 end hands 1 0")
        self.bad_program(-1, "names", "cells 1 0 fun 0 5 end hands 1 0")
        self.bad_program(-1, "names", "cells 1 0 fun 99999 99999 end hands 0")
        self.bad_program(-1, "hands", "cells 1 0 fun 0 0 end hands 0")
        self.bad_program(-1, "hands", "cells 1 0 fun 0 0 end hands 4 0 0 0 0")
        self.bad_program(-1, "hands", "cells 1 0 fun 0 0 end hands 1 1")
        self.bad_program(-1, "hands", "cells 1 0 fun 1 1 end hands 1 0")

    def test_things(self):
        text = "cells 1 0 fun 0 1 {} end fun 1 1 end hands 1 0"
        self.bad_program(1, "number", text.format("say 10007"))
        self.bad_program(1, "number", text.format("say 99999"))
        self.bad_program(1, "name", text.format("say n1"))
        self.bad_program(2, "cell", text.format("say add c1 n1"))
        self.bad_program(0, "name", text.format("set 1 0"))
        self.bad_program(0, "cell", text.format("put 99999 0"))
        self.bad_program(0, "fun", text.format("call 2 0 0"))
        self.bad_program(0, "params", text.format("call 1 0 0"))
        self.bad_program(0, "params", text.format("call 1 2 0 0 1"))
        self.bad_program(0, "name", text.format("call 1 1 n0 1"))
        self.bad_program(3, "name", text.format("again n0 say n0 end").replace("say n0", "say n7"))
        self.bad_program(100, "many", text.format("say 1 " * 50 + "say 1"))
        self.bad_program(8, "deep", text.format("say" + " add" * 8 + " 1" * 9))
        self.bad_program(15, "deep", text.format("again 1 " * 8 + "end " * 7 + "end"))

    def test_a_wrong_word_goes_first(self):
        self.bad_text(12, "cells 1 10007 fun 9 0 say n9 end hands 7 0 x 0")
        self.bad_text(9, "cells 0 fun 1 0 end hands 1 7 end")
        self.bad_text(4, "cells 0 hands 0 0")
        self.bad_text(11, "cells 0 fun 0 0 say n9 end hands 3 0")

    def test_far_deeper_than_any_program(self):
        self.bad_program(8, "deep", "cells 1 5 fun 0 1 say" + " add" * 1200 + " 1" * 1201 + " end hands 1 0")
        self.bad_program(15, "deep", "cells 1 5 fun 0 1" + " again 1" * 700 + " end" * 701 + " hands 1 0")
        self.bad_program(100, "many", "cells 1 5 fun 0 1" + " say 1" * 1600 + " end hands 1 0")


if __name__ == "__main__":
    unittest.main()
