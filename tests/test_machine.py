"""[3], [4] and [6]: parts, deeds, hands in turn, and plain."""

import unittest

from samples import COUNTING, NESTED, SIX, cell, name, num, one_fun, said_by, say, value_of
from stopdesk.errors import BadCount
from stopdesk.machine import plain


class Parts(unittest.TestCase):
    def test_num(self):
        self.assertEqual(value_of(num(0)), 0)
        self.assertEqual(value_of(num(10006)), 10006)

    def test_name_and_cell(self):
        self.assertEqual(value_of(name(1), names=(3, 4)), 4)
        self.assertEqual(value_of(name(2), names=(3, 4)), 0)
        self.assertEqual(value_of(cell(0)), 7)
        self.assertEqual(value_of(cell(1)), 10006)

    def test_add(self):
        self.assertEqual(value_of(("add", num(2), num(3))), 5)
        self.assertEqual(value_of(("add", num(10006), num(1))), 0)
        self.assertEqual(value_of(("add", num(10006), num(10006))), 10005)

    def test_take(self):
        self.assertEqual(value_of(("take", num(5), num(3))), 2)
        self.assertEqual(value_of(("take", num(3), num(5))), 10005)
        self.assertEqual(value_of(("take", num(0), num(10006))), 1)
        self.assertEqual(value_of(("take", num(4), num(4))), 0)

    def test_times(self):
        self.assertEqual(value_of(("times", num(6), num(7))), 42)
        # 200 * 100 = 20000 = 10007 + 9993; (-1) * (-1) = 1
        self.assertEqual(value_of(("times", num(200), num(100))), 9993)
        self.assertEqual(value_of(("times", num(10006), num(10006))), 1)
        self.assertEqual(value_of(("times", num(0), num(10006))), 0)

    def test_less(self):
        self.assertEqual(value_of(("less", num(3), num(5))), 1)
        self.assertEqual(value_of(("less", num(5), num(3))), 0)
        self.assertEqual(value_of(("less", num(5), num(5))), 0)

    def test_same(self):
        self.assertEqual(value_of(("same", num(5), num(5))), 1)
        self.assertEqual(value_of(("same", num(5), num(6))), 0)
        self.assertEqual(value_of(("same", num(0), num(10006))), 0)

    def test_what_less_and_same_tell_is_no_truth(self):
        for word in ("less", "same"):
            self.assertIs(type(value_of((word, num(1), num(1)))), int)

    def test_within_one_another(self):
        part = ("take", ("times", num(3), ("add", num(1), num(4))), ("less", num(0), cell(0)))
        self.assertEqual(value_of(part), 14)
        self.assertEqual(value_of(("take", ("take", num(9), num(4)), ("take", num(5), num(3)))), 3)

    def test_numbers_are_taken_by_the_rest_at_each_part(self):
        self.assertEqual(value_of(("less", ("add", num(10006), num(2)), num(2))), 1)


class Deeds(unittest.TestCase):
    def test_names_are_0_at_first(self):
        self.assertEqual(said_by(one_fun(("say", name(0)), ("say", name(1)))), [0, 0])

    def test_set(self):
        program = one_fun(("set", 1, num(4)), ("set", 1, ("add", name(1), num(1))), ("say", name(1)), ("say", name(0)))
        self.assertEqual(said_by(program), [5, 0])

    def test_put(self):
        program = one_fun(("put", 1, num(4)), ("put", 0, ("add", cell(1), cell(0))), cells=(2, 3))
        self.assertEqual(plain(program, 9), ([], [6, 4], True, 2))

    def test_say(self):
        program = (0,), ((0, 0, (say(4), say(4))), (0, 0, (say(10006),))), (1, 0)
        self.assertEqual(plain(program, 9)[0], [(0, 10006), (1, 4), (1, 4)])

    def test_if(self):
        def program(number):
            return one_fun(("if", num(number), (say(1), say(2)), (say(3),)), say(4))
        self.assertEqual(said_by(program(0)), [3, 4])
        self.assertEqual(said_by(program(1)), [1, 2, 4])
        self.assertEqual(said_by(program(10006)), [1, 2, 4])
        self.assertEqual(plain(program(0), 9)[3], 3)
        self.assertEqual(plain(program(1), 9)[3], 4)

    def test_if_with_empty_bodies(self):
        for number in (0, 1):
            self.assertEqual(plain(one_fun(("if", num(number), (), ()), say(4)), 9), ([(0, 4)], [0], True, 2))
            self.assertEqual(plain(one_fun(("if", num(number), (), ())), 9), ([], [0], True, 1))
        self.assertEqual(said_by(one_fun(("if", num(0), (say(1),), ()), say(4))), [4])
        self.assertEqual(said_by(one_fun(("if", num(1), (), (say(1),)), say(4))), [4])

    def test_an_ifs_choice_stands_though_its_body_changes_its_part(self):
        program = one_fun(("if", ("same", name(0), num(0)), (("set", 0, num(1)), say(1)), (say(2),)))
        self.assertEqual(said_by(program), [1])

    def test_again_by_the_rest_by_10(self):
        for number, rounds in ((0, 0), (1, 1), (3, 3), (9, 9), (10, 0), (11, 1), (10006, 6), (10000, 0)):
            program = one_fun(("again", num(number), (say(5),)), say(6))
            self.assertEqual(said_by(program), [5] * rounds + [6])
            self.assertEqual(plain(program, 99)[3], rounds + 2)

    def test_again_is_reckoned_once_ahead(self):
        body = (("set", 0, ("add", name(0), num(1))), ("say", name(0)))
        program = one_fun(("set", 0, num(3)), ("again", name(0), body))
        self.assertEqual(said_by(program), [4, 5, 6])
        program = one_fun(("set", 0, num(3)), ("again", name(0), (("set", 0, num(0)), say(1))))
        self.assertEqual(said_by(program), [1, 1, 1])

    def test_again_with_an_empty_body(self):
        self.assertEqual(plain(one_fun(("again", num(9), ()), say(4)), 9), ([(0, 4)], [0], True, 2))
        self.assertEqual(plain(one_fun(("again", num(9), ())), 9), ([], [0], True, 1))

    def test_agains_within_agains(self):
        inner = ("again", num(2), (say(1),))
        self.assertEqual(said_by(one_fun(("again", num(3), (inner, say(2))))), [1, 1, 2] * 3)
        # An again that begins anew is reckoned anew.
        body = (("again", name(0), (say(1),)), ("set", 0, ("add", name(0), num(1))), say(2))
        self.assertEqual(said_by(one_fun(("again", num(3), body))), [2, 1, 2, 1, 1, 2])

    def test_call_hands_numbers_and_holds_what_is_told(self):
        self.assertEqual(said_by(NESTED), [5, 12, 6])
        self.assertEqual(plain(NESTED, 99), ([(0, 5), (0, 12), (0, 6)], [6], True, 9))

    def test_call_hands_the_parts_in_their_order(self):
        inner = (2, 3, (("return", ("take", name(0), ("add", name(1), name(2)))),))
        program = ((0,), ((0, 1, (("call", 1, (num(9), num(2)), 0), ("say", name(0)))), inner), (0,))
        self.assertEqual(said_by(program), [7])

    def test_a_called_funs_other_names_are_0_each_time(self):
        inner = (0, 1, (("set", 0, ("add", name(0), num(1))), ("return", name(0))))
        call = ("call", 1, (), 0)
        program = ((0,), ((0, 1, (call, ("say", name(0)), call, ("say", name(0)))), inner), (0,))
        self.assertEqual(said_by(program), [1, 1])

    def test_a_called_fun_has_names_of_its_own(self):
        inner = (1, 1, (("set", 0, num(9)),))
        program = ((0,), ((0, 2, (("set", 0, num(4)), ("call", 1, (name(0),), 1), ("say", name(0)))), inner), (0,))
        self.assertEqual(said_by(program), [4])

    def test_a_fun_at_its_end_tells_0(self):
        for body in ((), (say(8),), (("if", num(1), (say(8),), ()),), (("again", num(0), (say(7),)),)):
            first = (("set", 0, num(4)), ("call", 1, (), 0), ("say", name(0)))
            program = ((0,), ((0, 1, first), (0, 0, body)), (0,))
            self.assertEqual(said_by(program)[-1], 0)

    def test_a_call_of_a_fun_with_no_deeds_is_one_deed(self):
        program = ((0,), ((0, 1, (("call", 1, (), 0), say(1))), (0, 0, ())), (0,))
        self.assertEqual(plain(program, 1), ([], [0], False, 1))
        self.assertEqual(plain(program, 9), ([(0, 1)], [0], True, 2))

    def test_return_ends_the_fun(self):
        self.assertEqual(plain(one_fun(say(1), ("return", num(3)), say(2)), 9), ([(0, 1)], [0], True, 2))

    def test_return_within_ifs_and_agains(self):
        deep = ("again", num(3), (say(1), ("if", num(1), (("again", num(2), (("return", num(6)),)),), ()), say(2)))
        self.assertEqual(said_by(one_fun(deep, say(3))), [1])
        program = ((0,), ((0, 1, (("call", 1, (), 0), ("say", name(0)))), (0, 0, (deep, say(3)))), (0,))
        self.assertEqual(said_by(program), [1, 6])

    def test_a_call_within_an_again_goes_on_in_it(self):
        inner = (1, 1, (("if", name(0), (("return", num(5)),), (say(9),)), say(8)))
        body = (("again", num(2), (("call", 1, (name(1),), 0), ("say", name(0)), ("set", 1, num(1)))), say(4))
        self.assertEqual(said_by(((0,), ((0, 2, body), inner), (0,))), [9, 8, 0, 5, 4])

    def test_a_return_reckons_its_part_of_its_own_funs_names(self):
        inner = (1, 2, (("set", 1, num(2)), ("return", ("times", name(0), name(1)))))
        program = ((0,), ((0, 2, (("set", 0, num(7)), ("call", 1, (num(21),), 0), ("say", name(0)))), inner), (0,))
        self.assertEqual(said_by(program), [42])

    def test_a_call_may_hold_what_is_told_in_a_name_that_it_handed(self):
        inner = (1, 1, (("return", ("add", name(0), num(1))),))
        call = ("call", 1, (name(0),), 0)
        self.assertEqual(said_by(((0,), ((0, 1, (call, call, ("say", name(0)))), inner), (0,))), [2])

    def test_a_fun_that_calls_itself(self):
        # fun 1 (n): if n: m = fun1(n - 1), return n * m; return 1
        inner = (1, 2, (
            ("if", name(0), (
                ("call", 1, (("take", name(0), num(1)),), 1),
                ("return", ("times", name(0), name(1))),
            ), ()),
            ("return", num(1)),
        ))
        for number, told in ((0, 1), (1, 1), (5, 120), (7, 5040), (8, 40320 % 10007)):
            program = ((0,), ((0, 1, (("call", 1, (num(number),), 0), ("say", name(0)))), inner), (0,))
            self.assertEqual(said_by(program), [told])

    def test_the_twenty_first_fun_is_not_begun(self):
        # Each fun under way adds one to the cell, then calls itself and says what its name holds.
        body = (("put", 0, ("add", cell(0), num(1))), ("set", 0, num(77)), ("call", 0, (), 0), ("say", name(0)),
                ("return", num(3)))
        said, cells, over, done = plain(((0,), ((0, 1, body),), (0,)), 2000)
        self.assertEqual(cells, [20])
        self.assertEqual([number for _, number in said], [0] + [3] * 19)
        self.assertEqual((over, done), (True, 100))

    def test_the_twentieth_fun_is_begun(self):
        inner = (1, 2, (
            ("put", 0, ("add", cell(0), num(1))),
            ("if", name(0), (("call", 1, (("take", name(0), num(1)),), 1),), ()),
            ("return", ("add", name(1), num(1))),
        ))
        for number, begun, told in ((18, 19, 19), (19, 19, 19), (17, 18, 18)):
            program = ((0,), ((0, 1, (("call", 1, (num(number),), 0), ("say", name(0)))), inner), (0,))
            self.assertEqual(plain(program, 2000)[:3], ([(0, told)], [begun], True))

    def test_twenty_funs_are_counted_for_each_hand(self):
        body = (("put", 0, ("add", cell(0), num(1))), ("call", 0, (), 0))
        self.assertEqual(plain(((0,), ((0, 1, body),), (0, 0, 0)), 2000)[1], [60])


class Hands(unittest.TestCase):
    def test_hands_do_one_deed_each_in_turn(self):
        program = ((0,), ((0, 0, (say(1), say(2))), (0, 0, (say(3), say(4))), (0, 0, (say(5), say(6)))), (2, 0, 1))
        self.assertEqual(plain(program, 9)[0], [(0, 5), (1, 1), (2, 3), (0, 6), (1, 2), (2, 4)])

    def test_hands_at_their_end_are_left_out(self):
        program = ((0,), ((0, 0, (say(1),)), (0, 0, (say(2), say(3), say(4))), (0, 0, (say(5), say(6)))), (0, 1, 2))
        self.assertEqual(plain(program, 9)[0], [(0, 1), (1, 2), (2, 5), (1, 3), (2, 6), (1, 4)])

    def test_one_fun_by_several_hands(self):
        body = (("put", 0, ("add", cell(0), num(1))), ("set", 0, ("add", name(0), cell(0))), ("say", name(0)))
        program = ((0,), ((0, 1, body),), (0, 0, 0))
        self.assertEqual(plain(program, 99), ([(0, 3), (1, 3), (2, 3)], [3], True, 9))

    def test_choices_and_calls_are_deeds(self):
        # Hand 0: again, put, put, put; hand 1 says the cell behind each of them.
        self.assertEqual(plain(COUNTING, 99), ([(1, 0), (1, 1), (1, 2), (1, 3)], [3], True, 8))
        inner = (0, 0, (("put", 0, num(4)),))
        first = (("call", 1, (), 0), ("put", 0, num(5)))
        says = (0, 0, (("say", cell(0)),) * 3)
        program = ((0,), ((0, 1, first), inner, says), (0, 2))
        self.assertEqual(plain(program, 99)[0], [(1, 0), (1, 4), (1, 5)])

    def test_hands_with_no_deeds(self):
        program = ((3,), ((0, 0, ()), (0, 0, (say(1),))), (0, 1, 0))
        self.assertEqual(plain(program, 9), ([(1, 1)], [3], True, 1))
        for many in (0, 9):
            self.assertEqual(plain(((3,), ((0, 0, ()),), (0, 0)), many), ([], [3], True, 0))


class Counts(unittest.TestCase):
    def test_at_most_so_many(self):
        self.assertEqual(plain(SIX, 0), ([], [0], False, 0))
        self.assertEqual(plain(SIX, 1), ([(0, 1)], [0], False, 1))
        self.assertEqual(plain(SIX, 5)[2:], (False, 5))
        self.assertEqual(plain(SIX, 6)[2:], (True, 6))
        self.assertEqual(plain(SIX, 7)[2:], (True, 6))

    def test_the_most_deeds(self):
        body = (say(1),)
        for _ in range(4):
            body = (("again", num(9), body),)
        # The agains come to 10, 91, 820 and 7381 deeds from within:
        # 2000 = 1 + 2 * 820 + 1 + 3 * 91 + 1 + 8 * 10 + 1 + 3, with 729, 81, 9 and 1 says.
        said, _, over, done = plain(one_fun(*body), 2000)
        self.assertEqual((over, done), (False, 2000))
        self.assertEqual(len(said), 2 * 729 + 3 * 81 + 8 * 9 + 3)

    def test_bad_counts(self):
        for many in (-1, 2001, -2000, 10 ** 9):
            with self.assertRaises(BadCount):
                plain(SIX, many)

    def test_a_hand_that_has_just_come_to_its_end(self):
        inside = ((0,), ((0, 1, (("call", 1, (), 0),)), (0, 0, (("if", num(1), (("again", num(2), (say(1),)),), ()),))),
                  (0,))
        self.assertEqual(plain(inside, 4), ([(0, 1)], [0], False, 4))
        self.assertEqual(plain(inside, 5), ([(0, 1), (0, 1)], [0], True, 5))

    def test_kinds(self):
        told = plain(SIX, 3)
        self.assertIs(type(told), tuple)
        self.assertEqual([type(part) for part in told], [list, list, bool, int])
        self.assertEqual({type(row) for row in told[0]}, {tuple})


if __name__ == "__main__":
    unittest.main()
