"""[9]: stack, look, change, put, cells, said and is_over."""

import unittest

from samples import NESTED, SIX, cell, name, num, one_fun, say
from stopdesk.errors import BadNumber, NoFrame, NoHand
from stopdesk.watched import Watched

TWO = ((4, 5), ((0, 2, (say(1), say(2))), (0, 3, (("set", 0, num(8)), say(3), say(4)))), (1, 0))


class Case(unittest.TestCase):
    def nested(self, many):
        watched = Watched(NESTED)
        if many:
            watched.go(many)
        return watched

    def refuses(self, refusal, method, *told):
        with self.assertRaises(refusal):
            method(*told)


class Stack(Case):
    def test_call_by_call(self):
        told = [self.nested(many).stack(0) for many in range(9)]
        self.assertEqual(told, [
            [(0, 0)],
            [(0, 1)],
            [(1, 4), (0, 1)],
            [(2, 7), (1, 4), (0, 1)],
            [(2, 8), (1, 4), (0, 1)],
            [(1, 5), (0, 1)],
            [(1, 6), (0, 1)],
            [(0, 2)],
            [(0, 3)],
        ])

    def test_a_hand_at_its_end(self):
        self.assertEqual(self.nested(9).stack(0), [])
        self.assertEqual(Watched(one_fun()).stack(0), [])

    def test_places_within_bodies(self):
        watched = Watched(one_fun(("if", num(1), (("again", num(2), (say(1), say(2))),), (say(3),)), say(4)))
        told = []
        while not watched.is_over():
            told.extend(watched.stack(0))
            watched.go(1)
        self.assertEqual(told, [(0, place) for place in (0, 1, 2, 3, 2, 3, 5)])

    def test_each_hand(self):
        watched = Watched(TWO)
        watched.go(1)
        self.assertEqual((watched.stack(0), watched.stack(1)), ([(1, 3)], [(0, 0)]))

    def test_a_call_at_the_end_of_a_body(self):
        # The caller stays under way, at its call, until what it called is at its end.
        program = ((0,), ((0, 1, (("if", num(1), (("call", 1, (), 0),), ()),)), (0, 0, (say(1),))), (0,))
        watched = Watched(program)
        watched.go(2)
        self.assertEqual(watched.stack(0), [(1, 2), (0, 1)])
        self.assertEqual(watched.go(1), ("over",))

    def test_no_hand(self):
        for hand in (-1, 2):
            self.refuses(NoHand, Watched(TWO).stack, hand)


class Look(Case):
    def test_ahead_of_the_first_deed(self):
        self.assertEqual(self.nested(0).look(0, 0), [0, 0])
        self.assertEqual(Watched(TWO).look(0, 0), [0, 0, 0])

    def test_in_calls_within_calls(self):
        watched = self.nested(3)
        self.assertEqual([watched.look(0, deep) for deep in range(3)], [[5], [5, 0], [5, 0]])
        watched = self.nested(5)
        self.assertEqual([watched.look(0, deep) for deep in range(2)], [[5, 6], [5, 0]])
        watched = self.nested(7)
        self.assertEqual(watched.look(0, 0), [5, 12])

    def test_so_many_within_others(self):
        # fun 1 (n): n under way at each depth, 1 the outermost.
        inner = (1, 2, (("call", 1, (("add", name(0), num(1)),), 1),))
        watched = Watched(((0,), ((0, 1, (("call", 1, (num(1),), 0),)), inner), (0,)))
        watched.go(4)
        self.assertEqual([watched.look(0, deep) for deep in range(5)], [[4, 0], [3, 0], [2, 0], [1, 0], [0]])
        watched.change(0, 1, 1, 33)
        watched.change(0, 3, 1, 11)
        self.assertEqual([watched.look(0, deep) for deep in range(5)], [[4, 0], [3, 33], [2, 0], [1, 11], [0]])

    def test_a_fun_without_names(self):
        self.assertEqual(Watched(one_fun(say(1), names=0)).look(0, 0), [])

    def test_each_hand(self):
        watched = Watched(TWO)
        watched.go(1)
        self.assertEqual((watched.look(0, 0), watched.look(1, 0)), ([8, 0, 0], [0, 0]))

    def test_refusals(self):
        watched = self.nested(3)
        for hand, deep in ((-1, 0), (1, 0), (1, 9)):
            self.refuses(NoHand, watched.look, hand, deep)
        for deep in (-1, -3, 3, 20):
            self.refuses(NoFrame, watched.look, 0, deep)
        self.refuses(NoFrame, self.nested(9).look, 0, 0)


class Change(Case):
    def test_a_name_of_the_innermost(self):
        watched = self.nested(3)
        self.assertIsNone(watched.change(0, 0, 0, 10006))
        self.assertEqual(watched.look(0, 0), [10006])
        watched.go(99)
        # The rest by 10,007 of 10006 + 1 is 0.
        self.assertEqual(watched.said(), [(0, 10006), (0, 0), (0, 0)])

    def test_a_name_further_out(self):
        watched = self.nested(4)
        watched.change(0, 1, 0, 77)
        watched.change(0, 2, 0, 78)
        self.assertEqual([watched.look(0, deep) for deep in range(3)], [[5], [77, 0], [78, 0]])
        watched.go(99)
        self.assertEqual(watched.said(), [(0, 5), (0, 12), (0, 6)])

    def test_a_name_that_will_hold_what_is_told(self):
        watched = self.nested(4)
        watched.change(0, 1, 1, 77)
        self.assertEqual(watched.look(0, 1), [5, 77])
        watched.go(1)
        self.assertEqual(watched.look(0, 0), [5, 6])

    def test_of_one_hand_alone(self):
        watched = Watched(((0,), ((0, 1, (("say", name(0)),)),), (0, 0)))
        watched.change(1, 0, 0, 6)
        watched.go(9)
        self.assertEqual(watched.said(), [(0, 0), (1, 6)])

    def test_an_again_that_is_under_way_goes_on(self):
        watched = Watched(one_fun(("set", 0, num(3)), ("again", name(0), (say(1),))))
        watched.go(2)
        watched.change(0, 0, 0, 9)
        watched.go(99)
        self.assertEqual(watched.said(), [(0, 1)] * 3)

    def test_refusals(self):
        watched = self.nested(3)
        for told in ((1, 0, 0, 1), (-1, 9, 9, -1)):
            self.refuses(NoHand, watched.change, *told)
        for told in ((0, 3, 0, 1), (0, -1, 0, 1), (0, 3, 9, -1), (0, 0, 1, 1), (0, 1, 2, 1), (0, 0, -1, 1),
                     (0, 0, 1, -1), (0, 0, -1, 10007)):
            self.refuses(NoFrame, watched.change, *told)
        for number in (-1, 10007):
            self.refuses(BadNumber, watched.change, 0, 0, 0, number)
        self.assertEqual([watched.look(0, deep) for deep in range(3)], [[5], [5, 0], [5, 0]])

    def test_a_hand_at_its_end(self):
        self.refuses(NoFrame, self.nested(9).change, 0, 0, 0, 1)

    def test_the_least_and_the_greatest(self):
        watched = self.nested(0)
        watched.change(0, 0, 0, 10006)
        watched.change(0, 0, 1, 0)
        self.assertEqual(watched.look(0, 0), [10006, 0])


class Cells(Case):
    def test_cells(self):
        self.assertEqual(Watched(TWO).cells(), [4, 5])
        self.assertEqual([self.nested(many).cells() for many in (0, 5, 6, 9)], [[9], [9], [6], [6]])

    def test_put(self):
        watched = Watched(one_fun(("say", cell(1)), ("put", 1, num(3)), cells=(1, 2)))
        self.assertIsNone(watched.put(1, 10006))
        watched.put(0, 0)
        self.assertEqual(watched.cells(), [0, 10006])
        watched.go(9)
        self.assertEqual((watched.said(), watched.cells()), ([(0, 10006)], [0, 3]))

    def test_put_at_the_end(self):
        watched = self.nested(9)
        watched.put(0, 1)
        self.assertEqual(watched.cells(), [1])

    def test_refusals(self):
        watched = Watched(TWO)
        for told in ((-1, 1), (2, 1), (8, 1), (2, -1), (-1, 10007)):
            self.refuses(NoFrame, watched.put, *told)
        for number in (-1, 10007):
            self.refuses(BadNumber, watched.put, 0, number)
        self.assertEqual(watched.cells(), [4, 5])


class Said(Case):
    def test_so_far(self):
        told = [self.nested(many).said() for many in (0, 3, 4, 8, 9)]
        self.assertEqual(told, [[], [], [(0, 5)], [(0, 5), (0, 12)], [(0, 5), (0, 12), (0, 6)]])

    def test_by_several_hands(self):
        watched = Watched(TWO)
        watched.go(99)
        self.assertEqual(watched.said(), [(1, 1), (0, 3), (1, 2), (0, 4)])


class Over(Case):
    def test_is_over(self):
        self.assertIs(self.nested(0).is_over(), False)
        self.assertIs(self.nested(8).is_over(), False)
        self.assertIs(self.nested(9).is_over(), True)
        self.assertIs(Watched(one_fun()).is_over(), True)

    def test_only_when_all_hands_are(self):
        watched = Watched(TWO)
        watched.go(4)
        self.assertEqual((watched.stack(1), watched.is_over()), ([], False))
        watched.go(1)
        self.assertIs(watched.is_over(), True)

    def test_where_only_the_first_hand_is(self):
        watched = Watched(((0,), ((0, 0, ()), (0, 0, (say(1),))), (0, 1)))
        self.assertIs(watched.is_over(), False)
        self.assertEqual(Watched(SIX).stack(0), [(0, 0)])


if __name__ == "__main__":
    unittest.main()
