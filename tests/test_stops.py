"""[7]: stops that are set and cleared, and the deeds that meet them."""

import unittest

from samples import COUNTING, NESTED, SIX, cell, name, num, one_fun, say
from stopdesk.errors import BadPlace, BadWish, Full, NoHand, NoStop
from stopdesk.watched import Watched

NO_PARTS = (0, False, True, "num", "", (), ("num",), ("num", 1, 1), ("num", "1"), ("num", True), ("num", None),
            ("num", -1), ("num", 10007), ("name", -1), ("name", 2), ("cell", -1), ("cell", 1), ("more", 1),
            ("say", ("num", 1)), ("add", ("num", 1)), ("add", ("num", 1), 1), ("add", ("num", 1), ("name", 2)),
            ("less", ("same", ("num", 1), ("cell", 9)), ("num", 1)), (None,), ((), 1), (("num", 1),))


def full():
    watched = Watched(SIX)
    for _ in range(20):
        watched.stop(0, None, None)
    return watched


class Setting(unittest.TestCase):
    def test_numbers_from_0_on(self):
        watched = Watched(COUNTING)
        told = [watched.stop(0, None, None), watched.stop(5, 0, None), watched.stop(5, 0, None),
                watched.stop(1, 1, num(1)), watched.stop(0, None, ("add", cell(0), num(0)))]
        self.assertEqual(told, [0, 1, 2, 3, 4])

    def test_numbers_of_what_was_cleared_are_not_told_again(self):
        watched = Watched(SIX)
        watched.stop(0, None, None)
        watched.clear(0)
        self.assertEqual(watched.stop(0, None, None), 1)
        watched.clear(1)
        self.assertEqual(watched.stop(1, None, None), 2)

    def test_places(self):
        for program, last in ((SIX, 5), (COUNTING, 5), (NESTED, 8)):
            watched = Watched(program)
            self.assertEqual(watched.stop(last, None, None), 0)
            self.assertEqual(watched.stop(0, None, None), 1)
            for place in (-1, last + 1, 1000):
                with self.assertRaises(BadPlace):
                    watched.stop(place, None, None)

    def test_no_places_at_all(self):
        with self.assertRaises(BadPlace):
            Watched(one_fun()).stop(0, None, None)

    def test_hands(self):
        watched = Watched(COUNTING)
        watched.stop(0, 1, None)
        for hand in (-1, 2, 3):
            with self.assertRaises(NoHand):
                watched.stop(0, hand, None)

    def test_wishes(self):
        for wish in NO_PARTS:
            with self.subTest(wish), self.assertRaises(BadWish):
                Watched(SIX).stop(0, None, wish)
        for wish in (num(0), num(10006), name(0), name(1), cell(0), ("take", name(1), ("same", cell(0), num(4)))):
            self.assertEqual(Watched(SIX).stop(0, None, wish), 0)

    def test_a_wish_is_over_the_names_of_the_places_fun(self):
        watched = Watched(((0,), ((0, 1, (say(1),)), (0, 4, (say(2),)), (0, 0, (say(3),))), (0,)))
        watched.stop(0, None, name(0))
        watched.stop(1, None, name(3))
        for place, number in ((0, 1), (1, 4), (2, 0)):
            with self.assertRaises(BadWish):
                watched.stop(place, None, name(number))

    def test_a_wish_may_be_deeper_and_larger_than_a_programs_parts(self):
        wish = num(1)
        for _ in range(2000):
            wish = ("add", wish, num(1))
        watched = Watched(SIX)
        watched.stop(3, None, ("same", wish, num(2001)))
        self.assertEqual(watched.go(9), ("stop", 0, 3, 0))

    def test_full_for_the_twenty_first(self):
        watched = full()
        for _ in range(2):
            with self.assertRaises(Full):
                watched.stop(0, None, None)

    def test_room_behind_a_clear(self):
        watched = full()
        watched.clear(7)
        self.assertEqual(watched.stop(0, None, None), 20)
        with self.assertRaises(Full):
            watched.stop(0, None, None)
        watched.clear(20)
        watched.clear(0)
        self.assertEqual(watched.stop(0, None, None), 21)

    def test_two_faults_at_once(self):
        for watched in (Watched(SIX), full()):
            for refusal, told in ((BadPlace, (6, 5, 5)), (BadPlace, (6, 0, None)), (BadPlace, (-1, None, 5)),
                                  (NoHand, (0, 1, 5)), (NoHand, (0, -1, None)), (BadWish, (0, 0, 5))):
                with self.assertRaises(refusal):
                    watched.stop(*told)

    def test_what_is_refused_takes_no_number_and_no_room(self):
        watched = Watched(SIX)
        for told in ((6, None, None), (0, 1, None), (0, None, 5)) * 10:
            with self.assertRaises((BadPlace, NoHand, BadWish)):
                watched.stop(*told)
        self.assertEqual([watched.stop(0, None, None) for _ in range(20)], list(range(20)))


class Clearing(unittest.TestCase):
    def test_nothing_is_told(self):
        watched = Watched(SIX)
        watched.stop(0, None, None)
        self.assertIsNone(watched.clear(0))

    def test_no_stop(self):
        watched = Watched(SIX)
        watched.stop(0, None, None)
        watched.stop(0, None, None)
        watched.clear(0)
        for number in (0, 2, -1, 20):
            with self.assertRaises(NoStop):
                watched.clear(number)
        watched.clear(1)

    def test_what_was_cleared_is_met_no_more(self):
        watched = Watched(SIX)
        watched.stop(2, None, None)
        watched.stop(4, None, None)
        watched.clear(0)
        self.assertEqual(watched.go(9), ("stop", 0, 4, 1))


class Meeting(unittest.TestCase):
    def goings(self, watched, many=2000):
        """All that goings tell until all is over."""
        told = []
        while not watched.is_over():
            told.append(watched.go(many))
        return told

    def test_by_any_hand(self):
        watched = Watched(((0,), ((0, 0, (say(1), say(2))),), (0, 0, 0)))
        watched.stop(1, None, None)
        self.assertEqual(self.goings(watched), [("stop", 0, 1, 0), ("stop", 1, 1, 0), ("stop", 2, 1, 0), ("over",)])

    def test_by_one_hand(self):
        for hand in range(3):
            watched = Watched(((0,), ((0, 0, (say(1), say(2))),), (0, 0, 0)))
            watched.stop(1, hand, None)
            self.assertEqual(self.goings(watched), [("stop", hand, 1, 0), ("over",)])

    def test_at_each_round(self):
        watched = Watched(COUNTING)
        watched.stop(1, None, None)
        self.assertEqual(self.goings(watched), [("stop", 0, 1, 0)] * 3 + [("over",)])

    def test_a_wish_of_cells(self):
        watched = Watched(COUNTING)
        watched.stop(1, None, ("same", cell(0), num(2)))
        self.assertEqual(watched.go(2000), ("stop", 0, 1, 0))
        self.assertEqual(watched.cells(), [2])
        self.assertEqual(watched.go(2000), ("over",))

    def test_a_wish_of_names(self):
        body = (("again", num(5), (("set", 1, ("add", name(1), num(3))),)),)
        watched = Watched(one_fun(*body))
        watched.stop(1, 0, ("less", num(5), name(1)))
        self.assertEqual([watched.go(99) for _ in range(4)], [("stop", 0, 1, 0)] * 3 + [("over",)])

    def test_a_wish_is_not_0(self):
        for wish, met in ((num(0), False), (num(1), True), (num(10006), True), (("take", num(3), num(3)), False),
                          (None, True)):
            watched = Watched(SIX)
            watched.stop(3, None, wish)
            self.assertEqual(watched.go(9), ("stop", 0, 3, 0) if met else ("over",))

    def test_a_wish_is_reckoned_there_and_then(self):
        # Of the innermost fun's names, those of the next hand, and each time anew.
        inner = (1, 1, (("say", name(0)),))
        calls = [("call", 1, (num(number),), 0) for number in (4, 5, 6)]
        watched = Watched(((0,), ((0, 1, tuple(calls)), inner), (0, 0)))
        watched.stop(3, 1, ("same", name(0), num(5)))
        self.assertEqual(watched.go(99), ("stop", 1, 3, 0))
        self.assertEqual(watched.look(1, 0), [5])
        self.assertEqual(watched.go(99), ("over",))

    def test_the_least_number_of_those_that_are_met(self):
        watched = Watched(SIX)
        watched.stop(3, None, num(0))
        watched.stop(2, None, None)
        watched.stop(3, None, num(1))
        watched.stop(3, 0, None)
        watched.stop(3, None, None)
        self.assertEqual(self.goings(watched), [("stop", 0, 2, 1), ("stop", 0, 3, 2), ("over",)])
        watched = Watched(SIX)
        watched.stop(3, None, None)
        watched.stop(3, None, None)
        watched.clear(0)
        watched.stop(3, None, None)
        self.assertEqual(self.goings(watched), [("stop", 0, 3, 1), ("over",)])


if __name__ == "__main__":
    unittest.main()
