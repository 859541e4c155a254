"""[8]: go and step, and what ends them."""

import unittest

from samples import COUNTING, NESTED, SIX, name, num, one_fun, say
from stopdesk.errors import BadCount, BadWay, Ended, NoHand
from stopdesk.watched import Watched

# fun 0 (places 0 and 1) ends behind two deeds, fun 1 (2 to 6) behind five.
SHORT_AND_LONG = ((0,), ((0, 0, (say(1), say(2))), (0, 0, (say(3), say(4), say(5), say(6), say(7)))), (0, 1))


def over_program():
    watched = Watched(SIX)
    watched.go(2000)
    return watched


class Go(unittest.TestCase):
    def test_over(self):
        self.assertEqual(Watched(SIX).go(2000), ("over",))
        self.assertEqual(Watched(SIX).go(7), ("over",))
        # Over goes ahead of paused.
        self.assertEqual(Watched(SIX).go(6), ("over",))

    def test_paused(self):
        watched = Watched(SIX)
        self.assertEqual(watched.go(2), ("paused", 0, 2))
        self.assertEqual(watched.said(), [(0, 1), (0, 2)])
        self.assertEqual(watched.go(3), ("paused", 0, 5))
        self.assertEqual(watched.go(1), ("over",))

    def test_paused_tells_the_next_hand(self):
        watched = Watched(SHORT_AND_LONG)
        told = [watched.go(1) for _ in range(7)]
        self.assertEqual(told, [("paused", 1, 2), ("paused", 0, 1), ("paused", 1, 3), ("paused", 1, 4),
                                ("paused", 1, 5), ("paused", 1, 6), ("over",)])

    def test_counts(self):
        watched = Watched(SIX)
        self.assertEqual(watched.go(0), ("paused", 0, 0))
        self.assertEqual(watched.said(), [])
        for many in (-1, 2001):
            with self.assertRaises(BadCount):
                watched.go(many)
        self.assertEqual(watched.said(), [])

    def test_the_most_deeds(self):
        body = (say(1),)
        for _ in range(4):
            body = (("again", num(9), body),)
        watched = Watched(one_fun(*body))
        self.assertEqual(watched.go(2000), ("paused", 0, 4))
        self.assertEqual(len(watched.said()), 1776)

    def test_ended_behind_bad_count(self):
        for watched in (over_program(), Watched(one_fun())):
            for many in (-1, 2001):
                with self.assertRaises(BadCount):
                    watched.go(many)
            for many in (0, 1, 2000):
                with self.assertRaises(Ended):
                    watched.go(many)

    def test_a_stop_ahead_of_the_next_deed(self):
        watched = Watched(SIX)
        watched.stop(2, None, None)
        self.assertEqual(watched.go(9), ("stop", 0, 2, 0))
        self.assertEqual(watched.said(), [(0, 1), (0, 2)])

    def test_no_stop_ahead_of_the_first_deed_of_a_going(self):
        watched = Watched(SIX)
        watched.stop(0, None, None)
        watched.stop(2, None, None)
        self.assertEqual(watched.go(0), ("paused", 0, 0))
        self.assertEqual(watched.go(9), ("stop", 0, 2, 1))
        self.assertEqual(watched.go(0), ("paused", 0, 2))
        self.assertEqual(watched.go(1), ("paused", 0, 3))
        self.assertEqual(watched.go(9), ("over",))

    def test_a_stop_goes_ahead_of_paused(self):
        watched = Watched(SIX)
        watched.stop(2, None, None)
        self.assertEqual(watched.go(2), ("stop", 0, 2, 0))

    def test_a_stop_is_met_by_the_next_deed_alone(self):
        # Hand 1 is at place 2 all the time that hand 0's first deed is done; it is met when its turn is there.
        watched = Watched(SHORT_AND_LONG)
        watched.stop(2, None, None)
        watched.stop(1, None, None)
        self.assertEqual([watched.go(9) for _ in range(3)], [("stop", 1, 2, 0), ("stop", 0, 1, 1), ("over",)])

    def test_turns_go_on_where_they_were(self):
        watched = Watched(COUNTING)
        while not watched.is_over():
            watched.go(1)
        self.assertEqual(watched.said(), [(1, 0), (1, 1), (1, 2), (1, 3)])


class Step(unittest.TestCase):
    def nested(self, many):
        watched = Watched(NESTED)
        watched.go(many)
        return watched

    def test_in(self):
        watched = Watched(NESTED)
        told = [watched.step(0, "in", 9) for _ in range(9)]
        self.assertEqual(told, [("step", 0, place) for place in (1, 4, 7, 8, 5, 6, 2, 3)] + [("over",)])

    def test_over(self):
        watched = Watched(NESTED)
        told = [watched.step(0, "over", 9) for _ in range(4)]
        self.assertEqual(told, [("step", 0, 1), ("step", 0, 2), ("step", 0, 3), ("over",)])

    def test_over_within_a_call(self):
        watched = self.nested(2)
        told = [watched.step(0, "over", 9) for _ in range(3)]
        self.assertEqual(told, [("step", 0, 5), ("step", 0, 6), ("step", 0, 2)])
        # From the last deed of a fun over to its caller.
        watched = self.nested(4)
        self.assertEqual(watched.step(0, "over", 9), ("step", 0, 5))

    def test_over_a_call_of_itself(self):
        # Places 0 to 2 fun 0, 3 to 6 fun 1, which comes by its own places again within itself.
        inner = (1, 1, (("if", name(0), (("call", 1, (("take", name(0), num(1)),), 0),), ()), say(5), say(6)))
        program = ((0,), ((0, 1, (("call", 1, (num(3),), 0), say(8))), inner), (0,))
        watched = Watched(program)
        watched.go(1)
        self.assertEqual(watched.step(0, "over", 99), ("step", 0, 3))
        self.assertEqual(watched.step(0, "over", 99), ("step", 0, 4))
        self.assertEqual(len(watched.said()), 6)
        self.assertEqual([watched.step(0, "over", 99) for _ in range(2)], [("step", 0, 5), ("step", 0, 1)])

    def test_out(self):
        watched = self.nested(3)
        self.assertEqual(watched.step(0, "out", 9), ("step", 0, 5))
        self.assertEqual(watched.step(0, "out", 9), ("step", 0, 2))
        self.assertEqual(watched.step(0, "out", 9), ("over",))

    def test_out_over_calls(self):
        watched = self.nested(2)
        self.assertEqual(watched.step(0, "out", 9), ("step", 0, 2))
        self.assertEqual(watched.said(), [(0, 5)])

    def test_out_of_several_at_once(self):
        # The innermost fun's last deed is the last one of those around it, too.
        funs = ((0, 1, (("call", 1, (), 0), say(1))), (0, 1, (("call", 2, (), 0),)), (0, 1, (say(2), say(3))))
        watched = Watched(((0,), funs, (0,)))
        watched.go(2)
        self.assertEqual(watched.stack(0), [(2, 3), (1, 2), (0, 0)])
        self.assertEqual(watched.step(0, "out", 9), ("step", 0, 1))

    def test_over_a_call_that_does_none(self):
        body = (("call", 0, (), 0), say(1))
        watched = Watched(one_fun(*body))
        self.assertEqual(watched.go(19), ("paused", 0, 0))
        self.assertEqual(len(watched.stack(0)), 20)
        self.assertEqual(watched.step(0, "in", 9), ("step", 0, 1))
        self.assertEqual(watched.step(0, "over", 9), ("step", 0, 1))
        self.assertEqual(len(watched.stack(0)), 19)

    def test_all_hands_go_on_in_their_turn(self):
        watched = Watched(SHORT_AND_LONG)
        self.assertEqual(watched.step(0, "in", 9), ("step", 0, 1))
        self.assertEqual(watched.said(), [(0, 1), (1, 3)])

    def test_the_hand_itself_must_do_one(self):
        # Hand 0 is next, so a step of hand 1 goes by its deed and then does one of hand 1.
        for way in ("in", "over"):
            watched = Watched(SHORT_AND_LONG)
            self.assertEqual(watched.step(1, way, 9), ("step", 1, 3))
            self.assertEqual(watched.said(), [(0, 1), (1, 3), (0, 2)])

    def test_other_hands_calls_are_not_counted(self):
        inner = (0, 0, (say(4), say(5)))
        first = (0, 1, (("call", 1, (), 0), ("call", 1, (), 0)))
        watched = Watched(((0,), (first, inner, (0, 0, (say(6), say(7), say(8)))), (0, 2)))
        self.assertEqual(watched.step(1, "over", 9), ("step", 1, 5))
        self.assertEqual(watched.step(1, "out", 2), ("paused", 1, 6))
        self.assertEqual(watched.step(1, "over", 9), ("ended", 1))

    def test_ended(self):
        for way in ("in", "over", "out"):
            watched = Watched(SHORT_AND_LONG)
            watched.go(2)
            self.assertEqual(watched.step(0, way, 9), ("ended", 0))
            self.assertEqual(watched.said(), [(0, 1), (1, 3), (0, 2)])

    def test_over_goes_ahead_of_ended(self):
        watched = Watched(SHORT_AND_LONG)
        self.assertEqual(watched.step(1, "out", 7), ("over",))
        self.assertEqual(Watched(SIX).step(0, "out", 6), ("over",))

    def test_ended_goes_ahead_of_stop_and_paused(self):
        watched = Watched(SHORT_AND_LONG)
        watched.go(2)
        watched.stop(3, None, None)
        self.assertEqual(watched.step(0, "in", 1), ("ended", 0))

    def test_stop_goes_ahead_of_step_and_paused(self):
        for many in (1, 9):
            watched = Watched(SIX)
            watched.stop(1, None, None)
            self.assertEqual(watched.step(0, "in", many), ("stop", 0, 1, 0))

    def test_step_goes_ahead_of_paused(self):
        for way in ("in", "over"):
            self.assertEqual(Watched(SIX).step(0, way, 1), ("step", 0, 1))
        watched = self.nested(4)
        self.assertEqual(watched.step(0, "out", 1), ("step", 0, 5))

    def test_another_hands_stop_ends_a_step(self):
        watched = Watched(SHORT_AND_LONG)
        watched.stop(2, None, None)
        self.assertEqual(watched.step(0, "in", 9), ("stop", 1, 2, 0))
        # The next step begins anew: hand 0 has done none in it when it is at place 1.
        self.assertEqual(watched.step(0, "in", 9), ("ended", 0))

    def test_no_stop_ahead_of_the_first_deed(self):
        watched = Watched(SIX)
        watched.stop(0, None, None)
        self.assertEqual(watched.step(0, "in", 9), ("step", 0, 1))

    def test_a_stop_within_what_is_stepped_over(self):
        watched = self.nested(1)
        watched.stop(8, None, None)
        self.assertEqual(watched.step(0, "over", 9), ("stop", 0, 8, 0))
        # The next step begins anew, where three funs are under way.
        self.assertEqual(watched.step(0, "over", 9), ("step", 0, 5))

    def test_paused(self):
        watched = self.nested(1)
        self.assertEqual(watched.step(0, "over", 3), ("paused", 0, 8))
        watched = Watched(SHORT_AND_LONG)
        self.assertEqual(watched.step(1, "in", 1), ("paused", 1, 2))
        self.assertEqual(watched.step(0, "in", 1), ("paused", 0, 1))

    def test_a_count_of_0(self):
        for way in ("in", "over", "out"):
            watched = self.nested(3)
            watched.stop(7, None, None)
            self.assertEqual(watched.step(0, way, 0), ("paused", 0, 7))

    def test_counts(self):
        self.assertEqual(Watched(SIX).step(0, "in", 2000), ("step", 0, 1))
        for many in (-1, 2001):
            with self.assertRaises(BadCount):
                Watched(SIX).step(0, "in", many)

    def test_refusals(self):
        watched = Watched(SHORT_AND_LONG)
        for hand in (-1, 2):
            with self.assertRaises(NoHand):
                watched.step(hand, "in", 9)
        for way in ("", "In", "into", "in ", "i", "n", "up"):
            with self.assertRaises(BadWay):
                watched.step(0, way, 9)

    def test_refusals_in_their_order(self):
        watched = Watched(SHORT_AND_LONG)
        watched.go(4)
        for refusal, told in ((NoHand, (2, "up", -1)), (NoHand, (2, "in", 9)), (BadWay, (0, "up", 2001)),
                              (BadCount, (0, "in", -1)), (BadCount, (0, "in", 2001)), (Ended, (0, "in", 9)),
                              (Ended, (0, "out", 0))):
            with self.assertRaises(refusal):
                watched.step(*told)
        self.assertEqual(watched.said(), [(0, 1), (1, 3), (0, 2), (1, 4)])
        self.assertEqual(watched.step(1, "in", 9), ("step", 1, 5))

    def test_ended_when_all_is_over(self):
        for watched in (over_program(), Watched(one_fun())):
            with self.assertRaises(Ended):
                watched.step(0, "in", 9)


if __name__ == "__main__":
    unittest.main()
