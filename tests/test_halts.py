"""[13]: goings of which a halt was asked, wherever it comes."""

import itertools
import unittest

from samples import COUNTING, NESTED, SIX
from stopdesk.wire import Desk
from stopdesk.wishes import answered
from wires import asked, brought, rounds

SAID = [(0, number) for number in range(1, 7)]


class Case(unittest.TestCase):
    def halted_behind(self, turns, program, *wishes):
        """The answers where the last wish, a going, is halted when it was under way for so many turns."""
        desk, post = asked(program, *wishes)
        brought(desk, post)
        brought(desk, post)
        while len(desk.answers()) < len(wishes) - 1:
            post.turn()
            brought(desk, post)
        for _ in range(turns):
            post.turn()
        desk.halt(len(wishes) - 1)
        desk.ask(("said",))
        rounds(desk, post, 20)
        self.assertEqual((desk.letters(), post.letters()), ([], []))
        return [answer for _, answer in desk.answers()]


class UnderWay(Case):
    def test_ahead_of_the_next_deed(self):
        for turns in range(6):
            self.assertEqual(self.halted_behind(turns, SIX, ("go", 2000)), [("halted", 0, turns), SAID[:turns]])

    def test_of_a_step_into_calls(self):
        behind = [self.halted_behind(turns, NESTED, ("go", 1), ("step", 0, "over", 2000))[1] for turns in range(7)]
        places = [("halted", 0, place) for place in (1, 4, 7, 8, 5, 6)]
        self.assertEqual(behind, places + [("step", 0, 2)])

    def test_the_hand_of_the_next_deed(self):
        self.assertEqual([self.halted_behind(turns, COUNTING, ("go", 2000))[0] for turns in range(5)],
                         [("halted", 0, 0), ("halted", 1, 2), ("halted", 0, 1), ("halted", 1, 3), ("halted", 0, 1)])

    def test_what_else_ends_it_goes_first(self):
        self.assertEqual(self.halted_behind(6, SIX, ("go", 2000)), [("over",), SAID])
        self.assertEqual(self.halted_behind(8, COUNTING, ("step", 0, "out", 2000))[0], ("ended", 0))
        self.assertEqual(self.halted_behind(2, SIX, ("go", 2)), [("paused", 0, 2), SAID[:2]])
        self.assertEqual(self.halted_behind(0, SIX, ("go", 0)), [("paused", 0, 0), []])
        self.assertEqual(self.halted_behind(1, SIX, ("step", 0, "in", 9)), [("step", 0, 1), SAID[:1]])
        self.assertEqual(self.halted_behind(2, SIX, ("stop", 2, None, None), ("go", 9)), [0, ("stop", 0, 2, 0), SAID[:2]])

    def test_no_stop_ends_it_ahead_of_its_first_deed(self):
        told = self.halted_behind(0, SIX, ("stop", 0, None, None), ("go", 9))
        self.assertEqual(told, [0, ("halted", 0, 0), []])

    def test_no_deed_is_done_behind_the_letter(self):
        desk, post = asked(SIX, ("go", 2000))
        brought(desk, post)
        post.turn()
        desk.halt(0)
        brought(desk, post)
        for _ in range(5):
            post.turn()
        self.assertIs(post.is_going(), False)
        rounds(desk, post, 3)
        self.assertEqual(desk.answers(), [(0, ("halted", 0, 1))])

    def test_what_is_behind_it_is_done(self):
        desk, post = asked(SIX, ("go", 2000), ("put", 0, 4), ("go", 1), ("said",), ("cells",), ("stack", 0))
        brought(desk, post)
        post.turn()
        post.turn()
        desk.halt(0)
        rounds(desk, post, 18)
        told = [answer for _, answer in desk.answers()]
        self.assertEqual(told, [("halted", 0, 2), None, ("paused", 0, 3), SAID[:3], [4], [(0, 3)]])

    def test_another_going_may_be_begun_where_it_ended(self):
        desk, post = asked(SIX, ("go", 2000))
        brought(desk, post)
        post.turn()
        desk.halt(0)
        rounds(desk, post, 3)
        desk.ask(("go", 2000))
        desk.ask(("said",))
        rounds(desk, post, 18)
        self.assertEqual(desk.answers(), [(0, ("halted", 0, 1)), (1, ("over",)), (2, SAID)])


class AheadOfItsBeginning(Case):
    def test_it_does_no_deed(self):
        for going, place in ((("go", 2000), 3), (("step", 0, "in", 2000), 3), (("go", 0), 3)):
            desk, post = asked(SIX, ("go", 3), going, ("said",))
            desk.halt(1)
            rounds(desk, post, 16)
            word = "paused" if going == ("go", 0) else "halted"
            self.assertEqual(desk.answers(), [(0, ("paused", 0, 3)), (1, (word, 0, place)), (2, SAID[:3])])

    def test_it_is_under_way_up_to_a_turn(self):
        desk, post = asked(SIX, ("go", 9))
        desk.halt(0)
        brought(desk, post)
        self.assertIs(post.is_going(), True)
        post.turn()
        self.assertIs(post.is_going(), False)

    def test_the_letters_in_any_order(self):
        letters = asked(SIX, ("go", 3), ("go", 2000), ("said",))[0]
        letters.halt(1)
        for order in itertools.permutations(letters.letters()):
            desk, post = asked(SIX, ("go", 3), ("go", 2000), ("said",))
            for letter in order:
                post.hear(letter)
            rounds(desk, post, 16)
            self.assertEqual(desk.answers(), [(0, ("paused", 0, 3)), (1, ("halted", 0, 3)), (2, SAID[:3])])

    def test_what_is_refused_is_refused(self):
        desk, post = asked(SIX, ("go", 2001), ("step", 1, "in", 5), ("go", 2000), ("go", 5))
        for number in (0, 1, 3):
            desk.halt(number)
        rounds(desk, post, 20)
        told = [answer for _, answer in desk.answers()]
        self.assertEqual(told, [("refused", "count"), ("refused", "hand"), ("over",), ("refused", "ended")])

    def test_a_program_without_deeds(self):
        desk, post = asked(((0,), ((0, 0, ()),), (0,)), ("go", 5), ("step", 0, "in", 5))
        desk.halt(0)
        rounds(desk, post, 12)
        self.assertEqual(desk.answers(), [(0, ("refused", "ended")), (1, ("refused", "ended"))])


class WhenItHasEnded(Case):
    def test_the_answer_did_not_come_yet(self):
        desk, post = asked(SIX, ("go", 2), ("go", 3), ("said",))
        brought(desk, post)
        for _ in range(4):
            post.turn()
        desk.halt(0)
        rounds(desk, post, 16)
        self.assertEqual(desk.answers(), [(0, ("paused", 0, 2)), (1, ("paused", 0, 5)), (2, SAID[:5])])

    def test_the_letter_comes_late_and_twice(self):
        desk, post = asked(SIX, ("go", 2), ("go", 3), ("said",))
        desk.halt(0)
        late = desk.letters()
        other, post = asked(SIX, ("go", 2), ("go", 3), ("said",))
        rounds(other, post, 4)
        for _ in range(2):
            for letter in late:
                post.hear(letter)
        rounds(other, post, 12)
        self.assertEqual(other.answers(), [(0, ("paused", 0, 2)), (1, ("paused", 0, 5)), (2, SAID[:5])])


class OneOfTwo(Case):
    def halted(self, number, turns, times=1, lost=0):
        """The answers of two goings, of which one is halted behind so many turns, by letters lost and heard again."""
        desk, post = asked(SIX, ("go", 3), ("go", 2), ("said",), ("stack", 0))
        brought(desk, post)
        for _ in range(turns):
            post.turn()
        desk.halt(number)
        for _ in range(lost):
            desk.letters()
            post.letters()
        for _ in range(times):
            for letter in reversed(desk.letters()):
                post.hear(letter)
        rounds(desk, post, 20)
        self.assertEqual((desk.letters(), post.letters()), ([], []))
        return [answer for _, answer in desk.answers()]

    def expected(self, first, second):
        told = answered(SIX, [("go", first), ("go", second), ("said",), ("stack", 0)])
        return [("halted",) + told[0][1:] if first < 3 else told[0],
                ("halted",) + told[1][1:] if second < 2 else told[1]] + told[2:]

    def test_the_first(self):
        for turns, times, lost in itertools.product(range(7), (1, 2), (0, 3)):
            self.assertEqual(self.halted(0, turns, times, lost), self.expected(min(turns, 3), 2))

    def test_the_second(self):
        for turns, times, lost in itertools.product(range(8), (1, 2), (0, 3)):
            # The first one's end takes a turn, too.
            self.assertEqual(self.halted(1, turns, times, lost), self.expected(3, min(max(turns - 4, 0), 2)))

    def test_a_lost_halt_lets_it_go_on(self):
        desk, post = asked(SIX, ("go", 2000))
        brought(desk, post)
        desk.halt(0)
        for _ in range(3):
            desk.letters()
            post.turn()
        rounds(desk, post, 8)
        self.assertEqual(desk.answers(), [(0, ("halted", 0, 3))])

    def test_a_lost_answer_is_told_again(self):
        desk, post = asked(SIX, ("go", 2000), ("said",))
        brought(desk, post)
        desk.halt(0)
        for letter in desk.letters():
            post.hear(letter)
        post.turn()
        for _ in range(3):
            post.letters()
            post.turn()
        rounds(desk, post, 8)
        self.assertEqual(desk.answers(), [(0, ("halted", 0, 0)), (1, [])])

    def test_a_desk_without_a_post_waits(self):
        desk = Desk()
        desk.ask(("go", 3))
        desk.halt(0)
        self.assertEqual((desk.answers(), desk.is_waiting()), ([], True))


if __name__ == "__main__":
    unittest.main()
