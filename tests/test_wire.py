"""[11] and [12]: desks and posts, their numbers, turns and letters."""

import copy
import unittest

from samples import COUNTING, NESTED, SIX, num, one_fun, say
from stopdesk.errors import BadProgram, Full, NoStop
from stopdesk.wire import Desk, Post
from stopdesk.wishes import answered
from wires import asked, brought, hand_on, rounds

LISTS = (("go", 4), ("said",), ("cells",), ("stack", 0), ("look", 0, 1))


def shaken(what):
    """Changes all lists that stand in what was told, however deep."""
    if isinstance(what, (list, tuple)):
        for inner in what:
            shaken(inner)
    if isinstance(what, list):
        what.append("shaken")
        what.reverse()


class Asking(unittest.TestCase):
    def test_numbers_rise_from_0_up_to_a_full_desk(self):
        desk = Desk()
        self.assertEqual([desk.ask(("cells",)) for _ in range(60)], list(range(60)))
        for _ in range(2):
            with self.assertRaises(Full):
                desk.ask(("cells",))
        self.assertEqual(len(desk.letters()), len(asked(SIX, *[("cells",)] * 60)[0].letters()))

    def test_answered_wishes_count_too(self):
        desk, post = asked(SIX, *[("cells",)] * 60)
        rounds(desk, post, 70)
        self.assertEqual(desk.answers(), [(number, [0]) for number in range(60)])
        with self.assertRaises(Full):
            desk.ask(("cells",))
        self.assertEqual(desk.letters(), [])
        self.assertIs(desk.is_waiting(), False)

    def test_wishes_that_are_refused_are_asked_all_the_same(self):
        desk, post = asked(SIX, ("clear", 0), ("go", -1), ("go", 2001))
        self.assertEqual(desk.ask(("cells",)), 3)
        rounds(desk, post, 14)
        self.assertEqual([answer for _, answer in desk.answers()],
                         [("refused", "stop"), ("refused", "count"), ("refused", "count"), [0]])

    def test_no_program(self):
        with self.assertRaises(BadProgram) as caught:
            Post(((0,), ((0, 0, ()),), (1,)))
        self.assertEqual((caught.exception.at, caught.exception.why), (-1, "hands"))

    def test_two_desks_number_on_their_own(self):
        one, other = Desk(), Desk()
        self.assertEqual([one.ask(("cells",)), other.ask(("said",)), one.ask(("said",))], [0, 0, 1])


class Halting(unittest.TestCase):
    def test_no_such_wish(self):
        desk = Desk()
        for number in (-1, 0, 1):
            with self.assertRaises(NoStop):
                desk.halt(number)
        desk.ask(("go", 5))
        for number in (-1, 1, 60):
            with self.assertRaises(NoStop):
                desk.halt(number)
        self.assertIsNone(desk.halt(0))

    def test_another_wish(self):
        others = (("stop", 0, None, None), ("clear", 0), ("stack", 0), ("look", 0, 0), ("change", 0, 0, 0, 1),
                  ("put", 0, 1), ("cells",), ("said",))
        desk = asked(SIX, *others)[0]
        before = desk.letters()
        for number in range(len(others)):
            with self.assertRaises(NoStop):
                desk.halt(number)
        self.assertEqual(desk.letters(), before)

    def test_another_wish_that_is_answered(self):
        desk, post = asked(SIX, ("cells",))
        rounds(desk, post, 3)
        with self.assertRaises(NoStop):
            desk.halt(0)

    def test_an_answered_one(self):
        desk, post = asked(SIX, ("go", 2), ("step", 0, "in", 9), ("said",))
        rounds(desk, post, 20)
        before = desk.answers()
        for number in (0, 1, 0):
            self.assertIsNone(desk.halt(number))
            self.assertEqual(desk.letters(), [])
        self.assertEqual((desk.answers(), post.letters(), post.is_going()), (before, [], False))

    def test_again(self):
        desk = asked(SIX, ("go", 5))[0]
        desk.halt(0)
        before = desk.letters()
        self.assertIsNone(desk.halt(0))
        self.assertEqual(desk.letters(), before)
        self.assertIs(desk.is_waiting(), True)


class Answers(unittest.TestCase):
    def test_ahead_of_any_wish(self):
        desk = Desk()
        self.assertEqual((desk.answers(), desk.letters()), ([], []))
        self.assertIs(desk.is_waiting(), False)

    def test_while_some_are_out(self):
        desk, post = asked(SIX, ("cells",), ("go", 3), ("said",))
        self.assertEqual(desk.answers(), [])
        self.assertIs(desk.is_waiting(), True)
        brought(desk, post)
        brought(desk, post)
        self.assertEqual(desk.answers(), [(0, [0])])
        self.assertIs(desk.is_waiting(), True)
        rounds(desk, post, 6)
        self.assertEqual(desk.answers(), [(0, [0]), (1, ("paused", 0, 3)), (2, [(0, 1), (0, 2), (0, 3)])])
        self.assertIs(desk.is_waiting(), False)
        desk.ask(("cells",))
        self.assertIs(desk.is_waiting(), True)

    def test_rising_whichever_came_first(self):
        desk, post = asked(SIX, ("put", 0, 1), ("cells",), ("put", 0, 2), ("cells",))
        for letter in desk.letters():
            hand_on(letter, post, Desk())
        came = []
        for letter in reversed(post.letters()):
            desk.hear(letter)
            came.append(desk.answers())
        self.assertEqual(came[-1], [(0, None), (1, [1]), (2, None), (3, [2])])
        self.assertEqual([[number for number, _ in answers] for answers in came], [[3], [2, 3], [1, 2, 3], [0, 1, 2, 3]])

    def test_kinds(self):
        desk, post = asked(SIX, ("cells",), ("stop", 1, None, None))
        rounds(desk, post, 3)
        self.assertEqual((type(desk.answers()), type(desk.answers()[0])), (list, tuple))
        self.assertEqual([type(answer) for _, answer in desk.answers()], [list, int])
        self.assertIs(type(desk.ask(("cells",))), int)
        self.assertIs(type(post.is_going()), bool)
        self.assertIs(type(desk.is_waiting()), bool)
        self.assertIsNone(post.turn())


class Turns(unittest.TestCase):
    def test_nothing_without_a_going(self):
        post = Post(SIX)
        for _ in range(3):
            self.assertIsNone(post.turn())
            self.assertIs(post.is_going(), False)
            self.assertEqual(post.letters(), [])
        desk = asked(SIX, ("cells",), ("said",))[0]
        rounds(desk, post, 5)
        self.assertEqual(desk.answers(), [(0, [0]), (1, [])])

    def test_a_deed_each_and_the_end(self):
        for program, deeds in ((SIX, 6), (NESTED, 9), (COUNTING, 8)):
            desk, post = asked(program, ("go", 2000))
            brought(desk, post)
            for _ in range(deeds):
                self.assertIs(post.is_going(), True)
                self.assertEqual(post.letters(), [])
                post.turn()
            self.assertIs(post.is_going(), True)
            self.assertEqual(post.letters(), [])
            post.turn()
            self.assertIs(post.is_going(), False)
            brought(desk, post)
            self.assertEqual(desk.answers(), [(0, ("over",))])

    def test_a_going_of_no_deeds_is_ended_by_a_turn(self):
        desk, post = asked(SIX, ("go", 0), ("said",))
        brought(desk, post)
        self.assertIs(post.is_going(), True)
        post.turn()
        self.assertIs(post.is_going(), False)
        brought(desk, post)
        self.assertEqual(desk.answers(), [(0, ("paused", 0, 0)), (1, [])])

    def test_a_refused_going_is_not_under_way(self):
        desk, post = asked(SIX, ("go", 2001), ("step", 1, "in", 1), ("step", 0, "by", 1))
        brought(desk, post)
        self.assertIs(post.is_going(), False)
        brought(desk, post)
        self.assertEqual([answer[1] for _, answer in desk.answers()], ["count", "hand", "way"])

    def test_a_going_behind_another_begins_at_its_end(self):
        desk, post = asked(SIX, ("go", 1), ("go", 1))
        brought(desk, post)
        post.turn()
        post.turn()
        self.assertIs(post.is_going(), True)
        post.turn()
        post.turn()
        self.assertIs(post.is_going(), False)

    def test_a_going_holds_up_what_is_behind_it(self):
        desk, post = asked(SIX, ("go", 2), ("put", 0, 9), ("cells",), ("go", -1))
        for done in range(3):
            brought(desk, post)
            self.assertEqual(desk.answers(), [], done)
            post.turn()
        brought(desk, post)
        self.assertEqual(desk.answers(), [(0, ("paused", 0, 2)), (1, None), (2, [9]), (3, ("refused", "count"))])


class Letters(unittest.TestCase):
    def test_asked_twice_they_tell_the_same(self):
        desk, post = asked(NESTED, *LISTS, ("go", 9), ("said",))
        desk.halt(5)
        for _ in range(20):
            self.assertEqual(desk.letters(), desk.letters())
            self.assertEqual(post.letters(), post.letters())
            rounds(desk, post, 1)
        self.assertEqual((desk.letters(), post.letters()), ([], []))

    def test_kinds(self):
        desk, post = asked(NESTED, *LISTS)
        heard = [post.hear(letter) for letter in desk.letters()]
        self.assertEqual({type(told) for told in heard}, {list})
        for _ in range(5):
            post.turn()
        self.assertIs(type(post.letters()), list)
        self.assertEqual({type(desk.hear(letter)) for letter in post.letters()}, {list})

    def test_a_desk_that_nobody_hears_tells_them_again(self):
        desk, post = asked(SIX, ("go", 3), ("said",))
        desk.halt(0)
        first = desk.letters()
        for _ in range(100):
            self.assertEqual(desk.letters(), first)
        rounds(desk, post, 20)
        self.assertEqual(desk.answers(), [(0, ("halted", 0, 0)), (1, [])])

    def test_a_post_that_nobody_hears_tells_them_again(self):
        desk, post = asked(SIX, ("cells",), ("go", 1))
        for letter in desk.letters():
            post.hear(letter)
        post.turn()
        post.turn()
        first = post.letters()
        for _ in range(100):
            post.turn()
            self.assertEqual(post.letters(), first)
        rounds(desk, post, 3)
        self.assertEqual(desk.answers(), [(0, [0]), (1, ("paused", 0, 1))])
        self.assertEqual((desk.letters(), post.letters()), ([], []))

    def test_what_is_told_behind_a_letter_may_be_lost(self):
        desk, post = asked(SIX, ("cells",), ("go", 1))
        for _ in range(9):
            for letter in desk.letters():
                post.hear(letter)
            for letter in post.letters():
                desk.hear(letter)
            post.turn()
        self.assertEqual(desk.answers(), [(0, [0]), (1, ("paused", 0, 1))])
        rounds(desk, post, 10)
        self.assertEqual((desk.letters(), post.letters()), ([], []))

    def test_lists_that_were_told_may_be_changed(self):
        desk, post = asked(NESTED, *LISTS)
        expected = list(enumerate(answered(NESTED, LISTS)))
        for _ in range(20):
            shaken(desk.letters())
            shaken(post.letters())
            shaken(desk.answers())
            for letter in desk.letters():
                behind = post.hear(copy.deepcopy(letter))
                shaken(behind)
            theirs = post.letters()
            for letter in theirs:
                self.assertEqual(shaken(desk.hear(letter)), None)
            shaken(theirs)
            post.turn()
        self.assertEqual(desk.answers(), expected)
        rounds(desk, post, 10)
        self.assertEqual(desk.answers(), expected)
        self.assertEqual((desk.letters(), post.letters()), ([], []))

    def test_letters_that_are_heard_are_not_changed(self):
        desk, post = asked(NESTED, *LISTS)
        for _ in range(8):
            for here, there in ((desk, post), (post, desk)):
                for letter in here.letters():
                    before = copy.deepcopy(letter)
                    behind = there.hear(letter)
                    before_behind = copy.deepcopy(behind)
                    for other in behind:
                        here.hear(other)
                    self.assertEqual((letter, behind), (before, before_behind))
            post.turn()
        self.assertIs(desk.is_waiting(), False)

    def test_a_letter_of_long_ago_stays_as_it_was(self):
        desk, post = asked(SIX, ("cells",))
        for letter in desk.letters():
            post.hear(letter)
        first = post.letters()
        desk.ask(("put", 0, 9))
        desk.ask(("cells",))
        rounds(desk, post, 5)
        for letter in first:
            desk.hear(letter)
        self.assertEqual(desk.answers(), [(0, [0]), (1, None), (2, [9])])


class Copies(unittest.TestCase):
    def test_answers_may_be_changed(self):
        desk, post = asked(NESTED, *LISTS)
        rounds(desk, post, 20)
        before = copy.deepcopy(desk.answers())
        answers = desk.answers()
        for _, answer in answers[1:]:
            answer[0] = 99
            answer.append(1)
        answers.pop()
        self.assertEqual(desk.answers(), before)

    def test_what_was_told_stays(self):
        desk, post = asked(SIX, ("cells",), ("said",))
        rounds(desk, post, 4)
        told = desk.answers()
        for wish in (("put", 0, 5), ("go", 3)):
            desk.ask(wish)
        rounds(desk, post, 10)
        self.assertEqual(told, [(0, [0]), (1, [])])

    def test_what_is_handed_in_is_not_changed(self):
        program, wish = copy.deepcopy(NESTED), ("stop", 2, 0, ("less", num(0), num(1)))
        desk, post = asked(program, wish, ("go", 99), ("put", 0, 1))
        rounds(desk, post, 40)
        self.assertEqual((program, wish), (NESTED, ("stop", 2, 0, ("less", num(0), num(1)))))

    def test_two_posts_of_one_program_are_apart(self):
        program = one_fun(say(1), ("put", 0, num(5)), say(2))
        (desk, post), (other_desk, other) = asked(program, ("go", 2), ("cells",)), asked(program, ("cells",), ("said",))
        rounds(desk, post, 20)
        rounds(other_desk, other, 20)
        self.assertEqual(desk.answers(), [(0, ("paused", 0, 2)), (1, [5])])
        self.assertEqual(other_desk.answers(), [(0, [0]), (1, [])])


if __name__ == "__main__":
    unittest.main()
