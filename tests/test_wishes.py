"""[10]: wishes, and how they are answered."""

import copy
import unittest

from made import programs
from samples import COUNTING, NESTED, SIX, cell, name, num
from stopdesk.errors import (BadCount, BadNumber, BadPlace, BadProgram, BadWay, BadWish, DeskError, Ended, Full, NoFrame,
                             NoHand, NoStop)
from stopdesk.watched import Watched
from stopdesk.wishes import answered

NO_PROGRAM = ((), ((0, 0, ()),), (0,))
WORDS = {BadCount: "count", BadNumber: "number", BadPlace: "place", BadWay: "way", BadWish: "wish", Ended: "ended",
         Full: "full", NoFrame: "frame", NoHand: "hand", NoStop: "stop"}


def told(watched, wish):
    """What a Watched tells of a wish, its refusals as wishes tell them."""
    try:
        return getattr(watched, wish[0])(*wish[1:])
    except DeskError as refused:
        return ("refused", WORDS[type(refused)])


class Case(unittest.TestCase):
    def answers(self, program, *pairs):
        """Each pair is a wish and its answer."""
        answers = answered(program, [wish for wish, _ in pairs])
        self.assertEqual(answers, [answer for _, answer in pairs])
        self.assertEqual([type(answer) for answer in answers], [type(answer) for _, answer in pairs])

    def refused(self, word, wish, *ahead, program=NESTED):
        self.assertEqual(answered(program, list(ahead) + [wish])[-1], ("refused", word))


class Wishes(Case):
    def test_each_wish(self):
        self.answers(
            NESTED,
            (("stop", 7, None, None), 0),
            (("stop", 4, 0, ("same", name(0), num(5))), 1),
            (("go", 2000), ("stop", 0, 4, 1)),
            (("clear", 1), None),
            (("stack", 0), [(1, 4), (0, 1)]),
            (("look", 0, 0), [5, 0]),
            (("change", 0, 0, 0, 8), None),
            (("look", 0, 0), [8, 0]),
            (("look", 0, 1), [5, 0]),
            (("put", 0, 77), None),
            (("cells",), [77]),
            (("step", 0, "over", 2000), ("stop", 0, 7, 0)),
            (("step", 0, "out", 2000), ("step", 0, 5)),
            (("step", 0, "in", 2000), ("step", 0, 6)),
            (("said",), [(0, 8)]),
            (("cells",), [9]),
            (("go", 2000), ("over",)),
            (("said",), [(0, 8), (0, 18), (0, 9)]),
            (("stack", 0), []),
        )

    def test_what_ends_a_going(self):
        self.answers(COUNTING, (("go", 3), ("paused", 1, 3)), (("step", 1, "in", 0), ("paused", 1, 3)),
                     (("step", 0, "out", 99), ("ended", 0)), (("go", 99), ("over",)))

    def test_an_empty_list(self):
        self.assertEqual(answered(NESTED, []), [])

    def test_lists_are_told_as_lists(self):
        answers = answered(SIX, [("go", 1), ("said",), ("cells",), ("stack", 0), ("look", 0, 0)])
        self.assertEqual([type(answer) for answer in answers], [tuple, list, list, list, list])
        self.assertEqual([type(answers[1][0]), type(answers[3][0])], [tuple, tuple])

    def test_what_a_watched_tells(self):
        seen = set()
        for _, maker, program in programs(400, seed=31):
            wishes = [maker.wish(program) for _ in range(40)]
            watched = Watched(program)
            expected = [told(watched, wish) for wish in wishes]
            self.assertEqual(answered(program, wishes), expected, (program, wishes))
            seen.update(answer[:2] for answer in expected if isinstance(answer, tuple) and answer[0] == "refused")
            seen.update(answer[:1] for answer in expected if isinstance(answer, tuple) and answer[0] != "refused")
        self.assertLessEqual({("refused", word) for word in WORDS.values() if word != "full"}, seen)
        self.assertLessEqual({("over",), ("ended",), ("stop",), ("step",), ("paused",)}, seen)


class Refusals(Case):
    def test_count(self):
        for many in (-1, 2001, 10007):
            self.refused("count", ("go", many))
            self.refused("count", ("step", 0, "in", many))

    def test_number(self):
        for number in (-1, 10007):
            self.refused("number", ("put", 0, number))
            self.refused("number", ("change", 0, 0, 0, number))

    def test_place(self):
        for place in (-1, 9):
            self.refused("place", ("stop", place, None, None))

    def test_way(self):
        for way in ("", "up", "In"):
            self.refused("way", ("step", 0, way, 1))

    def test_wish(self):
        for wish in (name(2), cell(1), num(10007), ("and", num(1), num(1)), ("add", num(1)), 5, "n0", (), True):
            self.refused("wish", ("stop", 0, None, wish))

    def test_ended(self):
        self.refused("ended", ("go", 1), ("go", 2000))
        self.refused("ended", ("step", 0, "in", 1), ("go", 2000))
        self.refused("ended", ("step", 0, "in", 1), ("go", 10), program=COUNTING)

    def test_full(self):
        twenty = [("stop", 0, None, None)] * 20
        self.refused("full", ("stop", 0, None, None), *twenty)
        self.assertEqual(answered(NESTED, twenty + [("clear", 3), ("stop", 0, None, None)])[-2:], [None, 20])

    def test_frame(self):
        for wish in (("look", 0, 1), ("look", 0, -1), ("change", 0, 1, 0, 0), ("change", 0, 0, 2, 0),
                     ("change", 0, 0, -1, 0), ("put", 1, 0), ("put", -1, 0)):
            self.refused("frame", wish)
        self.refused("frame", ("look", 0, 0), ("go", 2000))

    def test_hand(self):
        for hand in (-1, 1):
            for wish in (("stop", 0, hand, None), ("step", hand, "in", 1), ("stack", hand), ("look", hand, 0),
                         ("change", hand, 0, 0, 0)):
                self.refused("hand", wish)

    def test_stop(self):
        for number in (-1, 0, 1):
            self.refused("stop", ("clear", number))
        self.refused("stop", ("clear", 0), ("stop", 0, None, None), ("clear", 0))

    def test_the_first_of_two_as_told(self):
        self.refused("place", ("stop", 9, 1, name(2)))
        self.refused("hand", ("stop", 0, 1, name(2)))
        self.refused("wish", ("stop", 0, None, name(2)), *[("stop", 0, None, None)] * 20)
        self.refused("hand", ("step", 1, "up", -1), ("go", 2000))
        self.refused("way", ("step", 0, "up", -1), ("go", 2000))
        self.refused("count", ("step", 0, "in", -1), ("go", 2000))
        self.refused("count", ("go", -1), ("go", 2000))
        self.refused("hand", ("change", 1, 5, 5, -1))
        self.refused("frame", ("change", 0, 5, 0, -1))
        self.refused("frame", ("change", 0, 0, 5, -1))
        self.refused("frame", ("put", 1, -1))
        self.refused("hand", ("look", 1, 5))

    def test_what_is_refused_changes_nothing(self):
        wishes = [("stop", 8, None, None), ("go", 3), ("cells",), ("look", 0, 0), ("go", 9), ("go", 99), ("said",)]
        refused = [("stop", 9, None, None), ("stop", 0, 1, None), ("stop", 0, None, name(2)), ("clear", 7), ("go", 2001),
                   ("step", 1, "in", 1), ("step", 0, "at", 1), ("step", 0, "in", -1), ("stack", 1), ("look", 0, 7),
                   ("change", 0, 0, 0, 10007), ("change", 0, 0, 9, 1), ("put", 1, 1), ("put", 0, -1)]
        mixed = [wish for plain in wishes for wish in refused + [plain]]
        answers = answered(NESTED, mixed)
        kept = [answer for answer in answers if not isinstance(answer, tuple) or answer[0] != "refused"]
        self.assertEqual(kept, answered(NESTED, wishes))
        self.assertEqual(len(answers) - len(kept), len(refused) * len(wishes))

    def test_no_program_is_refused_ahead_of_all(self):
        for wishes in ([], [("go", 1)], [("go", 2001), ("clear", 0)]):
            with self.assertRaises(BadProgram) as caught:
                answered(NO_PROGRAM, wishes)
            self.assertEqual((caught.exception.at, caught.exception.why), (-1, "cells"))


class Copies(Case):
    def test_what_is_handed_in_is_not_changed(self):
        wishes = [("stop", 3, 0, ("less", cell(0), num(9))), ("put", 0, 2), ("go", 2000), ("change", 0, 0, 0, 1),
                  ("clear", 0), ("cells",), ("said",), ("go", -1)]
        program = copy.deepcopy(NESTED)
        kept = copy.deepcopy(wishes)
        answered(program, wishes)
        self.assertEqual(wishes, kept)
        self.assertEqual(program, NESTED)

    def test_answers_may_be_changed(self):
        wishes = [("go", 4), ("cells",), ("said",), ("stack", 0), ("look", 0, 0), ("cells",)]
        answers = answered(NESTED, wishes)
        before = copy.deepcopy(answers)
        for answer in answers[1:5]:
            answer[0] = 99
            answer.clear()
        self.assertEqual(answers[5], before[5])
        self.assertEqual(answered(NESTED, wishes), before)
        answers.clear()
        self.assertEqual(answered(NESTED, wishes), before)


if __name__ == "__main__":
    unittest.main()
