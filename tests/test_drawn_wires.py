"""[13]: wires that are drawn by chance, always the same, against the answers of the same wishes at once."""

import unittest
from unittest import mock

from made import programs
from samples import LONG
from stopdesk.errors import NoStop
from stopdesk.machine import Machine
from stopdesk.wire import Desk, Post
from stopdesk.wishes import answered
from wires import Drawn, deeds_of, rounds


def can_be_halted(wish):
    return wish[0] in ("go", "step")


def explained(program, wishes, answers, halts):
    """The wishes, those that were halted for so many deeds as were done; None if no numbers of deeds explain all."""
    told = answered(program, wishes)
    for number, answer in enumerate(answers):
        if number in halts and isinstance(answer, tuple) and answer[0] == "halted":
            for many in range(wishes[number][-1]):
                shorter = wishes[:number] + [wishes[number][:-1] + (many,)] + wishes[number + 1:]
                if answered(program, shorter[:number + 1])[-1] != ("paused",) + answer[1:]:
                    continue
                rest = answers[:number] + [("paused",) + answer[1:]] + answers[number + 1:]
                found = explained(program, shorter, rest, halts)
                if found is not None:
                    return found
            return None
        if answer != told[number]:
            return None
    return wishes


class Wires(unittest.TestCase):
    def drawn(self, chance, maker, program, halts):
        """A desk and a post over a drawn wire, and all that was asked; halts are asked where a dict is told."""
        desk, post = Desk(), Post(program)
        wire, wishes, came = Drawn(chance, desk, post), [], []
        final = [maker.wish(program) for _ in range(chance.choice((1, 5, 20, 60)))]
        expected = answered(program, final)
        for _ in range(chance.choice((20, 100, 300))):
            act = chance.choice(("ask", "ask", "gather", "bring", "bring", "bring", "turn", "turn", "halt"))
            if act == "ask" and len(wishes) < len(final):
                self.assertEqual(desk.ask(final[len(wishes)]), len(wishes))
                wishes.append(final[len(wishes)])
            elif act == "gather":
                wire.gather()
            elif act == "bring":
                wire.bring()
            elif act == "turn":
                post.turn()
            elif act == "halt" and halts is not None and wishes:
                self.halt(desk, chance.randrange(len(wishes)), wishes, halts)
            self.instant(desk, wishes, came, None if halts is not None else expected)
            came = desk.answers()
        for wish in final[len(wishes):]:
            desk.ask(wish)
        return wire, final, expected

    def halt(self, desk, number, wishes, halts):
        if can_be_halted(wishes[number]):
            desk.halt(number)
            halts[number] = True
        else:
            with self.assertRaises(NoStop):
                desk.halt(number)

    def instant(self, desk, wishes, before, expected):
        answers = desk.answers()
        numbers = [number for number, _ in answers]
        self.assertEqual(numbers, sorted(set(numbers)))
        self.assertEqual(desk.is_waiting(), len(answers) < len(wishes))
        for pair in before:
            self.assertIn(pair, answers)
        for number, answer in answers:
            self.assertLess(number, len(wishes))
            if expected is not None:
                self.assertEqual(answer, expected[number])

    def long_ago(self, wire):
        """All letters that there ever were come again, and change nothing."""
        before = wire.desk.answers()
        with mock.patch.object(Machine, "do_next") as done:
            wire.bring_long_ago(2)
            self.assertEqual((wire.desk.answers(), wire.post.is_going()), (before, False))
            rounds(wire.desk, wire.post, 10)
            self.assertEqual((wire.desk.answers(), wire.post.is_going()), (before, False))
        done.assert_not_called()
        self.assertEqual((wire.desk.letters(), wire.post.letters()), ([], []))

    def test_the_answers_are_those_of_answered(self):
        for chance, maker, program in programs(250, seed=41):
            wire, wishes, expected = self.drawn(chance, maker, program, None)
            rounds(wire.desk, wire.post, len(wishes) + deeds_of(program, wishes) + 10)
            self.assertEqual(wire.desk.answers(), list(enumerate(expected)))
            self.assertIs(wire.desk.is_waiting(), False)
            self.assertEqual((wire.desk.letters(), wire.post.letters()), ([], []))
            self.long_ago(wire)

    def test_from_the_first_letter_on(self):
        for chance, maker, program in programs(100, seed=42):
            wishes = [maker.wish(program) for _ in range(chance.choice((0, 1, 2, 10, 60)))]
            desk, post = Desk(), Post(program)
            for wish in wishes:
                desk.ask(wish)
            rounds(desk, post, len(wishes) + deeds_of(program, wishes) + 10)
            self.assertEqual(desk.answers(), list(enumerate(answered(program, wishes))))
            self.assertEqual((desk.letters(), post.letters(), post.is_going()), ([], [], False))

    def test_halts(self):
        seen = 0
        for at, (chance, maker, program) in enumerate(programs(250, seed=43)):
            # Goings of programs made by chance are mostly too short to be halted.
            program = LONG if at % 3 == 0 else program
            halts = {}
            with mock.patch.object(Machine, "do_next", autospec=True, side_effect=Machine.do_next) as done:
                wire, wishes, _ = self.drawn(chance, maker, program, halts)
                done.reset_mock()
                many = 0
                while many < len(wishes) + done.call_count + 10:
                    rounds(wire.desk, wire.post, 1)
                    many += 1
            self.assertEqual((wire.desk.letters(), wire.post.letters()), ([], []))
            answers = [answer for _, answer in wire.desk.answers()]
            self.assertEqual(len(answers), len(wishes))
            halted = [at for at, answer in enumerate(answers) if isinstance(answer, tuple) and answer[0] == "halted"]
            self.assertLessEqual(set(halted), set(halts))
            self.assertIsNotNone(explained(program, wishes, answers, halts), (program, wishes, answers))
            seen += len(halted)
            self.long_ago(wire)
        self.assertGreater(seen, 100)


if __name__ == "__main__":
    unittest.main()
