"""[1] and the interface: what is kept and told, what is refused, and the names and kinds of it all."""

import copy
import inspect
import unittest

from samples import COUNTING, LONG, NESTED, SIX, cell, name, num
from stopdesk import machine, notes, watched, wire, wishes
from stopdesk.errors import (BadCount, BadNumber, BadPlace, BadProgram, BadText, BadWay, BadWish, DeskError, Full, NoFrame,
                             NoHand, NoStop)
from stopdesk.machine import plain
from stopdesk.notes import read, written
from stopdesk.watched import Watched
from stopdesk.wire import Desk, Post
from stopdesk.wishes import answered
from wires import asked, rounds

METHODS = {
    "stop": ("place", "hand", "wish"),
    "clear": ("number",),
    "change": ("hand", "deep", "name", "number"),
    "put": ("cell", "number"),
    "go": ("many",),
    "step": ("hand", "way", "many"),
    "stack": ("hand",),
    "look": ("hand", "deep"),
    "cells": (),
    "said": (),
    "is_over": (),
}
METHODS_OF_POST = {"turn": (), "is_going": (), "letters": (), "hear": ("what",)}
METHODS_OF_DESK = {"ask": ("wish",), "halt": ("number",), "answers": (), "letters": (), "hear": ("what",),
                   "is_waiting": ()}
FUNCTIONS = ((machine, "plain", ["program", "many"]), (wishes, "answered", ["program", "wishes"]),
             (notes, "written", ["program"]), (notes, "read", ["text"]))
CLASSES = ((watched, "Watched", ["program"], METHODS), (wire, "Post", ["program"], METHODS_OF_POST),
           (wire, "Desk", [], METHODS_OF_DESK))
# Wishes of each word, of which some are refused.
WISHES = (("stop", 3, None, ("less", cell(0), num(7))), ("stop", 99, None, None), ("go", 4), ("cells",), ("said",),
          ("stack", 0), ("look", 0, 0), ("change", 0, 0, 0, 3), ("put", 0, 6), ("step", 0, "over", 5), ("clear", 0),
          ("clear", 0), ("go", 2000), ("said",), ("cells",))


def seen(desk, hands=1):
    """All that can be asked of a Watched."""
    stacks = [desk.stack(hand) for hand in range(hands)]
    looks = [[desk.look(hand, deep) for deep in range(len(stacks[hand]))] for hand in range(hands)]
    return stacks, looks, desk.cells(), desk.said(), desk.is_over()


class Interface(unittest.TestCase):
    def test_classes_and_their_methods(self):
        for module, word, told, methods in CLASSES:
            made = vars(module)[word]
            self.assertTrue(inspect.isclass(made))
            self.assertEqual(made.__module__, module.__name__)
            self.assertEqual(list(inspect.signature(made).parameters), told)
            for method, handed in methods.items():
                with self.subTest(method):
                    self.assertIn(method, vars(made))
                    self.assertEqual(tuple(inspect.signature(vars(made)[method]).parameters), ("self",) + handed)

    def test_functions(self):
        for module, word, told in FUNCTIONS:
            made = vars(module)[word]
            self.assertTrue(inspect.isfunction(made))
            self.assertEqual(made.__module__, module.__name__)
            self.assertEqual(list(inspect.signature(made).parameters), told)

    def test_kinds(self):
        desk = Watched(NESTED)
        self.assertIs(type(desk.stop(8, None, None)), int)
        self.assertIsNone(desk.clear(0))
        self.assertIs(type(desk.go(3)), tuple)
        self.assertIs(type(desk.step(0, "in", 1)), tuple)
        self.assertIs(type(desk.stack(0)), list)
        self.assertEqual({type(row) for row in desk.stack(0)}, {tuple})
        self.assertIs(type(desk.look(0, 1)), list)
        self.assertIs(type(desk.cells()), list)
        self.assertIs(type(desk.said()), list)
        self.assertEqual({type(row) for row in desk.said()}, {tuple})
        self.assertIs(type(desk.is_over()), bool)
        self.assertIsNone(desk.change(0, 0, 0, 1))
        self.assertIsNone(desk.put(0, 1))

    def test_kinds_of_the_other_modules(self):
        self.assertIs(type(answered(NESTED, [("cells",)])), list)
        self.assertIs(type(written(NESTED)), str)
        self.assertIs(type(read(written(NESTED))), tuple)
        desk, post = Desk(), Post(NESTED)
        self.assertIs(type(desk.ask(("go", 3))), int)
        self.assertIsNone(desk.halt(0))
        for told in (desk.answers(), desk.letters(), post.letters(), post.hear(desk.letters()[0])):
            self.assertIs(type(told), list)
        self.assertIs(desk.is_waiting(), True)
        self.assertIs(post.is_going(), True)
        self.assertIsNone(post.turn())

    def test_place_of_a_bad_text(self):
        with self.assertRaises(BadText) as caught:
            read("cells 1 x")
        self.assertEqual(vars(caught.exception), {"place": 2})
        self.assertNotIsInstance(caught.exception, BadProgram)

    def test_numbers_that_are_told_are_no_truths(self):
        desk = Watched(((0,), ((0, 1, (("set", 0, ("same", num(1), num(1))), ("put", 0, ("less", num(0), num(1))),
                                       ("say", ("same", num(0), num(0))))),), (0,)))
        desk.go(2)
        self.assertIs(type(desk.look(0, 0)[0]), int)
        self.assertIs(type(desk.cells()[0]), int)
        desk.go(1)
        self.assertIs(type(desk.said()[0][1]), int)


class Copies(unittest.TestCase):
    def test_what_is_handed_in_is_not_changed(self):
        for program in (NESTED, COUNTING, SIX):
            before = copy.deepcopy(program)
            plain(program, 2000)
            desk = Watched(program)
            wish = ("less", cell(0), num(2))
            desk.stop(1, None, wish)
            desk.put(0, 3)
            desk.go(2000)
            self.assertEqual(wish, ("less", ("cell", 0), ("num", 2)))
            self.assertEqual(program, before)
            self.assertEqual(plain(program, 2000), plain(before, 2000))

    def test_two_of_one_program_are_apart(self):
        one, other = Watched(NESTED), Watched(NESTED)
        one.put(0, 4)
        one.change(0, 0, 0, 7)
        one.stop(1, None, None)
        one.go(4)
        self.assertEqual(seen(other), seen(Watched(NESTED)))
        self.assertEqual(other.stop(2, None, None), 0)

    def test_what_is_told_may_be_changed(self):
        desk = Watched(NESTED)
        desk.go(4)
        before = seen(desk)
        for told in (desk.stack(0), desk.look(0, 0), desk.look(0, 1), desk.cells(), desk.said()):
            told[0] = 99
            told.append(5)
            self.assertEqual(seen(desk), before)
            told.clear()
            self.assertEqual(seen(desk), before)
        desk.go(99)
        self.assertEqual(desk.said(), plain(NESTED, 99)[0])

    def test_what_plain_tells_may_be_changed(self):
        said, cells, _, _ = plain(NESTED, 99)
        said.append(1)
        cells[0] = 77
        self.assertEqual(plain(NESTED, 99), ([(0, 5), (0, 12), (0, 6)], [6], True, 9))

    def test_what_was_told_stays(self):
        desk = Watched(NESTED)
        before = seen(desk)
        kept = copy.deepcopy(before)
        desk.put(0, 1)
        desk.change(0, 0, 0, 1)
        desk.go(5)
        self.assertEqual(before, kept)

    def test_what_is_asked_again_is_the_same(self):
        desk = Watched(COUNTING)
        desk.go(4)
        self.assertEqual(seen(desk, 2), seen(desk, 2))


def all_told(program):
    """What all the parts of the package tell of a program."""
    desk, post = asked(program, *WISHES)
    rounds(desk, post, 60)
    return [list(plain(program, 50)), answered(program, list(WISHES)), desk.answers(), written(program),
            list(seen(Watched(program)))]


def emptied(what):
    """Empties all lists that stand in what was told."""
    if isinstance(what, (list, tuple)):
        for inner in what:
            emptied(inner)
    if isinstance(what, list):
        what.clear()


class ToldAgain(unittest.TestCase):
    def test_with_another_program_between(self):
        for program in (NESTED, COUNTING, SIX, LONG):
            first = all_told(program)
            kept = copy.deepcopy(first)
            for other in (LONG, SIX, NESTED):
                emptied(all_told(other))
                self.assertEqual(all_told(program), kept)
            self.assertEqual(first, kept)
            emptied(first)
            self.assertEqual(all_told(program), kept)

    def test_of_another_program_that_is_equal(self):
        for program in (NESTED, COUNTING):
            emptied(all_told(program))
            self.assertEqual(all_told(read(written(program))), all_told(program))

    def test_side_by_side(self):
        expected = list(enumerate(answered(NESTED, list(WISHES))))
        pairs = [asked(NESTED, *WISHES) for _ in range(3)]
        watched_one = Watched(NESTED)
        for turn in range(60):
            for at, (desk, post) in enumerate(pairs):
                if turn % (at + 1) == 0:
                    rounds(desk, post, 1)
            if turn < 9:
                watched_one.go(1)
        for desk, post in pairs:
            rounds(desk, post, 60)
            self.assertEqual(desk.answers(), expected)
        self.assertEqual(watched_one.said(), plain(NESTED, 2000)[0])

    def test_what_the_wire_says_is_what_is_said_unwatched(self):
        for program in (NESTED, COUNTING, SIX, LONG):
            watching = [("stop", place, None, None) for place in range(4)]
            watching += [("go", 2000), ("stack", 0), ("step", 0, "over", 3), ("cells",)] * 3
            watching += [("clear", number) for number in range(4)] + [("go", 2000), ("said",), ("cells",)]
            desk, post = asked(program, *watching)
            rounds(desk, post, 2000)
            self.assertEqual([answer for _, answer in desk.answers()][-2:], list(plain(program, 2000)[:2]))


class Refusals(unittest.TestCase):
    def test_what_a_desk_refuses_changes_nothing(self):
        desk, post = asked(SIX, ("cells",), ("go", 3))
        rounds(desk, post, 2)
        before = (desk.answers(), desk.letters(), post.letters(), desk.is_waiting(), post.is_going())
        for number in (-1, 0, 2):
            with self.assertRaises(NoStop):
                desk.halt(number)
        self.assertEqual((desk.answers(), desk.letters(), post.letters(), desk.is_waiting(), post.is_going()), before)
        self.assertEqual(desk.ask(("said",)), 2)
        rounds(desk, post, 15)
        self.assertEqual(desk.answers(), [(0, [0]), (1, ("paused", 0, 3)), (2, [(0, 1), (0, 2), (0, 3)])])

    def test_what_is_refused_changes_nothing(self):
        desk = Watched(NESTED)
        desk.stop(8, None, None)
        desk.go(3)
        before = seen(desk)
        for refusal, method, told in (
                (BadPlace, "stop", (9, None, None)), (NoHand, "stop", (0, 1, None)), (BadWish, "stop", (0, None, name(2))),
                (NoStop, "clear", (1,)), (BadCount, "go", (2001,)), (NoHand, "step", (1, "in", 1)),
                (BadWay, "step", (0, "at", 1)), (BadCount, "step", (0, "in", -1)), (NoHand, "stack", (1,)),
                (NoHand, "look", (1, 0)), (NoFrame, "look", (0, 3)), (NoHand, "change", (1, 0, 0, 1)),
                (NoFrame, "change", (0, 3, 0, 1)), (NoFrame, "change", (0, 0, 1, 1)),
                (BadNumber, "change", (0, 0, 0, 10007)), (NoFrame, "put", (1, 1)), (BadNumber, "put", (0, -1))):
            with self.subTest(method=method, told=told):
                with self.assertRaises(refusal):
                    getattr(desk, method)(*told)
                self.assertEqual(seen(desk), before)
        self.assertEqual(desk.stop(1, None, None), 1)
        self.assertEqual(desk.go(9), ("stop", 0, 8, 0))
        self.assertEqual(desk.go(9), ("over",))

    def test_full_changes_nothing(self):
        desk = Watched(SIX)
        for _ in range(20):
            desk.stop(5, None, None)
        with self.assertRaises(Full):
            desk.stop(1, None, None)
        self.assertEqual(desk.go(9), ("stop", 0, 5, 0))

    def test_each_is_a_desk_error_and_a_value_error(self):
        for make in (DeskError, ValueError):
            with self.assertRaises(make):
                plain(SIX, -1)


class SaysTheSame(unittest.TestCase):
    def test_with_stops_steps_and_looks(self):
        for program, hands, places in ((NESTED, 1, 9), (COUNTING, 2, 6), (SIX, 1, 6)):
            for way in ("in", "over", "out"):
                for many in (0, 1, 2, 7):
                    desk = Watched(program)
                    for place in range(places):
                        desk.stop(place, None, None if place > 3 else cell(0))
                    while not desk.is_over():
                        for hand in range(hands):
                            if desk.stack(hand):
                                desk.step(hand, way, many)
                                seen(desk, hands)
                        if not desk.is_over():
                            desk.go(1)
                    told = (desk.said(), desk.cells(), desk.is_over())
                    self.assertEqual(told, plain(program, 2000)[:3])


if __name__ == "__main__":
    unittest.main()
