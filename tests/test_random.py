"""Programs and goings that are made by chance (always the same), against tests/slow.py."""

import unittest

from made import programs
from slow import Slow
from stopdesk.errors import Ended, NoStop
from stopdesk.machine import plain
from stopdesk.watched import Watched


class Plain(unittest.TestCase):
    def test_plain(self):
        for chance, _, program in programs(300):
            many = chance.choice((1, 5, 30, 400))
            slow = Slow(program)
            done = 0
            while done < many and slow.next_hand() is not None:
                slow.do()
                done += 1
            over = slow.next_hand() is None
            self.assertEqual(plain(program, many), (slow.said, slow.cells, over, done), program)


class Goings(unittest.TestCase):
    def test_goings(self):
        for chance, maker, program in programs(300):
            watched, slow, stops = Watched(program), Slow(program), {}
            for _ in range(25):
                self.one(chance, maker, program, (watched, slow, stops))
                self.same(watched, slow, program)

    def one(self, chance, maker, program, run):
        watched, slow, stops = run
        hand = chance.randrange(len(program[2]))
        many = chance.choice((0, 1, 2, 3, 8, 40))
        word = chance.choice(("stop", "stop", "clear", "go", "step", "step", "step", "change", "put"))
        if word == "stop" and slow.places and len(stops) < 20:
            place = chance.randrange(slow.places)
            fun = max(fun for fun, start in enumerate(slow.starts) if start <= place)
            told = (place, chance.choice((None, hand)), chance.choice((None, maker.part(fun))))
            stops[watched.stop(*told)] = told
        elif word == "clear":
            number = chance.randrange(6)
            if stops.pop(number, None) is None:
                with self.assertRaises(NoStop):
                    watched.clear(number)
            else:
                watched.clear(number)
        elif word == "go":
            self.gone(watched.go, (many,), slow, (stops, None, None, many), slow.next_hand() is None)
        elif word == "step":
            way = chance.choice(("in", "over", "out"))
            self.gone(watched.step, (hand, way, many), slow, (stops, hand, way, many), not slow.alive[hand])
        elif word == "change" and slow.frames[hand]:
            deep = chance.randrange(len(slow.frames[hand]))
            names = slow.frames[hand][deep]["names"]
            name = chance.randrange(len(names))
            names[name] = many
            watched.change(hand, deep, name, many)
        elif word == "put":
            slow.cells[0] = many
            watched.put(0, many)

    def gone(self, method, told, slow, told_slow, ended):
        if ended:
            with self.assertRaises(Ended):
                method(*told)
        else:
            self.assertEqual(method(*told), slow.going(*told_slow))

    def same(self, watched, slow, program):
        self.assertEqual(watched.cells(), slow.cells, program)
        self.assertEqual(watched.said(), slow.said, program)
        self.assertEqual(watched.is_over(), slow.next_hand() is None, program)
        for hand, frames in enumerate(slow.frames):
            self.assertEqual(watched.stack(hand), [(frame["fun"], frame["place"]) for frame in frames], program)
            looks = [watched.look(hand, deep) for deep in range(len(frames))]
            self.assertEqual(looks, [frame["names"] for frame in frames], program)


if __name__ == "__main__":
    unittest.main()
