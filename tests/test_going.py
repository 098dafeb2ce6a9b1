"""Point 1304: devices that go through programs, and whether these are right."""

import random
import unittest

from tensorworks.errors import DeviceError, FeedError, FormError, KindError, ProgramError, RangeError
from tensorworks.going import is_right, run_programs
from tensorworks.meaning import evaluate
from tensorworks.pieces import peaks_of, programs_of
from tests import naive_going
from tests.helpers import const, error_of, graph_of, random_feeds, scalar, tensor
from tests.shared_graphs import full_devices, random_sharing

CHAIN = graph_of([scalar(0, 9), ("neg", (0,), ()), ("add", (0, 1), ())])
TWO = programs_of(CHAIN, ((0, 1), (2,)), 2, (0, 1))
WIRE = ((9, 9), ((0, 1, 9),))


def without(program, at):
    return program[:at] + program[at + 1:]


class Right(unittest.TestCase):
    def check(self, expected, programs, devices=WIRE, graph=CHAIN):
        self.assertIs(is_right(graph, devices, programs), expected, programs)
        again = error_of(run_programs, graph, devices, programs, ((4,),) * (graph[0][0][0] == "input"), tuple(range(len(devices[0]))))
        self.assertIs(again, None if expected else ProgramError)

    def test_programs_as_made(self):
        self.check(True, TWO)
        self.check(True, TWO + ((),), ((9, 9, 0), ((0, 1, 9),)))

    def test_number_of_programs(self):
        self.check(False, TWO[:1])
        self.check(False, TWO + ((),))
        self.check(False, ())
        self.check(True, ((("make", 0), ("make", 1), ("make", 2)),), ((3,), ()))

    def test_forms(self):
        for step in (
                (), ("make",), ("make", 3), ("make", -1), ("make", 0, 0), ("drop",), ("drop", 9), ("drop", 0, 0), ("send", 0), ("send",),
                ("send", 0, 2), ("send", 0, -1), ("send", 9, 1), ("send", 0, 1, 1), ("take", 0), ("take", 0, 2), ("take", -1, 0),
                ("take", 0, 0, 0), ("go", 0), ("Make", 0), ("", 0), ("makes", 0)):
            self.check(False, (TWO[0] + (step,), TWO[1]))

    def test_make(self):
        one = ((9,), ())
        self.check(True, ((("make", 0), ("make", 1), ("make", 2)),), one)
        self.check(False, ((("make", 0), ("make", 2), ("make", 1)),), one)
        self.check(False, ((("make", 0), ("make", 1), ("drop", 0), ("make", 2)),), one)
        self.check(False, ((("make", 0), ("make", 0), ("make", 1), ("make", 2)),), one)
        self.check(True, ((("make", 0), ("drop", 0), ("make", 0), ("make", 1), ("make", 2)),), one)
        self.check(False, ((("make", 0), ("make", 1)),), one)

    def test_making_on_both(self):
        """The same node may be made on two devices, and what one made may be taken by the other if it does not hold it."""
        self.check(True, ((("make", 0), ("make", 1)), (("make", 0), ("make", 1), ("make", 2))))
        self.check(False, ((("make", 0), ("send", 0, 1)), (("make", 0), ("make", 1), ("make", 2), ("take", 0, 0))))
        self.check(True, ((("make", 0), ("send", 0, 1)), (("make", 0), ("make", 1), ("make", 2), ("drop", 0), ("take", 0, 0))))

    def test_send_and_take(self):
        first, second = TWO
        self.check(False, (without(first, 1), second))
        self.check(False, (first, without(second, 0)))
        self.check(False, (first[:1] + first[1:2] * 2 + first[2:], second))
        self.check(False, (first[:2] + (first[3], first[2]) + first[4:], second))
        self.check(False, ((first[1], first[0]) + first[2:], second))
        self.check(False, (first, (second[1], second[0]) + second[2:]))
        self.check(False, ((("make", 0), ("make", 1), ("send", 1, 1), ("send", 0, 1)), second))
        self.check(False, ((("make", 0), ("make", 1), ("send", 0, 0), ("send", 0, 1), ("send", 1, 1)), second))
        self.check(False, (first, (("take", 0, 1),) + second))

    def test_a_message_that_is_left(self):
        self.check(False, (TWO[0][:-1] + (("send", 1, 1), TWO[0][-1]), TWO[1]))
        self.check(False, (TWO[0][:-1] + (("send", 1, 1), TWO[0][-1]), TWO[1]), ((9, 9), ((0, 1, 99),)))

    def test_drop(self):
        first, second = TWO
        self.check(False, (first + (("drop", 0),), second))
        self.check(False, (first, second + (("drop", 2),)))
        self.check(True, (without(first, 4), without(second, 3)))
        self.check(True, (first[:4], second[:3]))
        self.check(False, ((("drop", 0),) + first, second))

    def test_waiting_for_ever(self):
        self.check(False, TWO, ((9, 9), ()))
        self.check(False, TWO, ((9, 9), ((1, 0, 9),)))
        self.check(True, TWO, ((9, 9), ((0, 1, 9), (1, 0, 9))))
        # Each one waits for the other.
        nodes = graph_of([scalar(0, 9), scalar(0, 9), ("add", (0, 1), ()), ("sub", (0, 1), ())], 2, 3)
        both = ((9, 9), ((0, 1, 9), (1, 0, 9)))
        good = (
            (("make", 0), ("send", 0, 1), ("take", 1, 1), ("make", 2)), (("make", 1), ("send", 1, 0), ("take", 0, 0), ("make", 3)))
        bad = (
            (("make", 0), ("take", 1, 1), ("send", 0, 1), ("make", 2)), (("make", 1), ("take", 0, 0), ("send", 1, 0), ("make", 3)))
        self.assertTrue(is_right(nodes, both, good))
        self.assertFalse(is_right(nodes, both, bad))
        self.assertFalse(is_right(nodes, ((9, 9), ((0, 1, 9),)), good))
        self.assertIs(error_of(run_programs, nodes, both, bad, ((1,), (2,)), (0, 1)), ProgramError)
        self.assertEqual(run_programs(nodes, both, good, ((1,), (2,)), (0, 1)), (((3,), (-1,)), (3, 3)))

    def test_room_on_the_way(self):
        """Two messages of 4 words: with room for one the sender waits until the first one is taken."""
        graph = graph_of([tensor("k4"), ("neg", (0,), ()), ("add", (0, 1), ())])
        sender = (("make", 0), ("make", 1), ("send", 0, 1), ("send", 1, 1))
        taker = (("take", 0, 0), ("take", 1, 0), ("make", 2))
        for room, expected in ((3, False), (4, True), (7, True), (8, True)):
            devices = ((8, 12), ((0, 1, room),))
            self.assertIs(is_right(graph, devices, (sender, taker)), expected)
        # The other way round a sender that must send twice before the other one takes needs room for both.
        circle = (("make", 0), ("make", 1), ("send", 0, 1), ("send", 1, 1), ("send", 0, 1)), (("take", 0, 0), ("take", 1, 0), ("drop", 0), ("take", 0, 0), ("make", 2))
        self.assertTrue(is_right(graph, ((8, 12), ((0, 1, 4),)), circle))
        back = (
            (("make", 0), ("make", 1), ("send", 0, 1), ("send", 1, 1), ("take", 2, 1)),
            (("make", 0), ("make", 1), ("make", 2), ("send", 2, 0), ("drop", 0), ("drop", 1), ("take", 0, 0), ("take", 1, 0)))
        for room, other, expected in ((7, 4, True), (4, 4, True), (8, 3, False), (3, 4, False)):
            self.assertIs(is_right(graph, ((12, 12), ((0, 1, room), (1, 0, other))), back), expected)
        waits = ((("make", 0), ("make", 1), ("send", 0, 1), ("send", 1, 1), ("make", 2), ("send", 2, 1)),
                 (("make", 0), ("take", 2, 0), ("make", 1)))
        self.assertFalse(is_right(graph, ((12, 12), ((0, 1, 99),)), waits))

    def test_waiting_for_room_in_a_circle(self):
        graph = graph_of([tensor("k4"), tensor("k4"), ("add", (0, 1), ())])
        one = (("make", 0), ("send", 0, 1), ("drop", 0), ("make", 0), ("send", 0, 1), ("take", 1, 1), ("make", 2))
        other = (("make", 1), ("send", 1, 0), ("drop", 1), ("make", 1), ("take", 0, 0), ("drop", 0), ("take", 0, 0))
        for room, expected in ((8, True), (4, True), (3, False)):
            self.assertIs(is_right(graph, ((12, 8), ((0, 1, room), (1, 0, 4))), (one, other)), expected)
        both = (("make", 0), ("send", 0, 1), ("drop", 0), ("make", 0), ("send", 0, 1), ("take", 1, 1), ("make", 2), ("drop", 1), ("take", 1, 1))
        mirror = (("make", 1), ("send", 1, 0), ("drop", 1), ("make", 1), ("send", 1, 0), ("take", 0, 0), ("drop", 0), ("take", 0, 0))
        for room, expected in ((8, True), (7, False), (4, False)):
            self.assertIs(is_right(graph, ((12, 8), ((0, 1, room), (1, 0, room))), (both, mirror)), expected)
        self.assertTrue(is_right(graph, ((12, 8), ((0, 1, 8), (1, 0, 7))), (both, mirror)))

    def test_memory(self):
        for memories, expected in (((2, 3), True), ((1, 3), False), ((2, 2), False), ((65536, 65536), True), ((0, 3), False)):
            self.check(expected, TWO, (memories, ((0, 1, 9),)))

    def test_outputs(self):
        """An output is held by any device at the end; it may be dropped on others."""
        self.check(False, (TWO[0], TWO[1] + (("drop", 2),)))
        devices = ((9, 9), ((0, 1, 9), (1, 0, 9)))
        self.check(True, (TWO[0] + (("take", 2, 1),), TWO[1] + (("send", 2, 0), ("drop", 2))), devices)
        self.check(False, (TWO[0] + (("take", 2, 1), ("drop", 2)), TWO[1] + (("send", 2, 0), ("drop", 2))), devices)

    def test_more_than_needed(self):
        """A program may make what nothing needs."""
        graph = graph_of([scalar(0, 9), const("", 3), ("neg", (0,), ())], 2)
        self.assertTrue(is_right(graph, ((9,), ()), ((("make", 0), ("make", 2)),)))
        self.assertTrue(is_right(graph, ((9,), ()), ((("make", 1), ("make", 0), ("make", 2)),)))


class Random(unittest.TestCase):
    def test_right_programs(self):
        for seed in range(60):
            graph, pieces, many, assignment = random_sharing(seed)
            programs = programs_of(graph, pieces, many, assignment)
            peaks = peaks_of(graph, pieces, many, assignment)
            devices = (peaks, full_devices(many)[1])
            self.assertTrue(is_right(graph, devices, programs))
            chance = random.Random(seed)
            self.assertEqual(naive_going.go(graph, devices, programs, chance), peaks)
            feeds = random_feeds(graph, seed)
            for _ in range(3):
                order = [chance.randrange(many) for _ in range(chance.randint(0, 5))] + list(range(many))
                chance.shuffle(order)
                self.assertEqual(run_programs(graph, devices, programs, feeds, tuple(order)), (evaluate(graph, feeds), peaks))
            for k in range(many):
                if peaks[k]:
                    less = (peaks[:k] + (peaks[k] - 1,) + peaks[k + 1:], devices[1])
                    self.assertFalse(is_right(graph, less, programs))

    def test_changed_programs(self):
        """Programs with an instruction left out, doubled, exchanged or of another node, device or kind."""
        right = 0
        for seed in range(700):
            graph, pieces, many, assignment = random_sharing(seed % 70, 6)
            chance = random.Random(seed)
            programs = [list(program) for program in programs_of(graph, pieces, many, assignment)]
            own = chance.choice([k for k in range(many) if programs[k]])
            at = chance.randrange(len(programs[own]))
            word, *numbers = programs[own][at]
            how = chance.randrange(6)
            if how == 0:
                del programs[own][at]
            elif how == 1:
                programs[own].insert(chance.randrange(len(programs[own]) + 1), programs[own][at])
            elif how == 2:
                other = chance.randrange(len(programs[own]))
                programs[own][at], programs[own][other] = programs[own][other], programs[own][at]
            elif how == 3:
                programs[own][at] = (word, chance.randrange(6), *numbers[1:])
            elif how == 4:
                programs[own][at] = (word, numbers[0], *[chance.randrange(many) for _ in numbers[1:]])
            else:
                programs[own][at] = (chance.choice(("make", "drop", "send", "take")), *numbers)
            programs = tuple(tuple(program) for program in programs)
            devices = full_devices(many, 30, chance.randint(1, 30))
            expected = naive_going.is_right(graph, devices, programs, chance)
            self.assertIs(is_right(graph, devices, programs), expected, (seed, programs))
            right += expected
        self.assertTrue(60 < right < 500, right)


class Running(unittest.TestCase):
    def test_values(self):
        self.assertEqual(run_programs(CHAIN, WIRE, TWO, ((4,),), (0, 1)), (((0,),), (2, 3)))
        graph = graph_of(list(CHAIN[0]), 1, 2, 1, 0)
        programs = programs_of(graph, ((0, 1), (2,)), 2, (0, 1))
        self.assertEqual(run_programs(graph, WIRE, programs, ((4,),), (1, 1, 0)), (((-4,), (0,), (-4,), (4,)), (2, 3)))

    def test_peaks_are_told_for_unused_devices(self):
        devices = ((9, 9, 9), ((0, 1, 9),))
        self.assertEqual(run_programs(CHAIN, devices, TWO + ((),), ((4,),), (2, 0, 1))[1], (2, 3, 0))

    def test_order(self):
        for order in ((), (0,), (1,), (1, 1), (0, 1, 2), (0, 1, -1), (2,), (-1, 0)):
            self.assertIs(error_of(run_programs, CHAIN, WIRE, TWO, ((4,),), order), RangeError)
        for order in ((0, 1), (1, 0), (1, 1, 1, 0), (0, 0, 1, 0, 1, 1)):
            self.assertIs(error_of(run_programs, CHAIN, WIRE, TWO, ((4,),), order), None)

    def test_errors_in_order(self):
        bad, worse = ((("what", (), ()),), (0,)), ((), ())
        for graph, devices, programs, feeds, order, expected in (
                (bad, worse, (), (), (), KindError), (((), ()), worse, (), (), (), FormError), (CHAIN, worse, (), (), (), DeviceError),
                (CHAIN, ((9, 9), ((0, 0, 1),)), TWO, ((1,),), (0, 1), DeviceError), (CHAIN, WIRE, (), (), (), FeedError),
                (CHAIN, WIRE, (), ((10,),), (), RangeError), (CHAIN, WIRE, (), ((1, 1),), (), FeedError), (CHAIN, WIRE, (), ((1,),), (), RangeError),
                (CHAIN, WIRE, (), ((1,),), (0, 1), ProgramError), (CHAIN, WIRE, TWO, ((1,),), (0, 1), None)):
            self.assertIs(error_of(run_programs, graph, devices, programs, feeds, order), expected)
        self.assertIs(error_of(is_right, bad, worse, ()), KindError)
        self.assertIs(error_of(is_right, CHAIN, worse, ()), DeviceError)
        self.assertIs(is_right(CHAIN, WIRE, ()), False)

    def test_long_programs(self):
        steps = (("make", 0),) + (("drop", 0), ("make", 0)) * 20000 + (("make", 1), ("make", 2))
        self.assertTrue(is_right(CHAIN, ((3,), ()), (steps,)))
        talk = (("make", 0), ("make", 1), ("make", 2)) + (("send", 0, 1),) * 5000
        listen = (("take", 0, 0), ("drop", 0)) * 5000
        self.assertTrue(is_right(CHAIN, ((3, 1), ((0, 1, 5000),)), (talk, listen)))
        self.assertTrue(is_right(CHAIN, ((3, 1), ((0, 1, 1),)), (talk, listen)))
