"""Point 1305: assignments that fit, and the one that sends the fewest words."""

import random
import unittest
from itertools import product

from tensorworks.errors import DeviceError, FormError, KindError, NoRoom, PieceError
from tensorworks.going import is_right, run_programs
from tensorworks.meaning import evaluate
from tensorworks.pieces import peaks_of, programs_of, words_sent
from tensorworks.splitting import fits, split
from tests import naive_going
from tests.helpers import error_of, graph_of, random_feeds, random_graph, scalar, tensor
from tests.shared_graphs import full_devices, random_devices, random_pieces

CHAIN = graph_of([tensor("k4"), ("neg", (0,), ()), ("add", (0, 1), ())])
PIECES = ((0, 1), (2,))


class Fits(unittest.TestCase):
    def test_memories(self):
        for memories, expected in (((8, 12), True), ((7, 12), False), ((8, 11), False), ((65536, 65536), True)):
            self.assertIs(fits(CHAIN, PIECES, (memories, ((0, 1, 4),)), (0, 1)), expected)
        self.assertIs(fits(CHAIN, PIECES, ((12, 0), ()), (0, 0)), True)
        self.assertIs(fits(CHAIN, PIECES, ((11, 0), ()), (0, 0)), False)

    def test_channels(self):
        """Each message needs room for its own words, however many are sent."""
        for channels, expected in ((((0, 1, 4),), True), (((0, 1, 3),), False), (((1, 0, 9),), False), ((), False)):
            self.assertIs(fits(CHAIN, PIECES, ((8, 12), channels), (0, 1)), expected)
            self.assertIs(fits(CHAIN, PIECES, ((12, 12), channels), (1, 1)), True)

    def test_a_large_message_behind_small_ones(self):
        graph = graph_of([scalar(0, 9), tensor("k4"), ("add", (0, 1), ())])
        self.assertIs(fits(graph, ((0, 1), (2,)), ((9, 9), ((0, 1, 3),)), (0, 1)), False)
        self.assertIs(fits(graph, ((0, 1), (2,)), ((9, 9), ((0, 1, 4),)), (0, 1)), True)

    def test_as_is_right_says(self):
        """An assignment fits exactly if its programs are right."""
        seen = [0, 0]
        for seed in range(300):
            chance = random.Random(seed)
            graph = random_graph(seed, 8, most=12)
            pieces, devices = random_pieces(graph, chance, 4), random_devices(chance)
            many = len(devices[0])
            assignment = tuple(chance.randrange(many) for _ in pieces)
            told = fits(graph, pieces, devices, assignment)
            self.assertIs(told, is_right(graph, devices, programs_of(graph, pieces, many, assignment)))
            seen[told] += 1
        self.assertGreater(min(seen), 60)

    def test_just_enough(self):
        for seed in range(40):
            chance = random.Random(seed)
            graph = random_graph(seed, 8, most=12)
            pieces = random_pieces(graph, chance, 4)
            assignment = tuple(chance.randrange(3) for _ in pieces)
            peaks = peaks_of(graph, pieces, 3, assignment)
            self.assertTrue(fits(graph, pieces, (peaks, full_devices(3)[1]), assignment))
            for k in range(3):
                if peaks[k]:
                    less = peaks[:k] + (peaks[k] - 1,) + peaks[k + 1:]
                    self.assertFalse(fits(graph, pieces, (less, full_devices(3)[1]), assignment))


class Split(unittest.TestCase):
    def test_examples(self):
        self.assertEqual(split(CHAIN, PIECES, full_devices(3)), (0, 0))
        self.assertEqual(split(CHAIN, PIECES, ((11, 12), ())), (1, 1))
        self.assertEqual(split(CHAIN, ((0,), (1,), (2,)), ((8, 12), ((0, 1, 4),))), (1, 1, 1))
        self.assertEqual(split(CHAIN, ((0,), (1,), (2,)), ((12, 11), ((0, 1, 4), (1, 0, 4)))), (0, 0, 0))
        self.assertEqual(split(graph_of([scalar(0, 9), scalar(0, 9)], 0, 1), ((0,), (1,)), ((1, 1), ())), (0, 1))
        self.assertIs(error_of(split, CHAIN, PIECES, ((8, 11), ((0, 1, 99),))), NoRoom)
        self.assertIs(error_of(split, CHAIN, PIECES, ((11, 11), ())), NoRoom)
        self.assertIs(error_of(split, CHAIN, PIECES, ((11, 11), ((0, 1, 4), (1, 0, 4)))), NoRoom)

    def test_fewest_words(self):
        """Not the first assignment that fits, but one that sends fewer words."""
        graph = graph_of([tensor("k4"), ("sum", (0,), ("k",)), ("spread", (1,), ("k", 4)), ("neg", (2,), ())], 3)
        singles = ((0,), (1,), (2,), (3,))
        self.assertEqual(split(graph, singles, ((5, 8), ((0, 1, 9), (1, 0, 9)))), (1, 1, 1, 1))
        graph = graph_of([tensor("k8"), ("sum", (0,), ("k",)), ("spread", (1,), ("k", 9)), ("neg", (2,), ())], 0, 3)
        devices = ((20, 20), ((0, 1, 9), (1, 0, 9)))
        self.assertEqual(split(graph, singles, devices), (0, 0, 1, 1))
        self.assertEqual(words_sent(graph, singles, 2, (0, 0, 1, 1)), 1)

    def test_all_assignments(self):
        seen = [0, 0]
        for seed in range(150):
            chance = random.Random(seed)
            graph = random_graph(seed, 7, most=12)
            pieces, devices = random_pieces(graph, chance, 4), random_devices(chance, 40)
            expected = naive_going.best(graph, pieces, devices)
            if expected is None:
                self.assertIs(error_of(split, graph, pieces, devices), NoRoom)
            else:
                found = split(graph, pieces, devices)
                self.assertEqual(found, expected)
                feeds = random_feeds(graph, seed)
                programs = programs_of(graph, pieces, len(devices[0]), found)
                order = tuple(reversed(range(len(devices[0]))))
                self.assertEqual(run_programs(graph, devices, programs, feeds, order)[0], evaluate(graph, feeds))
            seen[expected is None] += 1
        self.assertGreater(min(seen), 30)

    def test_no_room_exactly_if_none_fits(self):
        for seed in range(20):
            chance = random.Random(seed)
            graph = random_graph(seed, 6, most=12)
            pieces, devices = random_pieces(graph, chance, 3), random_devices(chance, 20)
            some = any(fits(graph, pieces, devices, told) for told in product(range(len(devices[0])), repeat=len(pieces)))
            self.assertIs(error_of(split, graph, pieces, devices), None if some else NoRoom)

    def test_the_most_of_everything(self):
        """400 nodes in 7 pieces on 3 devices, with and without an assignment that fits."""
        nodes = [tensor("k9")]
        chance = random.Random(5)
        while len(nodes) < 400:
            nodes.append(("add", (chance.randrange(len(nodes)), max(0, len(nodes) - chance.randint(1, 60))), ()))
            if len(nodes) % 40 == 0:
                nodes[-1] = tensor("k9")
        graph = (tuple(("clamp", (args[0],), (-9, 9)) if at % 3 == 0 and args else (kind, args, info)
                       for at, (kind, args, info) in enumerate(nodes)), (399,))
        pieces = tuple(tuple(range(57 * k, min(400, 57 * k + 57 + (k == 6)))) for k in range(7))
        self.assertEqual(split(graph, pieces, full_devices(3)), (0,) * 7)
        self.assertIs(error_of(split, graph, pieces, full_devices(3, 65536, 8)), None)
        self.assertIs(error_of(split, graph, pieces, full_devices(3, 20)), NoRoom)
        peak = peaks_of(graph, pieces, 1, (0,) * 7)[0]
        found = split(graph, pieces, full_devices(3, peak - 1))
        self.assertGreater(len(set(found)), 1)


class Errors(unittest.TestCase):
    def test_order(self):
        bad = ((("what", (), ()),), (0,))
        for graph, pieces, devices, assignment, expected in (
                (bad, (), ((), ()), (), KindError), (((), ()), (), ((), ()), (), FormError), (CHAIN, (), ((), ()), (), PieceError),
                (CHAIN, PIECES, ((), ()), (), DeviceError), (CHAIN, PIECES, ((99,), ((0, 0, 1),)), (0, 0), DeviceError),
                (CHAIN, PIECES, ((99,), ()), (), PieceError), (CHAIN, PIECES, ((99,), ()), (0, 1), PieceError),
                (CHAIN, PIECES, ((99,), ()), (0, -1), PieceError), (CHAIN, PIECES, ((99,), ()), (0, 0, 0), PieceError),
                (CHAIN, PIECES, ((99,), ()), (0, 0), None)):
            self.assertIs(error_of(fits, graph, pieces, devices, assignment), expected)
            if assignment == () or expected is None:
                found = error_of(split, graph, pieces, devices)
                self.assertIs(found, None if expected is PieceError and pieces else expected)
