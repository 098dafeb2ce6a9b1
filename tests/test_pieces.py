"""Point 1303: the programs of devices."""

import unittest

from tensorworks.errors import FormError, KindError, PieceError
from tensorworks.pieces import peaks_of, programs_of, words_sent
from tests import naive_going
from tests.helpers import const, error_of, graph_of, scalar, tensor
from tests.shared_graphs import random_sharing

CHAIN = graph_of([scalar(0, 9), ("neg", (0,), ()), ("add", (0, 1), ())])


class Programs(unittest.TestCase):
    def test_example(self):
        self.assertEqual(programs_of(CHAIN, ((0, 1), (2,)), 2, (0, 1)), (
            (("make", 0), ("send", 0, 1), ("make", 1), ("send", 1, 1), ("drop", 0), ("drop", 1)),
            (("take", 0, 0), ("take", 1, 0), ("make", 2), ("drop", 0), ("drop", 1))))

    def test_one_device(self):
        self.assertEqual(programs_of(CHAIN, ((0, 1), (2,)), 1, (0, 0)), (
            (("make", 0), ("make", 1), ("make", 2), ("drop", 0), ("drop", 1)),))

    def test_devices_without_work(self):
        self.assertEqual(programs_of(CHAIN, ((0, 1, 2),), 3, (1,)), (
            (), (("make", 0), ("make", 1), ("make", 2), ("drop", 0), ("drop", 1)), ()))

    def test_nodes_that_nobody_needs(self):
        """They are dropped at once, inputs and consts too; outputs never are."""
        graph = graph_of([scalar(0, 9), const("", 1), ("neg", (0,), ()), ("neg", (0,), ())], 3, 0)
        self.assertEqual(programs_of(graph, ((0, 1, 2, 3),), 1, (0,)), (
            (("make", 0), ("make", 1), ("drop", 1), ("make", 2), ("drop", 2), ("make", 3)),))

    def test_output_on_another_device(self):
        """Only its own device needs an output to the end."""
        graph = graph_of([scalar(0, 9), ("neg", (0,), ()), ("neg", (0,), ())], 0, 2)
        self.assertEqual(programs_of(graph, ((0,), (1,), (2,)), 2, (0, 1, 1)), (
            (("make", 0), ("send", 0, 1)), (("take", 0, 0), ("make", 1), ("drop", 1), ("make", 2), ("drop", 0))))

    def test_several_devices(self):
        """A node is sent to the devices in ascending order, once to each."""
        graph = graph_of([scalar(0, 9), ("neg", (0,), ()), ("mul", (0, 0), ()), ("add", (0, 1), ()), ("sub", (3, 2), ())])
        self.assertEqual(programs_of(graph, ((0,), (1, 3), (2, 4)), 3, (1, 2, 0)), (
            (("take", 0, 1), ("take", 3, 2), ("make", 2), ("drop", 0), ("make", 4), ("drop", 2), ("drop", 3)),
            (("make", 0), ("send", 0, 0), ("send", 0, 2), ("drop", 0)),
            (("take", 0, 1), ("make", 1), ("make", 3), ("send", 3, 0), ("drop", 0), ("drop", 1), ("drop", 3))))

    def test_order_of_pieces(self):
        """The pieces are gone through in their order, not the nodes."""
        graph = graph_of([scalar(0, 9), scalar(0, 9), ("neg", (1,), ()), ("neg", (0,), ())], 2, 3)
        self.assertEqual(programs_of(graph, ((1, 2), (0, 3)), 1, (0, 0)), (
            (("make", 1), ("make", 2), ("drop", 1), ("make", 0), ("make", 3), ("drop", 0)),))

    def test_random(self):
        for seed in range(250):
            graph, pieces, many, assignment = random_sharing(seed, 5 + seed % 9)
            told, peaks = naive_going.programs(graph, pieces, many, assignment)
            self.assertEqual(programs_of(graph, pieces, many, assignment), told)
            self.assertEqual(peaks_of(graph, pieces, many, assignment), peaks)
            self.assertEqual(words_sent(graph, pieces, many, assignment), naive_going.sent(graph, told))


class Numbers(unittest.TestCase):
    def test_words(self):
        nodes = [tensor("k8"), ("sum", (0,), ("k",)), ("spread", (1,), ("i", 3)), ("mul", (2, 1), ())]
        pieces = ((0,), (1,), (2,), (3,))
        for assignment, words, peaks in (
                ((0, 0, 0, 0), 0, (9, 0)), ((0, 1, 1, 1), 8, (8, 9)), ((0, 0, 1, 1), 1, (9, 7)), ((0, 0, 1, 0), 4, (9, 4)),
                ((0, 1, 0, 1), 12, (8, 9)), ((1, 1, 1, 0), 4, (7, 9))):
            self.assertEqual(words_sent(graph_of(nodes), pieces, 2, assignment), words, assignment)
            self.assertEqual(peaks_of(graph_of(nodes), pieces, 2, assignment), peaks, assignment)

    def test_three_devices(self):
        self.assertEqual(peaks_of(CHAIN, ((0, 1), (2,)), 3, (2, 0)), (3, 0, 2))
        self.assertEqual(words_sent(CHAIN, ((0, 1), (2,)), 3, (2, 0)), 2)


class Errors(unittest.TestCase):
    def check(self, expected, *args):
        for call in (programs_of, words_sent, peaks_of):
            self.assertIs(error_of(call, *args), expected, args)

    def test_order(self):
        self.check(KindError, ((("what", (), ()),), (0,)), (), 2, ())
        self.check(FormError, ((), ()), (), 2, ())
        self.check(PieceError, CHAIN, (), 2, ())
        self.check(PieceError, CHAIN, ((0, 1),), 2, (0,))
        self.check(PieceError, CHAIN, ((0, 2), (1,)), 2, (0, 0))

    def test_assignment(self):
        pieces = ((0, 1), (2,))
        for assignment in ((), (0,), (0, 0, 0), (0, 2), (2, 0), (-1, 0), (0, -1)):
            self.check(PieceError, CHAIN, pieces, 2, assignment)
        self.check(PieceError, CHAIN, pieces, 1, (0, 1))
        self.check(None, CHAIN, pieces, 3, (0, 2))
        self.check(None, CHAIN, pieces, 2, (1, 1))
