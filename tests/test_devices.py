"""Points 1301 and 1302: devices, and graphs in pieces."""

import unittest

from tensorworks.devices import DEVICE_LIMIT, PIECE_LIMIT, ROOM_LIMIT, check_devices, check_pieces
from tensorworks.errors import DeviceError, FormError, KindError, PieceError, RangeError
from tests.helpers import const, error_of, graph_of, scalar

GRAPH = graph_of([scalar(0, 9), const("", 2), ("neg", (0,), ()), ("add", (1, 2), ())])


class Devices(unittest.TestCase):
    def check(self, memories, channels=(), right=False):
        self.assertIs(error_of(check_devices, (memories, channels)), None if right else DeviceError, (memories, channels))

    def test_limits(self):
        self.assertEqual((DEVICE_LIMIT, PIECE_LIMIT, ROOM_LIMIT), (3, 7, 65536))

    def test_memories(self):
        self.check(())
        self.check((0,), right=True)
        self.check((0, 65536, 1), right=True)
        self.check((0, 0, 0, 0))
        for memory in (-1, 65537):
            self.check((memory,))
            self.check((1, 1, memory))

    def test_channels(self):
        for channel in ((0, 1, 1), (1, 0, 65536), (0, 1, 65536)):
            self.check((5, 5), (channel,), True)
        for channel in (
                (0, 0, 1), (1, 1, 1), (0, 2, 1), (2, 0, 1), (-1, 0, 1), (0, -1, 1), (0, 1, 0), (0, 1, -1), (0, 1, 65537)):
            self.check((5, 5), (channel,))
        self.check((5,), ((0, 1, 1),))
        self.check((5, 5, 5), ((0, 2, 1), (2, 0, 1)), True)

    def test_order_of_channels(self):
        full = ((0, 1, 9), (0, 2, 8), (1, 0, 7), (1, 2, 6), (2, 0, 5), (2, 1, 4))
        self.check((5, 5, 5), full, True)
        self.check((5, 5, 5), full[::2], True)
        for at in range(5):
            self.check((5, 5, 5), full[:at] + (full[at + 1], full[at]) + full[at + 2:])
            self.check((5, 5, 5), full[:at + 1] + full[at:])
        self.check((5, 5), ((0, 1, 9), (0, 1, 10)))
        self.check((5, 5), ((0, 1, 10), (0, 1, 9)))


class Pieces(unittest.TestCase):
    def check(self, pieces, right=False, graph=GRAPH):
        self.assertIs(error_of(check_pieces, graph, pieces), None if right else PieceError, pieces)

    def test_right(self):
        for pieces in (((0, 1, 2, 3),), ((0,), (1,), (2,), (3,)), ((1,), (0, 2), (3,)), ((0, 2), (1, 3)), ((0, 1), (2, 3))):
            self.check(pieces, True)

    def test_wrong(self):
        for pieces in (
                (), ((),), ((0, 1, 2, 3), ()), ((), (0, 1, 2, 3)), ((0, 1, 2),), ((0, 1, 2, 3), (3,)), ((0, 1, 2, 2, 3),), ((0, 1, 3, 2),),
                ((0, 1, 2, 3, 4),), ((-1, 0, 1, 2, 3),), ((0, 1), (2,)), ((0, 1), (1, 2, 3)), ((1,), (2, 3), (0,)), ((2, 3), (0, 1)),
                ((0, 1, 3), (2,)), ((0, 2, 3), (1,)), ((3,), (2,), (1,), (0,))):
            self.check(pieces)

    def test_number_of_pieces(self):
        graph = graph_of([scalar(0, 9)] + [("neg", (at,), ()) for at in range(7)])
        singles = tuple((at,) for at in range(8))
        self.check(singles, graph=graph)
        self.check(singles[:6] + ((6, 7),), True, graph)
        self.check((singles[0] + singles[1],) + singles[2:], True, graph)

    def test_graph_first(self):
        self.assertIs(error_of(check_pieces, ((("what", (), ()),), (0,)), ()), KindError)
        self.assertIs(error_of(check_pieces, ((), ()), ()), FormError)
        self.assertIs(error_of(check_pieces, graph_of([scalar(2, 1)]), ((0,),)), RangeError)
