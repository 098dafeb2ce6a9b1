"""Devices with memories and channels, and a graph in pieces for them."""

from tensorworks.errors import DeviceError, PieceError
from tensorworks.graphs import check_graph

DEVICE_LIMIT = 3
PIECE_LIMIT = 7
ROOM_LIMIT = 65536


def check_channel(channel, many):
    """Raise the error of a channel by itself."""
    source, target, room = channel
    if not 0 <= source < many or not 0 <= target < many or source == target:
        raise DeviceError("a channel is not between two different devices")
    if not 1 <= room <= ROOM_LIMIT:
        raise DeviceError("the room of a channel is out of its range")


def check_devices(devices):
    """Raise the error of devices."""
    memories, channels = devices
    if not 1 <= len(memories) <= DEVICE_LIMIT:
        raise DeviceError("not as many devices as there can be")
    if min(memories) < 0 or max(memories) > ROOM_LIMIT:
        raise DeviceError("a memory is out of its range")
    before = (-1, -1)
    for channel in channels:
        check_channel(channel, len(memories))
        if channel[:2] <= before:
            raise DeviceError("the channels do not ascend")
        before = channel[:2]


def check_piece(piece, many):
    """Raise the error of a piece by itself."""
    if not piece:
        raise PieceError("a piece has no node")
    before = -1
    for node in piece:
        if not before < node < many:
            raise PieceError("the nodes of a piece do not ascend")
        before = node


def checked_pieces(graph, pieces):
    """Return the domains of a graph whose pieces are right."""
    domains = check_graph(graph)
    nodes = graph[0]
    if not 1 <= len(pieces) <= PIECE_LIMIT:
        raise PieceError("not as many pieces as there can be")
    home = {}
    for number, piece in enumerate(pieces):
        check_piece(piece, len(nodes))
        for node in piece:
            if node in home:
                raise PieceError("a node stands in two pieces")
            home[node] = number
    if len(home) != len(nodes):
        raise PieceError("a node stands in no piece")
    for at, (_, args, _) in enumerate(nodes):
        if any([home[arg] > home[at] for arg in args]):
            raise PieceError("an arg stands in a later piece")
    return domains


def check_pieces(graph, pieces):
    """Raise the error of a graph or of its pieces."""
    checked_pieces(graph, pieces)
