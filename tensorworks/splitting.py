"""Assignments of pieces to devices: which fit, and which of them sends the fewest words."""

from tensorworks.devices import check_devices, checked_pieces
from tensorworks.errors import NoRoom
from tensorworks.pieces import check_assignment, counts_of, made_programs, peak_in


class Sharing:
    """A graph in pieces, and what an assignment of these needs."""

    def __init__(self, graph, domains, pieces):
        self.graph = graph
        self.pieces = pieces
        self.counts = counts_of(domains)
        self.known = {}
        self.bundles = self.bundled()

    def bundled(self):
        """Return the nodes that other pieces use, put together by their piece and the pieces that use them.

        A bundle has this piece, these pieces, the number of words of all its nodes, and of the greatest one.
        """
        home = {node: number for number, piece in enumerate(self.pieces) for node in piece}
        users = [{} for _ in self.counts]
        for at, (_, args, _) in enumerate(self.graph[0]):
            for arg in args:
                users[arg][home[at]] = True
        words = {}
        for node, count in enumerate(self.counts):
            key = (home[node], tuple(sorted(users[node])))
            total, most = words.get(key, (0, 0))
            words[key] = (total + count, max(most, count))
        return [(own, others, total, most) for (own, others), (total, most) in words.items()]

    def takers(self, bundle, assignment):
        """Return the devices to which the nodes of a bundle are sent."""
        own = assignment[bundle[0]]
        return [device for device in sorted(set([assignment[piece] for piece in bundle[1]])) if device != own]

    def sent(self, assignment):
        """Return how many words are sent."""
        return sum([bundle[2] * len(self.takers(bundle, assignment)) for bundle in self.bundles])

    def peak(self, assignment, device):
        """Return the greatest number of words that a device holds."""
        # On which of the others the rest is made does not matter for what this one holds.
        roles = tuple([0 if here == device else 1 for here in assignment])
        if roles not in self.known:
            self.known[roles] = peak_in(made_programs(self.graph, self.pieces, 2, roles)[0], self.counts)
        return self.known[roles]

    def suits(self, devices, assignment):
        """Tell whether an assignment fits devices."""
        memories, channels = devices
        rooms = {(source, target): room for source, target, room in channels}
        for bundle in self.bundles:
            for device in self.takers(bundle, assignment):
                if bundle[3] > rooms.get((assignment[bundle[0]], device), 0):
                    return False
        return all([self.peak(assignment, device) <= memory for device, memory in enumerate(memories)])


def fits(graph, pieces, devices, assignment):
    """Tell whether an assignment fits devices."""
    domains = checked_pieces(graph, pieces)
    check_devices(devices)
    check_assignment(pieces, len(devices[0]), assignment)
    return Sharing(graph, domains, pieces).suits(devices, assignment)


def assignments_of(pieces, many):
    """Return all assignments of pieces to so many devices, in ascending order."""
    found = [()]
    for _ in pieces:
        found = [assignment + (device,) for assignment in found for device in range(many)]
    return found


def split(graph, pieces, devices):
    """Return the first of the assignments that fit and send the fewest words."""
    domains = checked_pieces(graph, pieces)
    check_devices(devices)
    sharing = Sharing(graph, domains, pieces)
    ranked = sorted([(sharing.sent(told), told) for told in assignments_of(pieces, len(devices[0]))])
    for _, assignment in ranked:
        if sharing.suits(devices, assignment):
            return assignment
    raise NoRoom("no assignment fits")
