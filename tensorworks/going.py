"""Devices that go through their programs."""

from tensorworks.carrying import computed_row
from tensorworks.devices import check_devices
from tensorworks.errors import ProgramError, RangeError
from tensorworks.graphs import check_graph, input_places
from tensorworks.meaning import Integers, check_feeds
from tensorworks.pieces import counts_of

WORDS = {"make": 2, "drop": 2, "send": 3, "take": 3}


def check_step(step, many_nodes, many):
    """Raise the error of an instruction that is not of any form, or of no node or device."""
    if not step or step[0] not in WORDS or len(step) != WORDS[step[0]]:
        raise ProgramError("not an instruction")
    if not 0 <= step[1] < many_nodes:
        raise ProgramError("there is no such node")
    if len(step) == 3 and not 0 <= step[2] < many:
        raise ProgramError("there is no such device")


def check_steps(programs, many_nodes, many):
    """Raise the error of programs that are not one for each device, of instructions of the right forms."""
    if len(programs) != many:
        raise ProgramError("not as many programs as devices")
    for program in programs:
        for step in program:
            check_step(step, many_nodes, many)


class Going:
    """Devices on their way through programs, whose instructions are of the right forms."""

    def __init__(self, graph, domains, devices, programs):
        self.graph = graph
        self.domains = domains
        self.memories, channels = devices
        self.programs = programs
        self.counts = counts_of(domains)
        self.rooms = {(source, target): room for source, target, room in channels}
        self.ways = {(source, target): [] for source, target, _ in channels}
        self.loads = {(source, target): 0 for source, target, _ in channels}
        self.places = [0] * len(programs)
        self.held = [{} for _ in programs]
        self.words = [0] * len(programs)
        self.peaks = [0] * len(programs)

    def result_of(self, node, rows):
        """Return what a device makes of the args that it holds; where only words count, nothing."""
        return None

    def is_at_end(self, device):
        """Tell whether a device has come to the end of its program."""
        return self.places[device] == len(self.programs[device])

    def hold(self, device, node, row):
        """Put a node into the memory of a device."""
        if node in self.held[device]:
            raise ProgramError("a node is held already")
        self.held[device][node] = row
        self.words[device] = self.words[device] + self.counts[node]
        self.peaks[device] = max(self.peaks[device], self.words[device])
        if self.words[device] > self.memories[device]:
            raise ProgramError("a memory is too small")

    def row_of(self, device, node):
        """Return what a device holds of a node."""
        if node not in self.held[device]:
            raise ProgramError("a node is not held")
        return self.held[device][node]

    def must_wait(self, device, step):
        """Tell whether a device waits for a message or for room on a way."""
        if step[0] == "send":
            way = (device, step[2])
            return self.loads.get(way, 0) + self.counts[step[1]] > self.rooms.get(way, 0)
        return step[0] == "take" and not self.ways.get((step[2], device), [])

    def do_next(self, device, step):
        """Carry out an instruction that does not wait."""
        word, node = step[:2]
        if word == "make":
            rows = [self.row_of(device, arg) for arg in self.graph[0][node][1]]
            self.hold(device, node, self.result_of(node, rows))
        elif word == "send":
            way = (device, step[2])
            self.ways[way].append((node, self.row_of(device, node)))
            self.loads[way] = self.loads[way] + self.counts[node]
        elif word == "take":
            way = (step[2], device)
            first, row = self.ways[way].pop(0)
            if first != node:
                raise ProgramError("the first message is another node")
            self.loads[way] = self.loads[way] - self.counts[node]
            self.hold(device, node, row)
        else:
            self.row_of(device, node)
            del self.held[device][node]
            self.words[device] = self.words[device] - self.counts[node]

    def proceed(self, device):
        """Let a device do its next instruction; return False if it waits or is at its end."""
        if self.is_at_end(device):
            return False
        step = self.programs[device][self.places[device]]
        if self.must_wait(device, step):
            return False
        self.do_next(device, step)
        self.places[device] = self.places[device] + 1
        return True

    def output(self, out):
        """Return what the first device that holds an output holds of it."""
        for held in self.held:
            if out in held:
                return held[out]
        raise ProgramError("an output is not held")


class Working(Going):
    """Devices on their way that work out the nodes."""

    def __init__(self, graph, domains, devices, programs, feeds):
        Going.__init__(self, graph, domains, devices, programs)
        self.feeds = {place: feed for place, feed in zip(input_places(graph[0]), feeds)}

    def result_of(self, node, rows):
        """Return what a device makes of the args that it holds."""
        kind, args, info = self.graph[0][node]
        if kind == "input":
            return self.feeds[node]
        if kind == "const":
            return info[1]
        shapes = [self.domains[arg][0] for arg in args]
        return computed_row(Integers(), self.graph[0][node], shapes, self.domains[node][0], rows)


def go_on(going, many):
    """Let all devices go until they are at their ends or wait for ever."""
    moved = True
    while moved:
        moved = False
        for device in range(many):
            while going.proceed(device):
                moved = True


def check_programs(graph, domains, devices, programs):
    """Raise the error of programs that are not right; who goes first does not matter."""
    many = len(devices[0])
    check_steps(programs, len(graph[0]), many)
    going = Going(graph, domains, devices, programs)
    go_on(going, many)
    if not all([going.is_at_end(device) for device in range(many)]):
        raise ProgramError("a device waits for ever")
    if any([going.ways[way] for way in going.ways]):
        raise ProgramError("a message is left")
    for out in graph[1]:
        going.output(out)


def is_right(graph, devices, programs):
    """Tell whether programs are right for a graph and devices."""
    domains = check_graph(graph)
    check_devices(devices)
    try:
        check_programs(graph, domains, devices, programs)
    except ProgramError:
        return False
    return True


def check_order(order, many):
    """Raise the error of an order that does not name each device, or names others."""
    if any([not 0 <= device < many for device in order]) or len(set(order)) != many:
        raise RangeError("the order does not name the devices")


def run_programs(graph, devices, programs, feeds, order):
    """Return the values of the outputs, and the greatest numbers of words that the devices held."""
    domains = check_graph(graph)
    check_devices(devices)
    check_feeds(graph[0], domains, feeds)
    many = len(devices[0])
    check_order(order, many)
    check_programs(graph, domains, devices, programs)
    going = Working(graph, domains, devices, programs, feeds)
    while not all([going.is_at_end(device) for device in range(many)]):
        for device in order:
            going.proceed(device)
    return (tuple([going.output(out) for out in graph[1]]), tuple(going.peaks))
