"""A second account of points 802 and 805 to 807: a device that keeps everything in dicts and executes one by one."""

from tests.naive import pointwise


class Stop(Exception):
    """An instruction traps."""


class Naive:
    def __init__(self, machine, code, main, near, delays):
        self.width, self.queues = machine[0], machine[3]
        self.code = code
        self.memories = {"main": dict(enumerate(main)), "near": dict(enumerate(near))}
        self.r = {k: 0 for k in range(32)}
        self.delays, self.many = delays, 0
        self.flying = {q: [] for q in range(self.queues)}
        self.at, self.loops, self.trapped = 0, [], False

    def read(self, memory, place):
        if place not in self.memories[memory]:
            raise Stop
        return self.memories[memory][place]

    def fit(self, n):
        if not -(1 << (self.width - 1)) <= n < 1 << (self.width - 1):
            raise Stop
        return n

    def run(self):
        while self.step():
            pass
        return self.memories

    def step(self):
        """Execute one instruction; return whether that could be done."""
        if self.at >= len(self.code):
            return False
        name, *fields = self.code[self.at]
        try:
            getattr(self, "do_" + name)(*fields)
        except Stop:
            self.trapped = True
            return False
        self.at += 1
        for q in range(self.queues):
            if self.flying[q] and self.flying[q][0]["delay"] == 0:
                self.land(q)
            elif self.flying[q]:
                self.flying[q][0]["delay"] -= 1
        if self.at >= len(self.code):
            for q in range(self.queues):
                self.do_wait(q)
        return True

    def land(self, q):
        flight = self.flying[q].pop(0)
        words = [self.memories[flight["from"]][place] for place in flight["source"]]
        for place, word in zip(flight["target"], words):
            self.memories[flight["to"]][place] = word

    def do_set(self, d, n):
        self.r[d] = n

    def do_do(self, kind, d, sources, info):
        self.r[d] = self.fit(pointwise(kind, [self.r[s] for s in sources], info))

    def do_load(self, d, a, n):
        self.r[d] = self.read("near", self.r[a] + n)

    def do_store(self, a, n, b):
        self.read("near", self.r[a] + n)
        self.memories["near"][self.r[a] + n] = self.r[b]

    def do_mac(self, d, a, s, b, t, count):
        total = self.r[d]
        for k in range(count):
            total += self.read("near", self.r[a] + s * k) * self.read("near", self.r[b] + t * k)
        self.r[d] = self.fit(total)

    def do_vector(self, kind, d, a, b, count):
        words = []
        for k in range(count):
            pair = [self.read("near", self.r[a] + k), self.read("near", self.r[b] + k)]
            self.read("near", self.r[d] + k)
            words.append(self.fit(pointwise(kind, pair, ())))
        for k, word in enumerate(words):
            self.memories["near"][self.r[d] + k] = word

    def do_loop(self, d, start, step, count):
        self.loops.append({"at": self.at, "slot": d, "left": [start + step * k for k in range(1, count)]})
        self.r[d] = start

    def do_end(self):
        if self.loops[-1]["left"]:
            self.r[self.loops[-1]["slot"]] = self.loops[-1]["left"].pop(0)
            self.at = self.loops[-1]["at"]
        else:
            self.loops.pop()

    def do_skip(self, a, count):
        if self.r[a] < 0:
            self.at += count

    def issue(self, q, one, source, two, target):
        for place in source:
            self.read(one, place)
        for place in target:
            self.read(two, place)
        delay = self.delays[self.many % len(self.delays)] if self.delays else 0
        self.many += 1
        self.flying[q].append({"delay": delay, "from": one, "source": source, "to": two, "target": target})

    def do_in(self, q, a, n, b, m, count):
        far, close = range(self.r[a] + n, self.r[a] + n + count), range(self.r[b] + m, self.r[b] + m + count)
        self.issue(q, "main", far, "near", close)

    def do_out(self, q, a, n, b, m, count):
        far, close = range(self.r[a] + n, self.r[a] + n + count), range(self.r[b] + m, self.r[b] + m + count)
        self.issue(q, "near", close, "main", far)

    def do_wait(self, q):
        while self.flying[q]:
            self.land(q)
