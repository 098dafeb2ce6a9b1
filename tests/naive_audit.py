"""A second account of point 808: code executed on terms, with the words in flight as sets of pairs."""

from tensorworks.errors import MayOverflow, NeverSet, Outside, Racing, Unsettled


class Naive:
    def __init__(self, table, machine, code, main):
        self.table = table
        self.low, self.high = -(1 << (machine[0] - 1)), (1 << (machine[0] - 1)) - 1
        self.words = {("main", k): at for k, at in enumerate(main)}
        self.words.update({("near", k): None for k in range(machine[2])})
        self.r = {k: table.number(0) for k in range(32)}
        self.flights = []
        self.at, self.loops = 0, []
        while self.at < len(code):
            name, *fields = code[self.at]
            self.at += 1
            getattr(self, "do_" + name)(*fields)

    def main(self):
        return tuple(at for (memory, _), at in self.words.items() if memory == "main")

    def number(self, slot):
        low, high = self.table.span(self.r[slot])
        if low != high:
            raise Unsettled
        return low

    def check(self, reads, sets):
        """Ask Outside, Racing and NeverSet for words, each for all of them before the next."""
        if not all(word in self.words for word in reads + sets):
            raise Outside
        targets = {word for flight in self.flights for word in flight["target"]}
        sources = {word for flight in self.flights for word in flight["source"]}
        if targets & set(reads + sets) or sources & set(sets):
            raise Racing
        if any(self.words[word] is None for word in reads):
            raise NeverSet

    def fit(self, terms):
        for at in terms:
            low, high = self.table.span(at)
            if low < self.low or high > self.high:
                raise MayOverflow

    def do_set(self, d, n):
        self.r[d] = self.table.number(n)

    def do_do(self, kind, d, sources, info):
        made = self.table.make(kind, tuple(self.r[s] for s in sources), info)
        self.fit([made])
        self.r[d] = made

    def do_load(self, d, a, n):
        low, high = self.table.span(self.r[a])
        if low != high:
            return self.load_any(d, a, n, low, high)
        place = ("near", low + n)
        self.check([place], [])
        self.r[d] = self.words[place]

    def load_any(self, d, a, n, low, high):
        """All values of an address that is x, or a number times x: the pick of one word for each."""
        places = self.places_of(self.r[a], low, high)
        if places[0] + n < 0 or places[-1] + n < 0 or max(places[0], places[-1]) + n > 1 << 20:
            raise Outside
        self.check([("near", place + n) for place in places], [])
        words = tuple(self.words["near", place + n] for place in places)
        step = places[1] - places[0]
        index = self.table.make("sub", (self.r[a], self.table.number(places[0])), ())
        self.r[d] = self.table.pick(tuple(words[k // step] for k in range(abs(places[-1] - places[0]) + 1)), index) \
            if step > 0 else self.turned(words, index, step)

    def turned(self, words, index, step):
        """The address falls with the choice: the list is turned round."""
        low, _ = self.table.span(index)
        up = self.table.make("sub", (index, self.table.number(low)), ())
        row = [words[-1 - k // -step] for k in range(-low + 1)]
        return self.table.pick(tuple(row), up)

    def places_of(self, at, low, high):
        """Return the places in the order of the choices, found by asking the table for the form of a pick."""
        number, divisor, first, last = self.table.lane(at)
        return [number + divisor * v for v in range(first, min(last, first + 5000) + 1)]

    def do_store(self, a, n, b):
        place = ("near", self.number(a) + n)
        self.check([], [place])
        self.words[place] = self.r[b]

    def do_mac(self, d, a, s, b, t, count):
        first, second = self.number(a), self.number(b)
        one = [("near", first + s * k) for k in range(count)]
        two = [("near", second + t * k) for k in range(count)]
        self.check(one + two, [])
        total = self.r[d]
        for x, y in zip(one, two):
            total = self.table.make("add", (self.table.make("mul", (self.words[x], self.words[y]), ()), total), ())
        self.fit([total])
        self.r[d] = total

    def do_vector(self, kind, d, a, b, count):
        starts = [self.number(slot) for slot in (d, a, b)]
        rows = [[("near", start + k) for k in range(count)] for start in starts]
        self.check(rows[1] + rows[2], rows[0])
        made = [self.table.make(kind, (self.words[x], self.words[y]), ()) for x, y in zip(rows[1], rows[2])]
        self.fit(made)
        self.words.update(zip(rows[0], made))

    def do_loop(self, d, start, step, count):
        self.loops.append((self.at, d, [self.table.number(start + step * k) for k in range(1, count)]))
        self.r[d] = self.table.number(start)

    def do_end(self):
        at, d, left = self.loops[-1]
        if left:
            self.at, self.r[d] = at, left.pop(0)
        else:
            self.loops.pop()

    def do_skip(self, a, count):
        if self.number(a) < 0:
            self.at += count

    def transfer(self, q, source, target):
        self.check(source, target)
        self.words.update(zip(target, [self.words[word] for word in source]))
        self.flights.append({"queue": q, "source": source, "target": target})

    def rows(self, a, n, b, m, count):
        far, close = self.number(a) + n, self.number(b) + m
        return [("main", far + k) for k in range(count)], [("near", close + k) for k in range(count)]

    def do_in(self, q, a, n, b, m, count):
        far, close = self.rows(a, n, b, m, count)
        self.transfer(q, far, close)

    def do_out(self, q, a, n, b, m, count):
        far, close = self.rows(a, n, b, m, count)
        self.transfer(q, close, far)

    def do_wait(self, q):
        self.flights = [flight for flight in self.flights if flight["queue"] != q]
