"""Code made at random from a seed."""

import random

from tests.helpers import random_info

TWO = ("add", "sub", "mul", "max", "min", "less", "equal")


class Maker:
    """Makes code; bold code often goes wrong, and code that is not bold seldom does.

    The slots from 0 to 3 hold small numbers that are addresses, those from 8 to 13 are worked with.
    """

    def __init__(self, seed, machine, bold):
        self.chance = random.Random(seed)
        self.machine = machine
        self.bold = bold

    def code(self, many):
        made = [("set", k, self.chance.randint(0, 3)) for k in range(4)]
        made += [("set", k, self.chance.randint(-9, 9)) for k in range(8, 14)]
        return tuple(made + self.rows(many, 0))

    def rows(self, many, depth):
        made = []
        while len(made) < many:
            made += self.block(depth) if depth < 2 and self.chance.random() < 0.2 else [self.instruction()]
        return made

    def block(self, depth):
        inside = self.rows(self.chance.randint(1, 4), depth + 1)
        if self.chance.random() < 0.5:
            slot = self.chance.choice([0, 1, 4, 9])
            return [("loop", slot, self.chance.randint(0, 2), self.chance.choice([-1, 0, 1]), self.chance.randint(1, 3))] + inside + [("end",)]
        return [("skip", self.chance.choice([0, 4] if not self.bold else [0, 4, 8, 9]), len(inside))] + inside

    def place(self, words, count=1):
        """Return an address slot and an offset for so many words."""
        top = words - count - 4
        return self.chance.randint(0, 3), self.chance.randint(-3, top + 3) if self.bold else self.chance.randint(1, top)

    def work(self):
        return self.chance.randint(8, 13)

    def instruction(self):
        chance, near = self.chance, self.machine[2]
        name = chance.choice(["do", "do", "do", "load", "store", "store", "mac", "vector", "in", "in", "out", "wait", "wait", "set"])
        if name == "do":
            return self.doing()
        if name == "load":
            a, n = self.place(near)
            return ("load", self.work(), a if chance.random() < 0.9 else self.work(), n)
        if name == "store":
            a, n = self.place(near)
            return ("store", a if chance.random() < 0.95 else self.work(), n, self.work())
        if name == "set":
            return ("set", chance.choice([0, 4, 9]), chance.randint(-1, 3))
        if name == "wait":
            return ("wait", chance.randrange(self.machine[3]))
        count = chance.randint(1, self.machine[4])
        if name == "mac":
            return ("mac", self.work(), chance.randint(0, 3), chance.randint(0, 2), chance.randint(0, 3), chance.randint(0, 2), count)
        if name == "vector":
            return ("vector", chance.choice(TWO), *[chance.randint(0, 3) for _ in range(3)], count)
        far, n = self.place(self.machine[1], count)
        close, m = self.place(near, count)
        return (name, chance.randrange(self.machine[3]), far, n, close, m, count)

    def doing(self):
        kind = self.chance.choice(TWO + ("neg", "clamp", "shift", "where"))
        many = {"neg": 1, "clamp": 1, "shift": 1, "where": 3}.get(kind, 2)
        info = random_info(self.chance, kind, ())
        return ("do", kind, self.work(), tuple(self.work() for _ in range(many)), info)


def random_code(seed, machine, many=20, bold=True):
    """Return valid code, the same for the same seed."""
    return Maker(seed, machine, bold).code(many)


def random_words(seed, many, low=-20, high=20):
    chance = random.Random(seed)
    return tuple(chance.randint(low, high) for _ in range(many))


def random_delays(seed):
    chance = random.Random(seed)
    return tuple(chance.choice([0, 1, 2, 5, 40]) for _ in range(chance.randint(0, 4)))
