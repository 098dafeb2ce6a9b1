"""Points 802 and 805 to 807: transfers, traps, run_code and Device."""

import unittest

from tensorworks.device import Device, run_code
from tensorworks.errors import FeedError, FormError, MachineError, RangeError, TooLarge, Trap
from tests.codes import random_code, random_delays, random_words
from tests.helpers import error_of
from tests.naive_device import Naive
from tests.test_instructions import nested

MACHINE = (32, 8, 16, 2, 4)
MAIN = (1, 2, 3, 4, 5, 6, 7, 8)
NEAR = tuple(range(100, 116))
TOP, LOW = (1 << 31) - 1, -(1 << 31)


def device(*code, main=MAIN, near=NEAR, delays=(), machine=MACHINE):
    return Device(machine, code, main, near, delays)


def ended(*code, **more):
    """Return a device that has executed all that it can."""
    made = device(*code, **more)
    while made.step():
        pass
    return made


def main_of(made):
    return tuple(made.main_word(k) for k in range(8))


def near_of(made):
    return tuple(made.near_word(k) for k in range(16))


def trap(*code, **more):
    """Tell whether the last instruction traps, all others having been executed."""
    made = ended(*code, **more)
    return made.stopped and made.at == len(code) - 1


class Instructions(unittest.TestCase):
    def test_set_and_do(self):
        made = ended(("set", 3, -7), ("set", 4, 2), ("do", "mul", 5, (3, 4), ()), ("do", "clamp", 3, (3,), (-2, 2)),
                     ("do", "where", 6, (7, 3, 4), ()), ("do", "shift", 31, (5,), (2,)))
        self.assertEqual([made.slot(k) for k in (3, 4, 5, 6, 7, 31)], [-2, 2, -14, 2, 0, -3])
        self.assertEqual((made.at, made.stopped), (6, False))

    def test_load_and_store(self):
        made = ended(("set", 1, 3), ("load", 2, 1, -1), ("store", 1, 4, 2), ("load", 1, 1, 0), ("store", 9, 15, 1))
        self.assertEqual((made.slot(2), made.near_word(7), made.slot(1), made.near_word(15)), (102, 102, 103, 103))

    def test_mac(self):
        made = ended(("set", 1, 2), ("set", 2, 10), ("set", 3, 5), ("mac", 3, 1, 2, 2, -1, 3))
        self.assertEqual(made.slot(3), 5 + 102 * 110 + 104 * 109 + 106 * 108)
        made = ended(("set", 1, 2), ("mac", 1, 1, 0, 0, 0, 4))
        self.assertEqual(made.slot(1), 2 + 4 * 102 * 100)

    def test_vector(self):
        """All are read before one is set, also where the words overlap."""
        made = ended(("set", 1, 2), ("set", 2, 3), ("vector", "sub", 2, 1, 0, 4))
        self.assertEqual(near_of(made)[:8], (100, 101, 102, 2, 2, 2, 2, 107))
        made = ended(("set", 1, 1), ("vector", "max", 1, 0, 0, 4))
        self.assertEqual(near_of(made)[:6], (100, 100, 101, 102, 103, 105))

    def test_loops(self):
        """The slot is set before each turn, whatever the instructions set it to."""
        code = (("loop", 1, 2, 3, 3), ("do", "add", 2, (2, 1), ()), ("set", 1, 50), ("end",))
        made = ended(*code)
        self.assertEqual((made.slot(1), made.slot(2)), (50, 15))
        made = ended(("loop", 1, 9, 1, 1), ("end",))
        self.assertEqual((made.slot(1), made.at), (9, 2))
        code = (("loop", 1, 0, 1, 3), ("loop", 1, 10, 10, 2), ("do", "add", 3, (3, 1), ()), ("end",), ("do", "add", 2, (2, 1), ()), ("end",))
        made = ended(*code)
        self.assertEqual((made.slot(3), made.slot(2), made.slot(1)), (90, 60, 20))

    def test_skip(self):
        code = (("skip", 1, 2), ("set", 2, 1), ("set", 3, 1), ("set", 4, 1))
        self.assertEqual([ended(*code).slot(k) for k in (2, 3, 4)], [1, 1, 1])
        made = ended(("set", 1, -1), *code)
        self.assertEqual([made.slot(k) for k in (2, 3, 4)], [0, 0, 1])
        made = ended(("set", 1, -1), ("skip", 1, 3), ("loop", 2, 0, 1, 5), ("set", 3, 9), ("end",))
        self.assertEqual((made.at, made.slot(2), made.slot(3), made.stopped), (5, 0, 0, False))

    def test_skip_to_the_end(self):
        """The code has ended then, and all pending transfers are carried out."""
        made = device(("set", 1, -1), ("out", 0, 0, 0, 0, 0, 2), ("skip", 1, 2), ("set", 2, 1), ("set", 3, 1), delays=(50,))
        self.assertEqual([made.step() for _ in range(4)], [True, True, True, False])
        self.assertEqual((made.at, made.pending(0), main_of(made)[:3]), (5, 0, (100, 101, 3)))

    def test_skip_in_a_loop(self):
        made = ended(("set", 1, -1), ("loop", 2, 0, 1, 3), ("do", "add", 3, (3, 2), ()), ("skip", 1, 1), ("set", 4, 1), ("end",))
        self.assertEqual((made.slot(3), made.slot(4), made.slot(2)), (3, 0, 2))


class Transfers(unittest.TestCase):
    def test_carried_out_at_once(self):
        made = device(("in", 0, 0, 1, 0, 5, 3), ("set", 1, 1))
        made.step()
        self.assertEqual((near_of(made)[4:9], made.pending(0)), ((104, 2, 3, 4, 108), 0))

    def test_delays(self):
        """A delay decreases after each instruction, the one that issued the transfer included."""
        for delay in range(5):
            made = device(("in", 1, 0, 0, 0, 0, 1), *[("set", 1, 1)] * 9, delays=(delay,))
            for steps in range(1, 8):
                made.step()
                landed = steps > delay
                self.assertEqual((made.near_word(0), made.pending(1), made.pending(0)), (1 if landed else 100, 0 if landed else 1, 0))

    def test_words_are_read_when_it_is_carried_out(self):
        code = (("out", 0, 0, 0, 0, 0, 2), ("set", 1, 7), ("store", 0, 0, 1), ("set", 1, 8), ("store", 0, 1, 1))
        for delay, words in ((0, (100, 101)), (1, (100, 101)), (2, (7, 101)), (3, (7, 101)), (4, (7, 8)), (40, (7, 8))):
            self.assertEqual(main_of(ended(*code, delays=(delay,)))[:2], words)

    def test_one_of_a_queue_after_another(self):
        """Only the oldest of a queue is waited for; the delay of the next one begins then."""
        code = [("in", 0, 0, k, 0, k, 1) for k in range(3)] + [("set", 1, 1)] * 12
        made = device(*code, delays=(2, 0, 1))
        seen = []
        while made.step():
            seen.append(made.pending(0))
        self.assertEqual(seen[:8], [1, 2, 2, 1, 1, 0, 0, 0])

    def test_queues_in_order(self):
        """Both are carried out after the same instruction, queue 0 first."""
        code = (("out", 1, 0, 0, 0, 0, 1), ("in", 0, 0, 0, 0, 0, 1), ("set", 1, 1))
        made = ended(*code, delays=(1, 0))
        self.assertEqual((made.main_word(0), made.near_word(0)), (1, 1))
        code = (("out", 0, 0, 0, 0, 0, 1), ("in", 1, 0, 0, 0, 0, 1), ("set", 1, 1))
        made = ended(*code, delays=(1, 0))
        self.assertEqual((made.main_word(0), made.near_word(0)), (100, 100))

    def test_delays_come_again(self):
        code = [("in", k % 2, 0, 0, 0, k, 1) for k in range(5)] + [("set", 1, 1)]
        made = device(*code, delays=(9, 0))
        for _ in range(5):
            made.step()
        self.assertEqual((made.pending(0), made.pending(1)), (3, 0))

    def test_wait(self):
        """It carries out its queue, in order; the other queues go on behind it."""
        code = (("in", 0, 0, 0, 0, 0, 1), ("in", 0, 0, 1, 0, 0, 1), ("in", 1, 0, 2, 0, 1, 1), ("wait", 0), ("set", 1, 1), ("set", 1, 1))
        made = device(*code, delays=(30, 30, 1))
        for _ in range(3):
            made.step()
        self.assertEqual((made.pending(0), made.pending(1), made.near_word(1)), (2, 1, 101))
        made.step()
        self.assertEqual((made.pending(0), made.pending(1), near_of(made)[:2]), (0, 0, (2, 3)))
        made = device(*code, delays=(30, 30, 2))
        for _ in range(4):
            made.step()
        self.assertEqual((made.pending(0), made.pending(1)), (0, 1))
        made.step()
        self.assertEqual(made.pending(1), 0)
        self.assertEqual(ended(("wait", 1)).at, 1)

    def test_at_the_end(self):
        """Queue by queue: the word that queue 1 sets stays."""
        code = (("in", 1, 0, 0, 0, 0, 1), ("in", 0, 0, 1, 0, 0, 1), ("in", 0, 0, 2, 0, 0, 1))
        self.assertEqual(ended(*code, delays=(9,)).near_word(0), 1)
        made = device(*code, delays=(9,))
        for pending in ((0, 1), (1, 1), (0, 0)):
            made.step()
            self.assertEqual((made.pending(0), made.pending(1)), pending)

    def test_a_trap_leaves_transfers_pending(self):
        made = ended(("in", 0, 0, 0, 0, 0, 1), ("load", 1, 0, 16), delays=(5,))
        self.assertEqual((made.at, made.stopped, made.pending(0), made.near_word(0)), (1, True, 1, 100))


class Traps(unittest.TestCase):
    def test_addresses(self):
        """Each address that an instruction reads, sets or transfers: the last word inside, the first one outside."""
        for instruction, good, bad in (
                (lambda x: ("load", 2, 1, x - 5), (0, 15), (-1, 16)), (lambda x: ("store", 1, x - 5, 2), (0, 15), (-1, 16)),
                (lambda x: ("in", 0, 1, x - 5, 0, 0, 3), (0, 5), (-1, 6)), (lambda x: ("in", 0, 0, 0, 1, x - 5, 3), (0, 13), (-1, 14)),
                (lambda x: ("out", 0, 1, x - 5, 0, 0, 3), (0, 5), (-1, 6)), (lambda x: ("out", 0, 0, 0, 1, x - 5, 3), (0, 13), (-1, 14))):
            for places, expected in ((good, False), (bad, True)):
                for place in places:
                    self.assertIs(trap(("set", 1, 5), instruction(place)), expected, instruction(place))

    def test_mac(self):
        for a, s, count, expected in ((0, 5, 4, False), (1, 5, 4, True), (15, -5, 4, False), (14, -5, 4, True), (16, 0, 1, True), (-1, 1, 4, True),
                                      (16, -1, 2, True), (20, -5, 4, True), (-1, 5, 2, True), (-5, 5, 4, True)):
            self.assertIs(trap(("set", 1, a), ("mac", 3, 1, s, 0, 0, count)), expected)
            self.assertIs(trap(("set", 1, a), ("mac", 3, 0, 0, 1, s, count)), expected)

    def test_vector(self):
        for place, expected in ((0, False), (12, False), (13, True), (-1, True)):
            for at in range(3):
                slots = [1 if k == at else 0 for k in range(3)]
                self.assertIs(trap(("set", 1, place), ("vector", "add", *slots, 4)), expected)

    def test_results(self):
        near = (TOP, LOW, 1, -1) + (0,) * 12
        load = tuple(("load", k, 0, k) for k in (1, 2, 3)) + (("load", 0, 0, 0),)
        for kind, sources, expected in (
                ("add", (0, 2), True), ("add", (1, 3), True), ("add", (0, 3), False), ("sub", (1, 2), True), ("sub", (1, 3), False),
                ("neg", (1,), True), ("neg", (0,), False), ("mul", (0, 0), True), ("mul", (1, 3), True), ("max", (0, 1), False)):
            self.assertIs(trap(*load, ("do", kind, 9, sources, ()), near=near), expected, (kind, sources))

    def test_results_that_just_fit(self):
        near = (TOP, LOW, 1, -1, 0, TOP - 1, LOW + 1) + (0,) * 9
        load = tuple(("load", k, 0, k) for k in range(1, 7)) + (("load", 0, 0, 0),)
        for kind, sources in (("add", (5, 2)), ("add", (6, 3)), ("sub", (6, 2)), ("sub", (5, 3)), ("max", (0, 1)), ("min", (0, 1))):
            made = ended(*load, ("do", kind, 9, sources, ()), near=near)
            self.assertIn(made.slot(9), (TOP, LOW))
        for at, n in ((5, 1), (6, -1)):
            made = ended(("set", 1, at), ("load", 3, 1, 0), ("set", 2, 2 if n > 0 else 3), ("set", 4, 2), ("mac", 3, 2, 0, 4, 0, 1), near=near)
            self.assertEqual((made.slot(3), made.stopped), (TOP if n > 0 else LOW, False))
        for row, expected in (((TOP - 1, 1), False), ((TOP - 1, 2), True), ((LOW + 1, -1), False), ((LOW + 1, -2), True)):
            words = row + (0,) * 14
            self.assertIs(trap(("set", 1, 1), ("set", 2, 2), ("vector", "add", 2, 0, 1, 1), near=words), expected)
            self.assertIs(trap(("set", 1, 1), ("set", 2, 8), ("vector", "add", 2, 0, 1, 4), near=words), expected)

    def test_results_of_mac(self):
        """Sums and products inside need not fit."""
        near = (TOP, TOP, 2, -2) + (1, 0) * 6
        self.assertIs(trap(("set", 1, 2), ("mac", 3, 0, 1, 1, 1, 2), near=near), False)
        self.assertIs(trap(("set", 1, 2), ("mac", 3, 0, 1, 1, 1, 1), near=near), True)
        self.assertIs(trap(("set", 1, 4), ("set", 3, 1), ("mac", 3, 0, 0, 1, 0, 1), near=near), True)
        self.assertIs(trap(("set", 1, 4), ("set", 3, 0), ("mac", 3, 0, 0, 1, 0, 1), near=near), False)

    def test_results_of_vector(self):
        near = (1, 1, 1, TOP) + (0,) * 12
        self.assertIs(trap(("vector", "add", 0, 0, 0, 3), near=near), False)
        self.assertIs(trap(("vector", "add", 0, 0, 0, 4), near=near), True)

    def test_nothing_of_the_instruction_is_done(self):
        near = (1, 1, 1, TOP) + (0,) * 12
        made = ended(("vector", "add", 0, 0, 0, 4), near=near)
        self.assertEqual(near_of(made), near)
        made = ended(("in", 0, 0, 6, 0, 0, 3))
        self.assertEqual((near_of(made), made.pending(0), made.at), (NEAR, 0, 0))
        made = ended(("set", 1, TOP), ("do", "add", 1, (1, 1), ()))
        self.assertEqual((made.slot(1), made.at, made.stopped, made.step()), (TOP, 1, True, False))

    def test_addresses_need_not_fit(self):
        self.assertIs(trap(("set", 1, TOP), ("load", 2, 1, 16384)), True)
        self.assertIs(trap(("set", 1, LOW), ("load", 2, 1, -16384)), True)

    def test_it_traps_when_it_is_executed_only(self):
        self.assertEqual(ended(("set", 1, -1), ("skip", 1, 1), ("load", 2, 0, 99)).at, 3)


class Steps(unittest.TestCase):
    def test_before_the_first_one(self):
        made = device(("load", 1, 0, 16))
        self.assertEqual((made.at, made.stopped, made.step()), (0, True, False))
        made = device(("set", 1, 1))
        self.assertEqual((made.at, made.stopped, made.slot(1)), (0, False, 0))

    def test_empty_code(self):
        made = device()
        self.assertEqual((made.at, made.stopped, made.step(), made.at), (0, False, False, 0))
        self.assertEqual(run_code(MACHINE, (), MAIN, NEAR, ()), MAIN)

    def test_a_loop_step_by_step(self):
        made = device(("loop", 1, 5, -1, 2), ("set", 1, 0), ("end",), ("set", 2, 1))
        seen = []
        while made.step():
            seen.append((made.at, made.slot(1)))
        self.assertEqual(seen, [(1, 5), (2, 0), (1, 4), (2, 0), (3, 0), (4, 0)])

    def test_what_there_is_not(self):
        made = device()
        for call, last in ((made.slot, 31), (made.main_word, 7), (made.near_word, 15), (made.pending, 1)):
            for k, expected in ((0, None), (last, None), (-1, RangeError), (last + 1, RangeError)):
                self.assertIs(error_of(call, k), expected)

    def test_against_a_second_account(self):
        """Step by step, with codes of all kinds, and run_code at the end."""
        machine = (32, 24, 32, 3, 4)
        ends = {True: 0, False: 0}
        for seed in range(400):
            code = random_code(seed, machine, 25, seed % 3 == 0)
            main, near, delays = random_words(seed, 24), random_words(seed + 1, 32), random_delays(seed)
            made = Device(machine, code, main, near, delays)
            naive = Naive(machine, code, main, near, delays)
            while naive.step():
                self.assertTrue(made.step())
                self.compare(made, naive)
            self.assertFalse(made.step())
            self.compare(made, naive)
            self.assertIs(made.stopped, naive.trapped)
            ends[naive.trapped] += 1
            if naive.trapped:
                self.assertIs(error_of(run_code, machine, code, main, near, delays), Trap)
            else:
                self.assertEqual(run_code(machine, code, main, near, delays), tuple(naive.memories["main"].values()))
        self.assertTrue(min(ends.values()) > 50, ends)

    def compare(self, made, naive):
        self.assertEqual(made.at, naive.at)
        self.assertEqual([made.slot(k) for k in range(32)], list(naive.r.values()))
        self.assertEqual([made.main_word(k) for k in range(24)], list(naive.memories["main"].values()))
        self.assertEqual([made.near_word(k) for k in range(32)], list(naive.memories["near"].values()))
        self.assertEqual([made.pending(q) for q in range(3)], [len(row) for row in naive.flying.values()])


class Errors(unittest.TestCase):
    def both(self, expected, code=(), main=MAIN, near=NEAR, delays=(), machine=MACHINE):
        self.assertIs(error_of(run_code, machine, code, main, near, delays), expected)
        self.assertIs(error_of(Device, machine, code, main, near, delays), None if expected is Trap else expected)

    def test_code(self):
        self.both(MachineError, (("set", 0),), machine=(1,) + MACHINE[1:])
        self.both(FormError, (("set", 0),), main=())
        self.both(RangeError, (("set", 32, 0),), main=())
        self.both(TooLarge, nested(18), main=())

    def test_memories(self):
        for main in ((), MAIN[:-1], MAIN + (1,), MAIN[:-1] + (TOP + 1,), (LOW - 1,) + MAIN[1:]):
            self.both(FeedError, main=main)
        for near in ((), NEAR[:-1], NEAR + (1,), NEAR[:-1] + (TOP + 1,), (LOW - 1,) + NEAR[1:]):
            self.both(FeedError, near=near)
        self.both(None, main=(TOP,) * 8, near=(LOW,) * 16)

    def test_delays(self):
        for delays, expected in (((), None), ((0,), None), ((-1,), FeedError), ((3, -1), FeedError), ((10 ** 30,), None)):
            self.both(expected, delays=delays)

    def test_trap_last(self):
        bad = (("load", 1, 0, 16),)
        self.both(Trap, bad)
        self.both(FeedError, bad, delays=(-1,))
        self.both(FeedError, bad, main=())

    def test_example(self):
        code = (("in", 0, 0, 0, 0, 5, 2), ("wait", 0), ("load", 1, 0, 6), ("do", "neg", 1, (1,), ()), ("store", 0, 6, 1), ("out", 0, 0, 2, 0, 6, 1))
        self.assertEqual(run_code((32, 4, 16, 1, 4), code, (7, 8, 0, 0), (0,) * 16, ()), (7, 8, -8, 0))


class Limits(unittest.TestCase):
    def test_long_loops(self):
        code = (("loop", 1, 0, 1, 1000), ("loop", 2, 0, 1, 300), ("do", "add", 3, (3, 2), ()), ("end",), ("end",), ("store", 0, 0, 3),
                ("out", 0, 0, 0, 0, 0, 1))
        self.assertEqual(run_code(MACHINE, code, MAIN, NEAR, ())[0], 1000 * 299 * 150)

    def test_long_transfers(self):
        machine = (32, 16384, 4096, 4, 16)
        code = tuple(("in", k, 0, 4096 * k, 0, 0, 4096) for k in range(4)) + tuple(("wait", 3 - k) for k in range(4)) + (
            ("out", 0, 0, 12288, 0, 0, 4096),)
        main = tuple(range(16384))
        end = run_code(machine, code, main, (0,) * 4096, (999,))
        self.assertEqual(end, main[:12288] + main[:4096])

    def test_long_code_that_is_skipped(self):
        code = (("set", 1, -1), ("skip", 1, 3999998)) + (("set", 2, 1),) * 3999998
        made = device(*code)
        self.assertEqual((made.step(), made.step(), made.step(), made.at), (True, True, False, 4000000))
