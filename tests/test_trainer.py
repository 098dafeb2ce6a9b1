"""Points 1102, 1104 and 1105: training, and going on after a crash."""

import unittest

from tensorworks.building import build
from tensorworks.errors import (
    ChangeError, FeedError, FormError, JournalError, KeptError, KindError, MachineError, NoRoom, PlaceError, RangeError, RuleError,
    TooWide)
from tensorworks.journal import journal_line
from tensorworks.scheduling import default_schedule, tuned_schedule
from tensorworks.trainer import Trainer, resume
from tensorworks.updating import step_graph
from tests.helpers import const, error_of, graph_of, scalar, tensor
from tests.trainable import LINE, LINE_BATCHES, WIDE, descent, random_batch, random_trainable, random_weights

ARGS = (LINE, (1, 2), 5, -100, 100)
FIRST = ((0,), (0,))
STEP = step_graph(*ARGS)
PLAIN = default_schedule(STEP)


def trainer(args=ARGS, schedule=None, machine=WIDE, weights=FIRST):
    graph, parameters, rate, low, high = args
    if schedule is None:
        schedule = default_schedule(step_graph(*args))
    return Trainer(graph, parameters, rate=rate, low=low, high=high, schedule=schedule, machine=machine, weights=weights)


def made_error(args=ARGS, schedule=PLAIN, machine=WIDE, weights=FIRST):
    return error_of(trainer, args, schedule, machine, weights)


def state(of):
    return (of.weights, of.steps, of.journal)


class Steps(unittest.TestCase):
    def test_first_state(self):
        self.assertEqual(state(trainer()), (FIRST, 0, journal_line(0, FIRST)))
        self.assertEqual(state(trainer(weights=((-100,), (100,)))), (((-100,), (100,)), 0, journal_line(0, ((-100,), (100,)))))

    def test_line(self):
        """A line is laid through points, the same for each schedule."""
        points = ((1, 2, -3, 0), (5, 7, -5, 1))
        for schedule in (PLAIN, tuned_schedule(STEP, WIDE)):
            made = trainer(schedule=schedule)
            weights, lines = FIRST, [journal_line(0, FIRST)]
            for k in range(1, 13):
                expected, loss = descent(ARGS, weights, points)
                self.assertEqual(made.step(points, (k,), (k, 0)), loss)
                weights = expected
                lines.append(journal_line(k, weights))
                self.assertEqual(state(made), (weights, k, "".join(lines)))
            self.assertEqual(weights, ((2,), (0,)))

    def test_random(self):
        for seed in range(25):
            args = random_trainable(seed)
            weights = random_weights(args, seed)
            made = trainer(args, tuned_schedule(step_graph(*args), WIDE) if seed % 2 else None, (200, 4096, 64, 1, 1), weights)
            for k in range(4):
                batch = random_batch(args, 10 * seed + k)
                expected, loss = descent(args, weights, batch)
                self.assertEqual(made.step(batch, (seed, -k), (k, 3)), loss)
                weights = expected
                self.assertEqual(made.weights, weights)
            self.assertEqual(made.steps, 4)

    def test_other_order_of_parameters(self):
        """Batch inputs stand before, between and behind the parameters."""
        nodes = [scalar(0, 9), tensor("k2", -9, 9), scalar(0, 9), tensor("k2", -9, 9), scalar(0, 9)]
        nodes += [("mul", (1, 0), ()), ("mul", (3, 2), ()), ("dot", (5, 6), ("k",)), ("mul", (7, 4), ())]
        args = (graph_of(nodes), (1, 3), 2, -9, 9)
        made = trainer(args, weights=((1, 2), (3, 4)))
        batch = ((2,), (1,), (3,))
        expected, loss = descent(args, ((1, 2), (3, 4)), batch)
        self.assertEqual((made.step(batch, (0,), ()), made.weights), (loss, expected))

    def test_no_batch_inputs(self):
        graph = graph_of([tensor("k2", -9, 9), ("dot", (0, 0), ("k",))])
        made = trainer((graph, (0,), 2, -9, 9), weights=((9, -8),))
        self.assertEqual([made.step((), (1,), ()) for _ in range(3)], [145, 32, 8])
        self.assertEqual(made.weights, ((1, -1),))

    def test_errors_leave_everything(self):
        made = trainer()
        made.step(LINE_BATCHES[0], (0,), ())
        before = state(made)
        good = LINE_BATCHES[1]
        for batch, filler, delays, expected in (
                ((), (), (-1,), FeedError), (good[:1], (0,), (), FeedError), (good + good[:1], (0,), (), FeedError),
                ((good[0], good[1][:3]), (), (), FeedError), (((9, 0, 0, 0), good[1]), (), (), RangeError),
                ((good[0], (51, 0, 0, 0)), (0,), (), RangeError), (((9, 0, 0), good[1]), (0,), (), FeedError),
                (good, (), (), FeedError), (good, (1 << 127,), (), FeedError), (good, (0,), (-1,), FeedError)):
            self.assertIs(error_of(made.step, batch, filler, delays), expected)
            self.assertEqual(state(made), before)
        made.step(good, (0,), ())
        self.assertEqual(made.steps, 2)

    def test_too_few_tuples_first(self):
        """The number of tuples is looked at first of all, also where the machine would find other faults."""
        self.assertIs(error_of(trainer().step, (((99,) * 4),), (), (-1,)), FeedError)
        self.assertIs(error_of(trainer().step, (((99,) * 4), (0,) * 4), (), (-1,)), RangeError)


class Errors(unittest.TestCase):
    def test_step_graph(self):
        for args, expected in (
                ((((("what", (), ()),), (0,)), (), 0, 5, -5), KindError), ((graph_of([const("", 1)]), (), 0, 5, -5), FormError),
                ((LINE, (), 5, -100, 100), RangeError), ((LINE, (1, 2), 0, -100, 100), RangeError), ((LINE, (1,), 5, -101, 0), RangeError)):
            self.assertIs(made_error(args, ((("no", 0),), (), (), ()), (0, 0, 0, 0, 0), ()), expected)

    def test_build(self):
        many = len(STEP[0])
        for schedule, machine, expected in (
                (((("no", 0),), (), (), ()), (0, 0, 0, 0, 0), MachineError), (((("no", 0),), (), (), ()), WIDE, RuleError),
                (((), (), (), ()), WIDE, KeptError), (((), PLAIN[1], (("swap", (many,)),), PLAIN[3]), WIDE, ChangeError),
                (PLAIN, (32, 9, 20, 1, 1), None), (((), PLAIN[1], (), ()), WIDE, PlaceError), (PLAIN, (64, 9, 20, 1, 1), NoRoom)):
            if expected is not None:
                self.assertIs(made_error(schedule=schedule, machine=machine, weights=()), expected)
        far = graph_of([scalar(-2 ** 20, 2 ** 20), ("mul", (0, 0), ())])
        args = (far, (0,), 5, -9, 9)
        self.assertIs(made_error(args, default_schedule(step_graph(*args)), (32, 99, 20, 1, 1), ()), TooWide)
        self.assertIsNone(made_error(args, default_schedule(step_graph(*args)), (64, 99, 20, 1, 1), ((5,),)))

    def test_weights(self):
        for weights, expected in (
                ((), FeedError), (((0,),), FeedError), (((0,), (0,), (0,)), FeedError), (((), (0,)), FeedError),
                (((0, 0), (0,)), FeedError), (((0,), (0, 0)), FeedError), (((101,), (0,)), RangeError), (((0,), (-101,)), RangeError),
                (((101,), ()), RangeError), (((), (101,)), FeedError), (((-100,), (100,)), None)):
            self.assertIs(made_error(weights=weights), expected)

    def test_weights_between_low_and_high(self):
        """The limits are low and high, not the ends of the input."""
        args = (LINE, (1, 2), 5, -3, 4)
        schedule = default_schedule(step_graph(*args))
        for weights, expected in ((((-3,), (4,)), None), (((-4,), (4,)), RangeError), (((-3,), (5,)), RangeError)):
            self.assertIs(made_error(args, schedule, weights=weights), expected)


class Resume(unittest.TestCase):
    def setUp(self):
        self.made = trainer()
        self.states = [state(self.made)]
        for k in range(5):
            self.made.step(LINE_BATCHES[k % 3], (0,), ())
            self.states.append(state(self.made))

    def refuse(self, text, other=None):
        """Check that a journal is refused and leaves a trainer as it was."""
        other = other or trainer()
        before = state(other)
        self.assertIs(error_of(resume, other, text), JournalError)
        self.assertEqual(state(other), before)

    def test_cut_off_anywhere(self):
        journal = self.made.journal
        lines = journal.split("\n")[:-1]
        for at in range(len(journal) + 1):
            text = journal[:at]
            whole = text.count("\n")
            other = trainer()
            if whole == 0:
                self.refuse(text, other)
                continue
            self.assertEqual(resume(other, text), whole - 1)
            self.assertEqual(state(other), self.states[whole - 1])
            self.assertEqual(other.journal, "\n".join(lines[:whole]) + "\n")

    def test_going_on(self):
        for steps in range(6):
            other = trainer(schedule=tuned_schedule(STEP, WIDE))
            resume(other, self.states[steps][2] + "step 77")
            for k in range(steps, 5):
                other.step(LINE_BATCHES[k % 3], (9,), (4,))
                self.assertEqual(state(other), self.states[k + 1])

    def test_trainer_that_went_on(self):
        """A trainer that has made steps goes to where the journal leads, forward or back."""
        other = trainer()
        for k in (2, 1):
            other.step(LINE_BATCHES[k], (0,), ())
        self.assertEqual(resume(other, self.made.journal), 5)
        self.assertEqual(state(other), self.states[5])
        self.assertEqual(resume(other, self.states[1][2]), 1)
        self.assertEqual(state(other), self.states[1])
        self.refuse(self.made.journal[:10], other)
        self.assertEqual(resume(other, self.states[0][2]), 0)
        self.assertEqual(state(other), self.states[0])

    def test_whatever_follows_the_last_line_feed(self):
        for rest in ("", " ", "x", "step 6 ; 1 ; 2 check 9", "\r", self.states[0][2][:-1]):
            other = trainer()
            self.assertEqual(resume(other, self.made.journal + rest), 5)
            self.assertEqual(other.journal, self.made.journal)

    def test_no_whole_line(self):
        for text in ("", "step 0", self.states[0][2][:-1], self.states[0][2].replace("\n", "\r")):
            self.refuse(text)

    def test_faults_in_lines(self):
        lines = self.made.journal.split("\n")[:-1]
        for at in range(len(lines)):
            for wrong in (
                    "", lines[at] + " ", lines[at][1:], lines[at].replace(";", ","), lines[at][:-1], lines[at] + "\r", " " + lines[at],
                    journal_line(at, ((0,),))[:-1], journal_line(at, ((0, 0), (0,)))[:-1], journal_line(at, ((0,), (0,), (0,)))[:-1],
                    journal_line(at, ((101,), (0,)))[:-1], journal_line(at, ((0,), (-101,)))[:-1], journal_line(at + 1, ((0,), (0,)))[:-1]):
                self.refuse("\n".join(lines[:at] + [wrong] + lines[at + 1:]) + "\n")

    def test_lines_in_another_order(self):
        lines = [line + "\n" for line in self.made.journal.split("\n")[:-1]]
        for at in range(5):
            self.refuse("".join(lines[:at] + [lines[at + 1], lines[at]] + lines[at + 2:]))
            self.refuse("".join(lines[:at + 1] + lines[at:]))
            self.refuse("".join(lines[:at] + lines[at + 1:]))
            self.refuse("\n" + "".join(lines))
        self.refuse("".join(lines) + "\n")

    def test_first_weights(self):
        self.refuse(journal_line(0, ((1,), (0,))))
        self.refuse(self.made.journal, trainer(weights=((0,), (1,))))
        self.refuse(journal_line(0, ((0, 0),)))
        self.assertEqual(resume(trainer(), journal_line(0, FIRST)), 0)

    def test_any_weights_behind_the_first(self):
        """What is not promised is not checked: other weights, as long as they are from low to high."""
        other = trainer()
        self.assertEqual(resume(other, journal_line(0, FIRST) + journal_line(1, ((100,), (-100,)))), 1)
        self.assertEqual(other.weights, ((100,), (-100,)))

    def test_a_changed_character(self):
        journal = self.states[1][2]
        for at in range(len(journal)):
            for sign in "\t -0159;acz\x7f":
                if journal[at] not in ("\n", sign):
                    self.refuse(journal[:at] + sign + journal[at + 1:], self.made)

    def test_image(self):
        """A schedule for the step graph is one for build."""
        self.assertEqual(build(STEP, PLAIN, WIDE).graph, STEP)
        graph = graph_of([tensor("k2", 0, 9), ("sum", (0,), ("k",))])
        self.assertEqual(trainer((graph, (0,), 1, 0, 9), weights=((9, 9),)).step((), (0,), ()), 18)


class WideNumbers(unittest.TestCase):
    def test_numbers_of_seventy_digits(self):
        """No number of an input has more than 61 digits; the journal of one that has is refused."""
        top = 1 << 199
        args = (graph_of([scalar(-top, top)]), (0,), 1, -top, top)
        made = trainer(args, machine=(256, 99, 20, 1, 1), weights=((top,),))
        self.assertEqual(made.step((), (0,), ()), top)
        self.assertEqual(made.weights, ((top - 1,),))
        self.assertEqual(resume(made, made.journal), 1)
        text = journal_line(0, ((top,),))
        for n in (10 ** 69, 10 ** 70 - 1, 10 ** 70):
            self.assertIs(error_of(resume, made, text + journal_line(1, ((n,),))), JournalError)
        self.assertEqual(made.steps, 1)
