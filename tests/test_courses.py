"""Point 1503: training with marks."""

import random
import unittest

from tensorworks.courses import Course
from tensorworks.errors import FeedError, FormError, KeptError, KindError, MarkError, RangeError
from tensorworks.journal import journal_line
from tensorworks.scheduling import default_schedule
from tensorworks.trainer import Trainer
from tensorworks.updating import step_graph
from tests.helpers import const, error_of, graph_of, scalar
from tests.trainable import LINE, LINE_BATCHES, WIDE

SMALL = graph_of([scalar(-90, 90), scalar(-9, 9), ("sub", (0, 1), ()), ("mul", (2, 2), ())])
STEP = step_graph(SMALL, (0,), 3, -90, 90)


def make(kind=Course, graph=SMALL, parameters=(0,), rate=3, low=-90, high=90, schedule=default_schedule(STEP), machine=WIDE, weights=((80,),)):
    return kind(graph, parameters, rate=rate, low=low, high=high, schedule=schedule, machine=machine, weights=weights)


def step(course, n):
    return course.step(((n,),), (0,), ())


def state(course):
    return (course.weights, course.steps, course.journal, course.losses)


class Steps(unittest.TestCase):
    def test_like_a_trainer(self):
        course, trainer, losses = make(), make(Trainer), []
        self.assertEqual(state(course), (((80,),), 0, journal_line(0, ((80,),)), ()))
        self.assertEqual(course.marks, ())
        for n in (3, -5, 9, 0):
            losses.append(step(course, n))
            self.assertEqual(losses[-1], step(trainer, n))
            self.assertEqual(state(course), (trainer.weights, trainer.steps, trainer.journal, tuple(losses)))

    def test_errors_leave_everything(self):
        course = make()
        step(course, 3)
        course.mark("a")
        before = state(course)
        for batch, filler, delays, expected in (
                ((), (), (-1,), FeedError), (((1,), (1,)), (), (), FeedError), (((10,),), (0,), (), RangeError), (((1, 1),), (0,), (), FeedError),
                (((1,),), (), (), FeedError), (((1,),), (0,), (-1,), FeedError)):
            self.assertIs(error_of(course.step, batch, filler, delays), expected)
            self.assertEqual((state(course), course.marks), (before, (("a", 1),)))

    def test_errors_of_making(self):
        for parts, expected in (
                ({"graph": ((("what", (), ()),), (0,))}, KindError), ({"graph": graph_of([const("", 1)])}, FormError),
                ({"rate": 0}, RangeError), ({"parameters": (2,)}, RangeError), ({"low": -91}, RangeError), ({"schedule": ((), (), (), ())}, KeptError),
                ({"weights": ()}, FeedError), ({"weights": ((91,),)}, RangeError), ({"weights": ((1, 1),)}, FeedError), ({}, None)):
            self.assertIs(error_of(lambda: make(**parts)), expected, parts)

    def test_several_parameters(self):
        args = (LINE, (1, 2), 5, -100, 100)
        course = make(Course, *args, default_schedule(step_graph(*args)), WIDE, ((0,), (0,)))
        course.mark("start")
        for batch in LINE_BATCHES:
            course.step(batch, (1,), (2,))
        told = state(course)
        self.assertEqual(course.back("start"), 3)
        self.assertEqual(state(course), (((0,), (0,)), 0, journal_line(0, ((0,), (0,))), ()))
        for batch in LINE_BATCHES:
            course.step(batch, (3,), ())
        self.assertEqual(state(course), told)


class Marks(unittest.TestCase):
    def test_names(self):
        course = make()
        for name in ("", "A", "a1", "a b", " a", "a\n", "-", "_", "\u00e4", "a" * 21, "aB", "\u0430"):
            self.assertIs(error_of(course.mark, name), MarkError, name)
        self.assertEqual(course.marks, ())
        for name in ("a", "z", "a" * 20, "abc"):
            self.assertIsNone(course.mark(name))
        self.assertEqual(course.marks, (("a", 0), ("z", 0), ("a" * 20, 0), ("abc", 0)))

    def test_same_name(self):
        course = make()
        course.mark("a")
        step(course, 1)
        self.assertIs(error_of(course.mark, "a"), MarkError)
        self.assertEqual(course.marks, (("a", 0),))
        course.erase("a")
        course.mark("a")
        self.assertEqual(course.marks, (("a", 1),))

    def test_limit(self):
        course = make()
        names = [chr(97 + k // 26) + chr(97 + k % 26) for k in range(51)]
        for name in names[:50]:
            course.mark(name)
        self.assertIs(error_of(course.mark, names[50]), MarkError)
        self.assertEqual(course.marks, tuple((name, 0) for name in names[:50]))
        course.erase(names[7])
        course.mark(names[50])
        self.assertIs(error_of(course.mark, names[7]), MarkError)
        self.assertEqual(len(course.marks), 50)
        course.back(names[3])
        self.assertEqual(course.marks, tuple((name, 0) for name in names[:4]))

    def test_no_such_mark(self):
        course = make()
        course.mark("a")
        step(course, 2)
        before = state(course)
        for name in ("b", "", "A", "aa"):
            self.assertIs(error_of(course.back, name), MarkError)
            self.assertIs(error_of(course.erase, name), MarkError)
        self.assertEqual((state(course), course.marks), (before, (("a", 0),)))


class Back(unittest.TestCase):
    def test_there_and_back(self):
        course = make()
        states = [state(course)]
        for k, n in enumerate((3, -5, 9, 0, 2)):
            if k in (1, 3):
                course.mark("abcde"[k])
            step(course, n)
            states.append(state(course))
        self.assertEqual(course.marks, (("b", 1), ("d", 3)))
        self.assertEqual(course.back("d"), 2)
        self.assertEqual((state(course), course.marks), (states[3], (("b", 1), ("d", 3))))
        self.assertEqual(course.back("d"), 0)
        for n, expected in ((0, states[4]), (2, states[5])):
            step(course, n)
            self.assertEqual(state(course), expected)
        self.assertEqual(course.back("b"), 4)
        self.assertEqual((state(course), course.marks), (states[1], (("b", 1),)))
        self.assertIs(error_of(course.back, "d"), MarkError)
        for n, expected in ((-5, states[2]), (9, states[3])):
            step(course, n)
            self.assertEqual(state(course), expected)

    def test_marks_behind(self):
        """Marks that were made behind it are gone, also those of the same state; earlier ones stay."""
        course = make()
        for name in ("a", "b", "c"):
            course.mark(name)
        step(course, 1)
        course.mark("d")
        self.assertEqual(course.back("b"), 1)
        self.assertEqual(course.marks, (("a", 0), ("b", 0)))
        course.mark("c")
        self.assertEqual(course.marks, (("a", 0), ("b", 0), ("c", 0)))

    def test_other_steps(self):
        """What follows a mark anew may be something else."""
        course = make()
        step(course, 3)
        course.mark("a")
        step(course, 9)
        course.back("a")
        step(course, -9)
        other = make()
        step(other, 3)
        step(other, -9)
        self.assertEqual(state(course), state(other))

    def test_erase(self):
        course = make()
        course.mark("a")
        step(course, 3)
        course.mark("b")
        step(course, 4)
        before = state(course)
        self.assertIsNone(course.erase("a"))
        self.assertEqual((state(course), course.marks), (before, (("b", 1),)))
        self.assertEqual(course.back("b"), 1)

    def test_random(self):
        for seed in range(8):
            chance = random.Random(seed)
            course, marks, told, now = make(), [], {}, [state(make())]
            for turn in range(30):
                what = chance.randrange(5)
                if what < 2:
                    step(course, chance.randint(-9, 9))
                    now = now + [state(course)]
                elif what == 2:
                    name = "abcdefghijklmnopqrstuvwxyzabcd"[turn] * (1 + turn // 26)
                    course.mark(name)
                    marks.append(name)
                    told[name] = now
                elif marks:
                    name = chance.choice(marks)
                    if what == 3:
                        self.assertEqual(course.back(name), len(now) - len(told[name]))
                        marks, now = marks[:marks.index(name) + 1], told[name]
                    else:
                        course.erase(name)
                        marks.remove(name)
                self.assertEqual(state(course), now[-1])
                self.assertEqual(course.marks, tuple((name, len(told[name]) - 1) for name in marks))
