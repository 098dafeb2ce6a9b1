"""Points 1401 to 1404: inputs that change, taking back, and the journal of changes."""

import random
import unittest

from tensorworks.errors import FeedError, FormError, KindError, RangeError, TextError
from tensorworks.meaning import evaluate, evaluate_all
from tensorworks.sessions import Session, reached_from, replay_changes
from tests import naive
from tests.helpers import const, count, error_of, graph_of, random_feeds, random_graph, scalar, tensor

MOST = graph_of([scalar(0, 9), scalar(0, 9), ("max", (0, 1), ()), ("neg", (2,), ())])
TOP = 10 ** 70


def state(session):
    return (session.tensors, session.answers, session.evaluated, session.journal)


def naive_anew(graph, before, behind):
    """Return how many nodes have an arg whose value became another one."""
    return sum(any(before[arg] != behind[arg] for arg in args) for _, args, _ in graph[0])


def random_changes(graph, chance, feeds):
    """Return changes of some inputs, near what is fed, and the feeds behind them."""
    inputs = [info for kind, _, info in graph[0] if kind == "input"]
    numbers = sorted(chance.sample(range(len(inputs)), chance.randint(0, len(inputs))))
    changes, fed = [], list(feeds)
    for k in numbers:
        shape, low, high = inputs[k]
        row = list(fed[k])
        for e in range(count(shape)):
            if chance.randint(0, 2) == 0:
                row[e] = chance.randint(low, high)
        fed[k] = tuple(row)
        changes.append((k, fed[k]))
    return tuple(changes), tuple(fed)


class First(unittest.TestCase):
    def test_state(self):
        session = Session(MOST, ((4,), (7,)))
        self.assertEqual(state(session), (((4,), (7,), (7,), (-7,)), ((-7,),), 2, ""))
        self.assertEqual(state(Session(graph_of([const("k2", 1, 2)]), ())), (((1, 2),), ((1, 2),), 0, ""))

    def test_outputs(self):
        session = Session(graph_of(list(MOST[0]), 3, 0, 3), ((4,), (7,)))
        self.assertEqual(session.answers, ((-7,), (4,), (-7,)))

    def test_errors(self):
        for graph, feeds, expected in (
                (((("what", (), ()),), (0,)), (), KindError), (((), ()), (), FormError), (MOST, (), FeedError), (MOST, ((4,), (7, 7)), FeedError),
                (MOST, ((10,), (7, 7)), RangeError), (MOST, ((4,), (-1,)), RangeError), (MOST, ((4,), (7,), ()), FeedError)):
            self.assertIs(error_of(Session, graph, feeds), expected)


class Change(unittest.TestCase):
    def test_example(self):
        session = Session(MOST, ((4,), (7,)))
        self.assertEqual(session.change(((0, (5,)),)), 1)
        self.assertEqual(session.change(((1, (3,)),)), 2)
        self.assertEqual(state(session), (((5,), (3,), (5,), (-5,)), ((-5,),), 5, "change ; 0 5\nchange ; 1 3\n"))

    def test_only_what_changes(self):
        """A node whose args stay as they were is not evaluated, nor what hangs on it alone."""
        nodes = [tensor("k2", 0, 9), tensor("k2", 0, 9), ("mul", (0, 1), ()), ("sum", (2,), ("k",)), ("neg", (3,), ()), ("add", (4, 0), ())]
        session = Session(graph_of(nodes), ((1, 2), (4, 3)))
        self.assertEqual(session.change(((0, (1, 2)),)), 0)
        self.assertEqual(session.change(((0, (4, 2)), (1, (1, 3)))), 2)
        self.assertEqual(session.tensors[2:], ((4, 6), (10,), (-10,), (-6, -8)))
        self.assertEqual(session.change(((0, (6, 4)), (1, (0, 1)))), 4)
        self.assertEqual(session.change(((1, (1, 0)),)), 4)
        self.assertEqual(session.change(((0, (6, 5)),)), 2)
        self.assertEqual(session.evaluated, 4 + 0 + 2 + 4 + 4 + 2)

    def test_changes_that_are_none(self):
        session = Session(MOST, ((4,), (7,)))
        self.assertEqual(session.change(()), 0)
        self.assertEqual(session.change(((0, (4,)), (1, (7,)))), 0)
        self.assertEqual(state(session), (((4,), (7,), (7,), (-7,)), ((-7,),), 2, "change\nchange ; 0 4 ; 1 7\n"))
        self.assertTrue(session.undo())
        self.assertEqual(session.journal, "change\n")
        self.assertTrue(session.undo())
        self.assertFalse(session.undo())

    def test_all_at_once(self):
        """Two inputs that change in one step, so that their sum stays as it was."""
        nodes = [scalar(0, 9), scalar(0, 9), ("add", (0, 1), ()), ("neg", (2,), ())]
        session = Session(graph_of(nodes), ((4,), (5,)))
        self.assertEqual(session.change(((0, (5,)), (1, (4,)))), 1)
        self.assertEqual(session.change(((0, (4,)),)), 2)
        self.assertEqual(session.change(((1, (5,)),)), 2)

    def test_random(self):
        for seed in range(60):
            chance = random.Random(seed)
            graph = random_graph(seed, 12)
            feeds = random_feeds(graph, seed)
            session, total = Session(graph, feeds), sum(bool(args) for _, args, _ in graph[0])
            reached = reached_from(graph, tuple(range(len(feeds))))
            for _ in range(6):
                before = session.tensors
                changes, feeds = random_changes(graph, chance, feeds)
                anew = session.change(changes)
                self.assertEqual(session.tensors, naive.values_of(graph, feeds))
                self.assertEqual(session.answers, evaluate(graph, feeds))
                self.assertEqual(anew, naive_anew(graph, before, session.tensors))
                self.assertLessEqual(anew, len(reached_from(graph, tuple(k for k, _ in changes))))
                total += anew
                self.assertEqual(session.evaluated, total)
            self.assertLessEqual(len(reached), len(graph[0]))

    def test_errors(self):
        nodes = [tensor("k2", 0, 9), scalar(0, 9), scalar(0, 9), ("add", (0, 1), ())]
        session = Session(graph_of(nodes), ((1, 2), (3,), (4,)))
        session.change(((1, (5,)),))
        session.undo()
        before = state(session)
        for changes, expected in (
                (((3, (1,)),), RangeError), (((-1, (1,)),), RangeError), (((1, (1,)), (0, (1, 1))), RangeError), (((1, (1,)), (1, (1,))), RangeError),
                (((0, ()), (3, (1,))), RangeError), (((0, (1,)),), FeedError), (((0, (1, 2, 3)),), FeedError), (((0, ()),), FeedError),
                (((0, (1, 10)),), RangeError), (((0, (-1, 1)),), RangeError), (((0, (1, 10, 1)),), FeedError),
                (((0, (1, 10)), (1, ())), RangeError), (((0, (1,)), (1, (10,))), FeedError), (((0, (1, 1)), (2, (10,))), RangeError)):
            self.assertIs(error_of(session.change, changes), expected, changes)
            self.assertEqual(state(session), before)
        self.assertTrue(session.redo())
        self.assertEqual(session.tensors[1], (5,))


class UndoAndRedo(unittest.TestCase):
    def test_none(self):
        session = Session(MOST, ((4,), (7,)))
        before = state(session)
        self.assertIs(session.undo(), False)
        self.assertIs(session.redo(), False)
        self.assertEqual(state(session), before)

    def test_there_and_back(self):
        session = Session(MOST, ((4,), (7,)))
        tensors = [session.tensors]
        lines = []
        for k, n in ((0, 5), (1, 3), (0, 1), (1, 9)):
            session.change(((k, (n,)),))
            tensors.append(session.tensors)
            lines.append(f"change ; {k} {n}\n")
        evaluated = session.evaluated
        for k in (3, 2, 1, 0):
            self.assertIs(session.undo(), True)
            self.assertEqual((session.tensors, session.journal), (tensors[k], "".join(lines[:k])))
        self.assertIs(session.undo(), False)
        for k in (1, 2, 3, 4):
            self.assertIs(session.redo(), True)
            self.assertEqual((session.tensors, session.journal), (tensors[k], "".join(lines[:k])))
        self.assertIs(session.redo(), False)
        self.assertEqual(session.evaluated, evaluated)

    def test_a_change_ends_redo(self):
        for changes in ((), ((0, (4,)),), ((1, (2,)),)):
            session = Session(MOST, ((4,), (7,)))
            session.change(((0, (5,)),))
            session.undo()
            session.change(changes)
            self.assertIs(session.redo(), False)
            self.assertIs(session.undo(), True)
            self.assertEqual(session.tensors, ((4,), (7,), (7,), (-7,)))
            self.assertIs(session.redo(), True)

    def test_random_orders(self):
        for seed in range(40):
            chance = random.Random(seed)
            graph = random_graph(seed, 9)
            feeds = random_feeds(graph, seed)
            session, past, future = Session(graph, feeds), [], []
            for _ in range(25):
                what = chance.randrange(3)
                evaluated = session.evaluated
                if what == 0:
                    changes, fed = random_changes(graph, chance, feeds)
                    session.change(changes)
                    past.append((feeds, fed, changes))
                    feeds, future = fed, []
                elif what == 1:
                    self.assertIs(session.undo(), bool(past))
                    if past:
                        future.append(past.pop())
                        feeds = future[-1][0]
                else:
                    self.assertIs(session.redo(), bool(future))
                    if future:
                        past.append(future.pop())
                        feeds = past[-1][1]
                if what:
                    self.assertEqual(session.evaluated, evaluated)
                self.assertEqual(session.tensors, evaluate_all(graph, feeds))
                words = ["change" + "".join(f" ; {k} " + " ".join(map(str, row)) for k, row in changes) for _, _, changes in past]
                self.assertEqual(session.journal, "".join(line + "\n" for line in words))


class ReachedFrom(unittest.TestCase):
    NODES = [scalar(0, 9), const("", 1), scalar(0, 9), ("neg", (0,), ()), ("add", (1, 1), ()), ("mul", (3, 2), ()), ("neg", (4,), ()), scalar(0, 9)]

    def test_nodes(self):
        graph = graph_of(self.NODES, 0)
        for inputs, expected in (((), ()), ((0,), (3, 5)), ((1,), (5,)), ((2,), ()), ((0, 1), (3, 5)), ((0, 1, 2), (3, 5)), ((1, 2), (5,))):
            self.assertEqual(reached_from(graph, inputs), expected)

    def test_errors(self):
        graph = graph_of(self.NODES, 0)
        for inputs in ((3,), (-1,), (1, 0), (1, 1), (0, 1, 2, 3), (0, 3)):
            self.assertIs(error_of(reached_from, graph, inputs), RangeError)
        self.assertIs(error_of(reached_from, ((("what", (), ()),), (0,)), (9,)), KindError)
        self.assertIs(error_of(reached_from, ((), ()), (9,)), FormError)

    def test_only_these_are_evaluated(self):
        for seed in range(40):
            graph = random_graph(seed, 12)
            feeds = random_feeds(graph, seed)
            for k in range(len(feeds)):
                session = Session(graph, feeds)
                before = session.tensors
                session.change(((k, random_feeds(graph, seed + 99)[k]),))
                other = [at for at, (a, b) in enumerate(zip(before, session.tensors)) if a != b and graph[0][at][1]]
                self.assertLessEqual(set(other), set(reached_from(graph, (k,))))


class Replay(unittest.TestCase):
    def test_same_feeds(self):
        for seed in range(40):
            chance = random.Random(seed)
            graph = random_graph(seed, 9)
            first = feeds = random_feeds(graph, seed)
            session, anew = Session(graph, feeds), 0
            for _ in range(5):
                changes, feeds = random_changes(graph, chance, feeds)
                anew += session.change(changes)
            other = Session(graph, first)
            self.assertEqual(replay_changes(other, session.journal), anew)
            self.assertEqual(state(other), state(session))

    def test_what_was_taken_back_is_left_out(self):
        session = Session(MOST, ((4,), (7,)))
        for n in (5, 6, 8):
            session.change(((0, (n,)),))
        session.undo()
        other = Session(MOST, ((4,), (7,)))
        self.assertEqual(replay_changes(other, session.journal), 2)
        self.assertEqual(other.tensors, session.tensors)

    def test_behind_other_changes(self):
        session = Session(MOST, ((4,), (7,)))
        session.change(((0, (8,)),))
        self.assertEqual(replay_changes(session, "change ; 1 2\nchange\nchange ; 0 1 ; 1 1\n"), 1 + 0 + 2)
        self.assertEqual(session.journal, "change ; 0 8\nchange ; 1 2\nchange\nchange ; 0 1 ; 1 1\n")
        self.assertEqual((session.answers, session.evaluated), (((-1,),), 2 + 2 + 1 + 2))
        for expected in ((-8,), (-8,), (-8,), (-7,)):
            session.undo()
            self.assertEqual(session.answers, (expected,))
        self.assertFalse(session.undo())

    def test_no_lines(self):
        """The empty text has no change, so what was taken back can still be made again."""
        session = Session(MOST, ((4,), (7,)))
        session.change(((0, (8,)),))
        session.undo()
        self.assertEqual(replay_changes(session, ""), 0)
        self.assertTrue(session.redo())

    def test_texts_that_are_no_journal(self):
        session = Session(graph_of([tensor("k2", -9, 9), scalar(-9, 9)]), ((1, 2), (3,)))
        session.change(((1, (4,)),))
        session.undo()
        before = state(session)
        for text in (
                "\n", "change", " ", "Change\n", "change \n", " change\n", "change\n\n", "\nchange\n", "change ;\n", "change ; \n",
                "change ; 1 5 \n", "change ; 1  5\n", "change  ; 1 5\n", "change ; 1 5 ;\n", "change ; 1 5 ; \n", "change 1 5\n",
                "change; 1 5\n", "change ;1 5\n", "change ; 01 5\n", "change ; +1 5\n", "change ; -1 5\n", "change ; -0 1 1\n", "change ; x 5\n",
                "change ; 1 05\n", "change ; 1 +5\n", "change ; 1 -0\n", "change ; 1 5.\n", "change ; 1 x\n", "change ; 1 5\r\n", "change ; 1 5",
                "change ; 1 5\nchange", "change ; 1 \u0665\n", "change change\n", "change ; ; 1 5\n", "chang ; 1 5\n",
                f"change ; 1 {TOP}\n", f"change ; {TOP} 5\n", f"change ; 1 -{TOP}\n", "change\tchange\n", "change ; 1 5\n ", "change,\n"):
            self.assertIs(error_of(replay_changes, session, text), TextError, text)
            self.assertEqual(state(session), before)
        self.assertTrue(session.redo())

    def test_errors_of_the_changes(self):
        session = Session(graph_of([tensor("k2", -9, 9), scalar(-9, 9)]), ((1, 2), (3,)))
        before = state(session)
        good = "change ; 1 5\n"
        for text, expected in (
                ("change ; 2 5\n", RangeError), ("change ; 1 5 ; 0 1 1\n", RangeError), ("change ; 1 5 ; 1 5\n", RangeError), ("change ; 0 1\n", FeedError),
                ("change ; 0 1 1 1\n", FeedError), ("change ; 0\n", FeedError), ("change ; 1 10\n", RangeError), (f"change ; 1 {TOP - 1}\n", RangeError),
                (f"change ; {TOP - 1} 5\n", RangeError), ("change ; 1 10\nchange ; x\n", RangeError), ("change ; x\nchange ; 1 10\n", TextError),
                ("change ; 0 1\nchange ; 1 10\n", FeedError), ("change ; 1 10\nchange", TextError)):
            self.assertIs(error_of(replay_changes, session, text), expected, text)
            self.assertIs(error_of(replay_changes, session, good + text), expected, text)
            self.assertEqual(state(session), before)
        self.assertEqual(replay_changes(session, good), 0)
