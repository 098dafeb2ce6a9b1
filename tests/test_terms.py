"""Points 501 to 504: normal forms, make, pick and value."""

import random
import unittest

from tensorworks.errors import FormError, RangeError, TooWide
from tensorworks.terms import VALUE_LIMIT, Terms
from tests import naive_terms
from tests.helpers import error_of

TOP = 1 << 20000


class Table(unittest.TestCase):
    """Some variables in a table, with short names for what is made of them."""

    def setUp(self):
        self.table = Terms()
        self.x = self.table.variable((0,), -3, 3)
        self.y = self.table.variable((1,), 0, 9)
        self.z = self.table.variable((2, 5), 1, 2)
        self.bit = self.table.variable((3,), 0, 1)

    def n(self, n):
        return self.table.number(n)

    def make(self, kind, *ids, info=()):
        return self.table.make(kind, ids, info)

    def add(self, a, b):
        return self.make("add", a, b)

    def mul(self, a, b):
        return self.make("mul", a, b)

    def span(self, term):
        return self.table.span(term)


class Basics(Table):
    def test_limit(self):
        self.assertEqual(VALUE_LIMIT, 20000)

    def test_numbers(self):
        self.assertEqual(self.n(5), self.n(5))
        self.assertNotEqual(self.n(5), self.n(-5))
        self.assertEqual(self.span(self.n(TOP)), (TOP, TOP))

    def test_length(self):
        self.assertEqual(len(Terms()), 0)
        table = Terms()
        for made in (table.number(1), table.variable((0,), 0, 1), table.number(2)):
            self.assertLess(made, len(table))
        size = len(table)
        table.number(1)
        table.variable((0,), 0, 1)
        self.assertEqual(len(table), size)
        self.assertLess(table.make("add", (0, 1), ()), len(table))

    def test_variables(self):
        self.assertEqual(self.table.variable((0,), -3, 3), self.x)
        self.assertEqual(self.span(self.z), (1, 2))
        self.assertNotEqual(self.table.variable((0, 0), -3, 3), self.x)
        self.assertIs(error_of(self.table.variable, (0,), -3, 4), FormError)
        self.assertIs(error_of(self.table.variable, (0,), -2, 3), FormError)
        self.assertIs(error_of(self.table.variable, (0,), 4, 3), RangeError)
        self.assertIs(error_of(self.table.variable, (9,), 4, 3), RangeError)
        self.assertEqual(self.table.variable((0,), -3, 3), self.x)

    def test_variables_that_are_numbers(self):
        self.assertEqual(self.table.variable((7,), 4, 4), self.n(4))
        self.assertEqual(self.table.variable((8,), 4, 4), self.n(4))
        self.assertIs(error_of(self.table.variable, (7,), 4, 5), FormError)
        self.assertIs(error_of(self.table.variable, (7,), 5, 5), FormError)
        self.assertEqual(self.table.variable((7,), 4, 4), self.n(4))

    def test_example(self):
        self.assertEqual(self.make("sub", self.add(self.x, self.y), self.x), self.y)
        self.assertEqual(self.span(self.mul(self.x, self.n(-2))), (-6, 6))


class Sums(Table):
    def test_order_and_brackets(self):
        first = self.add(self.add(self.x, self.y), self.add(self.z, self.n(4)))
        second = self.add(self.n(3), self.add(self.z, self.add(self.add(self.y, self.n(1)), self.x)))
        self.assertEqual(first, second)
        self.assertEqual(self.span(first), (-3 + 0 + 1 + 4, 3 + 9 + 2 + 4))

    def test_factors(self):
        twice = self.add(self.x, self.x)
        self.assertEqual(twice, self.mul(self.x, self.n(2)))
        self.assertEqual(twice, self.mul(self.n(2), self.x))
        self.assertNotEqual(twice, self.mul(self.x, self.n(3)))
        self.assertEqual(self.make("sub", self.mul(self.x, self.n(3)), twice), self.x)
        self.assertEqual(self.make("neg", self.make("neg", self.x)), self.x)
        self.assertEqual(self.make("neg", self.x), self.mul(self.n(-1), self.x))
        self.assertEqual(self.make("sub", self.x, self.y), self.make("neg", self.make("sub", self.y, self.x)))

    def test_nothing_left(self):
        self.assertEqual(self.make("sub", self.x, self.x), self.n(0))
        self.assertEqual(self.mul(self.x, self.n(0)), self.n(0))
        self.assertEqual(self.make("sub", self.add(self.x, self.n(7)), self.x), self.n(7))
        self.assertEqual(self.make("sub", self.add(self.x, self.n(7)), self.n(7)), self.x)
        self.assertEqual(self.mul(self.x, self.n(1)), self.x)

    def test_numbers_over_sums(self):
        made = self.mul(self.add(self.x, self.n(5)), self.n(-2))
        self.assertEqual(made, self.make("sub", self.n(-10), self.add(self.x, self.x)))
        self.assertEqual(self.span(made), (-16, -4))

    def test_spans(self):
        self.assertEqual(self.span(self.make("sub", self.x, self.y)), (-12, 3))
        # the normal form counts: x - y + y is x
        self.assertEqual(self.span(self.add(self.make("sub", self.x, self.y), self.y)), (-3, 3))
        self.assertEqual(self.span(self.make("neg", self.y)), (-9, 0))

    def test_numbers_only(self):
        for kind, n in (("add", 3), ("sub", 7), ("mul", -10), ("max", 5), ("min", -2), ("less", 0), ("equal", 0)):
            self.assertEqual(self.make(kind, self.n(5), self.n(-2)), self.n(n))
        self.assertEqual(self.make("neg", self.n(5)), self.n(-5))


class Units(Table):
    def test_products(self):
        made = self.mul(self.x, self.y)
        self.assertEqual(made, self.mul(self.y, self.x))
        self.assertEqual(self.span(made), (-27, 27))
        self.assertEqual(self.span(self.mul(self.x, self.x)), (-9, 9))
        # products are not brought to a form of their own beyond the order of two terms
        self.assertNotEqual(self.mul(made, self.z), self.mul(self.x, self.mul(self.y, self.z)))
        self.assertNotEqual(self.mul(self.add(self.x, self.x), self.y), self.add(made, made))
        self.assertNotEqual(self.mul(self.x, self.add(self.y, self.z)), self.add(made, self.mul(self.x, self.z)))

    def test_products_in_sums(self):
        made = self.mul(self.x, self.y)
        self.assertEqual(self.make("sub", self.add(made, self.z), made), self.z)

    def test_max_and_min(self):
        for kind, both in (("max", (0, 9)), ("min", (-3, 3))):
            made = self.make(kind, self.x, self.y)
            self.assertEqual(made, self.make(kind, self.y, self.x))
            self.assertEqual(self.span(made), both)
            self.assertEqual(self.make(kind, made, self.x), made)
            self.assertEqual(self.make(kind, self.x, self.x), self.x)
            one = self.make(kind, self.make(kind, self.x, self.y), self.z)
            two = self.make(kind, self.make(kind, self.z, self.x), self.make(kind, self.y, self.x))
            self.assertEqual(one, two)
            self.assertNotEqual(one, made)
        self.assertNotEqual(self.make("max", self.x, self.y), self.make("min", self.x, self.y))

    def test_max_of_several(self):
        made = self.make("max", self.make("max", self.x, self.y), self.z)
        self.assertEqual(self.span(made), (1, 9))
        made = self.make("min", self.make("min", self.x, self.y), self.z)
        self.assertEqual(self.span(made), (-3, 2))

    def test_numbers_in_max(self):
        one = self.make("max", self.make("max", self.x, self.n(0)), self.n(2))
        self.assertEqual(one, self.make("max", self.n(2), self.x))
        self.assertEqual(one, self.make("max", self.make("max", self.n(1), self.x), self.make("max", self.x, self.n(2))))
        self.assertEqual(self.span(one), (2, 3))
        low = self.make("min", self.make("min", self.x, self.n(0)), self.n(2))
        self.assertEqual(low, self.make("min", self.x, self.n(0)))
        # what does not matter stays a member
        self.assertNotEqual(self.make("max", self.y, self.n(-5)), self.y)
        self.assertEqual(self.span(self.make("max", self.y, self.n(-5))), (0, 9))

    def test_min_within_max(self):
        inner = self.make("min", self.x, self.y)
        made = self.make("max", inner, self.z)
        self.assertEqual(self.make("max", self.z, made), made)
        self.assertNotEqual(made, self.make("max", self.make("max", self.x, self.y), self.z))

    def test_one_number_left(self):
        self.assertEqual(self.make("max", self.x, self.n(3)), self.n(3))
        self.assertEqual(self.make("max", self.x, self.n(8)), self.n(8))
        self.assertEqual(self.make("min", self.y, self.n(0)), self.n(0))
        self.assertEqual(self.make("clamp", self.x, info=(5, 7)), self.n(5))
        self.assertEqual(self.make("clamp", self.x, info=(-9, -3)), self.n(-3))
        self.assertEqual(self.make("shift", self.bit, info=(2,)), self.n(0))
        self.assertEqual(self.make("shift", self.x, info=(4,)), self.n(0))
        self.assertEqual(self.make("shift", self.z, info=(2,)), self.make("shift", self.z, info=(2,)))
        self.assertEqual(self.span(self.make("shift", self.z, info=(2,))), (0, 1))

    def test_less(self):
        made = self.make("less", self.x, self.z)
        self.assertEqual(self.span(made), (0, 1))
        self.assertNotEqual(made, self.make("less", self.z, self.x))
        self.assertEqual(self.make("less", self.x, self.n(4)), self.n(1))
        self.assertNotEqual(self.make("less", self.x, self.n(3)), self.n(1))
        self.assertEqual(self.make("less", self.x, self.n(-3)), self.n(0))
        self.assertNotEqual(self.make("less", self.x, self.n(-2)), self.n(0))
        self.assertEqual(self.make("less", self.x, self.x), self.n(0))
        self.assertEqual(self.make("less", self.n(3), self.x), self.n(0))
        self.assertEqual(self.make("less", self.n(-4), self.x), self.n(1))

    def test_equal(self):
        made = self.make("equal", self.x, self.z)
        self.assertEqual(made, self.make("equal", self.z, self.x))
        self.assertEqual(self.span(made), (0, 1))
        self.assertEqual(self.make("equal", self.x, self.x), self.n(1))
        self.assertEqual(self.make("equal", self.x, self.n(4)), self.n(0))
        self.assertEqual(self.make("equal", self.n(-4), self.x), self.n(0))
        self.assertNotEqual(self.make("equal", self.x, self.n(3)), self.n(0))
        twice = self.make("sub", self.add(self.x, self.y), self.y)
        self.assertEqual(self.make("equal", self.x, twice), self.n(1))

    def test_clamp(self):
        self.assertEqual(self.make("clamp", self.x, info=(-3, 3)), self.x)
        self.assertEqual(self.make("clamp", self.x, info=(-9, 9)), self.x)
        made = self.make("clamp", self.x, info=(-3, 2))
        self.assertNotEqual(made, self.x)
        self.assertEqual(self.span(made), (-3, 2))
        self.assertEqual(made, self.make("clamp", self.x, info=(-3, 2)))
        self.assertNotEqual(made, self.make("clamp", self.x, info=(-4, 2)))
        self.assertEqual(self.span(self.make("clamp", self.x, info=(-4, 2))), (-3, 2))

    def test_shift(self):
        made = self.make("shift", self.y, info=(1,))
        self.assertEqual(self.span(made), (0, 5))
        self.assertEqual(made, self.make("shift", self.y, info=(1,)))
        self.assertNotEqual(made, self.make("shift", self.y, info=(2,)))
        self.assertNotEqual(self.make("shift", made, info=(1,)), self.make("shift", self.y, info=(2,)))

    def test_where(self):
        self.assertEqual(self.make("where", self.z, self.x, self.y), self.x)
        self.assertEqual(self.make("where", self.make("neg", self.z), self.x, self.y), self.x)
        self.assertEqual(self.make("where", self.n(0), self.x, self.y), self.y)
        self.assertEqual(self.make("where", self.n(7), self.x, self.y), self.x)
        self.assertEqual(self.make("where", self.bit, self.x, self.x), self.x)
        made = self.make("where", self.bit, self.x, self.y)
        self.assertEqual(self.span(made), (-3, 9))
        self.assertNotEqual(made, self.make("where", self.bit, self.y, self.x))
        self.assertEqual(made, self.make("where", self.bit, self.x, self.y))


class Width(Table):
    def test_exactly_beyond(self):
        top = self.table.variable((20,), 0, TOP)
        self.assertEqual(self.span(self.add(top, self.n(0))), (0, TOP))
        self.assertEqual(self.span(self.add(self.make("sub", top, self.n(1)), self.n(1))), (0, TOP))
        self.assertIs(error_of(self.table.make, "add", (top, self.n(1)), ()), TooWide)
        self.assertIs(error_of(self.table.make, "add", (self.n(TOP), self.n(1)), ()), TooWide)
        bottom = self.make("neg", top)
        self.assertEqual(self.span(bottom), (-TOP, 0))
        self.assertIs(error_of(self.table.make, "sub", (bottom, self.n(1)), ()), TooWide)
        self.assertIs(error_of(self.table.make, "mul", (top, self.n(2)), ()), TooWide)
        self.assertEqual(self.span(self.make("sub", top, top)), (0, 0))

    def test_products(self):
        root = self.table.variable((21,), -(1 << 10000), 1 << 10000)
        self.assertEqual(self.span(self.mul(root, root)), (-TOP, TOP))
        more = self.table.variable((22,), 0, (1 << 10000) + 1)
        self.assertIs(error_of(self.table.make, "mul", (root, more), ()), TooWide)
        self.assertEqual(self.span(self.mul(more, self.n(5))), (0, 5 * ((1 << 10000) + 1)))
        # again, the failed product is not in the table
        self.assertIs(error_of(self.table.make, "mul", (root, more), ()), TooWide)

    def test_the_form_counts(self):
        top = self.table.variable((23,), 0, TOP)
        below = self.make("sub", top, self.n(5))
        self.assertEqual(self.add(below, self.n(5)), top)
        self.assertEqual(self.span(self.make("max", top, self.n(9))), (9, TOP))


class Picks(Table):
    def rows(self, many):
        return tuple(self.table.variable((50, at), -at, at + 1) for at in range(many))

    def test_number(self):
        rows = self.rows(4)
        self.assertEqual([self.table.pick(rows, self.n(at)) for at in range(4)], list(rows))
        self.assertEqual(self.table.pick((self.x,), self.n(0)), self.x)

    def test_leaves_the_list(self):
        rows = self.rows(9)
        self.assertIs(error_of(self.table.pick, rows, self.y), FormError)
        self.assertIs(error_of(self.table.pick, rows, self.n(9)), FormError)
        self.assertIs(error_of(self.table.pick, rows, self.n(-1)), FormError)
        self.assertIs(error_of(self.table.pick, rows, self.x), FormError)
        self.assertIs(error_of(self.table.pick, self.rows(10), self.y), None)

    def test_variable(self):
        rows = self.rows(10)
        made = self.table.pick(rows, self.y)
        self.assertEqual(self.span(made), (-9, 10))
        self.assertEqual(made, self.table.pick(rows, self.y))
        # what lies behind the reach of the index does not count
        self.assertEqual(made, self.table.pick(rows + (self.x,), self.y))
        self.assertNotEqual(made, self.table.pick(rows[::-1], self.y))
        self.assertEqual(self.span(self.table.pick(rows, self.z)), (-2, 3))

    def test_moved_index(self):
        rows = self.rows(10)
        # the choices 1 and 2 by z, from 0 by z - 1
        first = self.table.pick(rows, self.z)
        self.assertEqual(first, self.table.pick(rows[1:3], self.make("sub", self.z, self.n(1))))
        self.assertEqual(first, self.table.pick((self.x,) * 4 + rows, self.add(self.z, self.n(4))))

    def test_stride(self):
        rows = self.rows(20)
        made = self.table.pick(rows, self.mul(self.y, self.n(2)))
        self.assertEqual(made, self.table.pick(rows[::2], self.y))
        self.assertNotEqual(made, self.table.pick(rows[1::2], self.y))
        self.assertEqual(
            self.table.pick(rows, self.add(self.mul(self.y, self.n(2)), self.n(1))),
            self.table.pick(rows[1::2], self.y))

    def test_backwards(self):
        rows = self.rows(10)
        turned = self.make("sub", self.n(9), self.y)
        self.assertEqual(self.table.pick(rows, turned), self.table.pick(rows[::-1], self.y))
        values = {(50, at): at for at in range(10)}
        for y in range(10):
            self.assertEqual(self.table.value(self.table.pick(rows, turned), {**values, (1,): y}), 9 - y)

    def test_sum_of_units(self):
        """The sign is that of the unit with the least id."""
        rows = self.rows(30)
        first, second = sorted((self.y, self.z))
        self.assertEqual(first, self.y)
        down = self.make("sub", self.mul(self.z, self.n(4)), self.mul(self.y, self.n(2)))
        index = self.add(down, self.n(14))                   # 14 + 4 z - 2 y, from 0 to 22
        self.assertEqual(self.span(index), (0, 22))
        # g is -2 and V is y - 2 z, from -4 to 7
        place = self.add(self.make("sub", self.y, self.mul(self.z, self.n(2))), self.n(4))
        made = self.table.pick(rows, index)
        self.assertEqual(made, self.table.pick(tuple(rows[14 - 2 * v] for v in range(-4, 8)), place))
        values = {(50, at): at for at in range(30)}
        for y in range(10):
            for z in (1, 2):
                self.assertEqual(self.table.value(made, {**values, (1,): y, (2, 5): z}), 14 + 4 * z - 2 * y)

    def test_all_the_same(self):
        self.assertEqual(self.table.pick((self.x,) * 10, self.y), self.x)
        rows = (self.y, self.x, self.x, self.z)
        self.assertEqual(self.table.pick(rows, self.z), self.x)
        odd = (self.x, self.y) * 10
        self.assertEqual(self.table.pick(odd, self.mul(self.y, self.n(2))), self.x)

    def test_numbers_as_choices(self):
        made = self.table.pick(tuple(self.n(n) for n in (7, -2, 5, 5, 5, 5, 5, 5, 5, 5)), self.y)
        self.assertEqual(self.span(made), (-2, 7))


class Values(Table):
    def test_each_kind(self):
        values = {(0,): -2, (1,): 7, (2, 5): 2, (3,): 1}
        x, y, z, bit = self.x, self.y, self.z, self.bit
        for made, expected in (
            (self.n(5), 5), (x, -2), (self.add(self.mul(x, self.n(3)), self.add(y, self.n(4))), 5),
            (self.mul(self.mul(x, y), z), -28), (self.make("max", x, z), 2), (self.make("min", x, z), -2),
            (self.make("less", x, z), 1), (self.make("equal", x, z), 0), (self.make("clamp", y, info=(-1, 3)), 3),
            (self.make("shift", y, info=(2,)), 2), (self.make("where", bit, x, y), -2),
            (self.table.pick((x, y, z), self.make("sub", self.n(2), bit)), 7),
        ):
            self.assertEqual(self.table.value(made, values), expected)

    def test_only_what_is_needed(self):
        self.assertEqual(self.table.value(self.add(self.x, self.n(1)), {(0,): 5}), 6)
        self.assertEqual(self.table.value(self.make("max", self.x, self.y), {(0,): 50, (1,): -50}), 50)

    def test_hundreds_over(self):
        made = self.x
        for _ in range(700):
            made = self.make("clamp", self.add(made, made), info=(-9, 9))
            made = self.make("max", self.make("neg", made), self.make("neg", self.y))
        self.assertIn(self.table.value(made, {(0,): 2, (1,): 9}), range(-9, 10))

    def test_shared_parts(self):
        made = self.x
        for _ in range(400):
            made = self.make("shift", self.mul(made, made), info=(1,))
            made = self.make("clamp", made, info=(-100, 100))
        self.assertIn(self.table.value(made, {(0,): 3}), range(-100, 101))


class Forms(unittest.TestCase):
    """Random terms beside their normal forms: the ids are the same exactly if the forms are."""

    KINDS = ("add", "sub", "mul", "max", "min", "less", "equal", "neg", "clamp", "shift", "where", "pick")

    def start(self, chance):
        table, forms = Terms(), {}
        for key in range(4):
            low = chance.randint(-3, 2)
            high = low + chance.randint(0, 4)
            form = ("variable", (key,), low, high)
            forms[table.variable((key,), low, high)] = naive_terms.settled(form)
        for n in (0, 1, -2):
            forms[table.number(n)] = naive_terms.number(n)
        return table, forms

    def grow(self, chance, table, forms):
        kind = chance.choice(self.KINDS)
        ids = [chance.choice(list(forms)) for _ in range(3)]
        given = [forms[at] for at in ids]
        if kind == "pick":
            many = naive_terms.span(given[0])[1] + 1
            if not 0 <= naive_terms.span(given[0])[0] <= many <= 12:
                return
            ids = [ids[0]] + [chance.choice(list(forms)) for _ in range(many)]
            made = table.pick(tuple(ids[1:]), ids[0])
            choices = [forms[at] for at in ids[1:]]
            units = {form: at for at, form in forms.items()}
            form = naive_terms.pick(choices, given[0], lambda unit: units[unit])
        else:
            arity = {"neg": 1, "clamp": 1, "shift": 1, "where": 3}.get(kind, 2)
            low = chance.randint(-4, 3)
            info = {"clamp": (low, low + chance.randint(0, 4)), "shift": (chance.randint(1, 3),)}.get(kind, ())
            made = table.make(kind, tuple(ids[:arity]), info)
            form = naive_terms.make(kind, given[:arity], info)
        if len(repr(form)) < 3000:
            self.check(table, forms, made, form)

    def check(self, table, forms, made, form):
        if made in forms:
            self.assertEqual(forms[made], form)
        self.assertEqual(made in forms, form in forms.values())
        self.assertEqual(table.span(made), naive_terms.span(form))
        forms[made] = form

    def test_random_terms(self):
        heads = set()
        for seed in range(60):
            chance = random.Random(seed)
            table, forms = self.start(chance)
            for _ in range(120):
                self.grow(chance, table, forms)
            heads.update(form[0] for form in forms.values())
            for _ in range(5):
                values = {}
                for form in forms.values():
                    if form[0] == "variable":
                        values[form[1]] = chance.randint(form[2], form[3])
                for made, form in forms.items():
                    value = table.value(made, values)
                    self.assertEqual(value, naive_terms.value(form, values))
                    low, high = table.span(made)
                    self.assertTrue(low <= value <= high)
        self.assertEqual(len(heads), 12)
