"""Terms: what a word of memory holds, for all inputs at once, in normal forms."""

from math import gcd

from tensorworks.errors import FormError, RangeError, TooWide
from tensorworks.intervals import hull, pointwise_span, scaled
from tensorworks.kinds import pointwise

VALUE_LIMIT = 20000

# The forms of terms, as tuples: ("number", n), ("variable", key), ("sum", number, units, factors) with
# ascending units, ("pick", choices, index), and (kind, ids, info) for the units of the other kinds.
# Any term can be taken as a sum: a tuple of a number, units, factors and the interval.


def is_bounded(n):
    """Tell whether a number is within the limit of values."""
    # Of the numbers with one bit more, only the limit itself is within it.
    return n.bit_length() <= VALUE_LIMIT or abs(n) == 1 << VALUE_LIMIT


def multiplied(total, n):
    """Return n times a sum, n not being 0."""
    number, units, factors, span = total
    return (number * n, units, tuple([factor * n for factor in factors]), scaled(span, n))


def common_divisor(factors):
    """Return the greatest common divisor of factors, with the sign of the first one."""
    divisor = 0
    for factor in factors:
        divisor = gcd(divisor, factor)
    return divisor if factors[0] > 0 else -divisor


def parts_of(form):
    """Return the ids of the terms of which a form is made."""
    if form[0] in ("number", "variable"):
        return ()
    if form[0] == "sum":
        return form[2]
    if form[0] == "pick":
        return form[1] + (form[2],)
    return form[1]


def worth_of(form, known, values):
    """Return the value of a form, given those of its parts and those of the variables."""
    if form[0] == "number":
        return form[1]
    if form[0] == "variable":
        return values[form[1]]
    if form[0] == "sum":
        return form[1] + sum([known[unit] * factor for unit, factor in zip(form[2], form[3])])
    if form[0] == "pick":
        return known[form[1][known[form[2]]]]
    return pointwise(form[0], tuple([known[part] for part in form[1]]), form[2])


class Terms:
    """A table of terms; each normal form has one id."""

    def __init__(self):
        self._forms = []
        self._spans = []
        self._ids = {}
        self._variables = {}

    def __len__(self):
        return len(self._forms)

    def number(self, n):
        """Return the id of a number."""
        return self._known(("number", n), (n, n))

    def variable(self, key, low, high):
        """Return the id of a variable."""
        if low > high:
            raise RangeError("low is greater than high")
        if self._variables.setdefault(key, (low, high)) != (low, high):
            raise FormError("the variable has another interval")
        if low == high:
            return self.number(low)
        return self._known(("variable", key), (low, high))

    def make(self, kind, ids, info):
        """Return the id of the term that a pointwise kind makes of terms."""
        if kind == "add":
            return self._sum(self._added(self._as_sum(ids[0]), self._as_sum(ids[1])))
        if kind == "sub":
            return self._sum(self._added(self._as_sum(ids[0]), multiplied(self._as_sum(ids[1]), -1)))
        if kind == "neg":
            return self._sum(multiplied(self._as_sum(ids[0]), -1))
        if kind == "mul":
            return self._product(ids[0], ids[1])
        if kind in ("max", "min"):
            return self._extreme(kind, ids)
        decided = self._decided(kind, ids, info)
        if decided is not None:
            return decided
        if kind == "equal":
            ids = tuple(sorted(ids))
        return self._unit(kind, ids, info)

    def pick(self, ids, index):
        """Return the id of the term whose value is that of one of ids, told by the value of index."""
        low, high = self._spans[index]
        if low < 0 or high >= len(ids):
            raise FormError("the index may leave the list")
        if low == high:
            return ids[low]
        number, divisor, first, last = self.lane(index)
        choices = tuple([ids[number + divisor * v] for v in range(first, last + 1)])
        if choices.count(choices[0]) == len(choices):
            return choices[0]
        place = self.lane_index(index)
        span = self._spans[choices[0]]
        for choice in choices[1:]:
            span = hull(span, self._spans[choice])
        return self._known(("pick", choices, place), span)

    def lane(self, id_of_term):
        """Take a term that is no number as c + g V, and return c, g and the ends of the interval of V."""
        number, _, factors, (low, high) = self._as_sum(id_of_term)
        divisor = common_divisor(factors)
        first, last = sorted([(low - number) // divisor, (high - number) // divisor])
        return (number, divisor, first, last)

    def lane_index(self, id_of_term):
        """Return the id of V less its low end, where a term is c + g V."""
        _, units, factors, _ = self._as_sum(id_of_term)
        _, divisor, first, last = self.lane(id_of_term)
        return self._sum((-first, units, tuple([factor // divisor for factor in factors]), (0, last - first)))

    def span(self, id_of_term):
        """Return the interval of a term."""
        return self._spans[id_of_term]

    def value(self, id_of_term, values):
        """Return the value of a term for the values of the variables."""
        known = {}
        for part in self._needed(id_of_term):
            known[part] = worth_of(self._forms[part], known, values)
        return known[id_of_term]

    def _known(self, form, span):
        """Return the id of a normal form, which is new if the table does not have it."""
        at = self._ids.get(form)
        if at is None:
            at = len(self._forms)
            self._ids[form] = at
            self._forms.append(form)
            self._spans.append(span)
        return at

    def _bounded(self, form, span):
        """Return the id of what has a form, which is a number if its interval has only one."""
        low, high = span
        if not (is_bounded(low) and is_bounded(high)):
            raise TooWide("an end of the interval is too far from 0")
        if low == high:
            return self.number(low)
        return self._known(form, span)

    def _unit(self, kind, ids, info):
        """Return the id of a unit."""
        return self._bounded((kind, ids, info), pointwise_span(kind, [self._spans[at] for at in ids], info))

    def _as_sum(self, at):
        """Return a term taken as a sum."""
        form = self._forms[at]
        span = self._spans[at]
        if form[0] == "number":
            return (form[1], (), (), span)
        if form[0] == "sum":
            return (form[1], form[2], form[3], span)
        return (0, (at,), (1,), span)

    def _added(self, total, other):
        """Return the sum of two sums."""
        if len(total[1]) < len(other[1]):
            total, other = other, total
        low = total[3][0] + other[3][0]
        high = total[3][1] + other[3][1]
        if not other[1] or total[1][-1] < other[1][0]:
            # A long sum often grows by a unit that is newer than all of its own.
            return (total[0] + other[0], total[1] + other[1], total[2] + other[2], (low, high))
        added = dict(zip(total[1], total[2]))
        for unit, factor in zip(other[1], other[2]):
            before = added.get(unit, 0)
            added[unit] = before + factor
            # Two factors of the same sign reach as far together as apart, two of different signs do not.
            if before * factor < 0:
                span = self._spans[unit]
                both = scaled(span, before + factor)
                low += both[0] - scaled(span, before)[0] - scaled(span, factor)[0]
                high += both[1] - scaled(span, before)[1] - scaled(span, factor)[1]
        units = tuple([unit for unit in sorted(added) if added[unit] != 0])
        return (total[0] + other[0], units, tuple([added[unit] for unit in units]), (low, high))

    def _sum(self, total):
        """Return the id of a sum whose units ascend and whose factors are not 0."""
        number, units, factors, span = total
        if number == 0 and factors == (1,):
            return units[0]
        return self._bounded(("sum", number, units, factors), span)

    def _product(self, first, second):
        """Return the id of a product."""
        for at, other in ((first, second), (second, first)):
            low, high = self._spans[at]
            if low == high:
                return self._sum(multiplied(self._as_sum(other), low)) if low != 0 else self.number(0)
        return self._unit("mul", (min(first, second), max(first, second)), ())

    def _extreme(self, kind, ids):
        """Return the id of the greatest or the least of two terms."""
        members = {}
        numbers = []
        for member in self._members(kind, ids[0]) + self._members(kind, ids[1]):
            low, high = self._spans[member]
            if low == high:
                numbers.append(low)
            else:
                members[member] = True
        if numbers:
            members[self.number(max(numbers) if kind == "max" else min(numbers))] = True
        ordered = tuple(sorted(members))
        if len(ordered) == 1:
            return ordered[0]
        return self._unit(kind, ordered, ())

    def _members(self, kind, at):
        """Return the members of a term taken as one of a kind, max or min."""
        form = self._forms[at]
        return form[1] if form[0] == kind else (at,)

    def _decided(self, kind, ids, info):
        """Return the id that a kind comes to because of the intervals or because ids are the same, or None."""
        low, high = self._spans[ids[0]]
        if kind == "clamp":
            return ids[0] if info[0] <= low and high <= info[1] else None
        if kind == "where":
            if low > 0 or high < 0 or ids[1] == ids[2]:
                return ids[1]
            return ids[2] if low == high else None
        if kind == "less":
            other_low, other_high = self._spans[ids[1]]
            if high < other_low:
                return self.number(1)
            return self.number(0) if low >= other_high or ids[0] == ids[1] else None
        if kind == "equal":
            other_low, other_high = self._spans[ids[1]]
            if ids[0] == ids[1]:
                return self.number(1)
            return self.number(0) if high < other_low or other_high < low else None
        return None

    def _needed(self, id_of_term):
        """Return the ascending ids of all terms of which a term is made; parts come before wholes."""
        seen = {id_of_term: True}
        waiting = [id_of_term]
        while waiting:
            form = self._forms[waiting.pop()]
            for part in parts_of(form):
                if part not in seen:
                    seen[part] = True
                    waiting.append(part)
        return sorted(seen)
