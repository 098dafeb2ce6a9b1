"""The normal forms of point 501 as nested tuples, made as points 502 and 503 say."""

from math import gcd, prod

from tests import naive


def number(n):
    return ("number", n)


def as_sum(form):
    """Return the number of a form taken as a sum, and a dict from its units to factors."""
    if form[0] == "number":
        return form[1], {}
    if form[0] == "sum":
        return form[1], dict(form[2])
    return 0, {form: 1}


def sum_form(c, units):
    units = {unit: m for unit, m in units.items() if m != 0}
    if not units:
        return number(c)
    if c == 0 and list(units.values()) == [1]:
        return list(units)[0]
    return ("sum", c, tuple(sorted(units.items(), key=repr)))


def span(form):
    """Return the interval of a form."""
    head = form[0]
    if head == "number":
        return form[1], form[1]
    if head == "variable":
        return form[2], form[3]
    if head == "sum":
        ends = [sorted((m * end for end in span(unit))) for unit, m in form[2]]
        return form[1] + sum(low for low, _ in ends), form[1] + sum(high for _, high in ends)
    if head == "product":
        corners = [a * b for a in span(form[1][0]) for b in span(form[1][1])]
        return min(corners), max(corners)
    if head in ("less", "equal"):
        return 0, 1
    if head == "where":
        return hull([span(part) for part in form[1][1:]])
    if head == "pick":
        return hull([span(part) for part in form[1]])
    lows, highs = zip(*[span(part) for part in form[1]])
    if head in ("max", "min"):
        choose = max if head == "max" else min
        return choose(lows), choose(highs)
    return tuple(naive.pointwise(head, [end], form[2]) for end in (lows[0], highs[0]))


def hull(spans):
    return min(low for low, _ in spans), max(high for _, high in spans)


def settled(form):
    low, high = span(form)
    return number(low) if low == high else form


def make(kind, forms, info):
    """Return the normal form of what a pointwise kind makes."""
    return settled(made(kind, forms, info))


def made(kind, forms, info):
    a = forms[0]
    if kind in ("add", "sub", "neg"):
        sign = {"add": 1, "sub": -1, "neg": 0}[kind]
        c, units = as_sum(a)
        if kind == "neg":
            return sum_form(-c, {unit: -m for unit, m in units.items()})
        more, others = as_sum(forms[1])
        for unit, m in others.items():
            units[unit] = units.get(unit, 0) + sign * m
        return sum_form(c + sign * more, units)
    if kind == "mul":
        for form, other in (forms, forms[::-1]):
            if form[0] == "number":
                c, units = as_sum(other)
                return sum_form(c * form[1], {unit: m * form[1] for unit, m in units.items()})
        return ("product", tuple(sorted(forms, key=repr)))
    if kind in ("max", "min"):
        return extreme(kind, forms)
    return decided(kind, forms, info)


def extreme(kind, forms):
    members = set()
    for form in forms:
        members.update(form[1] if form[0] == kind else [form])
    numbers = [member for member in members if member[0] == "number"]
    if numbers:
        members -= set(numbers)
        members.add(max(numbers) if kind == "max" else min(numbers))
    if len(members) == 1:
        return members.pop()
    return (kind, tuple(sorted(members, key=repr)))


def decided(kind, forms, info):
    a = forms[0]
    low, high = span(a)
    if kind == "less":
        p, q = span(forms[1])
        if high < p:
            return number(1)
        return number(0) if low >= q or a == forms[1] else (kind, tuple(forms))
    if kind == "equal":
        p, q = span(forms[1])
        if a == forms[1]:
            return number(1)
        return number(0) if high < p or q < low else (kind, tuple(sorted(forms, key=repr)))
    if kind == "clamp" and info[0] <= low and high <= info[1]:
        return a
    if kind == "where":
        if not low <= 0 <= high or forms[1] == forms[2]:
            return forms[1]
        return forms[2] if low == high else (kind, tuple(forms))
    return (kind, tuple(forms), info)


def pick(forms, index, id_of):
    """Return the normal form of a pick; id_of tells the id of a unit in the table."""
    if index[0] == "number":
        return forms[index[1]]
    c, units = as_sum(index)
    g = gcd(*units.values())
    if units[min(units, key=id_of)] < 0:
        g = -g
    reduced = sum_form(0, {unit: m // g for unit, m in units.items()})
    s, t = span(reduced)
    choices = tuple(forms[c + g * v] for v in range(s, t + 1))
    if len(set(choices)) == 1:
        return choices[0]
    return ("pick", choices, make("sub", (reduced, number(s)), ()))


def value(form, values):
    """Return the value of a form."""
    head = form[0]
    if head == "number":
        return form[1]
    if head == "variable":
        return values[form[1]]
    if head == "sum":
        return form[1] + sum(m * value(unit, values) for unit, m in form[2])
    if head == "pick":
        return value(form[1][value(form[2], values)], values)
    parts = [value(part, values) for part in form[1]]
    if head == "product":
        return prod(parts)
    if head in ("max", "min"):
        return max(parts) if head == "max" else min(parts)
    return naive.pointwise(head, parts, form[2] if len(form) > 2 else ())
