"""Affine forms: a base, and ascending variables with their factors."""


def normal(base, terms):
    """Return the normal form of a base and terms in any order."""
    factors = {}
    for variable, factor in terms:
        factors[variable] = factors.get(variable, 0) + factor
    return (base, tuple([(variable, factors[variable]) for variable in sorted(factors) if factors[variable] != 0]))


def constant(n):
    """Return the form of a number."""
    return (n, ())


def variable_form(variable):
    """Return the form of a variable."""
    return (0, ((variable, 1),))


def moved_by(form, n):
    """Return a form plus a number."""
    return (form[0] + n, form[1])


def plus_form(first, second):
    """Return the sum of two forms."""
    return normal(first[0] + second[0], first[1] + second[1])


def times_form(form, n):
    """Return n times a form."""
    return normal(form[0] * n, [(variable, factor * n) for variable, factor in form[1]])


def less_form(first, second):
    """Return a form less another one."""
    return plus_form(first, times_form(second, -1))


def replaced_in(form, variable, other):
    """Return a form with another form in the place of a variable."""
    rest = tuple([pair for pair in form[1] if pair[0] != variable])
    if len(rest) == len(form[1]):
        return form
    found = sum([factor for here, factor in form[1] if here == variable])
    return plus_form((form[0], rest), times_form(other, found))
