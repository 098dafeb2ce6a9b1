"""Statements and expressions of loop programs with other forms in them."""

from tensorworks.affine import replaced_in


def mapped_expr(expr, of_form, of_word):
    """Return an expression with other forms.

    of_word makes another pair of a buffer and the form of a word in it, of_form any other form.
    """
    name = expr[0]
    if name == "number":
        return expr
    if name == "index":
        return (name, of_form(expr[1]))
    if name == "load":
        return (name,) + of_word(expr[1], expr[2])
    if name == "pick":
        return (name,) + of_word(expr[1], expr[2]) + expr[3:5] + (mapped_expr(expr[5], of_form, of_word),)
    if name == "apply":
        return (name, expr[1], tuple([mapped_expr(part, of_form, of_word) for part in expr[2]]), expr[3])
    return (name, of_form(expr[1]), mapped_expr(expr[2], of_form, of_word), mapped_expr(expr[3], of_form, of_word))


def mapped_body(body, of_form, of_word):
    """Return statements with other forms."""
    return tuple([mapped_statement(statement, of_form, of_word) for statement in body])


def mapped_statement(statement, of_form, of_word):
    """Return a statement with other forms; the words of a copy are no words for of_word."""
    name = statement[0]
    if name == "loop":
        return statement[:5] + (mapped_body(statement[5], of_form, of_word),)
    if name == "when":
        return (name, of_form(statement[1]), mapped_body(statement[2], of_form, of_word))
    if name == "put":
        return (name,) + of_word(statement[1], statement[2]) + (mapped_expr(statement[3], of_form, of_word),)
    _, target, target_form, source, source_form, count = statement
    return (name, target, of_form(target_form), source, of_form(source_form), count)


def body_replaced(body, variable, other):
    """Return statements with a form in the place of a variable."""
    return mapped_body(
        body, lambda form: replaced_in(form, variable, other),
        lambda buffer, form: (buffer, replaced_in(form, variable, other)))
