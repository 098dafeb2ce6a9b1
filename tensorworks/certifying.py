"""Whether code from anywhere computes a graph."""

from tensorworks.auditing import audited
from tensorworks.errors import AuditError, PlaceError, TooWide
from tensorworks.graph_terms import graph_terms
from tensorworks.graphs import check_graph, input_places
from tensorworks.instructions import check_code
from tensorworks.machines import word_range
from tensorworks.shapes import count_of
from tensorworks.terms import Terms


def rows_of(starts, counts):
    """Return a list with the addresses of the words of each row."""
    return [[start + k for k in range(count)] for start, count in zip(starts, counts)]


def check_addresses(machine, rows, constants, outputs):
    """Raise the error of words outside of main memory, and of given words with the same address."""
    given = [address for row in rows for address in row] + [address for address, _ in constants]
    asked = [address for row in outputs for address in row]
    if any([not 0 <= address < machine[1] for address in given + asked]):
        raise PlaceError("a word is outside of main memory")
    if len(set(given)) != len(given):
        raise PlaceError("two given words have the same address")


def check_narrow(machine, domains, constants):
    """Raise the error of inputs and constants that do not fit the machine."""
    least, most = word_range(machine)
    spans = [(low, high) for _, low, high in domains] + [(word, word) for _, word in constants]
    if any([low < least or high > most for low, high in spans]):
        raise TooWide("a number does not fit the machine")


def first_terms(table, machine, rows, terms, constants):
    """Return what the words of main memory hold at the start."""
    main = [None] * machine[1]
    for row, ids in zip(rows, terms):
        for address, at in zip(row, ids):
            main[address] = at
    for address, word in constants:
        main[address] = table.number(word)
    return tuple(main)


def certify(graph, machine, code, inputs, constants, outputs):
    """Tell whether code computes a graph, the places of inputs, constants and outputs being given."""
    domains = check_graph(graph)
    check_code(machine, code)
    sources = input_places(graph[0])
    if len(inputs) != len(sources) or len(outputs) != len(graph[1]):
        raise PlaceError("not as many addresses as inputs or outputs")
    rows = rows_of(inputs, [count_of(domains[at][0]) for at in sources])
    asked = rows_of(outputs, [count_of(domains[out][0]) for out in graph[1]])
    check_addresses(machine, rows, constants, asked)
    check_narrow(machine, [domains[at] for at in sources], constants)
    table = Terms()
    terms = graph_terms(table, graph)
    main = first_terms(table, machine, rows, [terms[at] for at in sources], constants)
    try:
        end = audited(table, machine, code, main)
    except AuditError:
        return False
    told = [[end[address] for address in row] for row in asked]
    return told == [list(terms[out]) for out in graph[1]]
