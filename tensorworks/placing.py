"""Places in main memory that buffers share where their lives do not meet."""

from itertools import permutations

from tensorworks.errors import PlaceError
from tensorworks.lives import meet

FEW = 5


def check_places(all_lives, sizes, places):
    """Return the number of words that are used, or raise the error of the places."""
    if len(places) != len(all_lives):
        raise PlaceError("not as many addresses as buffers")
    for at, place in enumerate(places):
        if place < 0:
            raise PlaceError("an address is negative")
        for other in range(at):
            apart = place + sizes[at] <= places[other] or places[other] + sizes[other] <= place
            if not apart and meet(all_lives[at], all_lives[other]):
                raise PlaceError("two buffers have a word in common")
    return used_words(sizes, places)


def used_words(sizes, places):
    """Return the greatest address behind a buffer."""
    return max([place + size for place, size in zip(places, sizes)], default=0)


def peak_of(all_lives, sizes):
    """Return the greatest sum of the sizes of the buffers that live at the same time."""
    peak = 0
    # A sum becomes greater only where a life begins.
    for start, _ in all_lives:
        here = [size for life, size in zip(all_lives, sizes) if life[0] <= start <= life[1]]
        peak = max(peak, sum(here))
    return peak


def lowest_place(taken, size):
    """Return the least address of so many words that has none of the taken ones, (start, end) in order."""
    place = 0
    for start, end in taken:
        if place + size <= start:
            return place
        place = max(place, end)
    return place


def places_in_order(all_lives, sizes, order):
    """Return the addresses if each buffer in this order is given the least that it can have."""
    places = {}
    for at in order:
        met = [other for other in places if meet(all_lives[at], all_lives[other])]
        taken = sorted([(places[other], places[other] + sizes[other]) for other in met])
        places[at] = lowest_place(taken, sizes[at])
    return tuple([places[at] for at in range(len(sizes))])


def orders_of(sizes):
    """Return the orders in which the buffers are tried."""
    numbers = list(range(len(sizes)))
    if len(numbers) <= FEW:
        return [list(order) for order in permutations(numbers)]
    large_first = sorted([(-sizes[at], at) for at in numbers])
    return [numbers, [at for _, at in large_first]]


def choose_places(all_lives, sizes):
    """Return addresses that use few words, the fewest if there are few buffers."""
    # The buffers of the best addresses, taken from the lowest on, get no worse ones if each is given the
    # least address that it can have; so among all orders there is one that uses the fewest words.
    best = None
    for order in orders_of(sizes):
        places = places_in_order(all_lives, sizes, order)
        if best is None or used_words(sizes, places) < used_words(sizes, best):
            best = places
    return best
