"""Running images: main memory before and after, and the outputs."""

from tensorworks.core import Core
from tensorworks.device import check_delays, main_at_end
from tensorworks.errors import FeedError
from tensorworks.graphs import check_graph
from tensorworks.machines import word_range
from tensorworks.meaning import check_feeds
from tensorworks.shapes import count_of


def filled(filler, many):
    """Return a list of words made of the fillers, again and again."""
    return (list(filler) * (many // len(filler) + 1))[:many]


def check_filler(machine, filler):
    """Raise the error of fillers that do not fit the machine or are none."""
    low, high = word_range(machine)
    if not filler or min(filler) < low or max(filler) > high:
        raise FeedError("not fillers of the machine")


def load_image(image, feeds, filler):
    """Return main memory before the run."""
    domains = check_graph(image.graph)
    check_feeds(image.graph[0], domains, feeds)
    check_filler(image.machine, filler)
    main = filled(filler, image.machine[1])
    for address, feed in zip(image.inputs, feeds):
        main[address:address + len(feed)] = feed
    for address, word in image.constants:
        main[address] = word
    return tuple(main)


def unload_image(image, main):
    """Return the outputs from main memory."""
    domains = check_graph(image.graph)
    counts = [count_of(domains[out][0]) for out in image.graph[1]]
    return tuple([tuple(main[start:start + count]) for start, count in zip(image.outputs, counts)])


def run_image(image, feeds, filler, delays):
    """Return the outputs that the code of an image computes."""
    main = load_image(image, feeds, filler)
    check_delays(delays)
    near = filled(filler, image.machine[2])
    return unload_image(image, main_at_end(Core(image.machine, image.code, main, near, delays)))
