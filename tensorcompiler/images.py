"""Images on the accelerator: loading main memory, running the code, and reading the outputs."""

from tensorcompiler.device import run_code
from tensorcompiler.errors import FeedError
from tensorcompiler.graphs import check_graph
from tensorcompiler.machines import word_bounds
from tensorcompiler.meaning import check_feeds
from tensorcompiler.shapes import count_of


def load_image(image, feeds, filler):
    """Return main memory before the run; what is neither a feed nor a constant is filled."""
    check_feeds(image.graph[0], check_graph(image.graph), feeds)
    low, high = word_bounds(image.machine)
    if len(filler) == 0 or min(filler) < low or max(filler) > high:
        raise FeedError("there is no filler, or one does not fit the machine")
    main = _filled(image.machine[1], filler)
    for address, feed in zip(image.inputs, feeds):
        main[address:address + len(feed)] = feed
    for address, word in image.constants:
        main[address] = word
    return tuple(main)


def unload_image(image, main):
    """Return the outputs from main memory after the run."""
    domains = check_graph(image.graph)
    found = []
    for address, out in zip(image.outputs, image.graph[1]):
        found.append(tuple(main[address:address + count_of(domains[out][0])]))
    return tuple(found)


def run_image(image, feeds, filler, delays):
    """Return the outputs that the accelerator computes for the feeds."""
    main = load_image(image, feeds, filler)
    near = tuple(_filled(image.machine[2], filler))
    return unload_image(image, run_code(image.machine, image.code, main, near, delays))


def _filled(size, filler):
    """Return that many words, the fillers over and over again."""
    return [filler[at % len(filler)] for at in range(size)]
