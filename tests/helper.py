"""What several tests need: sets of configurations and their diagrams, worked
out in another way than the package does it."""

import itertools
import random

NAMES = ("a", "bc", "def", "gh", "x")


def all_configurations(count):
    return list(itertools.product((0, 1), repeat=count))


def diagram_by_definition(configs, count):
    """The diagram of a set, straight from the definition: its two halves by
    the first switch, which is left out if they are the same."""
    if not configs:
        return False
    if len(configs) == 2 ** count:
        return True
    halves = [{c[1:] for c in configs if c[0] == bit} for bit in (0, 1)]
    low, high = [moved(diagram_by_definition(half, count - 1), 1) for half in halves]
    return low if halves[0] == halves[1] else (0, low, high)


def moved(d, by):
    if isinstance(d, tuple):
        return (d[0] + by, moved(d[1], by), moved(d[2], by))
    return d


def all_sets(count):
    configs = all_configurations(count)
    for bits in itertools.product((False, True), repeat=len(configs)):
        yield frozenset(c for c, bit in zip(configs, bits) if bit)


def some_sets(count, many, seed=7):
    """The empty set, the full one, each single configuration, what a single
    switch says, and sets that a fixed seed chooses."""
    configs = all_configurations(count)
    found = [frozenset(), frozenset(configs)]
    found += [frozenset([c]) for c in configs]
    for i in range(count):
        found.append(frozenset(c for c in configs if c[i] == 1))
        found.append(frozenset(c for c in configs if c[i] == 0))
    chooser = random.Random(seed * 100 + count)
    while len(found) < many:
        share = chooser.choice((0.1, 0.3, 0.5, 0.7, 0.9))
        found.append(frozenset(c for c in configs if chooser.random() < share))
    return found


def conjunction(switches, config):
    """A formula that is true in this configuration alone."""
    formula = ("yes",)
    for name, bit in zip(switches, config):
        part = ("switch", name) if bit else ("not", ("switch", name))
        formula = ("and", formula, part)
    return formula


def formula_of(switches, configs):
    """A formula that is true exactly in the configurations of the set."""
    formula = ("no",)
    for config in sorted(configs):
        formula = ("or", formula, conjunction(switches, config))
    return formula


def ends(d):
    """All that is no tuple in a diagram, without its indexes."""
    if isinstance(d, tuple):
        return ends(d[1]) + ends(d[2])
    return [d]
