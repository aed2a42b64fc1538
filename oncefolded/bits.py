"""Bits: the configurations in which a diagram holds, as one integer.

The bit k is 1 if the diagram holds in the configuration with the index k. Where
very many conditions are joined, `&` and `|` do it in one step."""

from oncefolded.diagrams import diagram_of_row, holds
from oncefolded.formulas import configurations


def switches_needed(d):
    """Return the least number of switches that the diagram d can be over."""
    if not isinstance(d, tuple):
        return 0
    i, low, high = d
    return max(i + 1, switches_needed(low), switches_needed(high))


def all_bits(count):
    """Return the bits of True over so many switches."""
    return (1 << (1 << count)) - 1


def bits_of(d, count):
    """Return the bits of a diagram over so many switches."""
    return sum([1 << k for k, configuration in enumerate(configurations(count)) if holds(d, configuration)])


def diagram_of_bits(bits, count):
    """Return the diagram over so many switches that has these bits."""
    return diagram_of_row([(bits >> k) & 1 == 1 for k in range(1 << count)], count)
