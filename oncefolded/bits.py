"""Bits: the configurations in which a diagram holds, as one integer.

The bit k is 1 if the diagram holds in the configuration with the index k. Where
very many conditions are joined, `&` and `|` do it in one step."""

from oncefolded.diagrams import diagram_of_row, holds
from oncefolded.formulas import configurations


def switches_needed(d):
    """Return the least number of switches that the diagram d can be over."""
    if not isinstance(d, tuple):
        return 0
    i, low, high = d
    return max(i + 1, switches_needed(low), switches_needed(high))


def switches_in(grammar, folded):
    """Return the least number of switches that all diagrams of a grammar and of
    folded tokens can be over."""
    diagrams = [rule[2] for rule in grammar[1]] + [bar[3] for bar in grammar[2]] + [d for _, d in folded]
    return max([switches_needed(d) for d in diagrams])


def all_bits(count):
    """Return the bits of True over so many switches."""
    return (1 << (1 << count)) - 1


def bits_of(d, count):
    """Return the bits of a diagram over so many switches."""
    return sum([1 << k for k, configuration in enumerate(configurations(count)) if holds(d, configuration)])


def diagram_of_bits(bits, count):
    """Return the diagram over so many switches that has these bits."""
    return diagram_of_row([(bits >> k) & 1 == 1 for k in range(1 << count)], count)


class BitTable:
    """The bits of diagrams over so many switches, and the diagrams of bits, each
    worked out once."""

    def __init__(self, count):
        self.count = count
        self.everywhere = all_bits(count)
        self.known_bits = {}
        self.known_diagrams = {}

    def bits(self, d):
        if d not in self.known_bits:
            self.known_bits[d] = bits_of(d, self.count)
        return self.known_bits[d]

    def diagram(self, bits):
        if bits not in self.known_diagrams:
            self.known_diagrams[bits] = diagram_of_bits(bits, self.count)
        return self.known_diagrams[bits]


def absent_around(table, presence, begin, end):
    """Return the bits of where all tokens before begin and from end on are absent.
    `presence` is the list of the bits of where the tokens are present."""
    found = table.everywhere
    for bits in presence[:begin] + presence[end:]:
        found = found & ~bits
    return found
