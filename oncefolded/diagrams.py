"""Diagrams: the one form of each set of configurations."""

from oncefolded.formulas import configurations, is_true


def switch(i):
    """Return the diagram that holds where the switch i is 1."""
    return (i, False, True)


def negated(d):
    """Return the diagram that holds where d does not."""
    if not isinstance(d, tuple):
        return not d
    i, low, high = d
    return (i, negated(low), negated(high))


def both(d, e):
    """Return the diagram that holds where d and e both hold."""
    if d is True or e is False:
        return e
    if e is True or d is False:
        return d
    i = min(d[0], e[0])
    return _fork(i, both(_half(d, i, 0), _half(e, i, 0)), both(_half(d, i, 1), _half(e, i, 1)))


def either(d, e):
    """Return the diagram that holds where d or e or both hold."""
    if d is False or e is True:
        return e
    if e is False or d is True:
        return d
    i = min(d[0], e[0])
    return _fork(i, either(_half(d, i, 0), _half(e, i, 0)), either(_half(d, i, 1), _half(e, i, 1)))


def _half(d, i, bit):
    """Return what is left of d where the switch i, at most its first one, is the bit."""
    if isinstance(d, tuple) and d[0] == i:
        return d[1 + bit]
    return d


def _fork(i, low, high):
    # A switch that makes no difference has no place in a diagram: without this,
    # one set of configurations would have several diagrams.
    if low == high:
        return low
    return (i, low, high)


def diagram_of(switches, formula):
    """Return the diagram that says the same as the formula."""
    count = len(switches)
    row = [is_true(switches, formula, configuration) for configuration in configurations(count)]
    return diagram_of_row(row, count)


def diagram_of_row(row, count):
    """Return the diagram that holds where the row, which has True or False for each
    configuration of so many switches, has True."""
    # Neighbours in the row differ in the last switch that is not yet joined.
    for i in reversed(range(count)):
        row = [_fork(i, row[k], row[k + 1]) for k in range(0, len(row), 2)]
    return row[0]


def holds(d, configuration):
    """Tell whether d holds in the configuration."""
    while isinstance(d, tuple):
        i, low, high = d
        d = high if configuration[i] == 1 else low
    return d


def chosen(d, count):
    """Return the list of the configurations in which d holds, ascending."""
    return [configuration for configuration in configurations(count) if holds(d, configuration)]


def least(d, count):
    """Return the first configuration in which d holds, or None."""
    found = chosen(d, count)
    return found[0] if found else None


def how_many(d, count):
    """Return the number of the configurations in which d holds."""
    return len(chosen(d, count))


def diagram_at(configuration):
    """Return the diagram that holds in this configuration alone."""
    d = True
    for i in reversed(range(len(configuration))):
        d = (i, False, d) if configuration[i] == 1 else (i, d, False)
    return d


def written(switches, d):
    """Return the written form of a diagram."""
    if not isinstance(d, tuple):
        return "1" if d else "0"
    i, low, high = d
    return f"{switches[i]}?{_written_inside(switches, high)}:{_written_inside(switches, low)}"


def _written_inside(switches, d):
    text = written(switches, d)
    return f"({text})" if isinstance(d, tuple) else text


def is_diagram(value, count):
    """Tell whether the value is a diagram with indexes below count."""
    return _is_diagram_from(value, 0, count)


def _is_diagram_from(value, least_index, count):
    if isinstance(value, bool):
        return True
    if not isinstance(value, tuple) or len(value) != 3:
        return False
    i, low, high = value
    if not isinstance(i, int) or isinstance(i, bool) or not least_index <= i < count:
        return False
    # Only diagrams are compared: among other values, 1 would be equal to True,
    # and a value may be too deep to be compared.
    if not _is_diagram_from(low, i + 1, count) or not _is_diagram_from(high, i + 1, count):
        return False
    return low != high
