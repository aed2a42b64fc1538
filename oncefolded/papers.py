"""Papers: they show why a condition is as it is told, and are checked piece by piece."""

from oncefolded.derivations import is_allowed, is_derivation, reasons
from oncefolded.diagrams import diagram_at, either, is_diagram
from oncefolded.grammars import is_index
from oncefolded.items import is_item
from oncefolded.packed import numbers_in
from oncefolded.steps import Steps

# The words of the papers, and how many elements each paper and each of its rows has.
SIZES = {"tree": 3, "two": 4, "removed": 4, "nothing": 3, "once": 3}
ROW_SIZES = {"nothing": 4, "once": 5}


def check_paper(grammar, folded, count, paper):
    """Tell whether the value is a paper that is right."""
    if not _is_paper(count, paper):
        return False
    word, where, *told = paper
    if word in ROW_SIZES:
        if not _are_rows(grammar, folded, count, told[0], ROW_SIZES[word]):
            return False
        claims = Claims(grammar, folded, count, where, told[0])
        return claims.show_nothing() if word == "nothing" else claims.show_once()
    if word == "removed":
        return is_derivation(grammar, folded, where, told[0]) and _is_reason(grammar, folded, where, *told)
    if not all(_is_tree(grammar, folded, where, value) for value in told):
        return False
    # Trees may be too deep to be compared.
    return word == "tree" or numbers_in(told[0]) < numbers_in(told[1])


def _is_paper(count, value):
    """Tell whether the value has the word of a paper, as many elements, and a
    configuration or a diagram where it must have one."""
    if not isinstance(value, tuple) or len(value) < 2 or not isinstance(value[0], str):
        return False
    word, where = value[:2]
    if word not in SIZES or len(value) != SIZES[word]:
        return False
    return is_diagram(where, count) if word in ROW_SIZES else _is_configuration(where, count)


def _is_configuration(value, count):
    return isinstance(value, tuple) and len(value) == count and all(is_index(bit, 2) for bit in value)


def _is_tree(grammar, folded, configuration, value):
    """Tell whether the value is a tree of the text."""
    return (is_derivation(grammar, folded, configuration, value)
            and is_allowed(grammar, folded, configuration, value))


def _is_reason(grammar, folded, configuration, tree, value):
    """Tell whether the value is a reason against a derivation."""
    if not isinstance(value, tuple) or len(value) != 3:
        return False
    word, path, number = value
    if not isinstance(word, str) or not isinstance(path, tuple) or not _are_integers((*path, number)):
        return False
    return value in reasons(grammar, folded, configuration, tree)


def _are_integers(values):
    # True is equal to 1, but it is no place in a path.
    return all(isinstance(value, int) and not isinstance(value, bool) for value in values)


def _are_rows(grammar, folded, count, value, size):
    """Tell whether the value is a tuple of rows of a paper, ascending by their items."""
    if not isinstance(value, tuple):
        return False
    for row in value:
        if not isinstance(row, tuple) or len(row) != size or not is_item(grammar, len(folded), row[:3]):
            return False
        if not all(is_diagram(d, count) for d in row[3:]):
            return False
    return all(value[k][:3] < value[k + 1][:3] for k in range(len(value) - 1))


class Claims:
    """What the rows of a paper claim where its diagram d holds. All conditions are bits."""

    def __init__(self, grammar, folded, count, d, rows):
        self.made = Steps(grammar, folded, count)
        table = self.made.table
        self.where = table.bits(d)
        for row in rows:
            self.made.add(row[:3], table.bits(row[3]))
        # Only those of a paper "once" are asked for.
        self.need = {row[:3]: table.bits(row[-1]) for row in rows}
        # All steps from the rows, also to items that have no row.
        self.steps = []
        for rule in range(len(grammar[1])):
            for b in range(len(folded)):
                self.steps.extend(self.made.first_steps(rule, b))
        for item in self.made.may:
            self.steps.extend(self.made.steps_from(item))

    def show_nothing(self):
        return self.is_closed() and not any(self.made.covering(item) & self.where for item in self.made.may)

    def show_once(self):
        return self.is_closed() and self.one_covers() and self.one_way_is_needed() and self.lower_are_needed()

    def is_closed(self):
        """Tell whether no item can be made where its row does not say that it may be."""
        return not any(before & some & self.where & ~self.made.may.get(item, 0)
                       for _, item, before, some, _ in self.steps)

    def one_covers(self):
        """Tell whether no two items cover the text together, and each is needed where it does."""
        seen = 0
        for item in self.made.may:
            bits = self.made.covering(item) & self.where
            if bits & seen or bits & ~self.need[item]:
                return False
            seen = seen | bits
        return True

    def one_way_is_needed(self):
        """Tell whether no two ways of an item hold together where it is needed, and
        earlier items are needed there."""
        seen = {}
        for earlier, item, before, some, several in self.steps:
            needed = before & self.need.get(item, 0)
            here = needed & some
            if needed & several or here & seen.get(item, 0):
                return False
            if earlier is not None and here & ~self.need[earlier]:
                return False
            seen[item] = seen.get(item, 0) | here
        return True

    def lower_are_needed(self):
        """Tell whether lower items are needed where the items that are made of them are."""
        # From (rule, place, b, e) to where an item needs that its last part is found from b to e.
        needed = {}
        for _, (rule, begins, e), before, _, _ in self.steps:
            key = (rule, len(begins) - 1, begins[-1], e)
            needed[key] = needed.get(key, 0) | before & self.need.get((rule, begins, e), 0)
        for (rule, place, b, e), bits in needed.items():
            for lower in self.made.lower_items(rule, place, b, e):
                if bits & self.made.lower_bits(rule, place, lower) & ~self.need[lower]:
                    return False
        return True


def check_report(grammar, folded, count, conditions, report):
    """Tell whether the value is a report that shows the conditions."""
    if not isinstance(report, tuple):
        return False
    shown = {"nothing": False, "once": False, "tree": False, "two": False}
    for paper in report:
        if not check_paper(grammar, folded, count, paper) or paper[0] not in shown:
            return False
        d = paper[1] if paper[0] in ROW_SIZES else diagram_at(paper[1])
        shown[paper[0]] = either(shown[paper[0]], d)
    none, one, several = conditions
    return (shown["nothing"] == none and shown["once"] == one
            and shown["tree"] == one and shown["two"] == several)
