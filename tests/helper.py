"""What several tests need: sets of configurations and their diagrams, worked
out in another way than the package does it."""

import itertools
import random
import re

NAMES = ("a", "bc", "def", "gh", "x")


def all_configurations(count):
    return list(itertools.product((0, 1), repeat=count))


def diagram_by_definition(configs, count):
    """The diagram of a set, straight from the definition: its two halves by
    the first switch, which is left out if they are the same."""
    if not configs:
        return False
    if len(configs) == 2 ** count:
        return True
    halves = [{c[1:] for c in configs if c[0] == bit} for bit in (0, 1)]
    low, high = [moved(diagram_by_definition(half, count - 1), 1) for half in halves]
    return low if halves[0] == halves[1] else (0, low, high)


def moved(d, by):
    if isinstance(d, tuple):
        return (d[0] + by, moved(d[1], by), moved(d[2], by))
    return d


def all_sets(count):
    configs = all_configurations(count)
    for bits in itertools.product((False, True), repeat=len(configs)):
        yield frozenset(c for c, bit in zip(configs, bits) if bit)


def some_sets(count, many, seed=7):
    """The empty set, the full one, each single configuration, what a single
    switch says, and sets that a fixed seed chooses."""
    configs = all_configurations(count)
    found = [frozenset(), frozenset(configs)]
    found += [frozenset([c]) for c in configs]
    for i in range(count):
        found.append(frozenset(c for c in configs if c[i] == 1))
        found.append(frozenset(c for c in configs if c[i] == 0))
    chooser = random.Random(seed * 100 + count)
    while len(found) < many:
        share = chooser.choice((0.1, 0.3, 0.5, 0.7, 0.9))
        found.append(frozenset(c for c in configs if chooser.random() < share))
    return found


def conjunction(switches, config):
    """A formula that is true in this configuration alone."""
    formula = ("yes",)
    for name, bit in zip(switches, config):
        part = ("switch", name) if bit else ("not", ("switch", name))
        formula = ("and", formula, part)
    return formula


def formula_of(switches, configs):
    """A formula that is true exactly in the configurations of the set."""
    formula = ("no",)
    for config in sorted(configs):
        formula = ("or", formula, conjunction(switches, config))
    return formula


def ends(d):
    """All that is no tuple in a diagram, without its indexes."""
    if isinstance(d, tuple):
        return ends(d[1]) + ends(d[2])
    return [d]


def is_in(d, config):
    """Whether a diagram holds, straight from the definition."""
    if not isinstance(d, tuple):
        return d
    i, low, high = d
    return is_in(low, config) and config[i] == 0 or is_in(high, config) and config[i] == 1


def some_diagram(chooser, count, share=0.6):
    configs = all_configurations(count)
    return diagram_by_definition({c for c in configs if chooser.random() < share}, count)


def diagram_where(told, count):
    """The diagram that holds where a function of the configuration says so."""
    return diagram_by_definition({c for c in all_configurations(count) if told(c)}, count)


def is_true_text(text, switches, config):
    """Whether the text of a formula is true, by the words of Python."""
    plain = text.replace("!", " not ").replace("&", " and ").replace("|", " or ").strip()
    return bool(eval(plain, {}, dict(zip(switches, config))))


def folded_words(text, *diagrams):
    """Folded tokens of one line of words and signs with a space between, with
    the diagrams in turn; True for those that have none."""
    folded = []
    column = 0
    for number, word in enumerate(text.split()):
        kind = "word" if word[0].isalpha() else "number" if word[0].isdigit() else "mark"
        token = (kind, word, 0, column, False)
        folded.append((token, diagrams[number] if number < len(diagrams) else True))
        column += len(word) + 1
    return folded


def some_folded(chooser, texts, count):
    """Folded tokens of these texts in a few rows, with diagrams that a row shares."""
    folded = []
    row, column, d = 0, 0, True
    for text in texts:
        if chooser.random() < 0.5:
            row, column = row + 1, chooser.randrange(3)
            d = True if chooser.random() < 0.4 else some_diagram(chooser, count)
        kind = "word" if text.isalpha() else "number" if text.isdigit() else "mark"
        glued = bool(folded) and folded[-1][0][2] == row and chooser.random() < 0.4
        column += 0 if glued else 1
        folded.append(((kind, text, row, column, glued), d))
        column += len(text)
    return folded


def some_sentence(chooser, grammar, symbol, fuel):
    """The texts of tokens that a symbol derives, by rules chosen at random; None if it takes too many steps."""
    texts = []
    waiting = [("symbol", symbol)]
    while waiting:
        kind, told = waiting.pop()
        fuel -= 1
        if fuel < 0:
            return None
        if kind == "symbol":
            rule = chooser.choice([rule for rule in grammar[1] if rule[0] == told])
            waiting += rule[1][::-1]
        elif kind == "text":
            texts.append(told)
        else:
            texts.append(chooser.choice(("x", "if") if told == "word" else ("1", "20")))
    return texts


def some_case_words(chooser, grammar, most):
    """The texts of a few tokens, mostly such as the start derives."""
    while True:
        texts = some_sentence(chooser, grammar, "S", 30) or []
        if texts and len(texts) <= most:
            if chooser.random() < 0.5:
                more = some_sentence(chooser, grammar, "S", 4) or ["+"]
                at = chooser.randrange(len(texts) + 1)
                texts = (texts[:at] + more + texts[at:])[:most]
            return texts
        if chooser.random() < 0.05:
            return ["x", "+", "1"]


def some_cases(seed, many, most=5):
    """Grammars with folded tokens, of which some are derived in some configuration of two switches."""
    chooser = random.Random(seed)
    while many > 0:
        grammar = some_grammar(chooser, 2)
        for _ in range(3):
            texts = some_sentence(chooser, grammar, "S", 30)
            if texts and len(texts) <= most:
                if chooser.random() < 0.6 and len(texts) < most:
                    more = some_sentence(chooser, grammar, chooser.choice(("S", grammar[1][0][0])), 4) or []
                    at = chooser.randrange(len(texts) + 1)
                    texts = (texts[:at] + more + texts[at:])[:most]
                yield grammar, some_folded(chooser, texts, 2)
                many -= 1


PARTS = (("kind", "word"), ("kind", "number"), ("text", "+"), ("text", "if"), ("text", "x"),
         ("symbol", "S"), ("symbol", "Ab"), ("symbol", "C"), ("symbol", "S"), ("symbol", "Ab"))


def some_grammar(chooser, count):
    """A grammar with up to three symbols, bars and demands; the start is S."""
    while True:
        rules = []
        for _ in range(chooser.randint(2, 7)):
            right = tuple(chooser.choice(PARTS) for _ in range(chooser.choice((1, 1, 2, 2, 3))))
            d = True if chooser.random() < 0.5 else some_diagram(chooser, count) or True
            rules.append((chooser.choice(("S", "S", "Ab", "C")), right, d, some_demands(chooser, len(right))))
        rules.append((chooser.choice(("S", "Ab", "C")), (chooser.choice(PARTS[:5]),), True, ()))
        if chooser.random() < 0.5:
            rules.append(("S", (("symbol", "S"), ("symbol", "S")), True, some_demands(chooser, 2)))
        if not have_lefts(rules) or has_ring(rules):
            continue
        possible = [(r, p, b) for r, rule in enumerate(rules) for p, part in enumerate(rule[1])
                    for b, below in enumerate(rules) if part == ("symbol", below[0])]
        bars = sorted(chooser.sample(possible, min(len(possible), chooser.randrange(4))))
        return ("S", tuple(rules), tuple(bar + (some_diagram(chooser, count) or True,) for bar in bars))


def some_demands(chooser, many):
    possible = [("glued", p) for p in range(many)]
    possible += [(word, p, q) for word in ("same", "right", "row") for p in range(many) for q in range(many)
                 if p != q]
    return tuple(chooser.sample(possible, chooser.choice((0, 0, 1, min(2, len(possible))))))


def have_lefts(rules):
    lefts = {rule[0] for rule in rules}
    return "S" in lefts and all(part[1] in lefts for rule in rules for part in rule[1] if part[0] == "symbol")


def has_ring(rules):
    """Whether a symbol derives itself, by following all steps from each symbol."""
    steps = {(rule[0], rule[1][0][1]) for rule in rules if len(rule[1]) == 1 and rule[1][0][0] == "symbol"}
    for symbol in {rule[0] for rule in rules}:
        reached = {below for left, below in steps if left == symbol}
        for _ in rules:
            reached |= {below for left, below in steps if left in reached}
        if symbol in reached:
            return True
    return False


def fits(part, token):
    return part == ("kind", token[0]) or part == ("text", token[1])


def all_trees(grammar, folded, config):
    """The trees over neighbouring present tokens in a configuration, as a dict to
    (symbol, first index, last index): trees are put together, also in ways that
    lead to nothing, until there is no new one."""
    row = [k for k, (_, d) in enumerate(folded) if is_in(d, config)]
    trees = {}
    while True:
        before = len(trees)
        for number, (left, right, d, _) in enumerate(grammar[1]):
            begun = [((), at, at) for at in range(len(row))] if is_in(d, config) else []
            for part in right:
                begun = [(children + (child,), begin, end) for children, begin, at in begun
                         for child, end in steps_from(trees, folded, row, part, at)]
            for children, begin, end in begun:
                trees[(number, children)] = (left, row[begin], row[end - 1])
        if len(trees) == before:
            return trees


def steps_from(trees, folded, row, part, at):
    if at == len(row):
        return []
    if part[0] != "symbol":
        return [(row[at], at + 1)] if fits(part, folded[row[at]][0]) else []
    return [(tree, row.index(last) + 1) for tree, (symbol, first, last) in trees.items()
            if symbol == part[1] and first == row[at]]


def derivations_by_definition(grammar, folded, config):
    row = [k for k, (_, d) in enumerate(folded) if is_in(d, config)]
    if not row:
        return []
    return sorted(tree for tree, place in all_trees(grammar, folded, config).items()
                  if place == (grammar[0], row[0], row[-1]))


def reasons_by_definition(grammar, folded, config, tree, path=()):
    rule, children = tree
    found = []
    for k, child in enumerate(children):
        if isinstance(child, tuple):
            for r, p, b, d in grammar[2]:
                if (r, p, b) == (rule, k, child[0]) and is_in(d, config):
                    found.append(("bar", path, k))
            found += reasons_by_definition(grammar, folded, config, child, path + (k,))
    firsts = [folded[min(indexes_of(child))][0] for child in children]
    found += [("demand", path, n) for n, demand in enumerate(grammar[1][rule][3])
              if not demand_by_definition(demand, firsts)]
    return sorted(found)


def demand_by_definition(demand, firsts):
    _, _, row, column, glued = firsts[demand[1]]
    _, _, other_row, other_column, _ = firsts[demand[-1]]
    return {"glued": glued, "same": column == other_column, "right": column < other_column,
            "row": row == other_row}[demand[0]]


def indexes_of(tree):
    return [tree] if isinstance(tree, int) else [index for child in tree[1] for index in indexes_of(child)]


def all_ends(many, i, j):
    """All tuples of so many pairs from i to j, as the ends of an alternative."""
    if many == 1:
        return [((i, j),)] if i < j else []
    return [((i, e),) + rest for e in range(i + 1, j) for b in range(e, j) for rest in all_ends(many - 1, b, j)]


def forest_by_definition(grammar, folded, count):
    """The forest from its definition, one configuration at a time."""
    known = {}

    def is_present(k, config):
        return is_in(folded[k][1], config)

    def span_holds(span, config):
        if (span, config) not in known:
            known[span, config] = any(holds(alternative, config) for alternative in possible(span))
        return known[span, config]

    def holds(alternative, config):
        number, ends = alternative
        _, right, d, _ = grammar[1][number]
        if not is_in(d, config):
            return False
        for (kind, told), (b, e) in zip(right, ends):
            if kind == "symbol" and not span_holds((told, b, e), config):
                return False
            if kind != "symbol" and not is_present(b, config):
                return False
        gaps = [k for (_, e), (b, _) in zip(ends, ends[1:]) for k in range(e, b)]
        return not any(is_present(k, config) for k in gaps)

    def possible(span):
        symbol, i, j = span
        return [(number, ends) for number, rule in enumerate(grammar[1]) if rule[0] == symbol
                for ends in all_ends(len(rule[1]), i, j)
                if all(part[0] == "symbol" or e == b + 1 and fits(part, folded[b][0])
                       for part, (b, e) in zip(rule[1], ends))]

    forest = {}
    for symbol in {rule[0] for rule in grammar[1]}:
        for i in range(len(folded)):
            for j in range(i + 1, len(folded) + 1):
                found = [one + (diagram_where(lambda config: holds(one, config), count),)
                         for one in sorted(possible((symbol, i, j)))]
                if any(d is not False for _, _, d in found):
                    forest[symbol, i, j] = tuple(one for one in found if one[2] is not False)
    return forest


def ends_of_tree(tree):
    """The ends of the alternative from which a tree comes."""
    return tuple((child, child + 1) if isinstance(child, int)
                 else (min(indexes_of(child)), max(indexes_of(child)) + 1) for child in tree[1])


def alive_trees_by_definition(grammar, folded, config):
    """A dict from spans to the ascending lists of their trees against which there is no reason."""
    found = {}
    for tree, (symbol, first, last) in all_trees(grammar, folded, config).items():
        if not reasons_by_definition(grammar, folded, config, tree):
            found.setdefault((symbol, first, last + 1), []).append(tree)
    return {span: sorted(trees) for span, trees in found.items()}


def alive_by_definition(grammar, folded, count):
    """The alive forest, from the trees of each configuration."""
    where = {}
    for config in all_configurations(count):
        for span, trees in alive_trees_by_definition(grammar, folded, config).items():
            for tree in trees:
                where.setdefault(span, {}).setdefault((tree[0], ends_of_tree(tree)), set()).add(config)
    return {span: tuple((rule, ends, diagram_by_definition(found[rule, ends], count)) for rule, ends in sorted(found))
            for span, found in where.items()}


def texts_trees_by_definition(grammar, folded, config):
    """The trees of the text: the derivations against which there is no reason."""
    return [tree for tree in derivations_by_definition(grammar, folded, config)
            if not reasons_by_definition(grammar, folded, config, tree)]


def conditions_by_definition(grammar, folded, count):
    many = {config: len(texts_trees_by_definition(grammar, folded, config)) for config in all_configurations(count)}
    return tuple(diagram_where(told, count)
                 for told in (lambda c: many[c] == 0, lambda c: many[c] == 1, lambda c: many[c] > 1))


def all_items(grammar, many):
    """All items over so many folded tokens, ascending."""
    return sorted((number, begins, end) for number, rule in enumerate(grammar[1])
                  for size in range(1, len(rule[1]) + 1) for begins in itertools.combinations(range(many), size)
                  for end in range(begins[-1] + 1, many + 1))


def ways_by_definition(grammar, folded, items, item, count):
    """The ways of an item from different items, as pairs of them with a set of configurations."""
    number, begins, end = item
    _, right, d, demands = grammar[1][number]
    m, b = len(begins), begins[-1]
    kind, told = right[m - 1]
    if m == len(right) and not all(demand_by_definition(demand, [folded[k][0] for k in begins]) for demand in demands):
        return []
    earliers = [None]
    if m > 1:
        earliers = [e for e in items if e[0] == number and e[1] == begins[:-1] and e[2] <= b]
    if kind == "symbol":
        lowers = [e for e in items if len(e[1]) == len(grammar[1][e[0]][1]) and grammar[1][e[0]][0] == told
                  and e[1][0] == b and e[2] == end]
    else:
        lowers = [None] if end == b + 1 and fits((kind, told), folded[b][0]) else []
    found = []
    for earlier, lower in itertools.product(earliers, lowers):
        where = set()
        for c in all_configurations(count):
            gap = range(earlier[2], b) if earlier else []
            barred = [bar for bar in grammar[2] if lower and bar[:3] == (number, m - 1, lower[0]) and is_in(bar[3], c)]
            if ((m > 1 or is_in(d, c)) and (lower or is_in(folded[b][1], c)) and not barred
                    and not any(is_in(folded[k][1], c) for k in gap)):
                where.add(c)
        if where:
            found.append((earlier, lower, frozenset(where)))
    return found


def configs_of(d, count):
    return frozenset(config for config in all_configurations(count) if is_in(d, config))


class PlainPapers:
    """What papers with rows say of a grammar and folded tokens, worked out with sets of
    configurations, for all items that there are."""

    def __init__(self, grammar, folded, count):
        self.grammar, self.folded, self.count = grammar, folded, count
        self.items = all_items(grammar, len(folded))
        self.ways = {item: ways_by_definition(grammar, folded, self.items, item, count) for item in self.items}
        self.tops = {}
        for item in self.items:
            if grammar[1][item[0]][0] == grammar[0] and len(item[1]) == len(grammar[1][item[0]][1]):
                outside = [d for k, (_, d) in enumerate(folded) if not item[1][0] <= k < item[2]]
                self.tops[item] = frozenset(
                    c for c in all_configurations(count) if not any(is_in(d, c) for d in outside))

    def least_may(self, where):
        """The smallest sets under which the rows are closed."""
        may = {item: frozenset() for item in self.items}
        while True:
            before = dict(may)
            for item in self.items:
                for way in self.ways[item]:
                    may[item] |= self.of_way(may, way) & where
            if may == before:
                return {item: found for item, found in may.items() if found}

    def of_way(self, may, way):
        """Where a way holds, by the sets of the items that it is made of."""
        earlier, lower, where = way
        for item in (earlier, lower):
            where = where & may.get(item, frozenset()) if item is not None else where
        return where

    def least_need(self, may, where):
        need = {item: may[item] & self.tops.get(item, frozenset()) & where for item in may}
        while True:
            before = dict(need)
            for item in may:
                for way in self.ways[item]:
                    for below in way[:2]:
                        if below in need:
                            need[below] |= self.of_way(may, way) & need[item]
            if need == before:
                return need

    def paper(self, word, where):
        """The paper with the smallest rows, which is right if one with this diagram is."""
        may = self.least_may(where)
        told = [may, self.least_need(may, where)][:1 if word == "nothing" else 2]
        rows = [item + tuple(diagram_by_definition(sets[item], self.count) for sets in told) for item in sorted(may)]
        return (word, diagram_by_definition(where, self.count), tuple(rows))

    def is_right(self, paper):
        """Whether a paper with rows that have the right form is right."""
        word, d, rows = paper
        where = configs_of(d, self.count)
        may = {row[:3]: configs_of(row[3], self.count) for row in rows}
        for item in self.items:
            if any(not self.of_way(may, way) & where <= may.get(item, frozenset()) for way in self.ways[item]):
                return False
        tops = {item: may[item] & self.tops[item] & where for item in may if item in self.tops}
        if word == "nothing":
            return not any(tops.values())
        need = {row[:3]: configs_of(row[4], self.count) for row in rows}
        if overlap(list(tops.values())) or not all(tops[item] <= need[item] for item in tops):
            return False
        for item in may:
            ways = [(way, self.of_way(may, way) & need[item]) for way in self.ways[item]]
            if overlap([found for _, found in ways]):
                return False
            for way, found in ways:
                if not all(found <= need.get(below, frozenset()) for below in way[:2] if below is not None):
                    return False
        return True


def overlap(sets):
    return any(one & other for one, other in itertools.combinations(sets, 2))


def diagram_at_by_definition(config):
    return diagram_by_definition({config}, len(config))


def formula_text(configs, switches):
    """The text, without spaces, of a formula that is true in these configurations."""
    joined = ["&".join(name if bit else "!" + name for name, bit in zip(switches, config)) for config in sorted(configs)]
    return "|".join(joined) or "0"


def grammar_lines(grammar, switches):
    """The lines of the text of a grammar."""
    start, rules, bars = grammar

    def tail(d):
        return [] if d is True else ["{" + formula_text(configs_of(d, len(switches)), switches) + "}"]

    lines = [f"start {start}"]
    for left, right, d, demands in rules:
        parts = [f'"{told}"' if kind == "text" else told for kind, told in right]
        lines.append(" ".join(["rule", left, "=", *parts, *tail(d), *[":".join(map(str, demand)) for demand in demands]]))
    return lines + [" ".join(["bar", str(r), str(p), str(b), *tail(d)]) for r, p, b, d in bars]


class PlainText:
    """What a shelf that is fine says, read line by line with sets of configurations:
    its content lines, and its tokens with the rows and indexes of the folded ones."""

    def __init__(self, shelf, name, switches):
        self.shelf, self.switches = shelf, switches
        self.every = frozenset(all_configurations(len(switches)))
        self.lines = []
        self.read(name, self.every)
        self.lines = [(text, where) for text, where in self.lines if where]
        self.folded = [(token, diagram_by_definition(where, len(switches)))
                       for row, (text, where) in enumerate(self.lines) for token in self.tokens(text, row)]

    def read(self, name, where):
        around = []
        for line in self.shelf[name].split("\n") if self.shelf[name] else []:
            if line.startswith("#if "):
                around.append(where)
                where = where & {c for c in self.every if is_true_text(line[4:], self.switches, c)}
            elif line == "#else":
                where = around[-1] - where
            elif line == "#end":
                where = around.pop()
            elif line.startswith("#use "):
                self.read(line[5:], where)
            else:
                self.lines.append((line, where))

    def tokens(self, text, row):
        found = []
        for match in re.finditer("[A-Za-z][A-Za-z0-9]*|[0-9]+|[^ ]", text):
            word, column = match.group(), match.start()
            kind = "word" if word[0].isalpha() else "number" if word[0].isdigit() else "mark"
            found.append((kind, word, row, column, column > 0 and text[column - 1] != " "))
        return found

    def chosen(self, config):
        return [text for text, where in self.lines if config in where]


def written_by_definition(d, switches):
    if not isinstance(d, tuple):
        return "1" if d else "0"
    low, high = [f"({written_by_definition(half, switches)})" if isinstance(half, tuple)
                 else written_by_definition(half, switches) for half in d[1:]]
    return f"{switches[d[0]]}?{high}:{low}"


def tree_text_by_definition(tree):
    if isinstance(tree, int):
        return f"#{tree}"
    return f"{tree[0]}({' '.join(tree_text_by_definition(child) for child in tree[1])})"


def reasons_text(reasons):
    return "; ".join(f"{word} {'.'.join(map(str, path)) or '.'} {k}" for word, path, k in reasons) or "allowed"
