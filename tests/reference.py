"""Slow versions of evaluating, building and checking, written from the document's words.

A character is carried together with its address, as a cell (character, address).
"""

from support import stamped


class Stop(Exception):
    """An expression evaluates to this error."""

    def __init__(self, error):
        self.error = error


def all_parts(expression):
    """Return the subexpressions in reading order."""
    found = [expression]
    for part in expression[1:]:
        if isinstance(part, tuple) and part and isinstance(part[0], str) and expression[0] != "literal":
            found.extend(all_parts(part))
    return found


def look(pairs, name):
    return dict(pairs).get(name)


def occurs(wanted, cells, at):
    return [cell[0][0] for cell in cells[at:at + len(wanted)]] == [cell[0][0] for cell in wanted]


def first_index(wanted, cells):
    for at in range(len(cells) - len(wanted) + 1):
        if occurs(wanted, cells, at):
            return at
    return None


class Run:
    """Evaluates one expression; `target_of` gives the result of a target when it is read."""

    def __init__(self, files, target_of, coins):
        self.files = files
        self.target_of = target_of
        self.coins = coins
        self.reads = []
        self.literals = 0

    def number_literals(self, expression):
        """Return the expression whose literals are lists of cells."""
        if expression[0] == "literal":
            start = self.literals
            self.literals += len(expression[1])
            return ("literal", [(c, ("literal", start + k)) for k, c in enumerate(expression[1])])
        return tuple([self.number_literals(p) if isinstance(p, tuple) else p for p in expression])

    def result(self, expression):
        """Return the cells of the text, or the error, in a pair with a word."""
        try:
            return ("text", self.cells(self.number_literals(expression)))
        except Stop as stop:
            return ("error", stop.error)

    def cells(self, expression):
        found = self.unlimited(expression)
        if len(found) > 120:
            raise Stop(("too long",))
        return found

    def read_cells(self, cells):
        for cell in cells:
            self.reads.append(("cell", cell))

    def file(self, path, must_exist):
        text = look(self.files, path)
        if text is None:
            self.reads.append(("missing", path))
            if must_exist:
                raise Stop(("missing file", path))
            return []
        self.reads.append(("file", path, len(text)))
        return [(c, ("file", path, k)) for k, c in enumerate(text)]

    def target(self, name):
        kind, value = self.target_of(name)
        if kind == "error":
            self.reads.append(("failed", name, value))
            raise Stop(value)
        self.reads.append(("target", name, len(value)))
        return [(c, ("target", name, k)) for k, c in enumerate(value)]

    def search(self, word, text, wanted):
        self.read_cells(wanted)
        at = first_index(wanted, text)
        if at is None:
            self.read_cells(text)
            return text if word == "before" else []
        self.read_cells(text[:at + len(wanted)])
        split = {"before": text[:at], "find": text[at:at + len(wanted)], "after": text[at + len(wanted):]}
        return split[word]

    def replace(self, text, wanted, new):
        if not wanted:
            return text
        at = first_index(wanted, text)
        if at is None:
            return text
        return text[:at] + new + self.replace(text[at + len(wanted):], wanted, new)

    def listing(self, prefix):
        return tuple([path for path, _ in self.files if path[:len(prefix)] == prefix])

    def unlimited(self, expression):
        word = expression[0]
        if word == "literal":
            return expression[1]
        if word in ("file", "optional file"):
            return self.file(expression[1], word == "file")
        if word == "target":
            return self.target(expression[1])
        if word == "concat":
            return [cell for part in expression[1:] for cell in self.cells(part)]
        if word == "slice":
            return [cell for k, cell in enumerate(self.cells(expression[1])) if expression[2] <= k < expression[3]]
        if word in ("find", "after", "before"):
            text, wanted = [self.cells(part) for part in expression[1:]]
            return self.search(word, text, wanted)
        if word == "replace all":
            text, wanted, new = [self.cells(part) for part in expression[1:]]
            if wanted:
                self.read_cells(wanted)
                self.read_cells(text)
            return self.replace(text, wanted, new)
        if word == "if":
            return self.cells(expression[2] if len(self.cells(expression[1])) > 0 else expression[3])
        if word == "concat files":
            paths = self.listing(expression[1])
            self.reads.append(("list", expression[1], paths))
            return [cell for path in paths for cell in self.file(path, True)]
        if word == "dynamic file":
            path = self.cells(expression[1])
            self.read_cells(path)
            return self.file("".join([cell[0][0] for cell in path]), False)
        assert word == "coin"
        self.reads.append(("coin", expression[1], self.coins[expression[1]]))
        return self.cells(expression[2 + self.coins[expression[1]]])


def run_in(expression, environment):
    """Run an expression in an environment; return the run and the result of cells."""
    files, targets, coins = environment
    run = Run(files, lambda name: look(targets, name) or ("error", ("missing target", name)), coins)
    return run, run.result(expression)


def plain_result(result):
    kind, value = result
    return (kind, tuple([cell[0] for cell in value])) if kind == "text" else result


def slow_evaluate(expression, environment):
    run, result = run_in(expression, environment)
    return plain_result(result), tuple([("char", r[1][0]) if r[0] == "cell" else r for r in run.reads])


def slow_trace(expression, environment):
    run, (kind, value) = run_in(expression, environment)
    reads = tuple([("char", r[1][1], r[1][0][0]) if r[0] == "cell" else r for r in run.reads])
    return reads, ("copy", tuple([cell[1] for cell in value])) if kind == "text" else (kind, value)


def slow_character(address, expression, environment):
    """Return the character to which the address refers, or None."""
    files, targets, _ = environment
    if address[0] == "literal":
        text = [c for part in all_parts(expression) if part[0] == "literal" for c in part[1]]
    elif address[0] == "file":
        text = dict(files).get(address[1], ())
    else:
        kind, text = dict(targets).get(address[1], ("error", None))
        text = text if kind == "text" else ()
    return text[address[-1]] if address[-1] < len(text) else None


def is_true(read, expression, environment):
    files, targets, coins = environment
    result = dict(targets).get(read[1], ("error", ("missing target", read[1])))
    if read[0] == "file":
        return read[1] in dict(files) and len(dict(files)[read[1]]) == read[2]
    if read[0] == "missing":
        return read[1] not in dict(files)
    if read[0] == "list":
        return [path for path, _ in files if path.startswith(read[1])] == list(read[2])
    if read[0] == "target":
        return result[0] == "text" and len(result[1]) == read[2]
    if read[0] == "failed":
        return result == ("error", read[2])
    if read[0] == "coin":
        return coins[read[1]] == read[2]
    character = slow_character(read[1], expression, environment)
    return character is not None and character[0] == read[2]


def slow_replay(trace, expression, environment):
    reads, (kind, value) = trace
    if not all([is_true(read, expression, environment) for read in reads]):
        return None
    if kind == "error":
        return ("error", value)
    text = tuple([slow_character(address, expression, environment) for address in value])
    return None if None in text else ("text", text)


def slow_run(tree, expression, coins, active=()):
    """Return the result, the reads and all characters that are read, with repetitions."""
    built = []

    def target_of(name):
        result, read = slow_build(tree, name, active)
        built.append(read)
        return result

    run = Run(tree[0], target_of, coins)
    result = plain_result(run.result(expression))
    characters = []
    for read in run.reads:
        if read[0] == "cell":
            characters.append(read[1][0])
        elif read[0] in ("target", "failed"):
            characters.extend(built.pop(0))
    assert not built
    return result, tuple(run.reads), characters


def slow_build(tree, name, active=()):
    """Return the result of building from scratch and the characters read, with repetitions."""
    if name in active:
        return ("error", ("cycle", name)), []
    rule = look(tree[1], name)
    if rule is None:
        return ("error", ("missing target", name)), []
    result, _, characters = slow_run(tree, rule, (0, 0, 0), active + (name,))
    return result, characters


def once(values):
    """Return the values without those that are equal to an earlier one."""
    found = []
    for value in values:
        if value not in found:
            found.append(value)
    return tuple(found)


def slow_environment(tree, seed=0):
    targets = tuple([(name, slow_build(tree, name)[0]) for name, _ in tree[1]])
    return tree[0], targets, tuple([int(digit) for digit in reversed(bin(8 + seed)[3:])])


SEEDS = tuple(range(8))
PATHS = ("a", "a/b", "b", "c.c")
TARGETS = ("r", "s", "t", "u", "v")


def random_text(rng, longest=3):
    """Return a text with few different signs and origins."""
    return tuple([(rng.choice("ab/"), rng.randrange(2), rng.randrange(3)) for _ in range(rng.randrange(longest + 1))])


def random_leaf(rng, names):
    word = rng.choice(("literal", "literal", "file", "file", "optional file", "target", "target", "concat files"))
    if word == "literal":
        if rng.randrange(40) == 0:
            return ("literal", stamped("a" * rng.randrange(59, 122)))
        return ("literal", random_text(rng))
    if word == "concat files":
        return (word, rng.choice(("", "a", "a/", "b", "z")))
    if word == "target":
        return (word, rng.choice(names))
    return (word, rng.choice(PATHS))


def random_expression(rng, depth=4, coins=False, names=TARGETS):
    """Return a stamped expression that is nested at most so deep."""
    if depth == 1 or rng.randrange(4) == 0:
        return random_leaf(rng, names)
    words = ["concat", "slice", "find", "after", "before", "replace all", "if", "dynamic file"]
    word = rng.choice(words + ["coin"] * 3 if coins else words)

    def part():
        return random_expression(rng, depth - 1, coins, names)

    if word == "slice":
        return (word, part(), rng.randrange(4), rng.randrange(4))
    if word in ("replace all", "if"):
        return (word, part(), part(), part())
    if word == "dynamic file":
        return (word, part())
    if word == "coin":
        return (word, rng.randrange(3), part(), part())
    return (word, part(), part())


def random_files(rng):
    files = []
    for path in PATHS:
        if rng.randrange(4):
            text = random_text(rng) if rng.randrange(30) else stamped("ab" * rng.randrange(29, 62))
            files.append((path, text))
    return tuple(files)


def random_environment(rng):
    """Return an environment whose targets evaluate to anything."""
    targets = []
    for name in TARGETS:
        case = rng.randrange(8)
        if case == 0:
            targets.append((name, ("error", rng.choice((("too long",), ("cycle", "r"), ("missing file", "a"))))))
        elif case > 1:
            targets.append((name, ("text", random_text(rng))))
    return random_files(rng), tuple(targets), tuple([rng.randrange(2) for _ in range(3)])


def random_tree(rng, depth=3, acyclic=False):
    """Return a tree with files and rules, some of which reference each other."""
    rules = []
    for number, name in enumerate(TARGETS):
        names = TARGETS[number + 1:] + ("z",) if acyclic else TARGETS + ("z",)
        if rng.randrange(8):
            rules.append((name, random_expression(rng, depth, False, names)))
    return random_files(rng), tuple(rules), (), (), ()


def random_whole_tree(rng, depth=3, acyclic=True):
    """Return a tree that also has tests, which flip coins, and pages."""
    files, rules, _, _, _ = random_tree(rng, depth, acyclic)
    names = TARGETS + ("z",)
    tests = [(name, random_expression(rng, depth, True, names)) for name in ("k", "l", "m") if rng.randrange(3)]
    pages = []
    for name in ("p", "q"):
        if rng.randrange(3):
            parts = [(("always",), rng.choice(names)) for _ in range(rng.randrange(3))]
            pages.append((name, tuple(parts)))
    return files, rules, tuple(tests), tuple(pages), ()


def slow_run_test(tree, test, seed):
    """Return (passes, flips, read) of a test of the tree under a seed."""
    result, reads, characters = slow_run(tree, test, slow_environment(((), (), (), (), ()), seed)[2])
    flips = [(read[1], read[2]) for read in reads if read[0] == "coin"]
    return result[0] == "text" and result[1] != (), once(flips), once(characters)
