"""The values of the expressions and conditions of a build file."""

from truemill.errors import EvalProblem
from truemill.paths import is_pattern, lies_in, matches, rest_behind

MOST_STEPS = 3000
LONGEST_VALUE = 200
MOST_VALUES = 40


class Run:
    """One evaluation of a file: what it may look at, and what it has done so far."""

    def __init__(self, folder, flags, files):
        self.folder = folder
        self.flags = flags
        self.files = files
        self.steps = 0
        # The statement that is executed at the moment.
        self.statement = None
        # The looks, and the targets under their labels, in the order in which they were made.
        self.looks = {}
        self.targets = {}

    def begin(self, node):
        """Count the step of a statement or an expression whose evaluation begins."""
        if self.steps == MOST_STEPS:
            fail(node, "steps")
        self.steps += 1


def fail(node, reason):
    """Raise an error at the place of a statement or an expression."""
    raise EvalProblem(node[1], node[2], reason)


def is_text(value):
    """Whether a value is a text; every other value is a list, kept as a tuple of texts."""
    return isinstance(value, str)


def sized(node, value):
    """Return a value if it is not too long; otherwise the error stands at the node."""
    most = LONGEST_VALUE if is_text(value) else MOST_VALUES
    if len(value) > most:
        fail(node, "size")
    return value


def value_of(run, node, known):
    """Return the value of an expression, given a dict of the names that are known."""
    run.begin(node)
    kind = node[0]
    if kind == "text":
        # A place in the expression itself is named for other expressions only.
        return sized(run.statement, node[3])
    if kind == "name":
        return named_value(node, known)
    if kind == "files":
        return files_value(run, node)
    if kind == "flag":
        return flag_value(run, node)
    if kind == "list":
        return list_value(run, node, known)
    if kind == "map":
        return map_value(run, node, known)
    return sum_value(run, node, known)


def named_value(node, known):
    """Return the value of a name."""
    if node[3] not in known:
        fail(node, "unknown")
    return known[node[3]]


def files_value(run, node):
    """Look for the files that a pattern matches, and return their paths behind the folder."""
    pattern = node[3]
    if not is_pattern(pattern):
        fail(node, "pattern")
    rests = [rest_behind(run.folder, path) for path in run.files if lies_in(path, run.folder)]
    found = tuple([rest for rest in rests if matches(pattern, rest)])
    run.looks[("files", pattern, found)] = True
    return sized(node, found)


def flag_value(run, node):
    """Look at a flag and return its text."""
    name = node[3]
    found = run.flags.get(name, "")
    run.looks[("flag", name, found)] = True
    return sized(node, found)


def list_value(run, node, known):
    """Return the value of a list."""
    texts = []
    for part in node[3]:
        texts.append(element_value(run, node, part, known))
    return sized(node, tuple(texts))


def element_value(run, node, part, known):
    """Return the value of an expression in a list or a map, which must be a text."""
    value = value_of(run, part, known)
    if not is_text(value):
        fail(node, "kind")
    return value


def map_value(run, node, known):
    """Return the value of a map."""
    part, name, source, condition = node[3:]
    values = value_of(run, source, known)
    if is_text(values):
        fail(node, "kind")
    if name in known:
        fail(node, "bound")
    inner = {**known}
    texts = []
    for value in values:
        inner[name] = value
        if condition is None or holds(run, condition, inner):
            texts.append(element_value(run, node, part, inner))
    return tuple(texts)


def sum_value(run, node, known):
    """Return the value of a sum whose own step is counted already."""
    # By a loop: sums are nested as deep as they have terms, which adds up in lists of sums.
    sums = [node]
    first = node[3]
    while first[0] == "sum":
        run.begin(first)
        sums.append(first)
        first = first[3]
    value = value_of(run, first, known)
    for part in reversed(sums):
        value = joined(part, value, value_of(run, part[4], known))
    return value


def joined(node, left, right):
    """Return the sum of two values."""
    if is_text(left) != is_text(right):
        fail(node, "kind")
    return sized(node, left + right)


def holds(run, condition, known):
    """Whether a condition holds."""
    negated, sign, left, right = condition[3:]
    first = value_of(run, left, known)
    second = value_of(run, right, known)
    if not are_comparable(sign, first, second):
        fail(left, "kind")
    if sign == "in":
        return (first in second) != negated
    if sign == "==":
        return (first == second) != negated
    return (first != second) != negated


def are_comparable(sign, first, second):
    """Whether two values are of the kinds that a sign compares."""
    if sign == "in":
        return is_text(first) and not is_text(second)
    return is_text(first) == is_text(second)
