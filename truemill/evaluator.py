"""The evaluator: it executes the statements of a build file."""

from truemill.expressions import Run, fail, holds, is_text, value_of
from truemill.labels import full_label, is_label, label_of
from truemill.paths import is_path, is_segment, put_behind

MOST_PARTS = 12
LONGEST_ARG = 60
MOST_TARGETS = 40


class Frame:
    """One execution of a block: how far it is, and what is known in it."""

    def __init__(self, block, known, shapes, is_file):
        self.block = block
        self.at = 0
        # From the names that are known to their values; this execution's own dict.
        self.known = known
        # From the names of the shapes that may be used to (names, block, earlier shapes).
        self.shapes = shapes
        # Whether the block is the file itself.
        self.is_file = is_file


def evaluate(folder, tree, flags, files):
    """Evaluate a file that lies in a folder; return its targets and its looks."""
    run = Run(folder, flags, files)
    # Blocks wait here instead of calling each other: shapes that use shapes go too deep for that.
    frames = [Frame(tree, {}, {}, True)]
    while frames:
        frame = frames[-1]
        if frame.at == len(frame.block):
            frames.pop()
        else:
            statement = frame.block[frame.at]
            frame.at += 1
            inner = execute(run, frame, statement)
            frames.extend(inner[::-1])
    return (tuple(run.targets.values()), tuple(run.looks))


def execute(run, frame, statement):
    """Execute a statement up to its blocks; return the frames of those that come next, in order."""
    run.statement = statement
    run.begin(statement)
    kind = statement[0]
    if kind == "if":
        return chosen_block(run, frame, statement)
    if kind == "each":
        return repeated_block(run, frame, statement)
    if kind == "use":
        return used_block(run, frame, statement)
    if kind == "set":
        set_name(run, frame.known, statement)
    elif kind == "make":
        make_target(run, frame.known, statement)
    else:
        declare_shape(frame, statement)
    return []


def chosen_block(run, frame, statement):
    """Return the frame of the block that an `if` chooses."""
    condition, block, other = statement[3:]
    chosen = block if holds(run, condition, frame.known) else other
    return [Frame(chosen, {**frame.known}, frame.shapes, False)]


def repeated_block(run, frame, statement):
    """Return the frames of the block of an `each`, one for each text of its list."""
    name, source, block = statement[3:]
    values = value_of(run, source, frame.known)
    if is_text(values):
        fail(statement, "kind")
    if name in frame.known:
        fail(statement, "bound")
    return [Frame(block, {**frame.known, name: value}, frame.shapes, False) for value in values]


def used_block(run, frame, statement):
    """Return the frame of the block of the shape that a `use` names."""
    shape, parts = statement[3:]
    values = [value_of(run, part, frame.known) for part in parts]
    if shape not in frame.shapes:
        fail(statement, "unknown")
    names, block, earlier = frame.shapes[shape]
    if len(values) != len(names):
        fail(statement, "count")
    return [Frame(block, dict(zip(names, values)), earlier, False)]


def set_name(run, known, statement):
    """Bind the name of a `set` to its value."""
    name, part = statement[3:]
    value = value_of(run, part, known)
    if name in known:
        fail(statement, "bound")
    known[name] = value


def declare_shape(frame, statement):
    """Declare a shape, with the shapes that may be used in its block."""
    shape, names, block = statement[3:]
    if not frame.is_file:
        fail(statement, "place")
    if shape in frame.shapes:
        fail(statement, "bound")
    if len(set(names)) != len(names):
        fail(statement, "bound")
    frame.shapes[shape] = (names, block, {**frame.shapes})


def make_target(run, known, statement):
    """Make the target of a `make`."""
    target, tool, with_part, from_part, needs_part = statement[3:]
    name = value_of(run, target, known)
    if not is_text(name):
        fail(statement, "kind")
    if not is_segment(name):
        fail(statement, "name")
    args = part_texts(run, known, statement, with_part)
    check_names(statement, [is_arg(text) for text in args])
    sources = [put_behind(run.folder, text) for text in part_texts(run, known, statement, from_part)]
    check_names(statement, [is_path(path) for path in sources])
    needs = [full_label(run.folder, text) for text in part_texts(run, known, statement, needs_part)]
    check_names(statement, [is_label(label) for label in needs])
    label = label_of(run.folder, name)
    if label in run.targets:
        fail(statement, "bound")
    if len(run.targets) == MOST_TARGETS:
        fail(statement, "size")
    run.targets[label] = (label, tool, args, tuple(sources), tuple(needs))


def part_texts(run, known, statement, part):
    """Return the texts of a part of a `make`; none if it is left out."""
    if part is None:
        return ()
    values = value_of(run, part, known)
    if is_text(values):
        fail(statement, "kind")
    if len(values) > MOST_PARTS:
        fail(statement, "size")
    return values


def is_arg(text):
    """Whether a text may be an arg of a tool."""
    return len(text) <= LONGEST_ARG and "\n" not in text


def check_names(statement, found):
    """Raise an error if something in a part of a `make` was found not to be as it must be."""
    if not all(found):
        fail(statement, "name")
