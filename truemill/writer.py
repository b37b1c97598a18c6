"""The writer of build files: it makes the text of a tree."""

INDENT = "    "
WRITTEN = {"\"": "\\\"", "\\": "\\\\", "\n": "\\n"}


def without_places(tree):
    """Return a tree with 0 in the place of every line and column."""
    return unplaced(tree)


def unplaced(part):
    """Return any part of a tree with 0 in the place of every line and column."""
    if not isinstance(part, tuple):
        return part
    if not is_node(part):
        return tuple([unplaced(inner) for inner in part])
    if part[0] == "sum":
        return unplaced_sum(part)
    return (part[0], 0, 0) + tuple([unplaced(inner) for inner in part[3:]])


def is_node(part):
    """Whether a tuple of a tree is a node: blocks, rows and names have no line."""
    return len(part) > 2 and isinstance(part[1], int)


def unplaced_sum(node):
    """Return a sum with 0 in the place of every line and column."""
    terms = [unplaced(term) for term in terms_of(node)]
    whole = terms[0]
    for term in terms[1:]:
        whole = ("sum", 0, 0, whole, term)
    return whole


def terms_of(node):
    """Return the terms of an expression, from the left to the right."""
    # By a loop: sums are nested as deep as they have terms, which adds up in lists of sums.
    terms = []
    left = node
    while left[0] == "sum":
        terms.append(left[4])
        left = left[3]
    terms.append(left)
    terms.reverse()
    return terms


def write(tree):
    """Return the text of a tree."""
    return "".join([line + "\n" for line in block_lines(tree, "")])


def block_lines(block, indent):
    """Return the lines of the statements of a block."""
    lines = []
    for statement in block:
        lines.extend(statement_lines(statement, indent))
    return lines


def statement_lines(statement, indent):
    """Return the lines of a statement."""
    kind = statement[0]
    if kind == "if":
        return if_lines(statement, indent)
    if kind in ("each", "shape"):
        inside = block_lines(statement[5], indent + INDENT)
        return [indent + head_text(statement) + " {"] + inside + [indent + "}"]
    return [indent + simple_text(statement) + ";"]


def if_lines(statement, indent):
    """Return the lines of an `if`."""
    condition, block, other = statement[3:]
    lines = [indent + "if " + condition_text(condition) + " {"]
    lines.extend(block_lines(block, indent + INDENT))
    if other != ():
        lines.append(indent + "} else {")
        lines.extend(block_lines(other, indent + INDENT))
    lines.append(indent + "}")
    return lines


def head_text(statement):
    """Return what stands in front of the block of an `each` or a `shape`."""
    kind = statement[0]
    name = statement[3]
    if kind == "each":
        return "each " + name + " in " + expression_text(statement[4])
    return "shape " + name + "(" + ", ".join(statement[4]) + ")"


def simple_text(statement):
    """Return the text of a statement without a block, up to its semicolon."""
    kind = statement[0]
    if kind == "set":
        return "set " + statement[3] + " = " + expression_text(statement[4])
    if kind == "use":
        return "use " + statement[3] + "(" + row_text(statement[4]) + ")"
    return make_text(statement)


def make_text(statement):
    """Return the text of a `make`, up to its semicolon."""
    target, tool, args, sources, needs = statement[3:]
    text = "make " + expression_text(target) + " by " + tool
    for word, part in (("with", args), ("from", sources), ("needs", needs)):
        if part is not None:
            text = text + " " + word + " " + expression_text(part)
    return text


def condition_text(node):
    """Return the text of a condition."""
    negated, sign, left, right = node[3:]
    text = expression_text(left) + " " + sign + " " + expression_text(right)
    return "not " + text if negated else text


def row_text(row):
    """Return the text of expressions between commas."""
    return ", ".join([expression_text(node) for node in row])


def expression_text(node):
    """Return the text of an expression."""
    return " + ".join([term_text(term) for term in terms_of(node)])


def term_text(node):
    """Return the text of a term."""
    kind = node[0]
    if kind == "text":
        return quoted(node[3])
    if kind == "name":
        return node[3]
    if kind == "list":
        return "[" + row_text(node[3]) + "]"
    if kind == "map":
        return "[" + map_text(node) + "]"
    return kind + "(" + quoted(node[3]) + ")"


def map_text(node):
    """Return what stands in the brackets of a map."""
    value, name, source, condition = node[3:]
    text = expression_text(value) + " each " + name + " in " + expression_text(source)
    if condition is None:
        return text
    return text + " when " + condition_text(condition)


def quoted(value):
    """Return the token of a text."""
    return "\"" + "".join([WRITTEN.get(sign, sign) for sign in value]) + "\""
