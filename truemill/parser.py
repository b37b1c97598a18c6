"""The parser of build files: it makes a tree of their tokens."""

from truemill.reader import Reader

MOST_TERMS = 20


def parse(text):
    """Return the tree of a build file: a tuple of statements."""
    reader = Reader(text)
    statements = []
    while not reader.is_at_end():
        statements.append(read_statement(reader))
    return tuple(statements)


def read_statement(reader):
    """Read a statement of any form and return its node."""
    if reader.sees("set"):
        return read_set(reader)
    if reader.sees("make"):
        return read_make(reader)
    if reader.sees("if"):
        return read_if(reader)
    if reader.sees("each"):
        return read_each(reader)
    if reader.sees("shape"):
        return read_shape(reader)
    # Whatever is no statement at all fails at the word that is missing there.
    return read_use(reader)


def read_set(reader):
    """Read a `set` and return its node."""
    line, column = reader.place()
    reader.skip("set")
    name = reader.take_name()
    reader.skip("=")
    value = read_expression(reader)
    reader.skip(";")
    return ("set", line, column, name, value)


def read_make(reader):
    """Read a `make` and return its node."""
    line, column = reader.place()
    reader.skip("make")
    target = read_expression(reader)
    reader.skip("by")
    tool = reader.take_name()
    args = read_part(reader, "with")
    sources = read_part(reader, "from")
    needs = read_part(reader, "needs")
    reader.skip(";")
    return ("make", line, column, target, tool, args, sources, needs)


def read_part(reader, word):
    """Read a part of a `make` that may be left out; return its expression or None."""
    if reader.skip_if_seen(word):
        return read_expression(reader)
    return None


def read_if(reader):
    """Read an `if` and return its node."""
    line, column = reader.place()
    reader.skip("if")
    condition = read_condition(reader)
    block = read_block(reader)
    other = ()
    if reader.skip_if_seen("else"):
        other = read_block(reader)
    return ("if", line, column, condition, block, other)


def read_each(reader):
    """Read an `each` statement and return its node."""
    line, column = reader.place()
    reader.skip("each")
    name = reader.take_name()
    reader.skip("in")
    source = read_expression(reader)
    block = read_block(reader)
    return ("each", line, column, name, source, block)


def read_shape(reader):
    """Read a `shape` and return its node."""
    line, column = reader.place()
    reader.skip("shape")
    name = reader.take_name()
    reader.skip("(")
    names = []
    if not reader.sees(")"):
        names.append(reader.take_name())
        while reader.skip_if_seen(","):
            names.append(reader.take_name())
    reader.skip(")")
    block = read_block(reader)
    return ("shape", line, column, name, tuple(names), block)


def read_use(reader):
    """Read a `use` and return its node."""
    line, column = reader.place()
    reader.skip("use")
    name = reader.take_name()
    reader.skip("(")
    values = ()
    if not reader.sees(")"):
        first = read_expression(reader)
        values = read_more(reader, first)
    reader.skip(")")
    reader.skip(";")
    return ("use", line, column, name, values)


def read_more(reader, first):
    """Read what follows the first one of a row of expressions; return the whole row."""
    row = [first]
    while reader.skip_if_seen(","):
        row.append(read_expression(reader))
    return tuple(row)


def read_block(reader):
    """Read a block and return its statements."""
    reader.enter("{")
    statements = []
    while not reader.sees("}"):
        statements.append(read_statement(reader))
    reader.leave("}")
    return tuple(statements)


def read_condition(reader):
    """Read a condition and return its node."""
    line, column = reader.place()
    negated = reader.skip_if_seen("not")
    left = read_expression(reader)
    if not (reader.sees("==") or reader.sees("!=") or reader.sees("in")):
        reader.fail()
    sign = reader.take_value()
    right = read_expression(reader)
    return ("compare", line, column, negated, sign, left, right)


def read_expression(reader):
    """Read an expression and return its node."""
    line, column = reader.place()
    value = read_term(reader)
    terms = 1
    while reader.sees("+"):
        if terms == MOST_TERMS:
            reader.fail()
        reader.skip("+")
        value = ("sum", line, column, value, read_term(reader))
        terms += 1
    return value


def read_term(reader):
    """Read a term and return its node."""
    line, column = reader.place()
    if reader.sees_kind("text"):
        return ("text", line, column, reader.take_text())
    if reader.sees_name():
        return ("name", line, column, reader.take_name())
    if reader.sees("files"):
        return ("files", line, column, read_asked(reader, "files"))
    if reader.sees("flag"):
        return ("flag", line, column, read_asked(reader, "flag"))
    return read_brackets(reader)


def read_asked(reader, word):
    """Read a `files` or a `flag` and return the text that it asks for."""
    reader.skip(word)
    reader.skip("(")
    asked = reader.take_text()
    reader.skip(")")
    return asked


def read_brackets(reader):
    """Read a list or a map and return its node."""
    line, column = reader.place()
    reader.enter("[")
    node = ("list", line, column, ())
    if not reader.sees("]"):
        first = read_expression(reader)
        if reader.sees("each"):
            node = read_map(reader, line, column, first)
        else:
            node = ("list", line, column, read_more(reader, first))
    reader.leave("]")
    return node


def read_map(reader, line, column, value):
    """Read the rest of a map behind its first expression; return the map's node."""
    reader.skip("each")
    name = reader.take_name()
    reader.skip("in")
    source = read_expression(reader)
    condition = None
    if reader.skip_if_seen("when"):
        condition = read_condition(reader)
    return ("map", line, column, value, name, source, condition)
