"""A second evaluator of build files, which follows points 21 to 27 by plain recursion.

It keeps the blocks around a block as a row of dicts and calls itself for blocks within blocks, so
it shares no way of working with truemill.evaluator.
"""

import re

from truemill.paths import matches

SEGMENT = "[a-z0-9][a-z0-9_.-]{0,19}"
PATH = SEGMENT + "(/" + SEGMENT + "){0,4}"
LABEL = "//(" + PATH + ")?:" + SEGMENT
PIECE = r"(?![^/]*\*[^/]*\*[^/]*\*[^/]*\*)[a-z0-9_.*-]{1,20}"
PATTERN = PIECE + "(/" + PIECE + "){0,4}"


class Problem(Exception):
    pass


class PlainEvaluator:
    def __init__(self, folder, flags, files):
        self.folder, self.flags, self.files = folder, flags, files
        self.front = folder + "/" if folder else ""
        self.steps = 0
        self.targets, self.looks, self.shapes = [], [], []

    def problem(self, node, reason):
        raise Problem(node[1], node[2], reason)

    def step(self, node):
        self.steps += 1
        if self.steps > 3000:
            self.problem(node, "steps")

    def look(self, *look):
        if look not in self.looks:
            self.looks.append(look)

    def known(self, scopes, name):
        return any(name in scope for scope in scopes)

    def sized(self, node, value):
        if len(value) > (200 if type(value) is str else 40):
            self.problem(node, "size")
        return value

    def run(self, tree):
        self.block(tree, [{}], 0, None)
        return tuple(self.targets), tuple(self.looks)

    def block(self, block, scopes, deep, position):
        """Execute a block; `position` is that of the shape around it, None outside of shapes."""
        for statement in block:
            self.step(statement)
            getattr(self, "do_" + statement[0])(statement, scopes, deep, position)

    def do_set(self, statement, scopes, deep, position):
        value = self.value(statement[4], scopes)
        if self.known(scopes, statement[3]):
            self.problem(statement, "bound")
        scopes[-1][statement[3]] = value

    def do_if(self, statement, scopes, deep, position):
        block = statement[4] if self.condition(statement[3], scopes) else statement[5]
        self.block(block, scopes + [{}], deep + 1, position)

    def do_each(self, statement, scopes, deep, position):
        value = self.value(statement[4], scopes)
        if type(value) is str:
            self.problem(statement, "kind")
        if self.known(scopes, statement[3]):
            self.problem(statement, "bound")
        for text in value:
            self.block(statement[5], scopes + [{statement[3]: text}], deep + 1, position)

    def do_shape(self, statement, scopes, deep, position):
        if deep > 0:
            self.problem(statement, "place")
        if any(shape[3] == statement[3] for shape in self.shapes):
            self.problem(statement, "bound")
        for at, name in enumerate(statement[4]):
            if name in statement[4][:at]:
                self.problem(statement, "bound")
        self.shapes.append(statement)

    def do_use(self, statement, scopes, deep, position):
        values = [self.value(part, scopes) for part in statement[4]]
        for at, shape in enumerate(self.shapes[:position]):
            if shape[3] == statement[3]:
                if len(shape[4]) != len(values):
                    self.problem(statement, "count")
                self.block(shape[5], [dict(zip(shape[4], values))], deep + 1, at)
                return
        self.problem(statement, "unknown")

    def do_make(self, statement, scopes, deep, position):
        name = self.value(statement[3], scopes)
        if type(name) is not str:
            self.problem(statement, "kind")
        if not re.fullmatch(SEGMENT, name):
            self.problem(statement, "name")
        parts = []
        for part, check in zip(statement[5:], (self.arg, self.source, self.need)):
            texts = () if part is None else self.value(part, scopes)
            if type(texts) is str:
                self.problem(statement, "kind")
            if len(texts) > 12:
                self.problem(statement, "size")
            parts.append(tuple(check(statement, text) for text in texts))
        label = "//" + self.folder + ":" + name
        if label in [target[0] for target in self.targets]:
            self.problem(statement, "bound")
        self.targets.append((label, statement[4], *parts))
        if len(self.targets) > 40:
            self.problem(statement, "size")

    def arg(self, statement, text):
        if not re.fullmatch("[^\n]{0,60}", text):
            self.problem(statement, "name")
        return text

    def source(self, statement, text):
        if not re.fullmatch(PATH, self.front + text):
            self.problem(statement, "name")
        return self.front + text

    def need(self, statement, text):
        if re.fullmatch(":" + SEGMENT, text):
            return "//" + self.folder + text
        if not re.fullmatch(LABEL, text):
            self.problem(statement, "name")
        return text

    def condition(self, condition, scopes):
        _, _, _, negated, sign, left, right = condition
        kinds = []
        values = []
        for part in (left, right):
            values.append(self.value(part, scopes))
            kinds.append(type(values[-1]) is str)
        if kinds not in ([[True, False]] if sign == "in" else [[True, True], [False, False]]):
            self.problem(left, "kind")
        result = {"in": values[0] in values[1] if kinds != [False, True] else None,
                  "==": values[0] == values[1], "!=": values[0] != values[1]}[sign]
        return not result if negated else result

    def value(self, node, scopes):
        self.step(node)
        return getattr(self, "get_" + node[0])(node, scopes)

    def get_text(self, node, scopes):
        return node[3]

    def get_name(self, node, scopes):
        for scope in scopes:
            if node[3] in scope:
                return scope[node[3]]
        self.problem(node, "unknown")

    def get_flag(self, node, scopes):
        value = self.flags[node[3]] if node[3] in self.flags else ""
        self.look("flag", node[3], value)
        return self.sized(node, value)

    def get_files(self, node, scopes):
        if not re.fullmatch(PATTERN, node[3]):
            self.problem(node, "pattern")
        found = []
        for path in self.files:
            if path.startswith(self.front) and matches(node[3], path[len(self.front):]):
                found.append(path[len(self.front):])
        self.look("files", node[3], tuple(found))
        return self.sized(node, found)

    def get_list(self, node, scopes):
        return self.sized(node, [self.element(node, part, scopes) for part in node[3]])

    def element(self, node, part, scopes):
        value = self.value(part, scopes)
        if type(value) is not str:
            self.problem(node, "kind")
        return value

    def get_sum(self, node, scopes):
        left = self.value(node[3], scopes)
        right = self.value(node[4], scopes)
        if type(left) is not type(right):
            self.problem(node, "kind")
        return self.sized(node, left + right)

    def get_map(self, node, scopes):
        source = self.value(node[5], scopes)
        if type(source) is str:
            self.problem(node, "kind")
        if self.known(scopes, node[4]):
            self.problem(node, "bound")
        result = []
        for text in source:
            inner = scopes + [{node[4]: text}]
            if node[6] is None or self.condition(node[6], inner):
                result.append(self.element(node, node[3], inner))
        return result
