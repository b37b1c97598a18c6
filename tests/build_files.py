"""Random build files for the tests, as trees with places that need not be those of a text."""

SIGNS = ["a", "b", "z", " ", "\"", "\\", "\n", "n", "{", ";", "~", "/", ":", "*"]
PATTERNS = ["*", "**", "a*", "*/b", "**/a", "a/**", "/", "", "A"]
FLAGS = ["fast", "os", "", "a b"]


class TreeMaker:
    """Makes random trees of the grammar's form; `deep` says how many brackets may still be opened."""

    def __init__(self, random, names=("x", "y", "z"), shapes=("f", "g", "h"), places=False):
        self.random = random
        self.choice = random.choice
        self.names = names
        self.shapes = shapes
        self.places = places

    def node(self, word, *parts):
        if not self.places:
            return (word, 1, 1, *parts)
        return (word, self.random.randrange(1, 1000), self.random.randrange(1, 1000), *parts)

    def many(self, most, make, *values):
        return tuple([make(*values) for _ in range(self.random.randrange(most + 1))])

    def block(self, deep, size=2):
        return self.many(size, self.statement, deep - 1)

    def statement(self, deep):
        kinds = ["set", "set", "make", "use"] + (["if", "each", "shape"] if deep > 0 else [])
        return getattr(self, "make_" + self.choice(kinds))(deep)

    def make_set(self, deep):
        return self.node("set", self.choice(self.names), self.expression(deep))

    def make_make(self, deep):
        parts = [self.choice([None, self.expression(deep)]) for _ in range(3)]
        return self.node("make", self.expression(deep), self.choice(["join", "up"]), *parts)

    def make_use(self, deep):
        return self.node("use", self.choice(self.shapes), self.many(2, self.expression, deep))

    def make_if(self, deep):
        return self.node("if", self.condition(deep), self.block(deep), self.choice([(), self.block(deep)]))

    def make_each(self, deep):
        return self.node("each", self.choice(self.names), self.expression(deep), self.block(deep))

    def make_shape(self, deep):
        names = self.many(2, self.choice, self.names)
        return self.node("shape", self.choice(self.shapes), names, self.block(deep))

    def condition(self, deep):
        return self.node("compare", self.choice([False, True]), self.choice(["==", "!=", "in"]),
                         self.expression(deep), self.expression(deep))

    def expression(self, deep):
        value = self.term(deep)
        while self.choice([False, False, True]):
            value = self.node("sum", value, self.term(deep))
        return value

    def term(self, deep):
        kinds = ["text", "name", "name", "files", "flag"] + (["list", "map"] if deep > 0 else [])
        return getattr(self, "make_" + self.choice(kinds))(deep)

    def make_text(self, deep):
        size = self.random.randrange(5)
        return self.node("text", "".join([self.choice(SIGNS) for _ in range(size)]))

    def make_name(self, deep):
        return self.node("name", self.choice(self.names))

    def make_files(self, deep):
        return self.node("files", self.choice(PATTERNS))

    def make_flag(self, deep):
        return self.node("flag", self.choice(FLAGS))

    def make_list(self, deep):
        return self.node("list", self.many(3, self.expression, deep - 1))

    def make_map(self, deep):
        condition = self.choice([None, self.condition(deep - 1)])
        return self.node("map", self.expression(deep - 1), self.choice(self.names),
                         self.expression(deep - 1), condition)


class KnowingMaker(TreeMaker):
    """Makes random files that keep track of what is known, so that most of their parts are good."""

    TEXTS = ["t", "u", "v", "w"]
    LISTS = ["k", "l", "m", "n"]

    def __init__(self, random):
        TreeMaker.__init__(self, random, names=self.TEXTS + self.LISTS, places=True)
        self.known = []
        self.declared = {}

    def often(self, many=25):
        return self.random.randrange(many) > 0

    def file(self):
        self.known = []
        self.declared = {}
        start = self.choice([(), (), (), (), (), (), (), self.long_start(), self.full_start()])
        return start + self.statements(4, self.random.randrange(2, 9))

    def long_start(self):
        """Return statements that leave few steps."""
        many = self.random.randrange(1470, 1501)
        return tuple([self.node("set", f"s{at}", self.node("flag", "os")) for at in range(many)])

    def full_start(self):
        """Return statements that make many targets."""
        many = self.random.randrange(36, 42)
        texts = tuple([self.node("text", f"t{at}") for at in range(many)])
        make = self.node("make", self.node("name", "q"), "b", None, None, None)
        return (self.node("each", "q", self.node("list", texts), (make,)),)

    def statements(self, deep, size):
        return tuple([self.statement(deep) for _ in range(size)])

    def inside(self, deep, *names):
        """Return a block in which some more names are known."""
        before = list(self.known)
        self.known = self.known + list(names)
        block = self.statements(deep - 1, self.random.randrange(3))
        self.known = before
        return block

    def fresh(self, names):
        """Return a name, most often one that is not known."""
        left = [name for name in names if name not in self.known]
        return self.choice(left) if left and self.often() else self.choice(names)

    def statement(self, deep):
        at_file = deep == 4
        kinds = ["set", "set", "make", "make"] + (["use", "use"] if self.declared else [])
        kinds += ["if", "each"] if deep > 0 else []
        kinds += ["shape"] if deep > 0 and (at_file or not self.often()) else []
        return getattr(self, "make_" + self.choice(kinds))(deep)

    def make_set(self, deep):
        if self.choice([True, False]):
            name, value = self.fresh(self.TEXTS), self.textual(deep)
        else:
            name, value = self.fresh(self.LISTS), self.listing(deep)
        self.known.append(name)
        return self.node("set", name, value)

    def make_make(self, deep):
        name = self.node("sum", self.textual(deep), self.node("text", str(self.random.randrange(1000))))
        args = self.choice([None, self.listing(deep)])
        sources = self.choice([None, self.node("files", self.choice(["*", "**/a.c", "*.c"])), self.listing(0)])
        needs = self.node("list", tuple([self.node("text", need) for need in (":a", "//:b", "//c/d:e", "f")
                                         if self.random.randrange(3) == 0 and (need != "f" or not self.often(4))]))
        return self.node("make", name, "b", args, sources, self.choice([None, needs]))

    def make_use(self, deep):
        shape = self.choice(list(self.declared)) if self.often() else self.choice(self.shapes)
        kinds = self.declared.get(shape, [])
        if not self.often(20):
            kinds = kinds + [True]
        values = [self.textual(deep) if kind else self.listing(deep) for kind in kinds]
        return self.node("use", shape, tuple(values))

    def make_if(self, deep):
        condition = self.condition(deep)
        return self.node("if", condition, self.inside(deep), self.choice([(), self.inside(deep)]))

    def make_each(self, deep):
        source = self.listing(deep)
        name = self.fresh(self.TEXTS)
        return self.node("each", name, source, self.inside(deep, name))

    def make_shape(self, deep):
        left = [shape for shape in self.shapes if shape not in self.declared]
        shape = self.choice(left) if left and self.often() else self.choice(self.shapes)
        names = [name for name in ("t", "l", "u") if self.choice([True, False])]
        if names and not self.often(12):
            names.append(names[0])
        before = self.known
        self.known = []
        block = self.inside(deep, *names)
        self.known = before
        self.declared[shape] = [name in self.TEXTS for name in names]
        return self.node("shape", shape, tuple(names), block)

    def condition(self, deep):
        sign = self.choice(["==", "!=", "in"])
        left, right = self.choice([(self.textual, self.textual), (self.listing, self.listing)])
        if sign == "in":
            left, right = self.textual, self.listing
        if not self.often(40):
            left = right
        return self.node("compare", self.choice([False, True]), sign, left(deep), right(deep))

    def of_names(self, names):
        """Return a node with a name, most often a known one."""
        left = [name for name in names if name in self.known]
        return self.node("name", self.choice(left if left and self.often(60) else names))

    def textual(self, deep):
        """Return an expression that is most often a text."""
        kind = self.random.randrange(6)
        if kind == 0 and not self.often(30):
            return self.expression(deep)
        if kind == 1 and any([name in self.TEXTS for name in self.known]):
            return self.of_names(self.TEXTS)
        if kind == 2 and deep > 0:
            return self.node("sum", self.textual(deep - 1), self.textual(deep - 1))
        if kind == 3:
            return self.node("flag", self.choice(["fast", "os", "none"]))
        return self.node("text", self.choice(["a", "b", "lib", "x.c"] * 8 + ["", "a" * 60, "b" * 61, "A", "c" * 100]))

    def listing(self, deep):
        """Return an expression that is most often a list."""
        kind = self.random.randrange(7)
        if kind == 0 and not self.often(30):
            return self.expression(deep)
        if kind == 1 and any([name in self.LISTS for name in self.known]):
            return self.of_names(self.LISTS)
        if kind == 2:
            return self.node("files", self.choice(["*", "**", "*.c"] * 8 + PATTERNS))
        if kind == 3 and deep > 0:
            return self.node("sum", self.listing(deep - 1), self.listing(deep - 1))
        if kind == 4 and deep > 0:
            return self.make_map(deep)
        return self.node("list", self.many(3, self.textual, deep - 1))

    def make_map(self, deep):
        source = self.listing(deep - 1)
        name = self.fresh(self.TEXTS)
        self.known.append(name)
        condition = self.choice([None, self.condition(deep - 1)])
        value = self.choice([self.node("name", name), self.textual(deep - 1)])
        self.known.pop()
        return self.node("map", value, name, source, condition)
