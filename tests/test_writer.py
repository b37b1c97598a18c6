"""Point 20: trees without places, and the texts of trees."""

import random
import unittest

from build_files import TreeMaker
from calls import few_calls

from truemill.errors import SyntaxProblem
from truemill.parser import parse
from truemill.writer import without_places, write

WHOLE = """\
set x = "a";
set long = "a" + [] + ["b", x + "c"] + files("**/*.c") + flag("os");
set y = [x + "b" each x in ["c"] when not x in y];
set z = [x each x in y when x == y];
make "a" by join;
make x + y by join with [" "];
make "b" by join from ["c", "d"];
make "c" by join needs [":a"];
make "d" by join with [] from files("*") needs [n each n in y];
if a == b {
}
if not a != [b] + c {
    set u = v;
} else {
    set v = u;
    if a in b {
    } else {
        use f();
    }
}
each x in y {
}
each x in files("*") {
    each z in [] {
        use f("a", [], x + z);
    }
    make x by y;
}
shape f() {
}
shape g(a) {
    shape h(a, b, a) {
        set x = a;
    }
}
use f();
use g(a);
use h("a", b + c, [a, b]);
"""


def unplaced(part):
    """Return any part of a tree with 0 for its places, told apart by the nodes' words alone."""
    if type(part) is not tuple:
        return part
    if part and part[0] in ("set make if each shape use compare text name files flag list map sum").split():
        return (part[0], 0, 0, *[unplaced(inner) for inner in part[3:]])
    return tuple(unplaced(inner) for inner in part)


class WriterCase(unittest.TestCase):
    def check_again(self, tree):
        """Check that a tree is the same when it was written and parsed again."""
        text = write(tree)
        self.assertEqual(without_places(parse(text)), without_places(tree), text)
        self.assertEqual(write(parse(text)), text)

    def written(self, text):
        return write(parse(text))


class WithoutPlacesTests(WriterCase):
    def test_the_empty_tree(self):
        self.assertEqual(without_places(()), ())

    def test_statements(self):
        self.assertEqual(without_places(parse("\n  set x = y;")), (("set", 0, 0, "x", ("name", 0, 0, "y")),))
        self.assertEqual(without_places(parse("make \"a\" by b from c;")), (
            ("make", 0, 0, ("text", 0, 0, "a"), "b", None, ("name", 0, 0, "c"), None),))
        self.assertEqual(without_places(parse("if not a in b { use f(c); }")), (
            ("if", 0, 0, ("compare", 0, 0, True, "in", ("name", 0, 0, "a"), ("name", 0, 0, "b")),
             (("use", 0, 0, "f", (("name", 0, 0, "c"),)),), ()),))
        self.assertEqual(without_places(parse("each x in y { shape f(a, b, c) {} }")), (
            ("each", 0, 0, "x", ("name", 0, 0, "y"), (("shape", 0, 0, "f", ("a", "b", "c"), ()),)),))

    def test_expressions(self):
        self.assertEqual(without_places(parse("set x = files(\"*\") + flag(\"a\") + [];")), (
            ("set", 0, 0, "x", ("sum", 0, 0, ("sum", 0, 0, ("files", 0, 0, "*"), ("flag", 0, 0, "a")),
                                ("list", 0, 0, ()))),))
        self.assertEqual(without_places(parse("set x = [a each y in b when c == d];")), (
            ("set", 0, 0, "x", ("map", 0, 0, ("name", 0, 0, "a"), "y", ("name", 0, 0, "b"),
                                ("compare", 0, 0, False, "==", ("name", 0, 0, "c"), ("name", 0, 0, "d")))),))

    def test_any_places(self):
        for line, column in ((1, 1), (7, 1234567), (10 ** 12, 3)):
            name = ("name", line, column, "a")
            tree = (("shape", line, column, "f", ("a", "b", "c"), (("use", line, column, "g", (name, name)),)),)
            self.assertEqual(without_places(tree), (
                ("shape", 0, 0, "f", ("a", "b", "c"),
                 (("use", 0, 0, "g", (("name", 0, 0, "a"), ("name", 0, 0, "a"))),)),))
            self.assertEqual(tree[0][1:3], (line, column))

    def test_twice(self):
        tree = without_places(parse(WHOLE))
        self.assertEqual(without_places(tree), tree)

    def test_a_negation_is_no_place(self):
        condition = without_places(parse("if not a == b {} if a == b {}"))
        self.assertIs(condition[0][3][3], True)
        self.assertIs(condition[1][3][3], False)

    def test_random_trees(self):
        maker = TreeMaker(random.Random(20), places=True)
        for _ in range(200):
            tree = maker.block(4, 4)
            self.assertEqual(without_places(tree), unplaced(tree))


class WriteTests(WriterCase):
    def test_the_empty_tree(self):
        self.assertEqual(write(()), "")

    def test_every_form(self):
        self.assertEqual(write(parse(WHOLE)), WHOLE)
        self.assertEqual(write(without_places(parse(WHOLE))), WHOLE)
        self.check_again(parse(WHOLE))

    def test_spaces(self):
        self.assertEqual(self.written("set x=a+b;"), "set x = a + b;\n")
        self.assertEqual(self.written("set x = [ a , b ] + [ ] ;"), "set x = [a, b] + [];\n")
        self.assertEqual(self.written("set x = [[a],[[b]]];"), "set x = [[a], [[b]]];\n")
        self.assertEqual(self.written("set x = files ( \"a\" ) + flag( \"b\");"),
                         "set x = files(\"a\") + flag(\"b\");\n")
        self.assertEqual(self.written("set x=[a+b each c in[d]when not e!=f];"),
                         "set x = [a + b each c in [d] when not e != f];\n")
        self.assertEqual(self.written("use f (a,b) ; use g( ) ;"), "use f(a, b);\nuse g();\n")
        self.assertEqual(self.written("shape f ( a,b ) {}"), "shape f(a, b) {\n}\n")
        self.assertEqual(self.written("make\"a\"by b with[\"c\"]from[\"d\"]needs[\":e\"];"),
                         "make \"a\" by b with [\"c\"] from [\"d\"] needs [\":e\"];\n")

    def test_an_if(self):
        self.assertEqual(self.written("if a==b{}"), "if a == b {\n}\n")
        self.assertEqual(self.written("if a==b{}else{}"), "if a == b {\n}\n")
        self.assertEqual(self.written("if a in b{use f();}else{}"), "if a in b {\n    use f();\n}\n")
        self.assertEqual(self.written("if a==b{}else{use f();}"), "if a == b {\n} else {\n    use f();\n}\n")
        self.assertEqual(self.written("if a==b{use f();}else{use g();use h();}"),
                         "if a == b {\n    use f();\n} else {\n    use g();\n    use h();\n}\n")
        self.assertEqual(self.written("if a == b {} else { if c == d {} }"),
                         "if a == b {\n} else {\n    if c == d {\n    }\n}\n")

    def test_blocks_within_blocks(self):
        self.assertEqual(
            self.written("shape f(x){each y in x{if y==x{use g();}else{each z in y{set a=b;}}set c=d;}}use f([]);"),
            "shape f(x) {\n"
            "    each y in x {\n"
            "        if y == x {\n"
            "            use g();\n"
            "        } else {\n"
            "            each z in y {\n"
            "                set a = b;\n"
            "            }\n"
            "        }\n"
            "        set c = d;\n"
            "    }\n"
            "}\n"
            "use f([]);\n")

    def test_twelve_blocks(self):
        text = self.written("each x in y {" * 12 + "}" * 12)
        lines = ["    " * deep + "each x in y {" for deep in range(12)]
        lines += ["    " * deep + "}" for deep in range(11, -1, -1)]
        self.assertEqual(text, "\n".join(lines) + "\n")
        self.check_again(parse(text))

    def test_escapes(self):
        def text_of(value):
            return write((("set", 1, 1, "x", ("text", 1, 9, value)),))
        self.assertEqual(text_of(""), "set x = \"\";\n")
        self.assertEqual(text_of("a\"b"), "set x = \"a\\\"b\";\n")
        self.assertEqual(text_of("a\\b"), "set x = \"a\\\\b\";\n")
        self.assertEqual(text_of("a\nb"), "set x = \"a\\nb\";\n")
        self.assertEqual(text_of("\\n"), "set x = \"\\\\n\";\n")
        self.assertEqual(text_of("\\\"\n"), "set x = \"\\\\\\\"\\n\";\n")
        for value in ("", "\"", "\\", "\n", "\\n", "\\\\", "\"\"", "\n\n", "a\\\"\nb", " ", "{};[]()", "\"" * 100):
            tree, = parse(text_of(value))
            self.assertEqual(tree[4], ("text", 1, 9, value))

    def test_escapes_in_all_texts(self):
        self.assertEqual(self.written("set x = files(\"a\\\"\\\\\\n\") + flag(\"\\\"\\\\\\n\");"),
                         "set x = files(\"a\\\"\\\\\\n\") + flag(\"\\\"\\\\\\n\");\n")

    def test_a_long_text(self):
        tree = parse("set x = y;\n" * 119 + "set x = \"" + "\\n" * 100 + "\";\n")
        self.assertEqual(len(write(tree)), 119 * 11 + 212)
        values = ", ".join(["\"" + "a" * 100 + "\""] * 30)
        tree = parse("each x in y { if \"" + "\\n" * 100 + "\" in [" + values + "] { use f(" + values + "); } }")
        self.assertGreater(len(write(tree)), 2000)
        self.check_again(tree)

    def test_the_most_tokens(self):
        text = "use f(" + ", ".join(["\"" + "\\\"" * 100 + "\""] * 298) + ");"
        self.assertGreater(len(write(parse(text))), 50000)
        self.check_again(parse(text))
        with self.assertRaises(SyntaxProblem):
            parse("use f(" + ", ".join(["a"] * 299) + ");")

    def test_places_do_not_matter(self):
        maker = TreeMaker(random.Random(21), places=True)
        for _ in range(100):
            tree = maker.block(3, 3)
            self.assertEqual(write(tree), write(without_places(tree)))

    def test_sums_in_lists_in_sums(self):
        # The tree is 11 * 20 levels deep; all tokens together are fewer than 600.
        text = "a"
        for _ in range(11):
            text = "[" + text + "]" + " + a" * 19
        tree = parse("set x = " + text + ";")
        with few_calls(150):
            written = write(tree)
            bare = without_places(tree)
        self.assertEqual(written, "set x = " + text + ";\n")
        self.assertEqual(bare, unplaced(tree))

    def test_random_trees(self):
        maker = TreeMaker(random.Random(22))
        sizes = []
        while len(sizes) < 400:
            tree = maker.block(random.Random(len(sizes)).randrange(5), 4)
            text = write(tree)
            self.check_again(tree)
            sizes.append(len(text))
            for line in text.split("\n"):
                self.assertNotRegex(line, " $")
        self.assertGreater(max(sizes), 500)
        self.assertIn(0, sizes)


if __name__ == "__main__":
    unittest.main()
