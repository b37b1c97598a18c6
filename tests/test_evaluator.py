"""Points 21 to 27: the evaluation of build files."""

import random
import unittest

from build_files import KnowingMaker
from calls import few_calls
from plain_evaluator import PlainEvaluator, Problem

from truemill.errors import EvalProblem
from truemill.evaluator import evaluate
from truemill.parser import parse

FILES = ("a", "b.c", "lib/a.c", "lib/b.c", "lib/sub/a.c", "lib2/a.c", "src/main.c")
FLAGS = {"fast": "yes", "os": "linux"}
A60, A61 = "a" * 60, "a" * 61
# Lists of texts, with one text less than 40, 40, and one more.
TEXTS = [f"\"t{number}\"" for number in range(41)]
L20 = "[" + ", ".join(TEXTS[:20]) + "]"
L39 = "[" + ", ".join(TEXTS[:39]) + "]"
L40 = "[" + ", ".join(TEXTS[:40]) + "]"
L41 = "[" + ", ".join(TEXTS) + "]"
T100 = "\"" + "a" * 100 + "\""


class EvaluatorCase(unittest.TestCase):
    def targets(self, text, folder="", flags=FLAGS, files=FILES):
        return evaluate(folder, parse(text), flags, files)[0]

    def looks(self, text, folder="", flags=FLAGS, files=FILES):
        return evaluate(folder, parse(text), flags, files)[1]

    def labels(self, text, folder=""):
        return [target[0] for target in self.targets(text, folder)]

    def problem(self, text, folder="", flags=FLAGS, files=FILES):
        return self.tree_problem(parse(text), folder, flags, files)

    def tree_problem(self, tree, folder="", flags=FLAGS, files=FILES):
        with self.assertRaises(EvalProblem) as caught:
            evaluate(folder, tree, flags, files)
        return (caught.exception.line, caught.exception.column, caught.exception.reason)

    def holds(self, condition, start="", folder="", flags=FLAGS, files=FILES):
        """Whether a condition holds behind some statements."""
        text = start + " if " + condition + " { make \"yes\" by join; } else { make \"no\" by join; }"
        return self.targets(text, folder, flags, files)[-1][0].endswith(":yes")

    def list_of(self, expression, folder="", flags=FLAGS, files=FILES):
        """Return the value of an expression that is a list of a few texts."""
        return self.targets("make \"t\" by join with " + expression + ";", folder, flags, files)[0][2]

    def text_of(self, expression, folder="", flags=FLAGS):
        """Return the value of an expression that is a short text."""
        value, = self.list_of("[" + expression + "]", folder, flags)
        return value

    def problem_of(self, expression, folder="", flags=FLAGS, files=FILES):
        """Return the problem of an expression that begins at line 2, column 1."""
        return self.problem("set x =\n" + expression + ";", folder, flags, files)


class ResultTests(EvaluatorCase):
    def test_no_statements(self):
        self.assertEqual(evaluate("", (), {}, ()), ((), ()))
        self.assertEqual(evaluate("a/b", (), FLAGS, FILES), ((), ()))

    def test_a_target(self):
        self.assertEqual(self.targets("make \"all\" by join;"), (("//:all", "join", (), (), ()),))
        self.assertEqual(
            self.targets("make \"all\" by join with [\" \"] from [\"a\", \"b/c\"] needs [\":up\", \"//x/y:z\"];", "lib"),
            (("//lib:all", "join", (" ",), ("lib/a", "lib/b/c"), ("//lib:up", "//x/y:z")),))

    def test_targets_in_their_order(self):
        text = "make \"b\" by x; make \"a\" by y; each n in [\"d\", \"c\"] { make n by z; } make \"0\" by x;"
        self.assertEqual(self.labels(text), ["//:b", "//:a", "//:d", "//:c", "//:0"])
        self.assertEqual(self.labels(text, "s/t"), ["//s/t:b", "//s/t:a", "//s/t:d", "//s/t:c", "//s/t:0"])

    def test_looks_in_their_order(self):
        self.assertEqual(
            self.looks("set a = flag(\"os\"); set b = files(\"*\"); set c = flag(\"none\"); set d = files(\"x\");"),
            (("flag", "os", "linux"), ("files", "*", ("a", "b.c")), ("flag", "none", ""), ("files", "x", ())))

    def test_each_look_once(self):
        text = "set a = flag(\"os\") + flag(\"fast\") + flag(\"os\"); set b = files(\"b*\") + files(\"b*\") + files(\"*b*\");"
        self.assertEqual(self.looks(text + text.replace("set ", "set x")), (
            ("flag", "os", "linux"), ("flag", "fast", "yes"), ("files", "b*", ("b.c",)), ("files", "*b*", ("b.c",))))

    def test_a_flag_and_files_of_one_name_are_two_looks(self):
        self.assertEqual(self.looks("set a = flag(\"a\"); set b = files(\"a\");", flags={"a": "a"}),
                         (("flag", "a", "a"), ("files", "a", ("a",))))

    def test_looks_in_a_folder(self):
        self.assertEqual(self.looks("set a = files(\"*.c\"); set b = flag(\"os\");", "lib"),
                         (("files", "*.c", ("a.c", "b.c")), ("flag", "os", "linux")))

    def test_only_looks_that_are_made(self):
        text = "shape f() { set a = flag(\"a\"); } if \"a\" == \"b\" { set a = flag(\"b\"); } else { set a = flag(\"c\"); }"
        self.assertEqual(self.looks(text + "each x in [] { set a = flag(\"d\"); }"), (("flag", "c", ""),))
        self.assertEqual(self.looks(text + "use f();"), (("flag", "c", ""), ("flag", "a", "")))

    def test_looks_of_a_map_and_of_parts(self):
        self.assertEqual(
            self.looks("make flag(\"0\") + \"a\" by b with [flag(\"2\") each x in files(\"a\") when flag(\"1\") == \"\"]"
                       "from files(\"b\") needs [flag(\"3\") each x in []];"),
            (("flag", "0", ""), ("files", "a", ("a",)), ("flag", "1", ""), ("flag", "2", ""), ("files", "b", ())))

    def test_kinds_of_values(self):
        targets, looks = evaluate("", parse("make \"a\" by b with [\"c\"] from files(\"*\") needs [\":d\"];"), {}, FILES)
        self.assertEqual([type(part) for part in (targets, looks, targets[0], looks[0], looks[0][2])], [tuple] * 5)
        self.assertEqual([type(part) for part in targets[0]], [str, str, tuple, tuple, tuple])

    def test_arguments_stay_as_they_were(self):
        flags = {"os": "linux"}
        tree = parse("set os = flag(\"os\"); set more = flag(\"more\"); make \"a\" by b with files(\"*\");")
        same = parse("set os = flag(\"os\"); set more = flag(\"more\"); make \"a\" by b with files(\"*\");")
        first = evaluate("", tree, flags, FILES)
        self.assertEqual((flags, tree), ({"os": "linux"}, same))
        self.assertEqual(evaluate("", tree, flags, FILES), first)

    def test_any_places(self):
        # Lines and columns that a parsed text could not have.
        tree = (("set", 9, 7, "x", ("sum", 5, 5, ("list", 80, 1, ()), ("text", 3, 10 ** 9, "a"))),)
        self.assertEqual(self.tree_problem(tree), (5, 5, "kind"))
        tree = (("if", 9, 7, ("compare", 1, 1, False, "in", ("list", 80, 4, ()), ("list", 2, 2, ())), (), ()),)
        self.assertEqual(self.tree_problem(tree), (80, 4, "kind"))

    def test_more_than_600_tokens(self):
        tree = tuple([("set", 1, 1, f"x{number}", ("text", 1, 1, "a")) for number in range(1500)])
        self.assertEqual(evaluate("", tree, {}, ()), ((), ()))
        last = (("set", 7, 8, "x", ("name", 9, 10, "x1499")),)
        self.assertEqual(self.tree_problem(tree + last), (7, 8, "steps"))


class ScopeTests(EvaluatorCase):
    def test_behind_and_in_blocks(self):
        start = "set x = \"1\"; if x == \"1\" { set y = x + \"2\"; each z in [y] { make x + y + z by join; } }"
        self.assertEqual(self.labels(start), ["//:11212"])

    def test_not_before(self):
        self.assertEqual(self.problem("set y = x; set x = \"1\";"), (1, 9, "unknown"))
        self.assertEqual(self.problem("if \"a\" == \"a\" { set y = x; } set x = \"1\";"), (1, 25, "unknown"))
        self.assertEqual(self.problem("set x = x;"), (1, 9, "unknown"))

    def test_not_behind_the_block(self):
        for block in ("if \"a\" == \"a\" { set x = []; }", "if \"a\" != \"a\" {} else { set x = []; }",
                      "each z in [\"1\"] { set x = []; }", "shape f() { set x = []; } use f();",
                      "each x in [\"1\"] { }", "shape f(x) { } use f([]);", "set z = [x each x in [\"1\"]];"):
            self.assertEqual(self.problem(block + "\nset y = x;"), (2, 9, "unknown"), block)
            self.assertEqual(self.labels(block + "\nset x = \"a\"; make x by b;"), ["//:a"], block)

    def test_each_execution_begins_anew(self):
        self.assertEqual(self.labels("each z in [\"1\", \"2\"] { set x = z; make x by b; }"), ["//:1", "//:2"])
        self.assertEqual(self.labels("shape f(z) { set x = z; make x by b; } use f(\"1\"); use f(\"2\");"), ["//:1", "//:2"])
        self.assertEqual(
            self.problem("each z in [\"1\", \"2\"] { if z == \"2\" {\nset y = x; } else { set x = z; } }"), (2, 9, "unknown"))
        self.assertEqual(
            self.problem("each z in [\"1\", \"2\"] { if z == \"2\" {\nmake x by b; } set x = z; }"), (2, 6, "unknown"))

    def test_the_second_block_does_not_know_the_first(self):
        self.assertEqual(self.labels("if \"a\" == \"a\" { set x = \"1\"; make x by b; } if \"a\" == \"a\""
                                     "{ set x = \"2\"; make x by b; }"), ["//:1", "//:2"])

    def test_bound_twice(self):
        self.assertEqual(self.problem("set x = \"1\";\n set x = \"1\";"), (2, 2, "bound"))
        self.assertEqual(self.problem("set x = [];\nif x == [] {\n  set x = [];\n}"), (3, 3, "bound"))
        self.assertEqual(self.problem("set x = [];\neach y in [\"1\"] { if x == x {\n set x = []; } }"), (3, 2, "bound"))
        self.assertEqual(self.problem("each x in [\"1\"] {\n set x = []; }"), (2, 2, "bound"))
        self.assertEqual(self.problem("shape f(x) {\n set x = []; } use f([]);"), (2, 2, "bound"))
        self.assertEqual(self.problem("shape f(x) { if x == x {\n set x = []; } } use f([]);"), (2, 2, "bound"))

    def test_bound_in_a_block_first(self):
        self.assertEqual(self.labels("if [] == [] { set x = \"1\"; make x by b; } set x = \"2\"; make x by b;"),
                         ["//:1", "//:2"])
        self.assertEqual(self.problem("if [] == [] { set x = []; } set x = []; if [] == [] {\nset x = []; }"),
                         (2, 1, "bound"))

    def test_the_name_of_an_each(self):
        for source in ("[]", "[\"1\"]", "files(\"none\")"):
            self.assertEqual(self.problem("set x = [];\n  each x in " + source + " { }"), (2, 3, "bound"))
            self.assertEqual(self.problem("each x in [\"1\"] { if x == x {\n  each x in " + source + " { } } }"),
                             (2, 3, "bound"))
            self.assertEqual(self.problem("shape f(x) {\neach x in " + source + " { } } use f([]);"), (2, 1, "bound"))
        self.assertEqual(self.labels("each x in [\"1\"] { make x by b; } each x in [\"2\"] { make x by b; }"),
                         ["//:1", "//:2"])

    def test_the_name_of_a_map(self):
        for source in ("[]", "[\"1\"]", "files(\"none\")"):
            self.assertEqual(self.problem("set x = [];\nset y =  [\"a\" each x in " + source + "];"), (2, 10, "bound"))
            self.assertEqual(self.problem("each x in [\"1\"] {\nset y =  [\"a\" each x in " + source + "]; }"),
                             (2, 10, "bound"))
            self.assertEqual(self.problem("shape f(x) { set y =\n[\"a\" each x in " + source + "]; } use f([]);"),
                             (2, 1, "bound"))
        self.assertEqual(self.list_of("[x each x in [x + \"2\" each x in [\"1\"]]]"), ("12",))
        self.assertEqual(self.list_of("[x each x in [\"1\"]] + [x each x in [\"2\"]]"), ("1", "2"))

    def test_a_map_within_a_map(self):
        inner = "[\"b\" each y in [\"c\"] when y + x == \"ca\"]"
        self.assertEqual(self.list_of("[x each x in [\"a\", \"b\"] when " + inner + " == [\"b\"]]"), ("a",))
        self.assertEqual(self.problem_of("[x each x in [\"a\"] when\n[\"b\" each x in []] == []]"), (3, 1, "bound"))
        self.assertEqual(self.problem_of("[x each x in [\"a\"] when\n[y each y in [x]] ==\ny]"), (4, 1, "unknown"))
        self.assertEqual(self.problem_of("[x each x in [\"a\"] when\n\"\" in [y each y in [x] when y == x] +\n[y]]"),
                         (4, 2, "unknown"))

    def test_a_map_knows_what_is_around_it(self):
        self.assertEqual(
            self.targets("set y = \"1\"; each z in [\"2\"] { make \"a\" by b with [x + y + z each x in [\"0\", y]]; }")[0][2],
            ("012", "112"))

    def test_a_shape_knows_only_its_own(self):
        for start in ("set x = []; shape f(y) { set z =\nx; } use f([]);", "shape f(y) { set z =\nx; } set x = []; use f([]);",
                      "shape f(y) { set z =\nx; } each x in [\"1\"] { use f([]); }",
                      "shape g() { set z =\nx; } shape f(x) { use g(); } use f([]);",
                      "shape g(x) { } shape f(y) { use g([]); set z =\nx; } use f([]);"):
            self.assertEqual(self.problem(start), (2, 1, "unknown"), start)

    def test_a_shape_binds_what_is_known_around_it(self):
        self.assertEqual(
            self.labels("set x = \"1\"; set y = \"0\"; shape f(y) { set x = y + \"2\"; make x by b; each z in [x + \"4\"] {"
                        "make z by b; } } each z in [\"3\"] { use f(x + z); }"), ["//:132", "//:1324"])

    def test_a_shape_and_a_variable_of_one_name(self):
        self.assertEqual(self.labels("set f = \"1\"; shape f(f) { make f by b; } use f(f);"), ["//:1"])
        self.assertEqual(self.labels("shape f(x) { make x by b; } set f = \"1\"; use f(f); each g in [\"2\"] { use f(g); }"),
                         ["//:1", "//:2"])

    def test_a_tool_is_no_name_that_is_known(self):
        self.assertEqual(self.targets("set join = \"a\"; make join by join;"), (("//:a", "join", (), (), ()),))


class ExpressionTests(EvaluatorCase):
    def test_texts(self):
        self.assertEqual(self.text_of("\"\""), "")
        self.assertEqual(self.text_of("\"a\\\"\\\\ b\""), "a\"\\ b")

    def test_names(self):
        self.assertEqual(self.targets("set x = \"a\"; set y = [x, x]; make x by b with y;"), (("//:a", "b", ("a", "a"), (), ()),))
        self.assertEqual(self.problem_of("x"), (2, 1, "unknown"))
        self.assertEqual(self.problem_of("[[\"a\" each y in [z]]]"), (2, 18, "unknown"))

    def test_a_text_of_a_tree_at_its_bound(self):
        # No text of a build file is that long, so only a tree that was made otherwise has one.
        tree = (("set", 1, 2, "x", ("text", 3, 4, "a" * 200)),)
        self.assertEqual(evaluate("", tree, {}, ()), ((), ()))
        tree = (("set", 1, 2, "x", ("text", 3, 4, "a" * 201)),)
        self.assertEqual(self.tree_problem(tree), (1, 2, "size"))

    def test_files(self):
        self.assertEqual(self.list_of("files(\"*\")"), ("a", "b.c"))
        self.assertEqual(self.list_of("files(\"**\")"), FILES)
        self.assertEqual(self.list_of("files(\"**/a.c\")"), ("lib/a.c", "lib/sub/a.c", "lib2/a.c"))
        self.assertEqual(self.list_of("files(\"none\")"), ())
        self.assertEqual(self.list_of("files(\"**\")", files=()), ())

    def test_files_in_a_folder(self):
        self.assertEqual(self.list_of("files(\"**\")", "lib"), ("a.c", "b.c", "sub/a.c"))
        self.assertEqual(self.list_of("files(\"*\")", "lib"), ("a.c", "b.c"))
        self.assertEqual(self.list_of("files(\"lib/*\")", "lib"), ())
        self.assertEqual(self.list_of("files(\"**\")", "lib/sub"), ("a.c",))
        self.assertEqual(self.list_of("files(\"**\")", "li"), ())
        self.assertEqual(self.list_of("files(\"**\")", "a"), ())
        self.assertEqual(self.list_of("files(\"**\")", "b"), ())

    def test_files_keep_their_order(self):
        files = ("l-x/a", "l/b", "l/b-c/a", "l/b/x", "l0/a")
        self.assertEqual(self.list_of("files(\"**\")", "l", files=("l-x/a", "l/b-c/a", "l/b/x", "l0/a")), ("b-c/a", "b/x"))
        self.assertEqual(self.list_of("files(\"**/a\")", files=files), ("l-x/a", "l/b-c/a", "l0/a"))

    def test_a_text_that_is_no_pattern(self):
        for pattern in ("", "/", "a/", "/a", "a//b", "A", "a b", "****", "a*b*c*d*", "a/b/c/d/e/f", "?", "a" * 21):
            self.assertEqual(self.problem_of("files(\"" + pattern + "\")"), (2, 1, "pattern"), pattern)
            self.assertEqual(self.problem_of("[] + files(\"" + pattern + "\")", files=()), (2, 6, "pattern"), pattern)
        self.assertEqual(self.list_of("files(\"a/b/c/d/e\")"), ())
        self.assertEqual(self.list_of("files(\"***\")"), ("a", "b.c"))

    def test_too_many_files(self):
        files = tuple(sorted(f"d/f{number}" for number in range(41)))
        self.assertEqual(self.problem_of("files(\"*\")", "d", files=files), (2, 1, "size"))
        self.assertTrue(self.holds("files(\"*\") == files(\"f*\")", folder="d", files=files[1:]))
        self.assertEqual(self.list_of("files(\"f1*\")", "d", files=files), ("f1",) + tuple(f"f1{n}" for n in range(10)))

    def test_flags(self):
        self.assertEqual(self.text_of("flag(\"os\")"), "linux")
        self.assertEqual(self.text_of("flag(\"none\")"), "")
        self.assertEqual(self.text_of("flag(\"\")", flags={"": "a"}), "a")
        self.assertEqual(self.text_of("flag(\"a b\\n\")", flags={"a b\n": "\"", "a": "b"}), "\"")
        self.assertEqual(self.text_of("flag(\"a\")", flags={}), "")

    def test_a_flag_that_is_too_long(self):
        self.assertTrue(self.holds("flag(\"a\") == " + T100 + " + " + T100, flags={"a": "a" * 200}))
        self.assertEqual(self.problem_of("flag(\"a\")", flags={"a": "a" * 201}), (2, 1, "size"))
        self.assertEqual(self.problem_of("\"b\" +\nflag(\"a\")", flags={"a": "a" * 201}), (3, 1, "size"))

    def test_lists(self):
        self.assertEqual(self.list_of("[]"), ())
        self.assertEqual(self.list_of("[\"b\", \"a\", \"b\", \"\"]"), ("b", "a", "b", ""))
        self.assertEqual(self.list_of("[\"a\" + \"b\", flag(\"os\")]"), ("ab", "linux"))

    def test_elements_of_the_wrong_kind(self):
        self.assertEqual(self.problem_of("[[]]"), (2, 1, "kind"))
        self.assertEqual(self.problem_of("[\"a\", []]"), (2, 1, "kind"))
        self.assertEqual(self.problem_of("[\"a\",\nfiles(\"none\")]"), (2, 1, "kind"))
        self.assertEqual(self.problem_of("[\"a\",\n[[]]]"), (3, 1, "kind"))

    def test_each_element_is_asked_before_the_next_one(self):
        self.assertEqual(self.problem_of("[[],\nx]"), (2, 1, "kind"))
        self.assertEqual(self.problem_of("[\"a\",\nx, []]"), (3, 1, "unknown"))
        self.assertEqual(self.problem_of("[\"a\", [],\n\"a\" + []]"), (2, 1, "kind"))

    def test_the_length_of_a_list(self):
        self.assertTrue(self.holds(L40 + " == " + L40))
        self.assertEqual(self.problem_of(L41), (2, 1, "size"))
        self.assertEqual(self.problem_of("[] +\n " + L41), (3, 2, "size"))

    def test_the_length_of_a_list_comes_behind_its_elements(self):
        self.assertEqual(self.problem_of("[\"a\", [], " + L41[1:]), (2, 1, "kind"))
        self.assertEqual(self.problem_of(L41[:-1] + ", []]"), (2, 1, "kind"))
        self.assertEqual(self.problem_of(L41[:-1] + ",\nx]"), (3, 1, "unknown"))

    def test_sums(self):
        self.assertEqual(self.text_of("\"a\" + \"\" + \"b\" + \"c\""), "abc")
        self.assertEqual(self.list_of("[\"a\"] + [] + [\"b\", \"a\"]"), ("a", "b", "a"))
        self.assertEqual(self.list_of("[] + []"), ())

    def test_sums_of_the_wrong_kind(self):
        self.assertEqual(self.problem_of("\"a\" + []"), (2, 1, "kind"))
        self.assertEqual(self.problem_of("[] + \"a\""), (2, 1, "kind"))
        self.assertEqual(self.problem_of("\"a\" + \"b\" + [\"c\"]"), (2, 1, "kind"))
        self.assertEqual(self.problem_of("[\"\" +\n[]]"), (2, 2, "kind"))
        self.assertEqual(self.problem_of("\"a\" + [] + x"), (2, 1, "kind"))
        self.assertEqual(self.problem_of("\"a\" + [x]"), (2, 8, "unknown"))

    def test_the_length_of_a_sum(self):
        start = "set y = " + T100 + "; "
        self.assertTrue(self.holds("y + y != \"\"", start))
        self.assertEqual(self.problem(start + "set x =\n y + y + \"b\";"), (2, 2, "size"))
        self.assertEqual(self.problem(start + "set z = y + y; set x =\n \"\" + z + z;"), (2, 2, "size"))
        start = "set y = " + L20 + "; "
        self.assertTrue(self.holds("y + y != []", start))
        self.assertTrue(self.holds(L39 + " + [\"a\"] != []"))
        self.assertEqual(self.problem_of(L40 + " + [\"a\"]"), (2, 1, "size"))
        self.assertEqual(self.problem(start + "set x =\n y + y + [\"b\"];"), (2, 2, "size"))

    def test_a_sum_from_the_left_to_the_right(self):
        start = "set y = " + T100 + "; set x =\n"
        self.assertEqual(self.problem(start + "y + y + y + z;"), (2, 1, "size"))
        self.assertEqual(self.problem(start + "y + y +\nz + y;"), (3, 1, "unknown"))
        self.assertEqual(self.problem(start + "y + y + y + [];"), (2, 1, "size"))
        self.assertEqual(self.problem(start + "y + [] + y + y;"), (2, 1, "kind"))

    def test_the_place_of_a_sum_within_a_sum(self):
        # A parsed sum begins where its first term begins; other trees may tell them apart.
        text, empty = ("text", 9, 1, "a"), ("list", 9, 2, ())
        inner = ("sum", 9, 3, text, empty)
        outer = ("sum", 9, 4, inner, text)
        self.assertEqual(self.tree_problem((("set", 9, 5, "x", outer),)), (9, 3, "kind"))
        outer = ("sum", 9, 4, ("sum", 9, 3, text, text), empty)
        self.assertEqual(self.tree_problem((("set", 9, 5, "x", outer),)), (9, 4, "kind"))

    def test_maps(self):
        self.assertEqual(self.list_of("[\"<\" + x + \">\" each x in [\"a\", \"b\", \"a\"]]"), ("<a>", "<b>", "<a>"))
        self.assertEqual(self.list_of("[x each x in []]"), ())
        self.assertEqual(self.list_of("[\"k\" each x in [\"a\", \"b\"]]"), ("k", "k"))
        self.assertEqual(self.list_of("[x each x in [\"a\", \"b\", \"c\"] when x != \"b\"]"), ("a", "c"))
        self.assertEqual(self.list_of("[x each x in [\"a\", \"b\", \"c\"] when not x != \"b\"]"), ("b",))
        self.assertEqual(self.list_of("[x each x in [\"a\", \"b\"] when x in []]"), ())
        self.assertTrue(self.holds("[x each x in " + L40 + "] == " + L40))

    def test_a_map_over_no_list(self):
        self.assertEqual(self.problem_of("[x each x in \"a\"]"), (2, 1, "kind"))
        self.assertEqual(self.problem_of("[x each x in\nflag(\"os\")]"), (2, 1, "kind"))
        self.assertEqual(self.problem_of("[x each x in\ny]"), (3, 1, "unknown"))

    def test_elements_of_a_map(self):
        self.assertEqual(self.problem_of("[[x] each x in [\"a\"]]"), (2, 1, "kind"))
        self.assertEqual(self.problem_of("[\n[x] each x in [\"a\"]]"), (2, 1, "kind"))
        self.assertEqual(self.list_of("[[x] each x in []]"), ())
        self.assertEqual(self.list_of("[[x] each x in [\"a\"] when x == \"b\"]"), ())
        self.assertEqual(self.problem_of("[\ny each x in [\"a\"]]"), (3, 1, "unknown"))

    def test_the_order_within_a_map(self):
        start = "set x = []; set z =\n"
        self.assertEqual(self.problem(start + "[y each x in \"a\"];"), (2, 1, "kind"))
        self.assertEqual(self.problem(start + "[y each x in\n[[]]];"), (3, 1, "kind"))
        self.assertEqual(self.problem(start + "[y each x in []];"), (2, 1, "bound"))
        self.assertEqual(self.problem_of("[\n[] + \"a\" each x in [\"a\"] when\n[] == x]"), (4, 1, "kind"))
        self.assertEqual(self.problem_of("[\n[] + \"a\" each x in [\"a\"] when\nx == x]"), (3, 1, "kind"))
        # The first text that breaks something counts, not the first part.
        self.assertEqual(self.problem_of(
            "[x +\ny each x in [\"a\", \"b\"] when\nx == \"a\"]"), (3, 1, "unknown"))

    def test_maps_within_maps(self):
        text = "[\"a\"]"
        for number in range(11):
            text = f"[x{number} + \"{number}\" each x{number} in " + text + "]"
        self.assertEqual(self.list_of(text), ("a012345678910",))
        text = "\"a\""
        for number in range(11):
            text = f"[x{number} each x{number} in [\"b\"] when not {text} in []]"
            if number == 0:
                self.assertEqual(self.list_of(text), ("b",))
        self.assertEqual(self.problem_of(text)[2], "kind")


class ConditionTests(EvaluatorCase):
    def test_texts(self):
        self.assertTrue(self.holds("\"a\" == \"a\""))
        self.assertFalse(self.holds("\"a\" == \"b\""))
        self.assertFalse(self.holds("\"a\" != \"a\""))
        self.assertTrue(self.holds("\"a\" != \"b\""))
        self.assertTrue(self.holds("\"a\" + \"b\" == \"ab\""))
        self.assertTrue(self.holds("\"\" != \" \""))

    def test_lists(self):
        self.assertTrue(self.holds("[] == []"))
        self.assertTrue(self.holds("[\"a\", \"b\"] == [\"a\"] + [\"b\"]"))
        self.assertFalse(self.holds("[\"a\", \"b\"] == [\"b\", \"a\"]"))
        self.assertFalse(self.holds("[\"a\"] == [\"a\", \"a\"]"))
        self.assertTrue(self.holds("[\"a\"] != []"))
        self.assertTrue(self.holds("files(\"*\") == [\"a\", \"b.c\"]"))

    def test_in(self):
        self.assertTrue(self.holds("\"a\" in [\"b\", \"a\"]"))
        self.assertFalse(self.holds("\"a\" in [\"ab\", \"b\"]"))
        self.assertFalse(self.holds("\"\" in []"))
        self.assertTrue(self.holds("\"\" in [\"\"]"))
        self.assertTrue(self.holds("\"lib\" + \"/a.c\" in files(\"**\")"))

    def test_not(self):
        for condition in ("\"a\" == \"a\"", "\"a\" == \"b\"", "\"a\" != \"a\"", "\"a\" != \"b\"", "[] == []",
                          "[] != []", "\"a\" in [\"a\"]", "\"a\" in []"):
            self.assertIs(self.holds("not " + condition), not self.holds(condition), condition)

    def test_kinds(self):
        for sign in ("==", "!=", "in"):
            for left, first in (("\"a\"", "text"), ("[\"a\"]", "list")):
                for right, second in (("\"a\"", "text"), ("[\"a\"]", "list")):
                    good = (first, second) == ("text", "list") if sign == "in" else first == second
                    for word in ("", "not "):
                        text = "if " + word + "\n " + left + " " + sign + "\n" + right + " { }"
                        if good:
                            self.assertEqual(self.targets(text), ())
                        else:
                            self.assertEqual(self.problem(text), (2, 2, "kind"), text)

    def test_the_place_is_that_of_the_left_expression(self):
        self.assertEqual(self.problem("if not\n\"a\" + \"b\" == []\n{}"), (2, 1, "kind"))
        self.assertEqual(self.problem("set y = [x each x in [\"a\"] when not\n  x == []];"), (2, 3, "kind"))

    def test_both_sides_come_before_the_kind(self):
        self.assertEqual(self.problem("if \"a\" ==\n [x] {}"), (2, 3, "unknown"))
        self.assertEqual(self.problem("if x ==\n y {}"), (1, 4, "unknown"))
        self.assertEqual(self.problem("if [] in\n \"a\" + [] {}"), (2, 2, "kind"))
        self.assertEqual(self.problem("if [] in\n \"a\" {}"), (1, 4, "kind"))


class StatementTests(EvaluatorCase):
    def test_set(self):
        self.assertEqual(self.labels("set x = \"a\"; make x by b;"), ["//:a"])
        self.assertEqual(self.problem("set x = [];\nset x = y;"), (2, 9, "unknown"))
        self.assertEqual(self.problem("set x = [];\nset x = \"a\" + x;"), (2, 9, "kind"))
        self.assertEqual(self.problem("set x = [];\nset x = x;"), (2, 1, "bound"))

    def test_each(self):
        self.assertEqual(self.labels("each x in [\"b\", \"a\"] { make x by c; each y in [x + \"1\", x + \"2\"] { make y by c; } }"),
                         ["//:b", "//:b1", "//:b2", "//:a", "//:a1", "//:a2"])
        self.assertEqual(self.labels("each x in [] { make x by c; }"), [])
        self.assertEqual(self.labels("each x in [\"1\"] { } each y in [\"2\"] { make y by c; }"), ["//:2"])

    def test_an_each_over_no_list(self):
        self.assertEqual(self.problem("\n each x in \"a\" { }"), (2, 2, "kind"))
        self.assertEqual(self.problem("each x in\ny { }"), (2, 1, "unknown"))
        self.assertEqual(self.problem("set x = \"a\";\n each x in x { }"), (2, 2, "kind"))
        self.assertEqual(self.problem("set x = \"a\";\n each x in [y] { }"), (2, 13, "unknown"))

    def test_the_list_of_an_each_is_evaluated_once(self):
        # One step for the `each`, three for its list, two for each of its executions.
        sets = tuple([("set", 5, 5, f"a{number}", ("text", 5, 5, "")) for number in range(1496)])
        each = parse("each x in [\"a\", \"b\"] { set y = x; }")
        self.assertEqual(evaluate("", each + sets, {}, ()), ((), ()))
        self.assertEqual(self.tree_problem(each + sets + parse("\nset z = [];")), (2, 1, "steps"))

    def test_if(self):
        text = "if COND { make \"yes\" by a; } else { make \"no\" by a; } make \"end\" by a;"
        self.assertEqual(self.labels(text.replace("COND", "[] == []")), ["//:yes", "//:end"])
        self.assertEqual(self.labels(text.replace("COND", "[] != []")), ["//:no", "//:end"])
        self.assertEqual(self.labels("if [] == [] {} if [] != [] { make \"no\" by a; }"), [])
        self.assertEqual(self.labels("if [] == [] {} else { make \"no\" by a; }"), [])

    def test_blocks_go_on_behind_inner_blocks(self):
        self.assertEqual(
            self.labels("shape f(x) { make x by a; if x == \"1\" { make \"2\" by a; each y in [\"3\", \"4\"] { make y by a;"
                        "make y + \"x\" by a; } make \"5\" by a; } make \"6\" by a; } make \"0\" by a; use f(\"1\"); make \"7\" by a;"),
            ["//:0", "//:1", "//:2", "//:3", "//:3x", "//:4", "//:4x", "//:5", "//:6", "//:7"])

    def test_what_is_never_executed_causes_no_error(self):
        bad = ("set x = y; make [] by a; each x in \"a\" { } shape x(a, a) { } shape x() { } use z(); if [] in [] { }"
               "set a = files(\"A\"); set b = \"a\" + [];")
        self.assertEqual(self.targets("if [] != [] { " + bad + " }"), ())
        self.assertEqual(self.targets("if [] == [] { } else { " + bad + " }"), ())
        self.assertEqual(self.targets("each q in [] { " + bad + " }"), ())
        self.assertEqual(self.targets("shape f() { " + bad + " }"), ())
        self.assertEqual(self.problem("shape f() { " + bad + " } use f();"), (1, 21, "unknown"))


class ShapeTests(EvaluatorCase):
    def test_a_use(self):
        self.assertEqual(
            self.targets("shape f(a, b) { make a by t with b; } use f(\"1\", [\"x\"]); use f(\"2\", []);"),
            (("//:1", "t", ("x",), (), ()), ("//:2", "t", (), (), ())))
        self.assertEqual(self.labels("shape f() { make \"a\" by b; } use f();"), ["//:a"])
        self.assertEqual(self.labels("shape f() { make \"a\" by b; }"), [])

    def test_a_shape_in_a_block(self):
        shape = "\nshape f() { }"
        for text in ("if [] == [] {" + shape + " }", "if [] != [] { } else {" + shape + " }",
                     "each x in [\"a\"] {" + shape + " }", "shape g() {" + shape + " } use g();",
                     "each x in [\"a\"] { if x == x { " + shape + " } }"):
            self.assertEqual(self.problem(text), (2, 1, "place"), text)

    def test_a_shape_that_is_declared_twice(self):
        self.assertEqual(self.problem("shape f() { }\n shape f(x) { }"), (2, 2, "bound"))
        self.assertEqual(self.problem("shape f() { } shape g() { } use f();\nshape f() { }"), (2, 1, "bound"))

    def test_two_parameters_of_one_name(self):
        self.assertEqual(self.problem("\n shape f(a, a) { }"), (2, 2, "bound"))
        self.assertEqual(self.problem("shape f(a, b, c, b) { }"), (1, 1, "bound"))
        self.assertEqual(self.targets("shape f(a, b, aa, f) { }"), ())

    def test_several_faults_of_a_shape(self):
        self.assertEqual(self.problem("shape f() { } if [] == [] {\nshape f(a, a) { } }"), (2, 1, "place"))
        self.assertEqual(self.problem("if [] == [] {\nshape f(a, a) { } }"), (2, 1, "place"))
        self.assertEqual(self.problem("shape f() { }\nshape f(a, a) { }"), (2, 1, "bound"))

    def test_a_shape_that_is_not_declared(self):
        self.assertEqual(self.problem("\n use f();"), (2, 2, "unknown"))
        self.assertEqual(self.problem("use f(); shape f() { }"), (1, 1, "unknown"))
        self.assertEqual(self.problem("set f = []; use f();"), (1, 13, "unknown"))
        self.assertEqual(self.problem("shape f() { }\nif [] == [] { use g(); } shape g() { }"), (2, 15, "unknown"))
        self.assertEqual(self.problem("shape g() { } shape f(g) {\nuse f([]); } use f([]);"), (2, 1, "unknown"))

    def test_a_shape_that_is_declared_in_time(self):
        self.assertEqual(self.labels("each x in [\"1\"] { make x by a; } shape f(x) { make x by a; } if [] == [] { use f(\"2\"); }"),
                         ["//:1", "//:2"])

    def test_how_many_values(self):
        for names in range(4):
            shape = "shape f(" + ", ".join(["a", "b", "c"][:names]) + ") { make \"a\" by b; }\n"
            for values in range(5):
                text = shape + "use f(" + ", ".join(["[]"] * values) + ");"
                if names == values:
                    self.assertEqual(self.labels(text), ["//:a"])
                else:
                    self.assertEqual(self.problem(text), (2, 1, "count"))

    def test_the_order_of_a_use(self):
        self.assertEqual(self.problem("use f(\nx);"), (2, 1, "unknown"))
        self.assertEqual(self.problem("use f(\n[[]]);"), (2, 1, "kind"))
        self.assertEqual(self.problem("use f([],\n[[]],\nx);"), (2, 1, "kind"))
        self.assertEqual(self.problem("shape f() { }\nuse f(\"a\" + []);"), (2, 7, "kind"))
        self.assertEqual(self.problem("shape f(a) { }\nuse g([], []);"), (2, 1, "unknown"))

    def test_a_use_in_a_shape(self):
        self.assertEqual(self.labels("shape f(x) { make x by a; } shape g(x) { use f(x + \"1\"); use f(x + \"2\"); }"
                                     "shape h(x) { use g(x + \"3\"); use f(x + \"4\"); } use h(\"0\"); use f(\"5\");"),
                         ["//:031", "//:032", "//:04", "//:5"])

    def test_a_use_in_a_shape_of_one_that_is_not_before_it(self):
        self.assertEqual(self.problem("shape f() {\nuse f(); } use f();"), (2, 1, "unknown"))
        self.assertEqual(self.problem("shape f() {\nuse g(); } shape g() { } use f();"), (2, 1, "unknown"))
        self.assertEqual(self.problem("shape f() { if [] == [] { each x in [\"1\"] {\nuse g(); } } } shape g() { } use f();"),
                         (2, 1, "unknown"))
        # Whoever uses g, its block may not use what came behind it.
        self.assertEqual(self.problem("shape f() { } shape g() { use f();\nuse h(); } shape h() { use g(); } use h();"),
                         (2, 1, "unknown"))
        self.assertEqual(self.problem("shape f() {\nuse g([]); } shape g() { } use f();"), (2, 1, "unknown"))
        # Behind the use of a shape the block around it may use all again.
        self.assertEqual(self.labels("shape f() { } shape g() { make \"a\" by b; } use f(); use g();"), ["//:a"])

    def test_sixty_shapes_that_use_each_other(self):
        # Each block is twelve blocks deep, so that 720 blocks are open at a time.
        name = ("name", 1, 1, "x")
        compare = ("compare", 1, 1, False, "==", name, name)
        tree = []
        for number in range(60):
            inner = (("use", 1, 1, f"s{number - 1}", (name,)),) if number else (
                ("make", 1, 1, name, "a", None, None, None),)
            for _ in range(11):
                inner = (("if", 1, 1, compare, inner, ()),)
            tree.append(("shape", 1, 1, f"s{number}", ("x",), inner))
        use = ("use", 1, 1, "s59", (("text", 1, 1, "deep"),))
        targets, _ = evaluate("", tuple(tree) + (use,), {}, ())
        self.assertEqual(targets, (("//:deep", "a", (), (), ()),))
        tree[0] = ("shape", 1, 1, "s0", ("x",), (("set", 7, 7, "x", name),))
        self.assertEqual(self.tree_problem(tuple(tree) + (use,)), (7, 7, "bound"))


class MakeTests(EvaluatorCase):
    def make_problem(self, text, folder=""):
        """Return the reason of a problem that stands at the `make`, which is on line 2."""
        line, column, reason = self.problem("\n " + text, folder)
        self.assertEqual((line, column), (2, 2), text)
        return reason

    def test_the_name(self):
        for name in ("a", "0", "a.b-c_d", "a" * 20):
            self.assertEqual(self.labels("make \"" + name + "\" by b;", "x/y"), ["//x/y:" + name])
        for name in ("", "a/b", ".a", "-a", "_a", "A", "a b", ":a", "//:a", "a" * 21, "a\\n"):
            self.assertEqual(self.make_problem("make \"" + name + "\" by b;"), "name", name)
        self.assertEqual(self.make_problem("make [] by b;"), "kind")
        self.assertEqual(self.make_problem("make [\"a\"] by b;"), "kind")

    def test_parts_that_are_left_out(self):
        self.assertEqual(self.targets("make \"a\" by b with [\"c\"];"), (("//:a", "b", ("c",), (), ()),))
        self.assertEqual(self.targets("make \"a\" by b from [\"c\"];"), (("//:a", "b", (), ("c",), ()),))
        self.assertEqual(self.targets("make \"a\" by b needs [\":c\"];"), (("//:a", "b", (), (), ("//:c",)),))
        self.assertEqual(self.targets("make \"a\" by b with [] from [] needs [];"), (("//:a", "b", (), (), ()),))

    def test_parts_keep_their_order(self):
        self.assertEqual(
            self.targets("make \"a\" by b with [\"2\", \"1\", \"2\"] from [\"d\", \"c\", \"d\"] needs [\"//:y\", \":x\", \"//:y\"];"),
            (("//:a", "b", ("2", "1", "2"), ("d", "c", "d"), ("//:y", "//:x", "//:y")),))

    def test_parts_that_are_no_lists(self):
        for word in ("with", "from", "needs"):
            self.assertEqual(self.make_problem("make \"a\" by b " + word + " \":c\";"), "kind")

    def test_how_many_elements(self):
        for word, element in (("with", "c"), ("from", "c"), ("needs", ":c")):
            for count in (12, 13):
                part = "[" + ", ".join(["\"" + element + "\""] * count) + "]"
                text = "make \"a\" by b " + word + " " + part + ";"
                if count == 12:
                    self.assertEqual(len(self.targets(text)), 1)
                else:
                    self.assertEqual(self.make_problem(text), "size")

    def test_args(self):
        for arg in ("", " ", A60, "a\\\"\\\\b", "//", "A~"):
            self.assertEqual(len(self.targets("make \"a\" by b with [\"" + arg + "\"];")), 1)
        for arg in (A61, "a\\nb", "\\n", "a\\n"):
            for part in ("[\"" + arg + "\"]", "[\"x\", \"" + arg + "\"]", "[\"" + arg + "\", \"x\"]"):
                self.assertEqual(self.make_problem("make \"a\" by b with " + part + ";"), "name", part)
        self.assertEqual(self.targets("make \"a\" by b with [\"" + A60 + "\"];")[0][2], (A60,))

    def test_sources(self):
        for source in ("a", "a/b/c/d/e", "a" * 20, "0.c"):
            self.assertEqual(self.targets("make \"x\" by b from [\"" + source + "\"];")[0][3], (source,))
        for source in ("", "/", "/a", "a/", "a//b", "A", "../a", "a b", "a\\n", "a/b/c/d/e/f", "a" * 21, ":a", "*"):
            for folder in ("", "lib"):
                self.assertEqual(self.make_problem("make \"x\" by b from [\"" + source + "\"];", folder), "name", source)
                self.assertEqual(self.make_problem("make \"x\" by b from [\"c\", \"" + source + "\"];", folder), "name")

    def test_sources_in_a_folder(self):
        self.assertEqual(self.targets("make \"x\" by b from [\"c/d\", \"lib/e\"];", "lib/sub")[0][3],
                         ("lib/sub/c/d", "lib/sub/lib/e"))
        self.assertEqual(self.targets("make \"x\" by b from [\"c/d/e\"];", "lib/sub")[0][3], ("lib/sub/c/d/e",))
        self.assertEqual(self.make_problem("make \"x\" by b from [\"c/d/e/f\"];", "lib/sub"), "name")
        self.assertEqual(self.make_problem("make \"x\" by b from [\"c\"];", "a/b/c/d/e"), "name")

    def test_needs(self):
        for need, label in ((":c", "//lib:c"), ("//:c", "//:c"), ("//lib:c", "//lib:c"), ("//a/b/c/d/e:f", "//a/b/c/d/e:f"),
                            (":" + "a" * 20, "//lib:" + "a" * 20)):
            self.assertEqual(self.targets("make \"x\" by b needs [\"" + need + "\"];", "lib")[0][4], (label,))
        self.assertEqual(self.targets("make \"x\" by b needs [\":c\"];")[0][4], ("//:c",))

    def test_bad_needs(self):
        for need in ("", "c", ":", "::c", ":a/b", ":A", ":" + "a" * 21, "//", "//c", "//:", "//a:", "//a/:b", "///a:b", "/a:b",
                     "a:b", "//a:b:c", "//A:b", "//a:B", "//a/b/c/d/e/f:g", "//a//b:c", " :c", ":c ", "//a:b/c", "lib:c",
                     ":c\\n", "//a:c\\n"):
            for folder in ("", "lib"):
                self.assertEqual(self.make_problem("make \"x\" by b needs [\"" + need + "\"];", folder), "name", need)
                self.assertEqual(self.make_problem("make \"x\" by b needs [\":y\", \"" + need + "\"];", folder), "name", need)

    def test_a_label_that_is_made_twice(self):
        self.assertEqual(self.problem("make \"a\" by b;\n make \"a\" by c with [\"d\"];"), (2, 2, "bound"))
        self.assertEqual(self.problem("each x in [\"a\", \"b\", \"a\"] {\nmake x by c; }", "lib"), (2, 1, "bound"))

    def test_how_many_targets(self):
        each = "each x in " + L40 + " { make x by b; }\n"
        self.assertEqual(len(self.targets(each)), 40)
        self.assertEqual(self.problem(each + " make \"more\" by b;"), (2, 2, "size"))
        self.assertEqual(self.problem(each + " make \"t0\" by b;"), (2, 2, "bound"))
        self.assertEqual(self.problem(each + " make \"t0\" by b needs [\"c\"];"), (2, 2, "name"))

    def test_the_order_of_a_make(self):
        # Each part has a fault of its own; taking away the first one shows the next one.
        start = "make \"a\" by b;\n"
        many = "[" + ", ".join(["\"\\n\""] * 13) + "]"
        self.assertEqual(self.problem(start + "make x by b with y from z needs u;"), (2, 6, "unknown"))
        self.assertEqual(self.problem(start + "make [] by b with y from z needs u;"), (2, 1, "kind"))
        self.assertEqual(self.problem(start + "make \"A\" by b with y from z needs u;"), (2, 1, "name"))
        self.assertEqual(self.problem(start + "make \"a\" by b with\ny from z needs u;"), (3, 1, "unknown"))
        self.assertEqual(self.problem(start + "make \"a\" by b with \"\\n\" from\nz needs u;"), (2, 1, "kind"))
        self.assertEqual(self.problem(start + "make \"a\" by b with " + many + " from\nz needs u;"), (2, 1, "size"))
        self.assertEqual(self.problem(start + "make \"a\" by b with [\"\\n\"] from\nz needs u;"), (2, 1, "name"))
        self.assertEqual(self.problem(start + "make \"a\" by b with [] from\nz needs u;"), (3, 1, "unknown"))
        self.assertEqual(self.problem(start + "make \"a\" by b with [] from \"A\" needs\nu;"), (2, 1, "kind"))
        self.assertEqual(self.problem(start + "make \"a\" by b with [] from " + many + " needs\nu;"), (2, 1, "size"))
        self.assertEqual(self.problem(start + "make \"a\" by b with [] from [\"A\"] needs\nu;"), (2, 1, "name"))
        self.assertEqual(self.problem(start + "make \"a\" by b with [] from [] needs\nu;"), (3, 1, "unknown"))
        self.assertEqual(self.problem(start + "make \"a\" by b with [] from [] needs \"u\";"), (2, 1, "kind"))
        self.assertEqual(self.problem(start + "make \"a\" by b with [] from [] needs " + many + ";"), (2, 1, "size"))
        self.assertEqual(self.problem(start + "make \"a\" by b with [] from [] needs [\"u\"];"), (2, 1, "name"))
        self.assertEqual(self.problem(start + "make \"a\" by b with [] from [] needs [\":a\"];"), (2, 1, "bound"))

    def test_the_kind_of_an_element_comes_with_its_list(self):
        self.assertEqual(self.problem("make \"a\" by b with\n[[]];"), (2, 1, "kind"))
        self.assertEqual(self.problem("make \"a\" by b from\n" + L41 + ";"), (2, 1, "size"))


class StepTests(EvaluatorCase):
    def steps_of(self, text):
        """Return how many steps a file takes, found out by steps put in front of it."""
        low, high = 0, 3000
        while low < high:
            middle = (low + high + 1) // 2
            if self.fits(text, middle):
                low = middle
            else:
                high = middle - 1
        return 3000 - low

    def filler(self, steps):
        """Return statements that take so many steps."""
        rows = [("set", 1, 1, f"f{number}", ("text", 1, 1, "")) for number in range(steps // 2)]
        if steps % 2 == 1:
            rows.append(("shape", 1, 1, "filler", (), ()))
        return tuple(rows)

    def fits(self, text, steps):
        try:
            evaluate("", self.filler(steps) + parse(text), {}, FILES)
        except EvalProblem as problem:
            self.assertEqual(problem.reason, "steps")
            return False
        return True

    def place_of(self, text, steps):
        """Return the place of the step 3001 if a file begins behind so many steps."""
        line, column, reason = self.tree_problem(self.filler(steps) + parse(text), "", {}, FILES)
        self.assertEqual(reason, "steps")
        return (line, column)

    def test_counts(self):
        for text, steps in (
            ("", 0),
            ("set x = \"a\";", 2),
            ("set x = [];", 2),
            ("set x = flag(\"a\");", 2),
            ("set x = files(\"**\");", 2),
            ("set x = [\"a\", \"b\"];", 4),
            ("set x = \"a\" + \"b\";", 4),
            ("set x = \"a\" + \"b\" + \"c\" + \"d\";", 8),
            ("set x = \"a\"; set y = x;", 4),
            ("set x = [y each y in []];", 3),
            ("set x = [y each y in [\"a\", \"b\"]];", 7),
            ("set x = [y + \"\" each y in [\"a\", \"b\"]];", 11),
            ("set x = [y each y in [\"a\", \"b\"] when y == \"a\"];", 10),
            ("set x = [y each y in [\"a\", \"b\"] when not y in []];", 11),
            ("if \"a\" == \"b\" { set x = []; }", 3),
            ("if not \"a\" == \"b\" { set x = []; }", 5),
            ("if \"a\" == \"a\" { } else { set x = []; }", 3),
            ("each x in [] { set y = x; }", 2),
            ("each x in [\"a\", \"b\", \"c\"] { }", 5),
            ("each x in [\"a\", \"b\", \"c\"] { set y = x; }", 11),
            ("shape f(a, b) { set x = a; }", 1),
            ("shape f(a, b) { set x = a; } use f([], \"a\");", 6),
            ("make \"a\" by b;", 2),
            ("make \"a\" by b with [] from [\"c\"] needs [\":d\", \":e\"];", 8),
        ):
            self.assertEqual(self.steps_of(text), steps, text)

    def test_the_step_3001_of_statements(self):
        for text in ("set x = [];", "make \"a\" by b;", "if [] == [] { }", "each x in [] { }", "shape g() { }", "use filler();"):
            self.assertEqual(self.place_of("\n  " + text, 3000), (2, 3))
        self.assertEqual(self.place_of("each x in [\"a\"] {\n set y = x; }", 2997), (2, 2))
        self.assertEqual(self.place_of("if [] == [] {\n use g(); }", 2997), (2, 2))
        self.assertEqual(self.place_of("shape g() {\n use f(); } use g();", 2998), (2, 2))

    def test_the_step_3001_of_expressions(self):
        for text in ("\"a\"", "y", "files(\"A\")", "flag(\"a\")", "[]", "[y]", "[y each f1 in y]", "y + []"):
            self.assertEqual(self.place_of("set x =\n " + text + ";", 2999), (2, 2))
        self.assertTrue(self.fits("set x = [];", 2998))

    def test_the_step_3001_within_expressions(self):
        self.assertEqual(self.place_of("set x = [\n\"a\",\n\"b\"];", 2998), (2, 1))
        self.assertEqual(self.place_of("set x = [\n\"a\",\n\"b\"];", 2997), (3, 1))
        self.assertEqual(self.place_of("set x = [y each y in\n[]];", 2998), (2, 1))
        self.assertEqual(self.place_of("set x = [\ny each y in [\"a\"] when\ny ==\n\"a\"];", 2996), (3, 1))
        self.assertEqual(self.place_of("set x = [\ny each y in [\"a\"] when\ny ==\n\"a\"];", 2995), (4, 1))
        self.assertEqual(self.place_of("set x = [\ny each y in [\"a\"] when\ny ==\n\"a\"];", 2994), (2, 1))
        self.assertEqual(self.place_of("make\n\"a\" by b with\n[] from\n[] needs\n[];", 2999), (2, 1))
        self.assertEqual(self.place_of("make\n\"a\" by b with\n[] from\n[] needs\n[];", 2998), (3, 1))
        self.assertEqual(self.place_of("make\n\"a\" by b with\n[] from\n[] needs\n[];", 2997), (4, 1))
        self.assertEqual(self.place_of("make\n\"a\" by b with\n[] from\n[] needs\n[];", 2996), (5, 1))
        self.assertEqual(self.place_of("if\n\"a\" ==\n\"a\" { }", 2999), (2, 1))
        self.assertEqual(self.place_of("if\n\"a\" ==\n\"a\" { }", 2998), (3, 1))

    def test_the_step_3001_of_a_sum(self):
        a, b, c = ("text", 9, 1, "a"), ("text", 9, 2, "b"), ("list", 9, 3, ())
        inner = ("sum", 9, 4, a, b)
        tree = (("set", 9, 6, "x", ("sum", 9, 5, inner, c)),)
        for steps, column in ((3000, 6), (2999, 5), (2998, 4), (2997, 1), (2996, 2), (2995, 3)):
            self.assertEqual(self.tree_problem(self.filler(steps) + tree), (9, column, "steps"))
        self.assertEqual(self.tree_problem(self.filler(2994) + tree), (9, 5, "kind"))

    def test_a_step_comes_before_what_it_does(self):
        self.assertEqual(self.place_of("set x =\ny;", 2999), (2, 1))
        self.assertEqual(self.place_of("set x = [[]\n];", 2998), (1, 10))
        self.assertEqual(self.tree_problem(self.filler(2997) + parse("set x = [[]];")), (1, 9, "kind"))
        self.assertEqual(self.tree_problem(self.filler(2999) + parse("use f();")), (1, 1, "unknown"))


class PlainWayTests(EvaluatorCase):
    """Compares the evaluator with a second one on many random files."""

    def outcome(self, function):
        try:
            return function()
        except EvalProblem as problem:
            return (problem.line, problem.column, problem.reason)
        except Problem as problem:
            return problem.args

    def check(self, tree, folder):
        own = self.outcome(lambda: evaluate(folder, tree, FLAGS, FILES))
        plain = self.outcome(lambda: PlainEvaluator(folder, FLAGS, FILES).run(tree))
        self.assertEqual(own, plain, tree)
        return own

    def test_random_files(self):
        maker = KnowingMaker(random.Random(26))
        reasons = {}
        for _ in range(2000):
            found = self.check(maker.file(), maker.choice(["", "lib", "lib/sub"]))
            reason = found[2] if len(found) == 3 else "fine" if found[0] else "empty"
            reasons[reason] = reasons.get(reason, 0) + 1
        for reason in ("fine", "empty", "unknown", "kind", "bound", "place", "count", "name", "pattern", "size", "steps"):
            self.assertGreater(reasons.get(reason, 0), 3, reasons)


class DepthTests(EvaluatorCase):
    def test_no_deep_calls(self):
        # Sums in lists in sums: the tree is more than 200 levels deep, the calls must not be.
        empty = ("list", 1, 1, ())
        value = ("text", 1, 1, "a")
        for _ in range(11):
            value = ("list", 1, 1, (value,))
            for _ in range(19):
                value = ("sum", 1, 1, value, empty)
        tree = (("set", 1, 1, "y", value),)
        with few_calls(150):
            self.assertEqual(self.tree_problem(tree), (1, 1, "kind"))


if __name__ == "__main__":
    unittest.main()
