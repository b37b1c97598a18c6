"""Points 32, 33 and 60: clean builds, the graphs of build files, and the example."""

import random
import unittest

from truemill.clean import clean_build, graph_of
from truemill.errors import EvalProblem, GraphProblem, SyntaxProblem
from truemill.graph import build_order, make_graph
from truemill.keys import key_text, read_key
from truemill.tools import run_tool

EXAMPLE = {
    "build": "make \"all\" by join with [\" \"] from [\"a\"] needs [\":up\"]; make \"up\" by upper from [\"b\"];",
    "a": "one",
    "b": "two",
}


def made(text):
    return ("made", text)


def failed(reason):
    return ("failed", reason)


class ExampleTests(unittest.TestCase):
    GRAPH = (("//:all", "join", (" ",), (("source", "a"), ("target", "//:up"))), ("//:up", "upper", (), (("source", "b"),)))

    def test_the_graph(self):
        self.assertEqual(graph_of(EXAMPLE, {}), self.GRAPH)

    def test_the_order(self):
        self.assertEqual(build_order(self.GRAPH), ("//:up", "//:all"))

    def test_the_clean_build(self):
        self.assertEqual(clean_build(self.GRAPH, EXAMPLE), {"//:all": made("one TWO"), "//:up": made("TWO")})

    def test_the_keys(self):
        for key, text in ((("upper", (), (2,)), "upper\nin 2\n"), (("join", (" ",), (1, 4)), "join\narg  \nin 1\nin 4\n")):
            self.assertEqual(key_text(key), text)
            self.assertEqual(read_key(text), key)


class CleanBuildTests(unittest.TestCase):
    def result(self, target, sources, *others):
        """Return the result of the target `t`, which may need others."""
        label, tool, args, paths, needs = target
        graph = make_graph([target, *others])
        return clean_build(graph, sources)[label]

    def test_nothing(self):
        self.assertEqual(clean_build((), {}), {})
        self.assertEqual(clean_build((), {"a": "b"}), {})

    def test_each_tool(self):
        sources = {"a": "b\na\n", "b": "a"}
        for tool, args, text in (
            ("join", (",",), "b\na\n,a"), ("pick", ("a",), "a\na\n"), ("sort", (), "a\na\nb\n"), ("head", ("1",), "b\n"),
            ("swap", ("a", "x"), "b\nx\nx"), ("upper", (), "B\nA\nA"), ("count", (), "3\n"), ("need", ("a",), "b\na\na"),
        ):
            self.assertEqual(self.result(("t", tool, args, ("a", "b"), ()), sources), made(text), tool)
        self.assertEqual(self.result(("t", "same", (), ("b", "b"), ()), sources), made("a"))

    def test_failures_of_tools(self):
        sources = {"a": "b\na\n", "b": "c"}
        self.assertEqual(self.result(("t", "same", (), ("a", "b"), ()), sources), failed("inputs differ"))
        self.assertEqual(self.result(("t", "need", ("a",), ("a", "b"), ()), sources), failed("input 2 lacks it"))
        self.assertEqual(self.result(("t", "none", (), ("a",), ()), sources), failed("no such tool"))
        self.assertEqual(self.result(("t", "head", ("x",), ("a",), ()), sources), failed("wrong args"))
        self.assertEqual(self.result(("t", "join", (), ("a", "a"), ()), {"a": "x" * 1001}), failed("too long"))

    def test_no_inputs(self):
        self.assertEqual(self.result(("t", "count", (), (), ()), {}), made("0\n"))

    def test_inputs_in_their_order(self):
        others = [("n", "join", (), ("c",), ()), ("m", "upper", (), ("c",), ())]
        sources = {"a": "1", "b": "2", "c": "x"}
        self.assertEqual(self.result(("t", "join", ("-",), ("b", "a", "b"), ("n", "m", "n")), sources, *others),
                         made("2-1-2-x-X-x"))

    def test_a_source_without_a_text(self):
        self.assertEqual(self.result(("t", "join", (), ("a/b",), ()), {}), failed("no file a/b"))
        self.assertEqual(self.result(("t", "join", (), ("a", "c", "b"), ()), {"a": ""}), failed("no file c"))
        self.assertEqual(self.result(("t", "join", (), ("a",), ()), {"a": ""}), made(""))
        self.assertEqual(self.result(("t", "none", (), ("a",), ()), {}), failed("no file a"))

    def test_a_need_that_failed(self):
        bad, worse = ("bad", "none", (), (), ()), ("worse", "join", (), ("x",), ())
        good = ("good", "join", (), (), ())
        self.assertEqual(self.result(("t", "join", (), (), ("bad",)), {}, bad), failed("needs bad"))
        self.assertEqual(self.result(("t", "join", (), (), ("good", "worse", "bad")), {}, bad, worse, good), failed("needs worse"))
        self.assertEqual(self.result(("t", "join", (), (), ("bad", "worse")), {}, bad, worse), failed("needs bad"))
        self.assertEqual(self.result(("t", "none", (), (), ("bad",)), {}, bad), failed("needs bad"))
        self.assertEqual(self.result(("t", "join", (), (), ("good",)), {}, good), made(""))

    def test_a_source_and_a_need_at_once(self):
        bad = ("bad", "none", (), (), ())
        self.assertEqual(self.result(("t", "join", (), ("a", "b"), ("bad",)), {"a": ""}, bad), failed("no file b"))
        self.assertEqual(self.result(("t", "join", (), ("a",), ("bad",)), {"a": ""}, bad), failed("needs bad"))

    def test_a_failure_that_is_passed_on(self):
        graph = make_graph([("//:a", "join", (), (), ("//:b",)), ("//:b", "join", (), (), ("//:c",)),
                            ("//:c", "join", (), ("gone",), ()), ("//:d", "count", (), (), ())])
        self.assertEqual(clean_build(graph, {}), {
            "//:a": failed("needs //:b"), "//:b": failed("needs //:c"), "//:c": failed("no file gone"), "//:d": made("0\n")})

    def test_a_long_reason(self):
        path = "/".join(["a" * 20] * 5)
        label = "//" + path + ":" + "b" * 20
        graph = make_graph([(label, "join", (), (path,), ()), ("//:t", "join", (), (), (label,))])
        results = clean_build(graph, {})
        self.assertEqual(results, {label: failed("no file " + path), "//:t": failed("needs " + label)})
        self.assertGreater(len(results[label][1]), 80)

    def test_a_chain(self):
        graph = make_graph([(f"t{number:02}", "join", ("-",), ("a",), (f"t{number + 1:02}",) if number < 59 else ())
                            for number in range(60)])
        results = clean_build(graph, {"a": "x"})
        self.assertEqual(len(results), 60)
        self.assertEqual(results["t00"], made("-".join("x" * 60)))
        self.assertEqual(results["t59"], made("x"))

    def test_arguments_stay_as_they_were(self):
        sources = dict(EXAMPLE)
        graph = graph_of(EXAMPLE, {})
        first = clean_build(graph, sources)
        first["//:up"] = failed("changed")
        self.assertEqual(sources, EXAMPLE)
        self.assertEqual(clean_build(graph, sources)["//:up"], made("TWO"))

    def test_in_a_plain_way(self):
        choice = random.Random(32).choice
        tools = [("join", ("-",)), ("sort", ()), ("same", ()), ("need", ("a",)), ("upper", ()), ("count", ()), ("none", ())]
        kinds = {}
        for _ in range(300):
            labels = "abcdef"
            targets = []
            for at, label in enumerate(labels):
                tool, args = choice(tools)
                paths = [path for path in "pqrs" if choice(range(4)) == 0]
                needs = [need for need in labels[:at] if choice(range(4)) == 0]
                targets.append((label, tool, args, tuple(paths), tuple(needs)))
            sources = {path: choice(["a", "b\na", "aa\n"]) for path in "pqrs" if choice(range(6)) > 0}
            results = {}
            for label, tool, args, paths, needs in targets:
                gone = [path for path in paths if path not in sources]
                broken = [need for need in needs if results[need][0] == "failed"]
                texts = tuple([sources.get(path) for path in paths] + [results[need][1] for need in needs])
                if gone:
                    results[label] = failed("no file " + gone[0])
                elif broken:
                    results[label] = failed("needs " + broken[0])
                else:
                    results[label] = run_tool(tool, args, texts)
                kinds[results[label][1][:7] if results[label][0] == "failed" else "made"] = True
            self.assertEqual(clean_build(make_graph(targets), sources), results)
        self.assertGreater(len(kinds), 4)


class GraphOfTests(unittest.TestCase):
    def labels(self, texts, flags=None):
        return [action[0] for action in graph_of(texts, flags or {})]

    def problem(self, kind, texts, flags=None):
        with self.assertRaises(kind) as caught:
            graph_of(texts, flags or {})
        return caught.exception

    def test_no_build_file(self):
        self.assertEqual(graph_of({}, {}), ())
        self.assertEqual(graph_of({"a": "make \"a\" by b;", "b/c": "?"}, {}), ())

    def test_an_empty_build_file(self):
        self.assertEqual(graph_of({"build": ""}, {}), ())

    def test_where_build_files_are(self):
        make = "make \"t\" by join;"
        self.assertEqual(self.labels({"build": make}), ["//:t"])
        self.assertEqual(self.labels({"a/build": make}), ["//a:t"])
        self.assertEqual(self.labels({"a/b/c/d/build": make}), ["//a/b/c/d:t"])
        self.assertEqual(self.labels({"build": make, "a/build": make, "a/b/build": make, "a-b/build": make}),
                         ["//:t", "//a-b:t", "//a/b:t", "//a:t"])
        self.assertEqual(self.labels({"build/build": make}), ["//build:t"])

    def test_paths_that_only_look_like_one(self):
        for path in ("a/build2", "rebuild", "build2", "a/rebuild", "build/a", "a/build/b", "build.c", "a/0build", "build-", "a.build"):
            self.assertEqual(graph_of({path: "make \"t\" by join;"}, {}), (), path)
            self.assertEqual(graph_of({path: "?"}, {}), (), path)

    def test_targets_in_their_folders(self):
        texts = {"lib/build": "make \"t\" by join with [\"-\"] from [\"a\"] needs [\":u\", \"//:v\"]; make \"u\" by join;",
                 "build": "make \"v\" by upper from [\"lib/a\"];"}
        self.assertEqual(graph_of(texts, {}), (
            ("//:v", "upper", (), (("source", "lib/a"),)),
            ("//lib:t", "join", ("-",), (("source", "lib/a"), ("target", "//lib:u"), ("target", "//:v"))),
            ("//lib:u", "join", (), ())))

    def test_needs_of_another_file(self):
        texts = {"a/build": "make \"t\" by join needs [\"//b:t\"];", "b/build": "make \"t\" by join needs [\"//:t\"];",
                 "build": "make \"t\" by join;"}
        self.assertEqual(build_order(graph_of(texts, {})), ("//:t", "//b:t", "//a:t"))

    def test_files(self):
        text = "make \"t\" by join with files(\"**\");"
        texts = {"build": text, "b": "", "a": "", "c/build": text, "c/d": "", "c-d": ""}
        graph = graph_of(texts, {})
        self.assertEqual(graph[0][2], ("a", "b", "build", "c-d", "c/build", "c/d"))
        self.assertEqual(graph[1][2], ("build", "d"))

    def test_flags(self):
        texts = {"build": "make flag(\"name\") by join with [flag(\"none\")];", "a/build": "make flag(\"name\") by join;"}
        flags = {"name": "x", "other": "y"}
        self.assertEqual(graph_of(texts, flags), (("//:x", "join", ("",), ()), ("//a:x", "join", (), ())))
        self.assertEqual(flags, {"name": "x", "other": "y"})

    def test_the_order_of_the_dict_does_not_matter(self):
        texts = {"build": "make \"t\" by join from files(\"*\");", "b": "", "a": "", "a-/build": "make \"t\" by join;"}
        graph = graph_of(texts, {})
        for paths in (sorted(texts), sorted(texts, reverse=True)):
            self.assertEqual(graph_of({path: texts[path] for path in paths}, {}), graph)

    def test_syntax_problems(self):
        problem = self.problem(SyntaxProblem, {"build": "set x =\n;"})
        self.assertEqual((problem.line, problem.column), (2, 1))
        problem = self.problem(SyntaxProblem, {"build": "set x = [];", "a/build": "\n ?"})
        self.assertEqual((problem.line, problem.column), (2, 2))

    def test_evaluation_problems(self):
        problem = self.problem(EvalProblem, {"build": "set x = \n y;"})
        self.assertEqual((problem.line, problem.column, problem.reason), (2, 2, "unknown"))

    def test_problems_of_the_graph(self):
        texts = {"a/build": "make \"t\" by join needs [\"//b:t\"];", "b/build": "make \"t\" by join needs [\"//a:t\"];"}
        problem = self.problem(GraphProblem, texts)
        self.assertEqual((problem.label, problem.reason), ("//a:t", "cycle"))
        problem = self.problem(GraphProblem, {"build": "make \"t\" by join needs [\":u\"];"})
        self.assertEqual((problem.label, problem.reason), ("//:t", "unknown"))

    def test_the_first_file_counts(self):
        syntax, evaluation = "?", "set x = y;"
        graph = "make \"t\" by join needs [\":u\"];"
        self.problem(SyntaxProblem, {"a/build": syntax, "b/build": evaluation, "c/build": graph})
        self.problem(EvalProblem, {"a/build": evaluation, "b/build": syntax, "c/build": graph})
        self.problem(EvalProblem, {"a/build": graph, "b/build": evaluation, "c/build": syntax})
        self.problem(SyntaxProblem, {"a/build": graph, "c/build": syntax})
        self.problem(GraphProblem, {"a/build": graph, "c/build": ""})
        # Ascending by path: `a/build` stands before `build`, and `a-b/build` before both.
        problem = self.problem(SyntaxProblem, {"build": "?", "a/build": " ?", "a-b/build": "  ?"})
        self.assertEqual((problem.line, problem.column), (1, 3))
        problem = self.problem(SyntaxProblem, {"build": "?", "a/build": " ?"})
        self.assertEqual((problem.line, problem.column), (1, 2))
        problem = self.problem(SyntaxProblem, {"build": "?", "c/build": " ?"})
        self.assertEqual((problem.line, problem.column), (1, 1))

    def test_how_many_targets(self):
        names = ", ".join([f"\"t{number:02}\"" for number in range(20)])
        text = "each x in [" + names + "] { make x by join; }"
        texts = {"b/build": text, "c/build": text, "d/build": text}
        self.assertEqual(len(graph_of(texts, {})), 60)
        problem = self.problem(GraphProblem, {**texts, "a/build": "make \"z\" by join;"})
        self.assertEqual((problem.label, problem.reason), ("//a:z", "size"))
        problem = self.problem(GraphProblem, {**texts, "e/build": "make \"z\" by join needs [\":z\"];"})
        self.assertEqual((problem.label, problem.reason), ("//e:z", "cycle"))

    def test_texts_stay_as_they_were(self):
        texts = dict(EXAMPLE)
        graph_of(texts, {})
        self.assertEqual(texts, EXAMPLE)


if __name__ == "__main__":
    unittest.main()
