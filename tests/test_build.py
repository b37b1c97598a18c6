"""Points 47 to 49: what is made, what is ready, and what waits."""

import random
import unittest

from truemill.build import Build
from truemill.errors import BuildProblem, GraphProblem
from truemill.graph import action_of, build_order, closure, make_graph

from calls import few_calls


def target(label, sources=(), needs=(), tool="join", args=()):
    return (label, tool, args, sources, needs)


# `top` needs `left` and `right`, which need `base`.
DIAMOND = make_graph([target("top", ("t",), ("right", "left")), target("left", ("b", "a"), ("base",)),
                      target("right", (), ("base",), "upper"), target("base", ("c",), (), "sort", ("x", ""))])
TREE = (("a", 1), ("b", 2), ("c", 3), ("t", 4))
BASE = ("sort", ("x", ""), (3,))


class BuildCase(unittest.TestCase):
    def problem(self, function, *values):
        with self.assertRaises(GraphProblem) as caught:
            function(*values)
        return (caught.exception.label, caught.exception.reason)

    def states(self, build, graph=DIAMOND):
        """Return a dict from labels to the first parts of their states."""
        return {action[0]: build.status(action[0])[0] for action in graph}


class StatusTests(BuildCase):
    def test_an_empty_build(self):
        build = Build((), ())
        self.assertEqual(self.problem(build.status, "a"), ("a", "unknown"))
        self.assertEqual(self.problem(build.key_of, "a"), ("a", "unknown"))
        self.assertEqual(build.orders(["a"]), ())
        self.assertEqual(build.orders([]), ())

    def test_an_unknown_label(self):
        build = Build(DIAMOND, TREE)
        for label in ("", "tops", "a"):
            self.assertEqual(self.problem(build.status, label), (label, "unknown"))
            self.assertEqual(self.problem(build.key_of, label), (label, "unknown"))

    def test_ready_and_waiting(self):
        build = Build(DIAMOND, TREE)
        self.assertEqual(build.status("base"), ("ready", BASE))
        for label in ("left", "right", "top"):
            self.assertEqual(build.status(label), ("waiting", None))
            self.assertIsNone(build.key_of(label))
        self.assertEqual(build.key_of("base"), BASE)

    def test_step_by_step(self):
        build = Build(DIAMOND, TREE)
        build.tell(BASE, ("made", 7))
        left, right = ("join", (), (2, 1, 7)), ("upper", (), (7,))
        self.assertEqual(build.status("base"), ("made", 7))
        self.assertEqual(build.key_of("base"), BASE)
        self.assertEqual(build.status("left"), ("ready", left))
        self.assertEqual(build.key_of("left"), left)
        self.assertEqual(build.status("right"), ("ready", right))
        self.assertEqual(build.status("top"), ("waiting", None))
        build.tell(left, ("made", 9))
        self.assertEqual(build.status("top"), ("waiting", None))
        build.tell(right, ("made", 8))
        top = ("join", (), (4, 8, 9))
        self.assertEqual(build.status("top"), ("ready", top))
        build.tell(top, ("failed", "wrong args"))
        self.assertEqual(build.status("top"), ("failed", "wrong args"))
        self.assertEqual(build.key_of("top"), top)
        self.assertEqual(build.status("left"), ("made", 9))

    def test_no_inputs(self):
        build = Build(make_graph([target("a", args=("1",))]), ())
        self.assertEqual(build.status("a"), ("ready", ("join", ("1",), ())))
        build.tell(("join", ("1",), ()), ("made", 1))
        self.assertEqual(build.status("a"), ("made", 1))

    def test_a_source_that_is_not_there(self):
        graph = make_graph([target("t", ("b", "a", "c/d"))])
        self.assertEqual(Build(graph, ()).status("t"), ("failed", "no file b"))
        self.assertEqual(Build(graph, (("b", 1),)).status("t"), ("failed", "no file a"))
        self.assertEqual(Build(graph, (("a", 1), ("b", 1), ("c", 1))).status("t"), ("failed", "no file c/d"))
        self.assertIsNone(Build(graph, (("a", 1),)).key_of("t"))
        self.assertEqual(Build(graph, (("a", 1), ("b", 1), ("c/d", 2))).status("t"), ("ready", ("join", (), (1, 1, 2))))

    def test_a_source_comes_ahead_of_a_need(self):
        graph = make_graph([target("t", ("a",), ("bad", "wait")), target("bad", ("x",)), target("wait")])
        self.assertEqual(Build(graph, ()).status("t"), ("failed", "no file a"))
        self.assertEqual(Build(graph, (("a", 1),)).status("t"), ("failed", "needs bad"))

    def test_the_first_need_that_is_not_made_decides(self):
        parts = [target("bad", ("x",)), target("worse", ("x",)), target("wait"), target("good", tool="sort")]
        for needs, state in (
            (("bad", "wait"), ("failed", "needs bad")), (("wait", "bad"), ("waiting", None)),
            (("good", "bad", "worse"), ("failed", "needs bad")), (("worse", "bad"), ("failed", "needs worse")),
            (("good", "wait", "bad"), ("waiting", None)), (("good", "good", "wait"), ("waiting", None)),
            (("good", "good"), ("ready", ("join", (), (5, 5)))),
        ):
            build = Build(make_graph(parts + [target("t", (), needs)]), ())
            build.tell(("sort", (), ()), ("made", 5))
            self.assertEqual(build.status("t"), state, needs)
            self.assertEqual(build.key_of("t"), state[1] if state[0] == "ready" else None)

    def test_a_need_that_failed_by_its_key(self):
        build = Build(make_graph([target("t", (), ("n",)), target("n", tool="same")]), ())
        build.tell(("same", (), ()), ("failed", "wrong args"))
        self.assertEqual(build.status("n"), ("failed", "wrong args"))
        self.assertEqual(build.key_of("n"), ("same", (), ()))
        self.assertEqual(build.status("t"), ("failed", "needs n"))
        self.assertIsNone(build.key_of("t"))

    def test_a_state_that_follows_over_several_needs(self):
        chain = [target(f"t{number}", (), (f"t{number + 1}",)) for number in range(5)]
        build = Build(make_graph(chain + [target("t5", ("x",))]), ())
        self.assertEqual([build.status(f"t{number}") for number in range(6)],
                         [("failed", f"needs t{number + 1}") for number in range(5)] + [("failed", "no file x")])
        build = Build(make_graph(chain + [target("t5")]), ())
        self.assertEqual([build.status(f"t{number}")[0] for number in range(6)], ["waiting"] * 5 + ["ready"])

    def test_a_target_that_waits_for_one_that_waits(self):
        graph = make_graph([target("t", (), ("n", "bad")), target("n", (), ("m",)), target("m"), target("bad", ("x",))])
        self.assertEqual(Build(graph, ()).status("t"), ("waiting", None))

    def test_a_long_chain(self):
        for size in (60, 400):
            graph = tuple([(f"t{number:03}", "join", (), (("target", f"t{number - 1:03}"),) if number else ())
                           for number in range(size)])
            build = Build(graph, ())
            with few_calls(60):
                self.assertEqual(build.status(f"t{size - 1:03}"), ("waiting", None))
                build.tell(("join", (), ()), ("made", 1))
                build.tell(("join", (), (1,)), ("made", 1))
                self.assertEqual(build.status(f"t{size - 1:03}"), ("made", 1))

    def test_targets_with_one_key(self):
        graph = make_graph([target("a", ("x",)), target("b", ("y",)), target("c", ("x",), (), "sort")])
        build = Build(graph, (("x", 3), ("y", 3)))
        self.assertEqual(build.key_of("a"), build.key_of("b"))
        build.tell(("join", (), (3,)), ("made", 4))
        self.assertEqual(self.states(build, graph), {"a": "made", "b": "made", "c": "ready"})


class ChangeTests(BuildCase):
    def test_the_memory_stays(self):
        build = Build(DIAMOND, TREE)
        build.tell(BASE, ("made", 7))
        self.assertIsNone(build.change(DIAMOND, (("a", 1), ("b", 2), ("c", 5), ("t", 4))))
        self.assertEqual(build.status("base"), ("ready", ("sort", ("x", ""), (5,))))
        self.assertEqual(build.status("left"), ("waiting", None))
        self.assertEqual(build.recall(BASE), ("made", 7))
        build.change((), ())
        self.assertEqual(self.problem(build.status, "base"), ("base", "unknown"))
        build.change(DIAMOND, TREE)
        self.assertEqual(build.status("base"), ("made", 7))
        self.assertEqual(build.status("left"), ("ready", ("join", (), (2, 1, 7))))

    def test_another_graph(self):
        build = Build(DIAMOND, TREE)
        build.tell(BASE, ("made", 7))
        build.status("top")
        graph = make_graph([target("new", ("c",), (), "sort", ("x", "")), target("base", ("c",))])
        build.change(graph, TREE)
        self.assertEqual(build.status("new"), ("made", 7))
        self.assertEqual(build.status("base"), ("ready", ("join", (), (3,))))
        self.assertEqual(self.problem(build.status, "top"), ("top", "unknown"))
        self.assertEqual(build.orders(["new", "base", "top"]), (("join", (), (3,)),))

    def test_a_source_that_goes_away(self):
        build = Build(DIAMOND, TREE)
        build.tell(BASE, ("made", 7))
        build.change(DIAMOND, (("a", 1), ("b", 2), ("t", 4)))
        self.assertEqual(build.status("base"), ("failed", "no file c"))
        self.assertIsNone(build.key_of("base"))
        self.assertEqual(build.status("top"), ("failed", "needs right"))


class MemoryTests(BuildCase):
    def test_tell(self):
        build = Build((), ())
        keys = [("join", (), (1,)), ("join", (), (2,)), ("join", ("",), (1,)), ("sort", (), (1,)), ("join", (), (1, 1))]
        for at, key in enumerate(keys):
            self.assertIs(build.tell(key, ("made", at + 1)), True)
        for at, key in enumerate(keys):
            self.assertIs(build.tell(key, ("made", at + 1)), False)
            self.assertEqual(build.recall(key), ("made", at + 1))

    def test_tell_of_another_result(self):
        for first, second in ((("made", 1), ("made", 2)), (("made", 1), ("failed", "x")), (("failed", "x"), ("failed", "y")),
                              (("failed", "x"), ("made", 1))):
            build = Build(DIAMOND, TREE)
            build.tell(BASE, first)
            with self.assertRaises(BuildProblem) as caught:
                build.tell(BASE, second)
            self.assertEqual(caught.exception.key, BASE)
            self.assertEqual(build.recall(BASE), first)
            self.assertEqual(build.status("base"), first)
            self.assertIs(build.tell(BASE, first), False)

    def test_recall(self):
        build = Build(DIAMOND, TREE)
        self.assertIsNone(build.recall(BASE))
        build.tell(BASE, ("failed", "no"))
        self.assertEqual(build.recall(BASE), ("failed", "no"))
        self.assertIsNone(build.recall(("sort", ("x",), (3,))))

    def test_forget(self):
        build = Build(DIAMOND, TREE)
        self.assertIs(build.forget(BASE), False)
        build.tell(BASE, ("made", 7))
        self.assertEqual(build.status("base"), ("made", 7))
        self.assertIs(build.forget(("sort", (), (3,))), False)
        self.assertIs(build.forget(BASE), True)
        self.assertIsNone(build.recall(BASE))
        self.assertEqual(build.status("base"), ("ready", BASE))
        self.assertEqual(build.status("left"), ("waiting", None))
        self.assertIs(build.forget(BASE), False)
        self.assertIs(build.tell(BASE, ("made", 8)), True)
        self.assertEqual(build.key_of("right"), ("upper", (), (8,)))


class OrderTests(BuildCase):
    def test_only_what_is_ready(self):
        build = Build(DIAMOND, TREE)
        self.assertEqual(build.orders(["top"]), (BASE,))
        build.tell(BASE, ("made", 7))
        self.assertEqual(build.orders(["top"]), (("join", (), (2, 1, 7)), ("upper", (), (7,))))
        self.assertEqual(build.orders(["right"]), (("upper", (), (7,)),))
        self.assertEqual(build.orders(["base"]), ())
        build.tell(("upper", (), (7,)), ("failed", "x"))
        self.assertEqual(build.orders(["top", "right"]), (("join", (), (2, 1, 7)),))

    def test_labels_in_any_order_and_twice(self):
        build = Build(DIAMOND, TREE)
        build.tell(BASE, ("made", 7))
        both = (("join", (), (2, 1, 7)), ("upper", (), (7,)))
        for labels in (["right", "left"], ["left", "right", "left"], ["top", "base", "right"], ("right", "none", "left")):
            self.assertEqual(build.orders(labels), both)
        self.assertEqual(build.orders(["none"]), ())

    def test_the_order_of_build_order(self):
        # `z` needs nothing, but `b` comes ahead of it as soon as its need is there.
        graph = make_graph([target("b", ("x",), ("m",)), target("m", (), (), "sort"), target("z", ("y",)), target("c", ("y", "x"))])
        build = Build(graph, (("x", 1), ("y", 2)))
        build.tell(("sort", (), ()), ("made", 3))
        self.assertEqual(build_order(graph), ("c", "m", "b", "z"))
        self.assertEqual(build.orders(["z", "b", "c"]), (("join", (), (2, 1)), ("join", (), (1, 3)), ("join", (), (2,))))

    def test_no_key_twice(self):
        graph = make_graph([target(label, (path,)) for label, path in (("a", "x"), ("b", "y"), ("c", "z"), ("d", "x"))])
        build = Build(graph, (("x", 1), ("y", 2), ("z", 1)))
        self.assertEqual(build.orders(["d", "c", "b", "a"]), (("join", (), (1,)), ("join", (), (2,))))
        self.assertEqual(build.orders(["c", "b"]), (("join", (), (2,)), ("join", (), (1,))))

    def test_failures_are_no_orders(self):
        graph = make_graph([target("a", ("x",)), target("b", (), ("a", "c")), target("c")])
        self.assertEqual(Build(graph, ()).orders(["b"]), (("join", (), ()),))
        self.assertEqual(Build(graph, ()).orders(["a"]), ())


class PlainWayTests(BuildCase):
    def state(self, graph, tree, memory, label):
        """Return state and key of a target, as the document says it, need by need."""
        _, tool, args, inputs = action_of(graph, label)
        names = []
        for kind, name in inputs:
            if kind == "source":
                found = [number for path, number in tree if path == name]
                if not found:
                    return ("failed", "no file " + name), None
                names += found
        for kind, name in inputs:
            if kind == "target":
                state, told = self.state(graph, tree, memory, name)[0]
                if state != "made":
                    return (("failed", "needs " + name) if state == "failed" else ("waiting", None)), None
                names.append(told)
        key = (tool, args, tuple(names))
        return memory.get(key, ("ready", key)), key

    def test_random_builds(self):
        chance = random.Random(48)
        seen = {}
        for _ in range(150):
            many = chance.randrange(1, 9)
            labels = [f"t{number}" for number in range(many)]
            graph = make_graph([
                target(label, tuple(chance.choices("abcx", (9, 9, 9, 1), k=chance.randrange(3))),
                       tuple(chance.sample(labels[:at], min(at, chance.randrange(4)))), chance.choice(("join", "sort")))
                for at, label in enumerate(labels)])
            tree = tuple([(path, chance.randrange(1, 4)) for path in "abc"])
            build, memory = Build(graph, tree), {}
            for _ in range(20):
                orders = build.orders(labels)
                expected = [self.state(graph, tree, memory, label)[1] for label in build_order(graph)
                            if self.state(graph, tree, memory, label)[0][0] == "ready"]
                self.assertEqual(orders, tuple(dict.fromkeys(expected)))
                some = chance.sample(labels, chance.randrange(many + 1))
                part = [self.state(graph, tree, memory, label)[0] for label in build_order(closure(graph, some))]
                self.assertEqual(build.orders(some), tuple(dict.fromkeys([told for state, told in part if state == "ready"])))
                if orders:
                    key, result = chance.choice(orders), chance.choice((("made", 5), ("made", 6), ("made", 7), ("failed", "f")))
                    self.assertIs(build.tell(key, result), True)
                    memory[key] = result
                if chance.random() < 0.2 and memory:
                    key = chance.choice(list(memory))
                    del memory[key]
                    self.assertIs(build.forget(key), True)
                if chance.random() < 0.1:
                    tree = tuple([(path, chance.randrange(1, 4)) for path in "abc"])
                    build.change(graph, tree)
                for label in labels:
                    state, key = self.state(graph, tree, memory, label)
                    self.assertEqual((build.status(label), build.key_of(label)), (state, key))
                    seen[state[0]] = seen.get(state[0], 0) + 1
        self.assertEqual(sorted(seen), ["failed", "made", "ready", "waiting"])
        self.assertGreater(min(seen.values()), 500)


if __name__ == "__main__":
    unittest.main()
