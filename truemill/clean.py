"""Clean builds: what a tree of texts comes to if all tools are run here."""

from truemill.evaluator import evaluate
from truemill.graph import action_of, build_order, make_graph, named_inputs
from truemill.parser import parse
from truemill.tools import run_tool


def clean_build(graph, sources):
    """Return a dict from all labels of a graph to their results, given a dict of source texts."""
    results = {}
    for label in build_order(graph):
        results[label] = result_of(action_of(graph, label), sources, results)
    return results


def result_of(action, sources, results):
    """Return the result of an action, given those of its needs."""
    for path in named_inputs(action, "source"):
        if path not in sources:
            return ("failed", "no file " + path)
    for label in named_inputs(action, "target"):
        if results[label][0] == "failed":
            return ("failed", "needs " + label)
    texts = [sources[name] if kind == "source" else results[name][1] for kind, name in action[3]]
    return run_tool(action[1], action[2], tuple(texts))


def graph_of(texts, flags):
    """Return the graph of all build files in a dict from paths to texts."""
    paths = tuple(sorted(texts))
    targets = []
    for path in paths:
        folder, _, segment = path.rpartition("/")
        if segment == "build":
            made, _ = evaluate(folder, parse(texts[path]), flags, paths)
            targets.extend(made)
    return make_graph(targets)
