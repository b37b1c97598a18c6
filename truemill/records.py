"""Records: how targets were made, for others to check and to do again."""

from truemill.clean import result_of
from truemill.errors import BadMessage, GraphProblem
from truemill.graph import action_of, build_order, closure, make_graph, named_inputs
from truemill.keys import claim_text, key_text, read_claim
from truemill.trees import name_at
from truemill.vouchers import are_enough, good_vouchers


def record_of(mill, labels):
    """Return the record (labels, graph, sources, steps) of targets that are made."""
    for label in labels:
        if mill.status(label)[0] != "made":
            raise GraphProblem(label, "not made")
    graph = closure(mill.graph(), labels)
    paths = paths_of(graph)
    sources = tuple([(path, name) for path, name in mill.tree() if path in paths])
    steps = tuple([step_of(mill, label) for label in build_order(graph)])
    return (tuple(sorted(set(labels))), graph, sources, steps)


def step_of(mill, label):
    """Return the step (label, key, claim, vouchers) of a target that is made."""
    key = mill.key_of(label)
    claim, vouchers, _ = mill.evidence(key)
    return (label, key, claim, vouchers)


def paths_of(graph):
    """Return the ascending paths that the actions of a graph read, each once."""
    return sorted(set([path for action in graph for path in named_inputs(action, "source")]))


def check_record(record, store, roster):
    """Return the problems of a record as tuples (problem, label)."""
    if not is_shaped(record):
        return (("shape", None),)
    _, graph, sources, steps = record
    # From inputs to their names, or None for a target whose claim made no text with a name.
    names = {("source", path): name for path, name in sources}
    problems = []
    for label, key, claim, vouchers in steps:
        if key != key_from(action_of(graph, label), names):
            problems.append(("key", label))
        text = made_text(claim)
        if text is None:
            problems.append(("claim", label))
        good = good_vouchers(roster, key_text(key), claim, vouchers)
        if not are_enough(roster, good):
            problems.append(("vouchers", label))
        names[("target", label)] = None if text is None else store.name_of(text)
    return tuple(problems)


def is_shaped(record):
    """Whether labels, graph, sources and steps of a record fit each other."""
    labels, graph, sources, steps = record
    if any([label >= after for label, after in zip(labels, labels[1:])]):
        return False
    if any([action_of(graph, label) is None for label in labels]):
        return False
    if not is_graph(graph) or closure(graph, labels) != graph:
        return False
    if [path for path, _ in sources] != paths_of(graph):
        return False
    return tuple([step[0] for step in steps]) == build_order(graph)


def is_graph(graph):
    """Whether a tuple of actions is in the form that `make_graph` gives."""
    try:
        made = make_graph([target_from(action) for action in graph])
    except GraphProblem:
        return False
    return made == graph


def target_from(action):
    """Return a target that an action can be made from."""
    label, tool, args, _ = action
    return (label, tool, args, named_inputs(action, "source"), named_inputs(action, "target"))


def key_from(action, names):
    """Return the key of an action, given the names of its inputs; None if one of them has none."""
    _, tool, args, inputs = action
    found = tuple([names[part] for part in inputs])
    return None if None in found else (tool, args, found)


def made_text(claim):
    """Return the text that a claim made, or None if it is the claim of no text."""
    try:
        kind, told = read_claim(claim)
    except BadMessage:
        return None
    return told if kind == "made" else None


def replay_record(record, store):
    """Run the tools of a record again; return triples (label, claim, whether it is the same)."""
    graph, steps = record[1], record[3]
    texts = source_texts(record, store)
    results = {}
    rows = []
    for step in steps:
        label, claim = step[0], step[2]
        results[label] = result_of(action_of(graph, label), texts, results)
        replayed = claim_text(results[label])
        rows.append((label, replayed, replayed == claim))
    return tuple(rows)


def source_texts(record, store):
    """Return a dict from the paths that the steps of a record read to their texts."""
    _, graph, sources, steps = record
    texts = {}
    for step in steps:
        for path in named_inputs(action_of(graph, step[0]), "source"):
            name = name_at(sources, path)
            # A path without a name is no lost text: the action fails for want of a file.
            if name is not None:
                texts[path] = store.text(name)
    return texts
