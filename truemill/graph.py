"""Graphs: tuples of actions (label, tool, args, inputs) that ascend by label."""

from heapq import heappop, heappush

from truemill.errors import GraphProblem

MOST_ACTIONS = 60


def make_graph(targets):
    """Return the graph of a list of targets (label, tool, args, sources, needs)."""
    labels = sorted([target[0] for target in targets])
    for before, label in zip(labels, labels[1:]):
        if before == label:
            raise GraphProblem(label, "duplicate")
    needs = {target[0]: target[4] for target in targets}
    for label in labels:
        if any([need not in needs for need in needs[label]]):
            raise GraphProblem(label, "unknown")
    looped = least_in_cycle(needs)
    if looped is not None:
        raise GraphProblem(looped, "cycle")
    if len(labels) > MOST_ACTIONS:
        raise GraphProblem(labels[0], "size")
    return tuple(sorted([action_from(target) for target in targets], key=lambda action: action[0]))


def action_from(target):
    """Return the action that makes a target."""
    label, tool, args, sources, needs = target
    inputs = [("source", path) for path in sources] + [("target", need) for need in needs]
    return (label, tool, args, tuple(inputs))


def least_in_cycle(needs):
    """Return the least label from which needs lead back to it, or None."""
    placed = {label: True for label in ordered(needs)}
    for label in sorted(needs):
        # What is left may also just lead into a cycle.
        if label not in placed and label in reached(needs, needs[label]):
            return label
    return None


def ordered(needs):
    """Return the labels of a dict from labels to their needs, each after all its needs.

    The least label that is possible comes next. What leads into a cycle is left out.
    """
    waiting = turned_round(needs)
    missing = {label: len(needs[label]) for label in needs}
    # A list that ascends is a heap already.
    possible = sorted([label for label in needs if missing[label] == 0])
    order = []
    while possible:
        label = heappop(possible)
        order.append(label)
        for user in waiting[label]:
            missing[user] -= 1
            if missing[user] == 0:
                heappush(possible, user)
    return order


def turned_round(links):
    """Return a dict from labels to the labels that link to them, each as often as it does."""
    turned = {label: [] for label in links}
    for label in links:
        for other in links[label]:
            turned.setdefault(other, []).append(label)
    return turned


def reached(links, labels):
    """Return a dict of the labels in a list and all that links lead to from them."""
    found = {}
    left = list(labels)
    while left:
        label = left.pop()
        if label not in found:
            found[label] = True
            left.extend(links.get(label, ()))
    return found


def needs_of(graph):
    """Return a dict from the labels of a graph to their needs."""
    return {action[0]: named_inputs(action, "target") for action in graph}


def named_inputs(action, kind):
    """Return the labels or the paths of the inputs of an action that are of a kind."""
    return [name for own_kind, name in action[3] if own_kind == kind]


def action_of(graph, label):
    """Return the action with a label, or None."""
    for action in graph:
        if action[0] == label:
            return action
    return None


def build_order(graph):
    """Return all labels of a graph, each after all its needs, the least possible one first."""
    return tuple(ordered(needs_of(graph)))


def closure(graph, labels):
    """Return the graph of all actions that a list of labels names or needs."""
    found = reached(needs_of(graph), labels)
    return tuple([action for action in graph if action[0] in found])


def users(graph, labels):
    """Return the labels of all actions that a list of labels names, or that need one of them."""
    found = reached(turned_round(needs_of(graph)), labels)
    return tuple([action[0] for action in graph if action[0] in found])


def affected(graph, paths):
    """Return the labels of all actions that one of the paths is a source of, or of their needs."""
    readers = [action[0] for action in graph if reads(action, paths)]
    return users(graph, readers)


def reads(action, paths):
    """Whether an action has one of the paths as a source."""
    return any([path in paths for path in named_inputs(action, "source")])
