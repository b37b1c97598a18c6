"""Builds on demand: what is made, and what is to be made next."""

from truemill.errors import BuildProblem, GraphProblem
from truemill.graph import action_of, build_order, closure


class Build:
    """Knows a graph, a tree of sources, and the results of all keys that it was told."""

    def __init__(self, graph, tree):
        self._graph = graph
        self._tree = tree
        # From keys to results.
        self._memory = {}
        # From labels to (state, key), or None as long as nobody asked since the last change.
        self._states = None

    def change(self, graph, tree):
        """Take another graph and another tree; the memory stays."""
        self._graph = graph
        self._tree = tree
        self._states = None

    def status(self, label):
        """Return the state of a target."""
        return self._look(label)[0]

    def key_of(self, label):
        """Return the key of a target, or None if it has none yet."""
        return self._look(label)[1]

    def tell(self, key, result):
        """Remember the result of a key; return whether it is new."""
        if key not in self._memory:
            self._memory[key] = result
            self._states = None
            return True
        if self._memory[key] != result:
            raise BuildProblem(key)
        return False

    def recall(self, key):
        """Return the result of a key, or None."""
        return self._memory.get(key)

    def forget(self, key):
        """Forget the result of a key; return whether there was one."""
        self._states = None
        return self._memory.pop(key, None) is not None

    def orders(self, labels):
        """Return the keys of all targets that are ready among some labels and what they need."""
        keys = {}
        for label in build_order(closure(self._graph, labels)):
            state, key = self._look(label)
            if state[0] == "ready":
                keys[key] = True
        return tuple(keys)

    def _look(self, label):
        """Return the state and the key of a target."""
        if self._states is None:
            self._states = self._all_states()
        if label not in self._states:
            raise GraphProblem(label, "unknown")
        return self._states[label]

    def _all_states(self):
        """Return a dict from all labels to their states and keys."""
        # From inputs to their names: all sources that are there, and the needs that are made.
        names = {("source", path): name for path, name in self._tree}
        states = {}
        for label in build_order(self._graph):
            action = action_of(self._graph, label)
            states[label] = self._state_of(action, names, states)
            state, told = states[label][0]
            if state == "made":
                names[("target", label)] = told
        return states

    def _state_of(self, action, names, states):
        """Return the state and the key of an action, given those of its needs."""
        _, tool, args, inputs = action
        # Sources stand before needs, so the first input without a name decides.
        for part in inputs:
            if part not in names:
                return (missing_state(part, states), None)
        key = (tool, args, tuple([names[part] for part in inputs]))
        if key in self._memory:
            return (self._memory[key], key)
        return (("ready", key), key)


def missing_state(part, states):
    """Return the state of an action whose first input without a name is this one."""
    kind, name = part
    if kind == "source":
        return ("failed", "no file " + name)
    if states[name][0][0] == "failed":
        return ("failed", "needs " + name)
    return ("waiting", None)
