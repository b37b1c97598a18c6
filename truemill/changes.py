"""Changes between trees: tuples of triples (path, before, after) that ascend by path."""

from truemill.errors import Conflict
from truemill.paths import lies_in


def difference(old, new):
    """Return the changes that make the tree `new` of the tree `old`."""
    before = {path: name for path, name in old}
    after = {path: name for path, name in new}
    changes = []
    for path in sorted({**before, **after}):
        if before.get(path) != after.get(path):
            changes.append((path, before.get(path), after.get(path)))
    return tuple(changes)


def apply_changes(tree, changes):
    """Return the tree with the changes made."""
    names = {path: name for path, name in tree}
    for path, before, _ in changes:
        if names.get(path) != before:
            raise Conflict(path)
    for path, _, after in changes:
        if after is None:
            names.pop(path, None)
        else:
            names[path] = after
    # The paths that stay cannot collide with each other: only those with a new name can.
    for path, _, after in changes:
        if after is not None and is_crossed(path, names):
            raise Conflict(path)
    return tuple(sorted(names.items()))


def is_crossed(path, names):
    """Whether a path lies in a path of the dict, or contains one."""
    return any([lies_in(path, other) or lies_in(other, path) for other in names])


def reverse_changes(changes):
    """Return the changes that undo the changes."""
    return tuple([(path, after, before) for path, before, after in changes])


def compose_changes(first, second):
    """Return the changes with the effect of both, one after the other."""
    earlier = by_path(first)
    later = by_path(second)
    composed = []
    for path in sorted({**earlier, **later}):
        if path not in later:
            composed.append(earlier[path])
        elif path not in earlier:
            composed.append(later[path])
        else:
            _, before, between = earlier[path]
            _, start, after = later[path]
            if between != start:
                raise Conflict(path)
            if before != after:
                composed.append((path, before, after))
    return tuple(composed)


def merge_changes(first, second):
    """Return the changes with the effect of both, made side by side."""
    left = by_path(first)
    right = by_path(second)
    merged = []
    for path in sorted({**left, **right}):
        if path in left and path in right and left[path] != right[path]:
            raise Conflict(path)
        merged.append(left[path] if path in left else right[path])
    return tuple(merged)


def by_path(changes):
    """Return a dict from the paths of changes to their triples."""
    return {change[0]: change for change in changes}
