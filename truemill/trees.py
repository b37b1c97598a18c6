"""Trees: names at paths, as tuples of pairs that ascend by path."""

from truemill.errors import BadTree
from truemill.paths import collide, is_path, lies_in, put_behind, rest_behind


def make_tree(entries):
    """Return the tree of a list of pairs (path, name) in any order."""
    earlier = []
    for path, _ in entries:
        if collides(path, earlier):
            raise BadTree(path)
        earlier.append(path)
    return sorted_tree(entries)


def collides(path, others):
    """Whether a path cannot stand in one tree with all of a list of paths."""
    return any([collide(path, other) for other in others])


def sorted_tree(entries):
    """Return the tree of a list of pairs that are known to make one."""
    return tuple(sorted(entries, key=lambda entry: entry[0]))


def name_at(tree, path):
    """Return the name at a path of a tree, or None."""
    for known, name in tree:
        if known == path:
            return name
    return None


def members(tree, folder):
    """Return the pairs (segment, kind) of what a folder of a tree contains."""
    kinds = {}
    for path, _ in subtree(tree, folder):
        segment, slash, _ = path.partition("/")
        kinds[segment] = "text" if slash == "" else "folder"
    return tuple(sorted(kinds.items()))


def subtree(tree, folder):
    """Return the tree of the entries that lie in a folder, with their paths behind it."""
    inside = [(path, name) for path, name in tree if lies_in(path, folder)]
    return tuple([(rest_behind(folder, path), name) for path, name in inside])


def moved_into(folder, tree):
    """Return the tree with a folder in front of every path."""
    # What is put in front is the same for all paths, so their order stays.
    moved = tuple([(put_behind(folder, path), name) for path, name in tree])
    for path, _ in moved:
        if not is_path(path):
            raise BadTree(path)
    return moved


def overlay(tree, upper):
    """Return the tree with all of `upper` and what of `tree` does not collide with it."""
    covers = [path for path, _ in upper]
    left = [(path, name) for path, name in tree if not collides(path, covers)]
    return sorted_tree(left + list(upper))
