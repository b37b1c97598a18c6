"""Points 9 to 11: changes."""

import random
import unittest

from truemill.changes import (
    apply_changes, compose_changes, difference, merge_changes, reverse_changes,
)
from truemill.errors import Conflict
from truemill.trees import make_tree

OLD = (("a", 1), ("b/c", 2), ("b/d", 3), ("e", 4))
NEW = (("a", 1), ("b/c", 5), ("e/f", 4), ("g", 3))
CHANGES = (("b/c", 2, 5), ("b/d", 3, None), ("e", 4, None), ("e/f", None, 4), ("g", None, 3))


def random_tree(choice):
    """Return a tree of a few entries, whose paths often meet those of another such tree."""
    entries = []
    taken = []
    for _ in range(choice(range(7))):
        path = "/".join(choice(["a", "b", "a.b"]) for _ in range(choice([1, 2, 3])))
        if not any(path == other or path.startswith(other + "/") or other.startswith(path + "/")
                   for other in taken):
            taken.append(path)
            entries.append((path, choice([1, 2, 3])))
    return make_tree(entries)


class ConflictCase(unittest.TestCase):
    def conflict(self, function, *values):
        with self.assertRaises(Conflict) as caught:
            function(*values)
        return caught.exception.path


class DifferenceTests(unittest.TestCase):
    def test_added_removed_and_renamed(self):
        self.assertEqual(difference(OLD, NEW), CHANGES)

    def test_one_of_each(self):
        self.assertEqual(difference((), (("a", 1),)), (("a", None, 1),))
        self.assertEqual(difference((("a", 1),), ()), (("a", 1, None),))
        self.assertEqual(difference((("a", 1),), (("a", 2),)), (("a", 1, 2),))

    def test_equal_trees(self):
        self.assertEqual(difference(OLD, OLD), ())
        self.assertEqual(difference((), ()), ())

    def test_ascending_by_the_characters_of_the_path(self):
        new = make_tree([("b", 1), ("a/b", 1), ("a-b", 1), ("a.b", 1), ("ab", 1)])
        paths = [path for path, _, _ in difference((), new)]
        self.assertEqual(paths, ["a-b", "a.b", "a/b", "ab", "b"])
        old = (("a/x", 1), ("c", 2))
        paths = [path for path, _, _ in difference(old, new)]
        self.assertEqual(paths, ["a-b", "a.b", "a/b", "a/x", "ab", "b", "c"])

    def test_is_a_tuple_of_tuples(self):
        changes = difference(OLD, NEW)
        self.assertIs(type(changes), tuple)
        self.assertEqual({type(change) for change in changes}, {tuple})


class ApplyTests(ConflictCase):
    def test_a_difference_and_its_reverse(self):
        self.assertEqual(apply_changes(OLD, CHANGES), NEW)
        self.assertEqual(apply_changes(NEW, reverse_changes(CHANGES)), OLD)

    def test_no_changes(self):
        self.assertEqual(apply_changes(OLD, ()), OLD)
        self.assertEqual(apply_changes((), ()), ())

    def test_the_result_ascends(self):
        changes = (("a/b", None, 1), ("a0", None, 2))
        tree = (("a-b", 3), ("a.b", 4), ("b", 5))
        self.assertEqual(apply_changes(tree, changes),
                         (("a-b", 3), ("a.b", 4), ("a/b", 1), ("a0", 2), ("b", 5)))

    def test_a_name_that_is_not_the_one_before(self):
        tree = (("a", 1),)
        self.assertEqual(self.conflict(apply_changes, tree, (("a", 2, 3),)), "a")
        self.assertEqual(self.conflict(apply_changes, tree, (("a", 2, None),)), "a")
        self.assertEqual(self.conflict(apply_changes, tree, (("a", None, 1),)), "a")
        self.assertEqual(self.conflict(apply_changes, tree, (("b", 1, 2),)), "b")
        self.assertEqual(self.conflict(apply_changes, tree, (("b", 1, None),)), "b")

    def test_a_folder_has_no_name(self):
        self.assertEqual(self.conflict(apply_changes, (("a/b", 1),), (("a", 1, None),)), "a")

    def test_a_path_that_lies_in_another_one_of_the_result(self):
        self.assertEqual(self.conflict(apply_changes, (("a", 1),), (("a/b", None, 2),)), "a/b")
        self.assertEqual(self.conflict(apply_changes, (("a", 1),), (("a/b/c/d", None, 2),)), "a/b/c/d")

    def test_a_path_that_contains_another_one_of_the_result(self):
        self.assertEqual(self.conflict(apply_changes, (("a/b", 1),), (("a", None, 2),)), "a")
        self.assertEqual(self.conflict(apply_changes, (("a/b/c/d", 1),), (("a", None, 2),)), "a")

    def test_two_paths_of_the_changes_that_collide(self):
        self.assertEqual(self.conflict(apply_changes, (), (("a", None, 1), ("a/b", None, 2))), "a")
        tree = (("a", 1),)
        self.assertEqual(self.conflict(apply_changes, tree, (("a", 1, 2), ("a/b", None, 2))), "a")
        self.assertEqual(self.conflict(apply_changes, (), (("b-c", None, 1), ("b/c/d", None, 1), ("b/c", None, 2))),
                         "b/c/d")

    def test_what_the_changes_remove_does_not_collide(self):
        self.assertEqual(apply_changes((("a", 1),), (("a", 1, None), ("a/b", None, 2))), (("a/b", 2),))
        self.assertEqual(apply_changes((("a/b", 1),), (("a", None, 2), ("a/b", 1, None))), (("a", 2),))

    def test_beginnings_of_segments_do_not_collide(self):
        self.assertEqual(apply_changes((("a", 1),), (("ab", None, 2),)), (("a", 1), ("ab", 2)))

    def test_names_come_before_collisions(self):
        changes = (("a/b", None, 2), ("c", 7, 8))
        self.assertEqual(self.conflict(apply_changes, (("a", 1), ("c", 1)), changes), "c")

    def test_the_first_conflict_in_the_order_of_the_changes(self):
        tree = (("a", 1), ("b", 1), ("c", 1))
        changes = (("a", 1, 2), ("b", 2, 3), ("c", 2, 3))
        self.assertEqual(self.conflict(apply_changes, tree, changes), "b")
        changes = (("b/x", None, 3), ("c/x", None, 3))
        self.assertEqual(self.conflict(apply_changes, tree, changes), "b/x")

    def test_only_paths_that_get_a_name_are_named(self):
        tree = (("a/b", 1), ("a/c", 2))
        self.assertEqual(self.conflict(apply_changes, tree, (("a/b", 1, None), ("a/c/d", None, 2))), "a/c/d")

    def test_random_trees(self):
        choice = random.Random(3).choice
        for _ in range(1000):
            old = random_tree(choice)
            new = random_tree(choice)
            changes = difference(old, new)
            self.assertEqual(apply_changes(old, changes), new)
            self.assertEqual(apply_changes(new, reverse_changes(changes)), old)
            self.assertEqual(changes, tuple(sorted(changes, key=lambda change: change[0])))
            self.assertTrue(all(before != after for _, before, after in changes))

    def test_random_changes_of_other_trees(self):
        choice = random.Random(4).choice
        for _ in range(1000):
            tree = random_tree(choice)
            changes = difference(random_tree(choice), random_tree(choice))
            names = dict(tree)
            bad = [path for path, before, _ in changes if names.get(path) != before]
            names.update({path: after for path, _, after in changes})
            left = [path for path in names if names[path] is not None]
            bad = bad or [path for path, _, after in changes if after is not None and any(
                path.startswith(other + "/") or other.startswith(path + "/") for other in left)]
            if bad:
                self.assertEqual(self.conflict(apply_changes, tree, changes), bad[0])
            else:
                wanted = sorted((path, names[path]) for path in left)
                self.assertEqual(apply_changes(tree, changes), tuple(wanted))


class ReverseTests(unittest.TestCase):
    def test_swaps(self):
        self.assertEqual(reverse_changes((("a", 1, 2), ("b", None, 3), ("c", 4, None))),
                         (("a", 2, 1), ("b", 3, None), ("c", None, 4)))
        self.assertEqual(reverse_changes(()), ())

    def test_twice(self):
        self.assertEqual(reverse_changes(reverse_changes(CHANGES)), CHANGES)


class ComposeTests(ConflictCase):
    def test_a_path_in_one_of_them(self):
        self.assertEqual(compose_changes((("b", 1, 2),), (("a", 3, 4), ("c", None, 5))),
                         (("a", 3, 4), ("b", 1, 2), ("c", None, 5)))

    def test_a_path_in_both(self):
        self.assertEqual(compose_changes((("a", 1, 2),), (("a", 2, 3),)), (("a", 1, 3),))
        self.assertEqual(compose_changes((("a", None, 2),), (("a", 2, 3),)), (("a", None, 3),))
        self.assertEqual(compose_changes((("a", 1, None),), (("a", None, 3),)), (("a", 1, 3),))

    def test_a_path_in_both_with_nothing_left(self):
        self.assertEqual(compose_changes((("a", 1, 2),), (("a", 2, 1),)), ())
        self.assertEqual(compose_changes((("a", None, 2), ("b", 1, 2)), (("a", 2, None),)), (("b", 1, 2),))
        self.assertEqual(compose_changes(CHANGES, reverse_changes(CHANGES)), ())

    def test_empty_changes(self):
        self.assertEqual(compose_changes((), ()), ())
        self.assertEqual(compose_changes(CHANGES, ()), CHANGES)
        self.assertEqual(compose_changes((), CHANGES), CHANGES)

    def test_conflicts(self):
        self.assertEqual(self.conflict(compose_changes, (("a", 1, 2),), (("a", 3, 4),)), "a")
        self.assertEqual(self.conflict(compose_changes, (("a", 1, 2),), (("a", None, 4),)), "a")
        self.assertEqual(self.conflict(compose_changes, (("a", 1, None),), (("a", 1, 4),)), "a")
        self.assertEqual(self.conflict(compose_changes, (("a", 1, 2),), (("a", 1, 2),)), "a")

    def test_the_first_conflict(self):
        first = (("a", 1, 2), ("b", 1, 2), ("c", 1, 2))
        second = (("a", 2, 1), ("b", 1, 2), ("c", 1, 2))
        self.assertEqual(self.conflict(compose_changes, first, second), "b")

    def test_random_trees(self):
        choice = random.Random(6).choice
        for _ in range(1000):
            one, two, three = [random_tree(choice) for _ in range(3)]
            both = compose_changes(difference(one, two), difference(two, three))
            self.assertEqual(both, difference(one, three))


class MergeTests(ConflictCase):
    def test_paths_in_one_of_them(self):
        self.assertEqual(merge_changes((("b", 1, 2),), (("a", 3, 4), ("c", None, 5))),
                         (("a", 3, 4), ("b", 1, 2), ("c", None, 5)))

    def test_equal_triples_once(self):
        self.assertEqual(merge_changes((("a", 1, 2), ("b", 1, 2)), (("a", 1, 2),)),
                         (("a", 1, 2), ("b", 1, 2)))
        self.assertEqual(merge_changes(CHANGES, CHANGES), CHANGES)

    def test_empty_changes(self):
        self.assertEqual(merge_changes((), ()), ())
        self.assertEqual(merge_changes(CHANGES, ()), CHANGES)
        self.assertEqual(merge_changes((), CHANGES), CHANGES)

    def test_conflicts(self):
        self.assertEqual(self.conflict(merge_changes, (("a", 1, 2),), (("a", 1, 3),)), "a")
        self.assertEqual(self.conflict(merge_changes, (("a", 1, 2),), (("a", 3, 2),)), "a")
        self.assertEqual(self.conflict(merge_changes, (("a", 1, 2),), (("a", 2, 1),)), "a")
        self.assertEqual(self.conflict(merge_changes, (("a", 1, 2),), (("a", 1, None),)), "a")

    def test_the_first_conflict(self):
        first = (("a", 1, 2), ("b", 1, 2), ("c", 1, 2))
        second = (("a", 1, 2), ("b", 1, 3), ("c", 1, 3))
        self.assertEqual(self.conflict(merge_changes, first, second), "b")


class ArgumentTests(ConflictCase):
    def test_arguments_stay_as_they_were(self):
        first = [("a", 1, 2), ("b", 1, 2)]
        second = [("a", 2, 3), ("c", 1, 2)]
        tree = [("a", 1), ("b", 1)]
        self.assertEqual(compose_changes(first, second), (("a", 1, 3), ("b", 1, 2), ("c", 1, 2)))
        self.assertEqual(self.conflict(merge_changes, first, second), "a")
        self.assertEqual(apply_changes(tree, first), (("a", 2), ("b", 2)))
        self.assertEqual(self.conflict(apply_changes, tree, second), "a")
        self.assertEqual(difference(tree, [("a", 1)]), (("b", 1, None),))
        self.assertEqual(first, [("a", 1, 2), ("b", 1, 2)])
        self.assertEqual(second, [("a", 2, 3), ("c", 1, 2)])
        self.assertEqual(tree, [("a", 1), ("b", 1)])


if __name__ == "__main__":
    unittest.main()
