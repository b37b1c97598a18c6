"""Points 6 to 8: trees."""

import random
import unittest

from truemill.errors import BadTree
from truemill.paths import is_path
from truemill.trees import make_tree, members, moved_into, name_at, overlay, subtree

TREE = (("a-b", 1), ("a/b/c", 2), ("a/b/d", 3), ("a/e", 4), ("ab/f", 5), ("g", 6))


def in_conflict(path, other):
    """Whether two paths cannot stand in one tree, by their segments."""
    shorter, longer = sorted([path.split("/"), other.split("/")], key=len)
    return longer[:len(shorter)] == shorter


class MakeTreeTests(unittest.TestCase):
    def bad_path(self, entries):
        with self.assertRaises(BadTree) as caught:
            make_tree(entries)
        return caught.exception.path

    def test_the_empty_tree(self):
        self.assertEqual(make_tree([]), ())

    def test_any_order(self):
        for seed in range(20):
            entries = list(TREE)
            random.Random(seed).shuffle(entries)
            self.assertEqual(make_tree(entries), TREE)

    def test_the_order_is_that_of_the_characters(self):
        entries = [("b", 1), ("ab", 2), ("a/b", 3), ("a.b", 4), ("a-b", 5), ("a0", 6), ("a_", 7)]
        paths = [path for path, _ in make_tree(entries)]
        self.assertEqual(paths, ["a-b", "a.b", "a/b", "a0", "a_", "ab", "b"])

    def test_the_result_is_a_tuple_of_pairs(self):
        tree = make_tree([("b", 2), ("a", 1)])
        self.assertEqual(tree, (("a", 1), ("b", 2)))
        self.assertIs(type(tree), tuple)

    def test_one_name_at_several_paths(self):
        self.assertEqual(make_tree([("b", 7), ("a", 7)]), (("a", 7), ("b", 7)))

    def test_a_path_that_equals_an_earlier_one(self):
        self.assertEqual(self.bad_path([("a", 1), ("b", 2), ("a", 1)]), "a")
        self.assertEqual(self.bad_path([("a/b", 1), ("a/b", 2)]), "a/b")

    def test_a_path_that_lies_in_an_earlier_one(self):
        self.assertEqual(self.bad_path([("a", 1), ("a/b", 2)]), "a/b")
        self.assertEqual(self.bad_path([("x", 1), ("a/b", 1), ("y", 2), ("a/b/c/d", 2)]), "a/b/c/d")

    def test_a_path_that_contains_an_earlier_one(self):
        self.assertEqual(self.bad_path([("a/b", 1), ("a", 2)]), "a")
        self.assertEqual(self.bad_path([("a/b/c/d", 1), ("b", 2), ("a/b", 2)]), "a/b")

    def test_the_first_collision_in_the_order_of_the_list(self):
        self.assertEqual(self.bad_path([("c", 1), ("b", 1), ("c/d", 1), ("b", 1), ("a", 1), ("a", 1)]), "c/d")
        self.assertEqual(self.bad_path([("z", 1), ("a", 1), ("z", 1), ("a", 1)]), "z")

    def test_beginnings_of_segments_do_not_collide(self):
        entries = [("a", 1), ("ab", 2), ("a.b/c", 3), ("a-b/c", 4), ("ab.c", 5)]
        self.assertEqual(make_tree(entries), tuple(sorted(entries)))

    def test_the_list_stays_as_it_was(self):
        entries = [("b", 1), ("a", 2)]
        make_tree(entries)
        self.assertEqual(entries, [("b", 1), ("a", 2)])
        entries = [("b", 1), ("a", 2), ("b", 3)]
        self.bad_path(entries)
        self.assertEqual(entries, [("b", 1), ("a", 2), ("b", 3)])

    def test_many_entries(self):
        entries = [(f"d{number % 7}/e{number % 5}/f{number}", 60 - number) for number in range(60)]
        self.assertEqual(make_tree(entries), tuple(sorted(entries)))
        self.assertEqual(self.bad_path(entries + [("d3/e2", 1), ("d0/e0/f0", 1)]), "d3/e2")

    def test_random_entries(self):
        choice = random.Random(1).choice
        for _ in range(500):
            entries = []
            for number in range(choice(range(8))):
                entries.append(("/".join(choice(["a", "b", "a.b", "c"]) for _ in range(choice([1, 2, 3]))), number))
            bad = [path for at, (path, _) in enumerate(entries)
                   if any(in_conflict(path, other) for other, _ in entries[:at])]
            if bad:
                self.assertEqual(self.bad_path(entries), bad[0])
            else:
                self.assertEqual(make_tree(entries), tuple(sorted(entries)))


class NameAtTests(unittest.TestCase):
    def test_names_that_are_there(self):
        for path, name in TREE:
            self.assertEqual(name_at(TREE, path), name)

    def test_paths_that_are_not_there(self):
        for path in ("a", "a/b", "b", "g/h", "a/b/c/d", "ab", "f"):
            self.assertIsNone(name_at(TREE, path))
        self.assertIsNone(name_at((), "a"))


class MembersTests(unittest.TestCase):
    def test_of_the_empty_folder(self):
        found = (("a", "folder"), ("a-b", "text"), ("ab", "folder"), ("g", "text"))
        self.assertEqual(members(TREE, ""), found)
        self.assertEqual(members((), ""), ())

    def test_of_a_folder(self):
        self.assertEqual(members(TREE, "a"), (("b", "folder"), ("e", "text")))
        self.assertEqual(members(TREE, "a/b"), (("c", "text"), ("d", "text")))
        self.assertEqual(members(TREE, "ab"), (("f", "text"),))

    def test_of_a_path_of_the_tree(self):
        self.assertEqual(members(TREE, "g"), ())
        self.assertEqual(members(TREE, "a/b/c"), ())

    def test_of_what_is_not_there(self):
        self.assertEqual(members(TREE, "x"), ())
        self.assertEqual(members(TREE, "a/b/x"), ())
        self.assertEqual(members(TREE, "a/b/c/d"), ())

    def test_ascending_by_segment_not_by_path(self):
        tree = make_tree([("x/a.b", 1), ("x/a/b", 2), ("x/a-b", 3), ("x/a0", 4)])
        found = (("a", "folder"), ("a-b", "text"), ("a.b", "text"), ("a0", "text"))
        self.assertEqual(members(tree, "x"), found)

    def test_each_once(self):
        tree = make_tree([(f"a/b/{number}", 1) for number in range(60)])
        self.assertEqual(members(tree, ""), (("a", "folder"),))
        self.assertEqual(members(tree, "a"), (("b", "folder"),))
        self.assertEqual(len(members(tree, "a/b")), 60)


class SubtreeTests(unittest.TestCase):
    def test_of_the_empty_folder(self):
        self.assertEqual(subtree(TREE, ""), TREE)

    def test_of_a_folder(self):
        self.assertEqual(subtree(TREE, "a"), (("b/c", 2), ("b/d", 3), ("e", 4)))
        self.assertEqual(subtree(TREE, "a/b"), (("c", 2), ("d", 3)))

    def test_of_what_is_no_folder(self):
        self.assertEqual(subtree(TREE, "g"), ())
        self.assertEqual(subtree(TREE, "x"), ())
        self.assertEqual(subtree(TREE, "a/b/c"), ())

    def test_is_a_tuple(self):
        self.assertIs(type(subtree(TREE, "a")), tuple)


class MovedIntoTests(unittest.TestCase):
    def bad_path(self, folder, tree):
        with self.assertRaises(BadTree) as caught:
            moved_into(folder, tree)
        return caught.exception.path

    def test_the_empty_folder_changes_nothing(self):
        self.assertEqual(moved_into("", TREE), TREE)
        deep = (("a/b/c/d/e", 1),)
        self.assertEqual(moved_into("", deep), deep)

    def test_a_folder(self):
        moved = moved_into("x/y", TREE)
        self.assertEqual(moved, tuple(("x/y/" + path, name) for path, name in TREE))
        self.assertEqual(subtree(moved, "x/y"), TREE)
        self.assertIs(type(moved), tuple)

    def test_the_empty_tree(self):
        self.assertEqual(moved_into("a/b/c/d/e", ()), ())

    def test_the_first_new_path_that_is_no_path(self):
        tree = (("a", 1), ("b/c/d", 2), ("e/f", 3), ("g/h/i", 4))
        self.assertEqual(moved_into("x/y", tree)[1], ("x/y/b/c/d", 2))
        self.assertEqual(self.bad_path("x/y/z", tree), "x/y/z/b/c/d")
        self.assertEqual(self.bad_path("x/y/z/v", tree), "x/y/z/v/b/c/d")
        self.assertEqual(self.bad_path("x/y/z/v/w", tree), "x/y/z/v/w/a")
        self.assertEqual(self.bad_path("x", (("a/b/c/d/e", 1),)), "x/a/b/c/d/e")


class OverlayTests(unittest.TestCase):
    def test_entries_side_by_side(self):
        self.assertEqual(overlay((("b", 1), ("d", 2)), (("a", 3), ("c", 4))),
                         (("a", 3), ("b", 1), ("c", 4), ("d", 2)))

    def test_a_path_that_equals_one_of_the_tree(self):
        self.assertEqual(overlay((("a", 1), ("b", 2)), (("a", 3),)), (("a", 3), ("b", 2)))

    def test_a_path_that_lies_in_one_of_the_tree(self):
        self.assertEqual(overlay((("a", 1), ("b", 2)), (("a/c/d", 3),)), (("a/c/d", 3), ("b", 2)))

    def test_a_path_that_contains_some_of_the_tree(self):
        self.assertEqual(overlay(TREE, (("a", 9),)), (("a", 9), ("a-b", 1), ("ab/f", 5), ("g", 6)))

    def test_empty_trees(self):
        self.assertEqual(overlay((), TREE), TREE)
        self.assertEqual(overlay(TREE, ()), TREE)
        self.assertEqual(overlay((), ()), ())

    def test_random_trees(self):
        choice = random.Random(2).choice
        for _ in range(500):
            trees = []
            for _ in range(2):
                entries = []
                for number in range(choice(range(8))):
                    path = "/".join(choice(["a", "b", "a.b", "c"]) for _ in range(choice([1, 2, 3])))
                    if not any(in_conflict(path, other) for other, _ in entries):
                        entries.append((path, choice(range(1, 9))))
                trees.append(make_tree(entries))
            tree, upper = trees
            wanted = [entry for entry in tree
                      if not any(in_conflict(entry[0], path) for path, _ in upper)]
            self.assertEqual(overlay(tree, upper), tuple(sorted(wanted + list(upper))))
            self.assertTrue(all(is_path(path) for path, _ in overlay(tree, upper)))


if __name__ == "__main__":
    unittest.main()
