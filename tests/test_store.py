"""Points 12 to 15: the store."""

import random
import unittest

from truemill.errors import BadText, BadTree, Missing, NotPinned, StoreFull
from truemill.store import Store, text_fault

ALLOWED = ["\n"] + [chr(code) for code in range(32, 127) if code != 37]
NOT_ALLOWED = [chr(code) for code in (0, 9, 11, 13, 31, 37, 127, 128, 160, 233, 0x20ac, 0x1f600)]


def held(store, texts=()):
    """Return what a store tells about itself and the given texts."""
    names = store.names()
    return (names, [store.text(name) for name in names], [store.pins(name) for name in range(1, 20)],
            [store.name_of(text) for text in texts])


class StoreCase(unittest.TestCase):
    def bad_text(self, function, *values):
        with self.assertRaises(BadText) as caught:
            function(*values)
        return caught.exception.reason

    def missing(self, function, *values):
        with self.assertRaises(Missing) as caught:
            function(*values)
        return caught.exception.name


class TextFaultTests(unittest.TestCase):
    def test_lengths(self):
        self.assertIsNone(text_fault(""))
        self.assertIsNone(text_fault("a" * 2000))
        self.assertEqual(text_fault("a" * 2001), "too long")

    def test_characters(self):
        self.assertIsNone(text_fault("".join(ALLOWED)))
        for sign in ALLOWED:
            self.assertIsNone(text_fault(sign), sign)
        for sign in NOT_ALLOWED:
            for text in (sign, "a" + sign, sign + "a", "a" * 1999 + sign):
                self.assertEqual(text_fault(text), "bad character", repr(sign))

    def test_too_long_comes_first(self):
        self.assertEqual(text_fault("\t" * 2001), "too long")
        self.assertEqual(text_fault("\t" * 2000), "bad character")


class PutTests(StoreCase):
    def test_names_from_one_on(self):
        store = Store(500)
        self.assertEqual([store.put(text) for text in ("b", "a", "", "c\n")], [1, 2, 3, 4])
        self.assertEqual([store.text(name) for name in (1, 2, 3, 4)], ["b", "a", "", "c\n"])

    def test_a_text_that_is_put_twice(self):
        store = Store(5)
        self.assertEqual([store.put(text) for text in ("a", "b", "a", "b", "c")], [1, 2, 1, 2, 3])
        self.assertEqual(store.names(), (1, 2, 3))

    def test_put_again_after_lose(self):
        store = Store(5)
        store.put("a")
        store.put("b")
        store.lose(1)
        self.assertEqual(store.put("c"), 3)
        self.assertIs(store.has(1), False)
        self.assertEqual(store.put("a"), 1)
        self.assertEqual(store.text(1), "a")
        self.assertEqual(store.names(), (1, 2, 3))

    def test_put_again_after_sweep(self):
        store = Store(5)
        store.put("a")
        store.put("b")
        self.assertEqual(store.sweep([]), (1, 2))
        self.assertEqual(store.put("b"), 2)
        self.assertEqual(store.put("c"), 3)
        self.assertEqual(store.put("a"), 1)

    def test_bad_texts(self):
        store = Store(5)
        self.assertEqual(self.bad_text(store.put, "a" * 2001), "too long")
        self.assertEqual(self.bad_text(store.put, "100%"), "bad character")
        self.assertEqual(self.bad_text(store.put, "%" * 2001), "too long")
        self.assertEqual(store.put("a" * 2000), 1)
        self.assertIsNone(store.name_of("100%"))

    def test_the_capacity(self):
        for capacity in (1, 2, 500):
            store = Store(capacity)
            for number in range(capacity):
                self.assertEqual(store.put(f"text {number}"), number + 1)
            self.assertEqual(store.put("text 0"), 1)
            with self.assertRaises(StoreFull):
                store.put("more")
            self.assertIsNone(store.name_of("more"))
            self.assertEqual(len(store.names()), capacity)
            store.lose(1)
            self.assertEqual(store.put("more"), capacity + 1)
            with self.assertRaises(StoreFull):
                store.put("text 0")
            self.assertEqual(store.name_of("text 0"), 1)
            self.assertIs(store.has(1), False)

    def test_a_bad_text_comes_before_a_full_store(self):
        store = Store(1)
        store.put("a")
        self.assertEqual(self.bad_text(store.put, "\t"), "bad character")

    def test_the_store_remembers_99999_texts(self):
        store = Store(2)
        for number in range(1, 100000):
            self.assertEqual(store.put(str(number)), number)
            store.lose(number)
        with self.assertRaises(StoreFull):
            store.put("more")
        self.assertIsNone(store.name_of("more"))
        self.assertEqual(store.names(), ())
        self.assertEqual(store.put("99999"), 99999)
        with self.assertRaises(StoreFull):
            store.put_tree([("a", "more")])
        with self.assertRaises(StoreFull):
            store.put_tree([("a", "1"), ("b", "more")])
        self.assertEqual(store.names(), (99999,))
        self.assertEqual(store.put_tree([("a", "1"), ("b", "99999")]), (("a", 1), ("b", 99999)))

    def test_the_last_name_by_put_tree(self):
        store = Store(3)
        for number in range(1, 99999):
            store.put(str(number))
            store.lose(number)
        with self.assertRaises(StoreFull):
            store.put_tree([("a", "more"), ("b", "most")])
        self.assertEqual(store.put_tree([("a", "more"), ("b", "more"), ("c", "7")]),
                         (("a", 99999), ("b", 99999), ("c", 7)))


class AskTests(StoreCase):
    def test_text_of_a_name_that_is_not_here(self):
        store = Store(5)
        store.put("a")
        store.put("b")
        store.lose(1)
        for name in (0, 1, 3, -1, -2, 99999, 100000):
            self.assertEqual(self.missing(store.text, name), name)
            self.assertIs(store.has(name), False)
        self.assertEqual(store.text(2), "b")
        self.assertIs(store.has(2), True)

    def test_name_of(self):
        store = Store(5)
        self.assertIsNone(store.name_of("a"))
        store.put("a")
        self.assertEqual(store.name_of("a"), 1)
        store.lose(1)
        self.assertEqual(store.name_of("a"), 1)
        self.assertIsNone(store.name_of(""))
        self.assertIsNone(store.name_of("%"))

    def test_names_ascend(self):
        store = Store(20)
        for number in range(12):
            store.put(str(number))
        for name in (3, 1, 11):
            store.lose(name)
        store.put("2")
        store.put("0")
        self.assertEqual(store.names(), (1, 2, 3, 4, 5, 6, 7, 8, 9, 10, 12))
        self.assertIs(type(store.names()), tuple)
        self.assertEqual(Store(1).names(), ())


class PinTests(StoreCase):
    def test_pins_are_counted(self):
        store = Store(5)
        store.put("a")
        self.assertEqual(store.pins(1), 0)
        store.pin(1)
        store.pin(1)
        self.assertEqual(store.pins(1), 2)
        store.unpin(1)
        self.assertEqual(store.pins(1), 1)
        store.unpin(1)
        self.assertEqual(store.pins(1), 0)
        with self.assertRaises(NotPinned) as caught:
            store.unpin(1)
        self.assertEqual(caught.exception.name, 1)
        self.assertEqual(store.pins(1), 0)

    def test_names_that_never_were(self):
        store = Store(5)
        self.assertEqual(store.pins(1), 0)
        self.assertEqual(store.pins(0), 0)
        self.assertEqual(self.missing(store.pin, 1), 1)
        self.assertEqual(self.missing(store.lose, 1), 1)
        with self.assertRaises(NotPinned) as caught:
            store.unpin(4)
        self.assertEqual(caught.exception.name, 4)
        store.put("a")
        self.assertEqual(store.pins(1), 0)

    def test_lose(self):
        store = Store(5)
        store.put("a")
        store.put("b")
        self.assertIsNone(store.lose(1))
        self.assertEqual(store.names(), (2,))
        self.assertEqual(self.missing(store.lose, 1), 1)
        self.assertEqual(store.names(), (2,))

    def test_pins_of_lost_texts(self):
        store = Store(5)
        store.put("a")
        store.pin(1)
        store.pin(1)
        store.lose(1)
        self.assertEqual(store.pins(1), 2)
        self.assertEqual(self.missing(store.pin, 1), 1)
        self.assertEqual(store.pins(1), 2)
        store.unpin(1)
        self.assertEqual(store.pins(1), 1)
        store.put("a")
        self.assertEqual(store.pins(1), 1)
        self.assertEqual(store.sweep([]), ())
        store.unpin(1)
        self.assertEqual(store.sweep([]), (1,))

    def test_methods_without_a_value_return_none(self):
        store = Store(5)
        store.put("a")
        self.assertIsNone(store.pin(1))
        self.assertIsNone(store.unpin(1))
        self.assertIsNone(store.lose(1))


class SweepTests(StoreCase):
    def test_roots_and_pins_stay(self):
        store = Store(20)
        for number in range(12):
            store.put(str(number))
        store.pin(3)
        store.pin(11)
        self.assertEqual(store.sweep([12, 1, 5]), (2, 4, 6, 7, 8, 9, 10))
        self.assertEqual(store.names(), (1, 3, 5, 11, 12))

    def test_names_that_are_not_here(self):
        store = Store(5)
        store.put("a")
        store.put("b")
        store.lose(2)
        self.assertEqual(store.sweep([2, 7, 0, 100000]), (1,))
        self.assertEqual(store.names(), ())
        self.assertEqual(store.sweep([2]), ())

    def test_the_list_stays_as_it_was(self):
        store = Store(5)
        store.put("a")
        store.put("b")
        roots = [2, 2]
        self.assertEqual(store.sweep(roots), (1,))
        self.assertEqual(roots, [2, 2])

    def test_swept_texts_are_remembered(self):
        store = Store(1)
        store.put("a")
        self.assertEqual(store.sweep([]), (1,))
        self.assertEqual(store.put("b"), 2)
        self.assertEqual(store.name_of("a"), 1)
        self.assertEqual(self.missing(store.text, 1), 1)


class PutTreeTests(StoreCase):
    def bad_path(self, store, entries):
        with self.assertRaises(BadTree) as caught:
            store.put_tree(entries)
        return caught.exception.path

    def test_names_in_the_order_of_the_list(self):
        store = Store(5)
        entries = [("b", "x"), ("c/d", "y"), ("a", "z")]
        self.assertEqual(store.put_tree(entries), (("a", 3), ("b", 1), ("c/d", 2)))
        self.assertEqual(entries, [("b", "x"), ("c/d", "y"), ("a", "z")])
        self.assertEqual([store.text(name) for name in (1, 2, 3)], ["x", "y", "z"])

    def test_the_empty_list(self):
        store = Store(1)
        self.assertEqual(store.put_tree([]), ())
        store.put("a")
        self.assertEqual(store.put_tree([]), ())

    def test_texts_that_stand_twice(self):
        store = Store(2)
        entries = [("a", "x"), ("b", "y"), ("c", "x"), ("d", "y")]
        self.assertEqual(store.put_tree(entries), (("a", 1), ("b", 2), ("c", 1), ("d", 2)))
        self.assertEqual(store.names(), (1, 2))

    def test_texts_that_were_lost_before(self):
        store = Store(3)
        for text in ("x", "y", "z"):
            store.put(text)
        store.lose(2)
        self.assertEqual(store.put_tree([("a", "y"), ("b", "x")]), (("a", 2), ("b", 1)))
        self.assertEqual(store.names(), (1, 2, 3))
        store.lose(2)
        store.lose(3)
        self.assertEqual(store.put_tree([("a", "v"), ("b", "z")]), (("a", 4), ("b", 3)))
        self.assertEqual(store.names(), (1, 3, 4))

    def test_bad_paths(self):
        store = Store(5)
        self.assertEqual(self.bad_path(store, [("a", "x"), ("b", "y"), ("a", "x")]), "a")
        self.assertEqual(self.bad_path(store, [("a", "x"), ("a/b", "y"), ("a", "x")]), "a/b")
        self.assertEqual(self.bad_path(store, [("a/b", "x"), ("a", "y")]), "a")
        self.assertEqual(held(store, ["x", "y"]), held(Store(5), ["x", "y"]))

    def test_bad_texts(self):
        store = Store(5)
        bad = "x" * 2001
        self.assertEqual(self.bad_text(store.put_tree, [("a", "x"), ("b", "%"), ("c", bad)]), "bad character")
        self.assertEqual(self.bad_text(store.put_tree, [("b", "x"), ("c", bad), ("a", "%")]), "too long")
        self.assertEqual(held(store, ["x"]), held(Store(5), ["x"]))

    def test_a_full_store(self):
        store = Store(3)
        store.put("x")
        store.put("y")
        before = held(store, ["z", "v"])
        with self.assertRaises(StoreFull):
            store.put_tree([("a", "z"), ("b", "v")])
        with self.assertRaises(StoreFull):
            store.put_tree([("a", "z"), ("b", "x"), ("c", "v"), ("d", "z")])
        self.assertEqual(held(store, ["z", "v"]), before)
        self.assertEqual(store.put_tree([("a", "z"), ("b", "x"), ("c", "y"), ("d", "z")]),
                         (("a", 3), ("b", 1), ("c", 2), ("d", 3)))
        self.assertEqual(store.put_tree([("a", "x"), ("b", "y")]), (("a", 1), ("b", 2)))
        with self.assertRaises(StoreFull):
            store.put_tree([("a", "v")])
        self.assertIsNone(store.name_of("v"))

    def test_a_full_store_and_a_lost_text(self):
        store = Store(1)
        store.put("x")
        store.lose(1)
        store.put("y")
        with self.assertRaises(StoreFull):
            store.put_tree([("a", "x")])
        self.assertEqual(store.names(), (2,))

    def test_two_errors_at_once(self):
        store = Store(1)
        store.put("x")
        self.assertEqual(self.bad_path(store, [("a", "%"), ("a", "x")]), "a")
        self.assertEqual(self.bad_path(store, [("a", "y"), ("b", "z"), ("b/c", "%")]), "b/c")
        self.assertEqual(self.bad_path(store, [("a", "y"), ("b", "z"), ("b", "v")]), "b")
        self.assertEqual(self.bad_text(store.put_tree, [("a", "y"), ("b", "z"), ("c", "%")]), "bad character")
        self.assertEqual(held(store, ["y", "z", "v"]), ((1,), ["x"], [0] * 19, [None] * 3))


class TextsOfTests(StoreCase):
    def test_a_dict(self):
        store = Store(5)
        tree = store.put_tree([("b/c", "x"), ("a", "y"), ("d", "x")])
        texts = store.texts_of(tree)
        self.assertEqual(texts, {"a": "y", "b/c": "x", "d": "x"})
        self.assertIs(type(texts), dict)
        self.assertEqual(store.texts_of(()), {})

    def test_the_first_missing_name(self):
        store = Store(5)
        tree = store.put_tree([("c", "x"), ("b", "y"), ("a", "z")])
        store.lose(1)
        self.assertEqual(self.missing(store.texts_of, tree), 1)
        store.lose(2)
        self.assertEqual(self.missing(store.texts_of, tree), 2)
        self.assertEqual(self.missing(store.texts_of, (("a", 3), ("b", 99), ("c", 1))), 99)


class RandomTests(unittest.TestCase):
    def test_against_lists(self):
        for seed in range(30):
            choice = random.Random(seed).choice
            capacity = choice([1, 3, 6])
            store = Store(capacity)
            known, here, pins = [], set(), {}
            for _ in range(200):
                deed = choice(["put", "put", "put", "lose", "pin", "unpin", "sweep"])
                text = choice("abcdefghij")
                name = choice(range(12))
                if deed == "put":
                    if text in here or len(here) < capacity:
                        known += [] if text in known else [text]
                        here.add(text)
                        self.assertEqual(store.put(text), known.index(text) + 1)
                    else:
                        self.assertRaises(StoreFull, store.put, text)
                elif deed == "sweep":
                    kept = {known[at - 1] for at in (name, name + 1) if 0 < at <= len(known)}
                    swept = sorted(known.index(gone) + 1 for gone in here - kept if pins.get(gone, 0) == 0)
                    self.assertEqual(store.sweep([name, name + 1]), tuple(swept))
                    here -= {known[at - 1] for at in swept}
                else:
                    text = known[name - 1] if 0 < name <= len(known) else None
                    if deed == "unpin":
                        if pins.get(text, 0):
                            pins[text] -= 1
                            store.unpin(name)
                        else:
                            self.assertRaises(NotPinned, store.unpin, name)
                    elif text in here:
                        getattr(store, deed)(name)
                        if deed == "lose":
                            here.discard(text)
                        else:
                            pins[text] = pins.get(text, 0) + 1
                    else:
                        self.assertRaises(Missing, getattr(store, deed), name)
                self.assertEqual(store.names(), tuple(sorted(known.index(text) + 1 for text in here)))
                self.assertEqual([store.pins(at + 1) for at in range(len(known))],
                                 [pins.get(text, 0) for text in known])


class InterfaceTests(unittest.TestCase):
    def test_each_method_stands_in_the_class_itself(self):
        for name in ("__init__", "put", "text", "has", "name_of", "names", "lose", "pin", "unpin",
                     "pins", "sweep", "put_tree", "texts_of"):
            self.assertIn(name, vars(Store))


if __name__ == "__main__":
    unittest.main()
