"""Points 45 and 46: caches, and the claims of theirs that are good."""

import random
import unittest

from truemill.cache import Cache, good_claim, look_up
from truemill.roster import Roster, words_of

VOUCHERS = (("a", "a-1"), ("b", "b-2"))


class CacheTests(unittest.TestCase):
    def filled(self, size, topics):
        cache = Cache(size)
        for topic in topics:
            cache.put(topic, "claim of " + topic, ((topic, topic + "-1"),))
        return cache

    def test_an_empty_cache(self):
        cache = Cache(1)
        self.assertEqual(cache.topics(), ())
        self.assertIsNone(cache.entry("t"))
        self.assertIs(cache.lose("t"), False)
        self.assertIs(cache.spoil("t", "c"), False)
        self.assertIsNone(cache.entry("t"))
        self.assertEqual(cache.topics(), ())

    def test_put_and_entry(self):
        cache = Cache(2)
        self.assertIsNone(cache.put("t", "made\nx", VOUCHERS))
        self.assertIsNone(cache.put("u", "", ()))
        self.assertEqual(cache.entry("t"), ("made\nx", VOUCHERS))
        self.assertEqual(cache.entry("u"), ("", ()))
        self.assertIsNone(cache.entry("v"))

    def test_a_size_of_1(self):
        cache = Cache(1)
        self.assertIsNone(cache.put("t", "1", VOUCHERS))
        self.assertEqual(cache.put("u", "2", ()), "t")
        self.assertEqual(cache.topics(), ("u",))
        self.assertIsNone(cache.entry("t"))
        self.assertIsNone(cache.put("u", "3", VOUCHERS))
        self.assertEqual(cache.entry("u"), ("3", VOUCHERS))
        self.assertEqual(cache.put("t", "4", ()), "u")
        self.assertEqual(cache.topics(), ("t",))

    def test_the_oldest_one_is_removed(self):
        cache = self.filled(3, "cab")
        self.assertEqual(cache.topics(), ("c", "a", "b"))
        self.assertEqual(cache.put("d", "x", ()), "c")
        self.assertEqual(cache.topics(), ("a", "b", "d"))
        self.assertEqual(cache.put("c", "x", ()), "a")
        self.assertEqual(cache.topics(), ("b", "d", "c"))

    def test_put_of_a_topic_that_is_there(self):
        cache = self.filled(3, "abc")
        self.assertIsNone(cache.put("a", "new", VOUCHERS))
        self.assertEqual(cache.topics(), ("b", "c", "a"))
        self.assertEqual(cache.entry("a"), ("new", VOUCHERS))
        self.assertEqual(cache.put("d", "x", ()), "b")
        self.assertIsNone(cache.put("d", "y", ()))
        self.assertEqual(cache.topics(), ("c", "a", "d"))

    def test_a_hundred_entries(self):
        cache = self.filled(100, [str(number) for number in range(100)])
        self.assertEqual(cache.topics(), tuple([str(number) for number in range(100)]))
        self.assertEqual(cache.put("100", "", ()), "0")
        self.assertEqual(len(cache.topics()), 100)

    def test_lose(self):
        cache = self.filled(3, "abc")
        self.assertIs(cache.lose("b"), True)
        self.assertEqual(cache.topics(), ("a", "c"))
        self.assertIsNone(cache.entry("b"))
        self.assertIs(cache.lose("b"), False)
        self.assertIsNone(cache.put("d", "x", ()))
        self.assertEqual(cache.topics(), ("a", "c", "d"))
        self.assertIsNone(cache.put("a", "x", ()))

    def test_spoil(self):
        cache = self.filled(3, "abc")
        self.assertIs(cache.spoil("a", "worse"), True)
        self.assertEqual(cache.entry("a"), ("worse", (("a", "a-1"),)))
        self.assertEqual(cache.topics(), ("a", "b", "c"))
        self.assertIs(cache.spoil("d", "worse"), False)
        self.assertEqual(cache.topics(), ("a", "b", "c"))
        self.assertEqual(cache.entry("b"), ("claim of b", (("b", "b-1"),)))
        self.assertEqual(cache.put("d", "x", ()), "a")

    def test_what_is_read_changes_nothing(self):
        cache = self.filled(2, "ab")
        cache.entry("a")
        self.assertEqual(cache.topics(), ("a", "b"))
        self.assertEqual(cache.put("c", "x", ()), "a")

    def test_a_claim_that_is_empty(self):
        cache = Cache(1)
        cache.put("", "", ())
        self.assertEqual(cache.topics(), ("",))
        self.assertIs(cache.spoil("", ""), True)
        self.assertIs(cache.lose(""), True)

    def test_random_deeds(self):
        choice = random.Random(45).choice
        for _ in range(100):
            size = choice((1, 2, 4))
            cache, rows = Cache(size), []
            for _ in range(50):
                topic, claim, vouchers = choice("abcdef"), choice("xyz"), choice((VOUCHERS, ()))
                kind = choice(("put", "put", "lose", "spoil"))
                there = [row for row in rows if row[0] == topic]
                if kind == "put":
                    rows = [row for row in rows if row[0] != topic] + [[topic, claim, vouchers]]
                    gone = rows.pop(0)[0] if len(rows) > size else None
                    self.assertEqual(cache.put(topic, claim, vouchers), gone)
                elif kind == "lose":
                    rows = [row for row in rows if row[0] != topic]
                    self.assertIs(cache.lose(topic), there != [])
                else:
                    for row in there:
                        row[1] = claim
                    self.assertIs(cache.spoil(topic, claim), there != [])
                self.assertEqual(cache.topics(), tuple([row[0] for row in rows]))
                for row in rows:
                    self.assertEqual(cache.entry(row[0]), (row[1], row[2]))


class LookUpTests(unittest.TestCase):
    def setUp(self):
        self.roster = self.roster_of(2)

    def roster_of(self, need):
        roster = Roster(need)
        for house in "abcd":
            roster.add(house)
        return roster

    def voucher(self, house, topic="t", claim="c", roster=None):
        roster = roster or self.roster
        return (house, roster.sign(house, words_of(topic, claim)))

    def cache(self, *vouchers, topic="t", claim="c"):
        cache = Cache(9)
        cache.put(topic, claim, tuple(vouchers))
        return cache

    def good(self, *vouchers):
        return good_claim(self.cache(*vouchers), self.roster, "t")

    def test_enough_houses_and_one_less(self):
        for need in (1, 2, 3):
            self.roster = self.roster_of(need)
            vouchers = [self.voucher(house) for house in "abcd"]
            for size in range(5):
                good = size >= need
                self.assertEqual(self.good(*vouchers[:size]), "c" if good else None)
                self.assertEqual(look_up([self.cache(*vouchers[:size])], self.roster, "t"),
                                 ("c", tuple(vouchers[:size])) if good else None)

    def test_one_house_several_times(self):
        first, second, third = self.voucher("a"), self.voucher("a"), self.voucher("b")
        self.assertIsNone(self.good(first, second))
        self.assertIsNone(self.good(first, first, first))
        self.assertEqual(self.good(first, second, third), "c")
        self.assertEqual(look_up([self.cache(second, third, first, second)], self.roster, "t"),
                         ("c", (second, third, first, second)))

    def test_marks_that_do_not_count(self):
        good = self.voucher("a")
        other = self.roster_of(2)
        for _ in range(9):
            strange = self.voucher("b", roster=other)
        for bad in (("b", ""), ("b", "b-99"), ("b", good[1]), ("e", "e-1"), ("", ""), self.voucher("b", claim="d"),
                    self.voucher("b", topic="u"), self.voucher("b", claim=""), strange):
            self.assertIsNone(self.good(good, bad), bad)
            self.assertIsNone(self.good(bad, good), bad)

    def test_words_that_look_alike(self):
        # The same characters, but another topic and another claim.
        cache = self.cache(self.voucher("a", "ab", "c"), self.voucher("b", "ab", "c"), topic="a", claim="bc")
        self.assertIsNone(good_claim(cache, self.roster, "a"))
        self.assertIsNone(look_up([cache], self.roster, "a"))

    def test_a_house_that_is_revoked(self):
        vouchers = [self.voucher(house) for house in "abc"]
        cache = self.cache(*vouchers)
        self.roster.revoke("a")
        self.assertEqual(good_claim(cache, self.roster, "t"), "c")
        self.assertEqual(look_up([cache], self.roster, "t"), ("c", tuple(vouchers[1:])))
        self.roster.revoke("c")
        self.assertIsNone(good_claim(cache, self.roster, "t"))
        self.assertIsNone(look_up([cache], self.roster, "t"))
        self.assertEqual(cache.entry("t"), ("c", tuple(vouchers)))

    def test_a_claim_that_was_spoiled(self):
        cache = self.cache(self.voucher("a"), self.voucher("b"))
        cache.spoil("t", "d")
        self.assertIsNone(good_claim(cache, self.roster, "t"))
        self.assertIsNone(look_up([cache], self.roster, "t"))
        cache.spoil("t", "c")
        self.assertEqual(good_claim(cache, self.roster, "t"), "c")

    def test_a_claim_for_which_other_marks_of_the_entry_count(self):
        marks = [self.voucher("a"), self.voucher("b", claim="d"), self.voucher("c"), self.voucher("d", claim="d")]
        cache = self.cache(*marks)
        self.assertEqual(look_up([cache], self.roster, "t"), ("c", (marks[0], marks[2])))
        cache.spoil("t", "d")
        self.assertEqual(look_up([cache], self.roster, "t"), ("d", (marks[1], marks[3])))
        self.assertEqual(good_claim(cache, self.roster, "t"), "d")

    def test_no_entry(self):
        cache = self.cache(self.voucher("a"), self.voucher("b"))
        self.assertIsNone(good_claim(cache, self.roster, "u"))
        self.assertIsNone(look_up([cache], self.roster, "u"))
        self.assertIsNone(good_claim(Cache(1), self.roster, "t"))

    def test_no_cache(self):
        self.assertIsNone(look_up([], self.roster, "t"))

    def test_several_caches(self):
        a, b, c, d = [self.voucher(house) for house in "abcd"]
        bad, empty, first, second = self.cache(a, a), Cache(1), self.cache(d, ("x", "y"), a), self.cache(b, c)
        spoiled = self.cache(a, b, c)
        spoiled.spoil("t", "e")
        self.assertEqual(look_up([bad, first, second], self.roster, "t"), ("c", (d, a)))
        self.assertEqual(look_up([empty, bad, spoiled, second, first], self.roster, "t"), ("c", (b, c)))
        self.assertIsNone(look_up([bad, empty, spoiled], self.roster, "t"))

    def test_several_claims(self):
        first = self.cache(self.voucher("a", claim="1"), self.voucher("b", claim="1"), claim="1")
        second = self.cache(self.voucher("a", claim="2"), self.voucher("b", claim="2"), claim="2")
        self.assertEqual(look_up([first, second], self.roster, "t")[0], "1")
        self.assertEqual(look_up([second, first], self.roster, "t")[0], "2")

    def test_vouchers_in_the_order_of_the_entry(self):
        a, b, c, d = [self.voucher(house) for house in "abcd"]
        bad = ("b", "c-3")
        self.assertEqual(look_up([self.cache(d, bad, b, a, bad, c, b)], self.roster, "t"), ("c", (d, b, a, c, b)))

    def test_an_empty_claim(self):
        cache = self.cache(self.voucher("a", claim=""), self.voucher("b", claim=""), claim="")
        self.assertEqual(good_claim(cache, self.roster, "t"), "")
        self.assertEqual(look_up([Cache(1), cache], self.roster, "t")[0], "")

    def test_nothing_is_changed(self):
        cache = self.cache(self.voucher("a"), self.voucher("b"))
        cache.put("u", "x", ())
        for topic in ("t", "u", "v"):
            good_claim(cache, self.roster, topic)
            look_up([cache, cache], self.roster, topic)
        self.assertEqual(cache.topics(), ("t", "u"))
        self.assertIsNone(self.roster.claim_of("t"))
        self.assertIs(self.roster.has_voice("t", "a"), False)


if __name__ == "__main__":
    unittest.main()
