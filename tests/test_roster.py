"""Points 34 to 37: houses, signatures and voices."""

import random
import unittest

from truemill.errors import RosterProblem
from truemill.roster import Roster, words_of


class RosterCase(unittest.TestCase):
    def roster(self, need, houses="abcde"):
        roster = Roster(need)
        for house in houses:
            roster.add(house)
        return roster

    def problem(self, function, *values):
        with self.assertRaises(RosterProblem) as caught:
            function(*values)
        return caught.exception.reason

    def tell(self, roster, topic, house, claim):
        """Sign a claim for a house and tell it."""
        return roster.tell(topic, house, claim, roster.sign(house, words_of(topic, claim)))

    def told(self, roster, topic="t", houses="abcde"):
        """Return all that a roster tells about a topic and its houses."""
        return (roster.claim_of(topic), roster.vouchers(topic), [roster.has_voice(topic, house) for house in houses],
                [roster.strikes(house) for house in houses], [roster.is_revoked(house) for house in houses])


class HouseTests(RosterCase):
    def test_the_need(self):
        for need in (1, 2, 3):
            self.assertEqual(Roster(need).need, need)

    def test_houses(self):
        roster = Roster(1)
        self.assertEqual(roster.houses(), ())
        for house in ("north", "a", "z-1", "b.c"):
            self.assertIsNone(roster.add(house))
        self.assertEqual(roster.houses(), ("north", "a", "z-1", "b.c"))
        roster.revoke("a")
        self.assertEqual(roster.houses(), ("north", "a", "z-1", "b.c"))

    def test_a_house_that_is_added_twice(self):
        roster = self.roster(1, "ab")
        self.assertEqual(self.problem(roster.add, "a"), "duplicate")
        roster.revoke("b")
        self.assertEqual(self.problem(roster.add, "b"), "duplicate")
        self.assertEqual(roster.houses(), ("a", "b"))
        self.assertTrue(roster.is_revoked("b"))

    def test_twenty_houses(self):
        roster = Roster(1)
        for number in range(20):
            roster.add(f"h{number}")
        self.assertEqual(self.problem(roster.add, "h20"), "full")
        self.assertEqual(self.problem(roster.add, "h19"), "duplicate")
        self.assertEqual(len(roster.houses()), 20)
        roster.revoke("h3")
        self.assertEqual(self.problem(roster.add, "h20"), "full")
        self.assertNotIn("h20", roster.houses())

    def test_revoke(self):
        roster = self.roster(1, "ab")
        self.assertIs(roster.is_revoked("a"), False)
        self.assertIsNone(roster.revoke("a"))
        self.assertIs(roster.is_revoked("a"), True)
        self.assertIs(roster.is_revoked("b"), False)
        self.assertIs(roster.is_revoked("c"), False)
        self.assertEqual(self.problem(roster.revoke, "a"), "revoked")
        self.assertEqual(self.problem(roster.revoke, "c"), "unknown")
        self.assertEqual(roster.houses(), ("a", "b"))


class SignTests(RosterCase):
    def test_marks_count_over_all_houses(self):
        roster = self.roster(1, ["a", "b-1"])
        self.assertEqual([roster.sign(house, "w") for house in ("a", "b-1", "a", "a", "b-1")],
                         ["a-1", "b-1-2", "a-3", "a-4", "b-1-5"])

    def test_the_same_words_again(self):
        roster = self.roster(1, "a")
        self.assertEqual([roster.sign("a", words) for words in ("", "w", "w", "\n")], ["a-1", "a-2", "a-3", "a-4"])
        self.assertTrue(roster.counts("a-2", "a", "w"))
        self.assertTrue(roster.counts("a-3", "a", "w"))

    def test_each_roster_counts_for_itself(self):
        first, second = self.roster(1, "a"), self.roster(1, "a")
        self.assertEqual((first.sign("a", "w"), first.sign("a", "w"), second.sign("a", "v")), ("a-1", "a-2", "a-1"))
        self.assertFalse(second.counts("a-1", "a", "w"))
        self.assertFalse(second.counts("a-2", "a", "w"))

    def test_who_cannot_sign(self):
        roster = self.roster(1, "ab")
        self.assertEqual(self.problem(roster.sign, "c", "w"), "unknown")
        roster.revoke("b")
        self.assertEqual(self.problem(roster.sign, "b", "w"), "revoked")
        # What raised an error was not counted.
        self.assertEqual(roster.sign("a", "w"), "a-1")


class CountsTests(RosterCase):
    def test_the_right_house_and_words(self):
        roster = self.roster(1, "ab")
        mark = roster.sign("a", "w")
        self.assertIs(roster.counts(mark, "a", "w"), True)
        for house, words in (("b", "w"), ("a", "v"), ("a", ""), ("a", "w "), ("a", "ww"), ("b", ""), ("c", "w"), ("", "w")):
            self.assertIs(roster.counts(mark, house, words), False)

    def test_marks_that_were_not_returned(self):
        roster = self.roster(1, ["a", "b", "a-1"])
        roster.sign("a", "w")
        roster.sign("b", "w")
        for mark in ("", "a", "a-", "-1", "1", "a-01", "a-1 ", " a-1", "a-1\n", "a-2", "a-3", "a-0", "b-1", "A-1", "a--1", "a-+1", "a-11"):
            for house in ("a", "b", "a-1"):
                self.assertIs(roster.counts(mark, house, "w"), mark == "b-2" and house == "b", mark)

    def test_another_house(self):
        roster = self.roster(1, ["a", "b", "a-1"])
        first, second, third = roster.sign("a", "w"), roster.sign("b", "w"), roster.sign("a-1", "w")
        self.assertEqual((first, second, third), ("a-1", "b-2", "a-1-3"))
        for mark, owner in ((first, "a"), (second, "b"), (third, "a-1")):
            for house in ("a", "b", "a-1"):
                self.assertIs(roster.counts(mark, house, "w"), house == owner)

    def test_houses_that_are_revoked_or_unknown(self):
        roster = self.roster(1, "ab")
        first, second = roster.sign("a", "w"), roster.sign("b", "w")
        roster.revoke("a")
        self.assertIs(roster.counts(first, "a", "w"), False)
        self.assertIs(roster.counts(second, "b", "w"), True)
        self.assertIs(roster.counts("c-1", "c", "w"), False)


class WordsTests(unittest.TestCase):
    def test_words(self):
        self.assertEqual(words_of("upper\nin 2\n", "made\nTWO"), "11:upper\nin 2\nmade\nTWO")
        self.assertEqual(words_of("a" * 100, "b"), "100:" + "a" * 100 + "b")

    def test_empty_ones(self):
        self.assertEqual(words_of("", ""), "0:")
        self.assertEqual(words_of("a", ""), "1:a")
        self.assertEqual(words_of("", "a"), "0:a")

    def test_pairs_whose_texts_joined_are_alike(self):
        self.assertNotEqual(words_of("ab", "c"), words_of("a", "bc"))
        self.assertNotEqual(words_of("1:a", "b"), words_of("1", ":ab"))
        pairs = [(text[:at], text[at:]) for text in ("", "1", "1:", "2:1:1:1", "0:0:", "11:1") for at in range(len(text) + 1)]
        self.assertEqual(len({words_of(*pair) for pair in pairs}), len(set(pairs)))


class TellTests(RosterCase):
    def test_told_and_settled(self):
        for need in (1, 2, 3):
            roster = self.roster(need)
            answers = [self.tell(roster, "t", house, "c") for house in "abcde"]
            self.assertEqual(answers, ["told"] * (need - 1) + ["settled"] + ["alike"] * (5 - need))
            self.assertEqual(roster.claim_of("t"), "c")
            self.assertEqual(self.told(roster)[2:], ([True] * 5, [0] * 5, [False] * 5))

    def test_what_told_changes(self):
        roster = self.roster(2)
        mark = roster.sign("b", words_of("t", "c"))
        self.assertEqual(roster.tell("t", "b", "c", mark), "told")
        self.assertEqual(self.told(roster), (None, (), [False, True, False, False, False], [0] * 5, [False] * 5))
        self.assertEqual(self.told(roster, "u")[2], [False] * 5)

    def test_topics_have_nothing_to_do_with_each_other(self):
        roster = self.roster(2)
        self.assertEqual(self.tell(roster, "t", "a", "c"), "told")
        self.assertEqual(self.tell(roster, "u", "b", "c"), "told")
        self.assertEqual(self.tell(roster, "u", "a", "d"), "told")
        self.assertEqual(self.tell(roster, "t", "b", "c"), "settled")
        self.assertEqual((roster.claim_of("t"), roster.claim_of("u")), ("c", None))
        self.assertEqual([roster.strikes(house) for house in "ab"], [0, 0])

    def test_bad_marks(self):
        roster = self.roster(1)
        mark = roster.sign("a", words_of("t", "c"))
        before = self.told(roster)
        for topic, house, claim, other in (("u", "a", "c", mark), ("t", "b", "c", mark), ("t", "a", "d", mark), ("t", "a", "c", "a-2"),
                                           ("t", "a", "c", ""), ("t", "x", "c", mark), ("", "a", "tc", mark), ("tc", "a", "", mark)):
            self.assertEqual(roster.tell(topic, house, claim, other), "bad")
            self.assertEqual(self.told(roster), before)
            self.assertEqual(self.told(roster, topic), before)
        self.assertEqual(roster.tell("t", "a", "c", mark), "settled")

    def test_a_mark_of_a_revoked_house(self):
        roster = self.roster(1)
        mark = roster.sign("a", words_of("t", "c"))
        roster.revoke("a")
        self.assertEqual(roster.tell("t", "a", "c", mark), "bad")
        self.assertIs(roster.has_voice("t", "a"), False)
        self.assertIsNone(roster.claim_of("t"))

    def test_again(self):
        roster = self.roster(2)
        mark = roster.sign("a", words_of("t", "c"))
        roster.tell("t", "a", "c", mark)
        before = self.told(roster)
        self.assertEqual(roster.tell("t", "a", "c", mark), "again")
        self.assertEqual(self.tell(roster, "t", "a", "c"), "again")
        self.assertEqual(self.told(roster), before)
        self.assertEqual(self.tell(roster, "t", "b", "c"), "settled")
        self.assertEqual(self.tell(roster, "t", "a", "c"), "again")
        # The voice keeps the mark with which it was recorded.
        self.assertEqual(roster.vouchers("t"), (("a", mark), ("b", "b-3")))

    def test_changed(self):
        roster = self.roster(2)
        self.tell(roster, "t", "a", "c")
        for strikes in (1, 2, 3):
            self.assertEqual(self.tell(roster, "t", "a", "d"), "changed")
            self.assertEqual(roster.strikes("a"), strikes)
        self.assertEqual(self.tell(roster, "t", "a", "c"), "again")
        self.assertEqual(roster.strikes("a"), 3)
        # It is no voice for the other claim.
        self.assertEqual(self.tell(roster, "t", "b", "d"), "told")
        self.assertEqual(self.tell(roster, "t", "d", "c"), "settled")
        self.assertEqual(roster.claim_of("t"), "c")
        self.assertEqual([house for house, _ in roster.vouchers("t")], ["a", "d"])
        self.assertEqual([roster.strikes(house) for house in "abd"], [3, 1, 0])

    def test_otherwise(self):
        roster = self.roster(1)
        self.tell(roster, "t", "a", "c")
        self.assertEqual(self.tell(roster, "t", "b", "d"), "otherwise")
        self.assertEqual(self.told(roster), ("c", (("a", "a-1"),), [True, True, False, False, False], [0, 1, 0, 0, 0], [False] * 5))
        self.assertEqual(self.tell(roster, "t", "d", "d"), "otherwise")
        self.assertEqual(self.tell(roster, "t", "e", "d"), "otherwise")
        self.assertEqual(roster.claim_of("t"), "c")
        self.assertEqual(self.told(roster)[3], [0, 1, 0, 1, 1])

    def test_alike(self):
        roster = self.roster(1)
        self.tell(roster, "t", "b", "c")
        self.assertEqual(self.tell(roster, "t", "a", "c"), "alike")
        self.assertEqual(self.told(roster)[1:4], ((("b", "b-1"), ("a", "a-2")), [True, True, False, False, False], [0] * 5))

    def test_again_and_changed_of_a_settled_topic(self):
        roster = self.roster(1)
        self.tell(roster, "t", "a", "c")
        self.tell(roster, "t", "b", "d")
        self.assertEqual(self.tell(roster, "t", "a", "c"), "again")
        self.assertEqual(self.tell(roster, "t", "a", "d"), "changed")
        self.assertEqual(self.tell(roster, "t", "b", "d"), "again")
        self.assertEqual(self.tell(roster, "t", "b", "c"), "changed")
        self.assertEqual(self.told(roster)[3], [1, 2, 0, 0, 0])
        self.assertEqual(roster.vouchers("t"), (("a", "a-1"),))

    def test_bad_comes_before_all_others(self):
        roster = self.roster(1)
        self.tell(roster, "t", "a", "c")
        self.tell(roster, "t", "b", "d")
        before = self.told(roster)
        for house in "abde":
            for claim in "cde":
                self.assertEqual(roster.tell("t", house, claim, "x-1"), "bad")
        self.assertEqual(self.told(roster), before)

    def test_voices_for_several_claims(self):
        roster = self.roster(2)
        self.assertEqual([self.tell(roster, "t", house, claim) for house, claim in (("a", "1"), ("b", "2"), ("c", "3"), ("d", "2"))],
                         ["told", "told", "told", "settled"])
        self.assertEqual(self.told(roster), ("2", (("b", "b-2"), ("d", "d-4")), [True, True, True, True, False], [1, 0, 1, 0, 0], [False] * 5))
        self.assertEqual(self.tell(roster, "t", "e", "1"), "otherwise")
        self.assertEqual(self.told(roster)[3], [1, 0, 1, 0, 1])

    def test_empty_topics_and_claims(self):
        roster = self.roster(2)
        self.assertEqual(self.tell(roster, "", "a", ""), "told")
        self.assertEqual(self.tell(roster, "", "b", ""), "settled")
        self.assertEqual(roster.claim_of(""), "")
        self.assertEqual(self.tell(roster, "", "c", ""), "alike")
        self.assertEqual(self.tell(roster, "", "d", "x"), "otherwise")
        self.assertEqual(self.tell(roster, "", "a", "x"), "changed")
        self.assertEqual(roster.vouchers(""), (("a", "a-1"), ("b", "b-2"), ("c", "c-3")))


class RevokedTests(RosterCase):
    def test_voices_of_revoked_houses_do_not_settle(self):
        roster = self.roster(2)
        self.tell(roster, "t", "a", "c")
        roster.revoke("a")
        self.assertEqual(self.tell(roster, "t", "b", "c"), "told")
        self.assertIsNone(roster.claim_of("t"))
        self.assertEqual(self.tell(roster, "t", "d", "c"), "settled")
        self.assertEqual(roster.vouchers("t"), (("a", "a-1"), ("b", "b-2"), ("d", "d-3")))

    def test_a_settled_topic_stays_settled(self):
        roster = self.roster(2)
        self.tell(roster, "t", "a", "c")
        self.tell(roster, "t", "b", "c")
        roster.revoke("a")
        roster.revoke("b")
        self.assertEqual(roster.claim_of("t"), "c")
        self.assertEqual(roster.vouchers("t"), (("a", "a-1"), ("b", "b-2")))
        self.assertEqual(self.tell(roster, "t", "d", "x"), "otherwise")
        self.assertEqual(self.tell(roster, "t", "e", "c"), "alike")
        self.assertEqual(self.told(roster)[2], [True, True, False, True, True])

    def test_revoked_houses_get_strikes_too(self):
        roster = self.roster(2)
        self.tell(roster, "t", "a", "x")
        self.tell(roster, "t", "b", "c")
        roster.revoke("a")
        self.assertEqual(self.tell(roster, "t", "d", "c"), "settled")
        self.assertEqual(self.told(roster)[3], [1, 0, 0, 0, 0])

    def test_a_revoked_house_with_the_right_claim_gets_none(self):
        roster = self.roster(1)
        self.tell(roster, "t", "a", "c")
        roster.revoke("a")
        self.assertEqual(self.tell(roster, "t", "b", "c"), "alike")
        self.assertEqual(roster.strikes("a"), 0)

    def test_a_revoked_house_keeps_its_voice(self):
        roster = self.roster(2)
        mark = roster.sign("a", words_of("t", "c"))
        roster.tell("t", "a", "c", mark)
        roster.revoke("a")
        self.assertEqual(roster.tell("t", "a", "c", mark), "bad")
        self.assertIs(roster.has_voice("t", "a"), True)


class KnowledgeTests(RosterCase):
    def test_unknown_topics_and_houses(self):
        roster = self.roster(2)
        self.tell(roster, "t", "a", "c")
        self.assertIsNone(roster.claim_of("u"))
        self.assertEqual(roster.vouchers("u"), ())
        self.assertEqual(roster.vouchers("t"), ())
        self.assertIs(roster.has_voice("u", "a"), False)
        self.assertIs(roster.has_voice("t", "x"), False)
        self.assertIs(roster.has_voice("t", "a"), True)
        self.assertIs(roster.is_revoked("x"), False)

    def test_asking_changes_nothing(self):
        roster = self.roster(1)
        roster.has_voice("t", "a")
        roster.claim_of("t")
        roster.vouchers("t")
        roster.tell("t", "a", "c", "a-1")
        self.assertEqual(roster.vouchers("t"), ())
        self.assertEqual(self.tell(roster, "t", "a", "c"), "settled")

    def test_strikes(self):
        roster = self.roster(1, "a")
        self.assertEqual(roster.strikes("a"), 0)
        self.assertEqual(self.problem(roster.strikes, "b"), "unknown")
        roster.revoke("a")
        self.assertEqual(roster.strikes("a"), 0)

    def test_vouchers_in_the_order_in_which_they_were_recorded(self):
        roster = self.roster(3)
        for house in "dbeac":
            self.tell(roster, "t", house, "x" if house == "e" else "c")
        self.assertEqual(roster.vouchers("t"), (("d", "d-1"), ("b", "b-2"), ("a", "a-4"), ("c", "c-5")))


class PlainRoster:
    """A second roster, which keeps nothing but the list of what happened and looks through it."""

    def __init__(self, need):
        self.need = need
        self.marks = []
        self.revoked = []
        self.voices = []
        self.settled = []
        self.struck = []

    def sign(self, house, words):
        self.marks.append((f"{house}-{len(self.marks) + 1}", house, words))
        return self.marks[-1][0]

    def tell(self, topic, house, claim, mark):
        if (mark, house, words_of(topic, claim)) not in self.marks or house in self.revoked:
            return "bad"
        for voice in self.voices:
            if voice[:2] == (topic, house):
                if voice[2] == claim:
                    return "again"
                self.struck.append(house)
                return "changed"
        self.voices.append((topic, house, claim, mark))
        for known, right in self.settled:
            if known == topic:
                if right == claim:
                    return "alike"
                self.struck.append(house)
                return "otherwise"
        if len([1 for t, h, c, _ in self.voices if (t, c) == (topic, claim) and h not in self.revoked]) < self.need:
            return "told"
        self.settled.append((topic, claim))
        self.struck += [h for t, h, c, _ in self.voices if t == topic and c != claim]
        return "settled"

    def look(self, houses, topics):
        settled = dict(self.settled)
        return ([settled.get(topic) for topic in topics], [self.struck.count(house) for house in houses],
                [tuple([(h, m) for t, h, c, m in self.voices if t == topic and c == settled.get(topic)]) for topic in topics],
                [[any(v[:2] == (topic, house) for v in self.voices) for house in houses] for topic in topics])


class PlainWayTests(RosterCase):
    def test_random_deeds(self):
        choice = random.Random(36).choice
        answers = {}
        for run in range(200):
            houses, topics = "abcdef", ("t", "u", "")
            roster, plain = self.roster(1 + run % 3, houses), PlainRoster(1 + run % 3)
            for _ in range(40):
                topic, house, claim = choice(topics), choice(houses), choice("112")
                if choice(range(15)) == 0 and house not in plain.revoked:
                    roster.revoke(house)
                    plain.revoked.append(house)
                if house in plain.revoked and choice(range(5)) > 0:
                    continue
                if house not in plain.revoked:
                    mark = roster.sign(house, words_of(topic, claim))
                    self.assertEqual(plain.sign(house, words_of(topic, claim)), mark)
                mark = choice(plain.marks or [("x-1",)])[0] if choice(range(8)) == 0 else mark if plain.marks else ""
                answer = roster.tell(topic, house, claim, mark)
                self.assertEqual(answer, plain.tell(topic, house, claim, mark))
                answers[answer] = answers.get(answer, 0) + 1
                self.assertEqual(([roster.claim_of(topic) for topic in topics], [roster.strikes(house) for house in houses],
                                  [roster.vouchers(topic) for topic in topics],
                                  [[roster.has_voice(topic, house) for house in houses] for topic in topics]),
                                 plain.look(houses, topics))
        self.assertEqual(sorted(answers), ["again", "alike", "bad", "changed", "otherwise", "settled", "told"])
        self.assertGreater(min(answers.values()), 100)


if __name__ == "__main__":
    unittest.main()
