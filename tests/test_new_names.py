"""Point 3, and what stands ahead of it: the ending, the stem, a rule, the new name."""

import unittest

from folder_calls import answers_behind, finished_names, wish

RULE_SIGNS = "abcdefghijklmnopqrstuvwxyz0123456789._-*+#"


def new_name(name, rule, start=0):
    return finished_names([name], rule, start, [0])[0]


class EndingAndStem(unittest.TestCase):
    # The name, its stem, its ending.
    PARTS = (
        ("a", "a", ""),
        ("abc", "abc", ""),
        ("a.b", "a", ".b"),
        ("photo.jpg", "photo", ".jpg"),
        (".", ".", ""),
        (".a", ".a", ""),
        (".profile", ".profile", ""),
        (".a.b", ".a", ".b"),
        ("a.b.c", "a.b", ".c"),
        ("a.b.c.d", "a.b.c", ".d"),
        ("a.", "a", "."),
        ("a..", "a.", "."),
        ("..", ".", "."),
        ("...", "..", "."),
        ("..a", ".", ".a"),
        ("a..b", "a.", ".b"),
        ("_-.-_", "_-", ".-_"),
    )

    def test_the_stem(self):
        for name, stem, ending in self.PARTS:
            with self.subTest(name=name):
                self.assertEqual(new_name(name, "x*x"), "x" + stem + "x")

    def test_the_ending(self):
        for name, stem, ending in self.PARTS:
            with self.subTest(name=name):
                self.assertEqual(new_name(name, "x+x"), "x" + ending + "x")

    def test_stem_and_ending_make_the_name(self):
        for name, stem, ending in self.PARTS:
            with self.subTest(name=name):
                self.assertEqual(answers_behind([name], [wish("*+", 0, [0])]), [0])

    def test_each_as_often_as_the_rule_has_it(self):
        self.assertEqual(new_name("a.b", "+*+**"), ".ba.baa")

    def test_a_rule_that_leaves_nothing(self):
        for name in ("a", ".a", "."):
            with self.subTest(name=name):
                self.assertEqual(answers_behind([name], [wish("+", 0, [0])]), [-1000])


class TheNumber(unittest.TestCase):
    def test_as_many_digits_as_signs(self):
        self.assertEqual(new_name("a", "#", 7), "7")
        self.assertEqual(new_name("a", "##", 7), "07")
        self.assertEqual(new_name("a", "###", 70), "070")
        self.assertEqual(new_name("a", "###", 700), "700")
        self.assertEqual(new_name("a", "#" * 16, 42), "0" * 14 + "42")

    def test_zero_has_one_digit(self):
        self.assertEqual(new_name("a", "#", 0), "0")
        self.assertEqual(new_name("a", "###", 0), "000")

    def test_several_runs_each_have_their_own_width(self):
        self.assertEqual(new_name("a", "#-##_###", 5), "5-05_005")
        self.assertEqual(new_name("p.q", "##*#+###", 5), "05p5.q005")

    def test_the_next_one_has_one_more(self):
        names = finished_names(["a.x", "b.y", "c", "d.z"], "n##+", 9, [3, 0, 2])
        self.assertEqual(names, ["n10.x", "b.y", "n11", "n09.z"])

    def test_too_many_digits(self):
        for rule, start in (("#", 10), ("##", 100), ("a#b", 4294967295), ("#########", 1000000000), ("##-#", 10),
                            ("#-##", 10)):
            with self.subTest(rule=rule, start=start):
                self.assertEqual(answers_behind(["a"], [wish(rule, start, [0])]), [-1000])

    def test_too_many_digits_from_the_next_one_on(self):
        self.assertEqual(answers_behind(["a", "b", "c"], [wish("#", 9, [2, 1, 0])]), [-1000])
        self.assertEqual(answers_behind(["a", "b", "c"], [wish("#", 8, [0, 1, 2])]), [-1002])
        self.assertEqual(answers_behind(["a", "b", "c"], [wish("#", 7, [0, 1, 2])]), [3])

    def test_the_greatest_number_and_the_one_behind_it(self):
        names = finished_names(["a", "b"], "#" * 10, 4294967295, [0, 1])
        self.assertEqual(names, ["4294967295", "4294967296"])

    def test_without_a_sign_for_it_the_number_may_be_any(self):
        self.assertEqual(finished_names(["a", "b"], "*x", 4294967295, [0, 1]), ["ax", "bx"])


class TheNewName(unittest.TestCase):
    def test_other_signs_for_themselves(self):
        for sign in "abcdefghijklmnopqrstuvwxyz0123456789._-":
            with self.subTest(sign=sign):
                self.assertEqual(new_name("old.name", "n" + sign), "n" + sign)
                self.assertEqual(new_name("old.name", sign), sign)

    def test_at_most_16_signs(self):
        self.assertEqual(new_name("abcdefgh", "**"), "abcdefghabcdefgh")
        self.assertEqual(new_name("a" * 16, "b" * 16), "b" * 16)
        self.assertEqual(answers_behind(["abcdefgh"], [wish("**a", 0, [0])]), [-1000])
        self.assertEqual(answers_behind(["a"], [wish("b" * 17, 0, [0])]), [-1000])
        self.assertEqual(answers_behind(["a"], [wish("#" * 17, 0, [0])]), [-1000])
        self.assertEqual(answers_behind(["a" * 16], [wish("*+", 0, [0]), wish("*+a", 0, [0])]), [0, -1000])


class WhatARuleIs(unittest.TestCase):
    def test_rules_have_1_to_24_signs(self):
        # The name has no ending, so a + adds nothing to the new name.
        for length in range(0, 28):
            with self.subTest(length=length):
                expected = 1 if 1 <= length <= 24 else -71
                rule = ("b" + "+" * 30)[:length]
                self.assertEqual(answers_behind(["a"], [wish(rule, 0, [0])]), [expected])
        self.assertEqual(answers_behind(["a"], [wish("b" * 100, 0, [0])]), [-71])

    def test_a_rule_of_24_signs_may_be_one_that_makes_no_name(self):
        self.assertEqual(answers_behind(["a"], [wish("b" * 24, 0, [0]), wish("#" * 24, 0, [0])]), [-1000, -1000])
        self.assertEqual(answers_behind(["a"], [wish("b" * 25, 0, [0]), wish("#" * 25, 0, [0])]), [-71, -71])

    def test_every_sign(self):
        for code in range(256):
            with self.subTest(code=code):
                expected = 1 if chr(code) in RULE_SIGNS else -71
                self.assertEqual(answers_behind(["zz"], [wish("y" + chr(code), 0, [0])]), [expected])
                self.assertEqual(answers_behind(["zz"], [wish(chr(code) + "y", 0, [0])]), [expected])

    def test_every_sign_alone(self):
        for code in range(256):
            with self.subTest(code=code):
                expected = 1 if chr(code) in RULE_SIGNS else -71
                self.assertEqual(answers_behind(["zz.y"], [wish(chr(code), 0, [0])]), [expected])


if __name__ == "__main__":
    unittest.main()
