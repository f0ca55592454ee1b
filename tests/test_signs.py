import unittest

from plainway.errors import BadEscape, NoShare, PathError, Ring
from plainway.signs import name_of, written

# Built here from the code points, apart from the row that the package has.
SIGNS = [" "] + [chr(code) for code in range(ord("!"), ord("~") + 1) if chr(code) != "%"]
FIGURES = "0123456789"


def escape(sign):
    return "~%02d" % SIGNS.index(sign)


def written_by_the_rule(name):
    out = []
    for at, sign in enumerate(name):
        first = at == 0
        special = sign in "/~" or (first and (sign == "@" or name in (".", "..")))
        out.append(escape(sign) if special else sign)
    return "".join(out)


class WhatAPartTells(unittest.TestCase):
    def test_the_numbers_that_the_document_names(self):
        numbers = {" ": "00", "!": "01", "$": "04", "&": "05", ".": "13", "/": "14", "0": "15",
                   "@": "31", "A": "32", "a": "64", "}": "92", "~": "93"}
        for sign, number in numbers.items():
            with self.subTest(sign=sign):
                self.assertEqual(name_of("~" + number), sign)

    def test_each_of_the_94_signs_is_told_by_its_escape(self):
        self.assertEqual(len(SIGNS), 94)
        self.assertEqual([name_of("~%02d" % number) for number in range(94)], SIGNS)

    def test_each_sign_but_the_tilde_and_the_stroke_tells_itself(self):
        for sign in SIGNS:
            if sign not in "~/":
                with self.subTest(sign=sign):
                    self.assertEqual(name_of(sign), sign)
                    self.assertEqual(name_of(sign + "b"), sign + "b")

    def test_the_empty_part_tells_the_empty_text(self):
        self.assertEqual(name_of(""), "")

    def test_signs_and_escapes_mixed(self):
        told = {
            "a~14b": "a/b",
            "~14": "/",
            "~64b~66": "abc",
            "~64~65": "ab",
            "a~00": "a ",
            "~13.": "..",
            "~647": "a7",
            "1~152": "102",
            "7~6475": "7a75",
            "~31a": "@a",
            "@a~31": "@a@",
            " ~93 ": " ~ ",
        }
        for part, name in told.items():
            with self.subTest(part=part):
                self.assertEqual(name_of(part), name)

    def test_an_escaped_tilde_begins_no_escape(self):
        self.assertEqual(name_of("~9313"), "~13")
        self.assertEqual(name_of("~9399"), "~99")
        self.assertEqual(name_of("~93"), "~")
        self.assertEqual(name_of("~93~13"), "~.")
        self.assertEqual(name_of("~93~9313"), "~~13")
        self.assertEqual(name_of("~939313"), "~9313")

    def test_long_parts(self):
        part = "".join(["a" + escape(sign) + "7" for sign in SIGNS]) * 4
        name = "".join(["a" + sign + "7" for sign in SIGNS]) * 4
        self.assertEqual(name_of(part), name)
        self.assertEqual(name_of("x" * 700), "x" * 700)
        self.assertEqual(name_of("~14" * 700), "/" * 700)


class WhatIsRefused(unittest.TestCase):
    AHEAD = ("", "a", "12", "~64", "~93", "@", "a~14b" * 60)
    BEHIND = ("", "b", "12", "~64", "b~14" * 60)

    def refuse(self, part):
        with self.subTest(part=part):
            with self.assertRaises(BadEscape):
                name_of(part)

    def test_a_tilde_at_the_end(self):
        for ahead in self.AHEAD:
            self.refuse(ahead + "~")

    def test_a_tilde_with_one_figure_at_the_end(self):
        for ahead in self.AHEAD:
            for figure in FIGURES:
                self.refuse(ahead + "~" + figure)

    def test_a_tilde_before_another_sign_or_before_a_tilde(self):
        for ahead in self.AHEAD:
            for behind in self.BEHIND:
                for wrong in ("~a", "~ ", "~.", "~-1", "~+1", "~ 1", "~_1", "~1 ", "~1_", "~1a", "~1.",
                              "~~", "~~13", "~1~", "~9~3", "~1~13"):
                    self.refuse(ahead + wrong + behind)

    def test_the_figures_from_94_to_99(self):
        for ahead in self.AHEAD:
            for behind in self.BEHIND:
                for number in range(94, 100):
                    self.refuse(ahead + "~" + str(number) + behind)

    def test_each_pair_of_signs_behind_a_tilde(self):
        for first in SIGNS:
            for second in SIGNS:
                two = first + second
                if "/" in two:
                    continue
                if first in FIGURES and second in FIGURES and int(two) <= 93:
                    self.assertEqual(name_of("~" + two), SIGNS[int(two)])
                else:
                    self.refuse("~" + two)

    def test_the_refusal_is_taken_by_path_error_and_value_error_only(self):
        for taken_by in (PathError, ValueError):
            with self.assertRaises(taken_by):
                name_of("a~")
        for other in (NoShare, Ring):
            try:
                name_of("a~94")
            except PathError as refusal:
                self.assertNotIsInstance(refusal, other)


class HowANameIsWritten(unittest.TestCase):
    def check(self, table):
        for name, part in table.items():
            with self.subTest(name=name):
                self.assertEqual(written(name), part)

    def test_each_stroke_and_each_tilde_wherever_it_stands(self):
        self.check({
            "/": "~14",
            "~": "~93",
            "//": "~14~14",
            "~~": "~93~93",
            "/~/": "~14~93~14",
            "a/b~c": "a~14b~93c",
            "/ab~": "~14ab~93",
            "~13": "~9313",
            "~14": "~9314",
            "~/14": "~93~1414",
            "./": ".~14",
            "..~": "..~93",
        })

    def test_the_share_sign_where_it_is_first_and_only_there(self):
        self.check({
            "@": "~31",
            "@@": "~31@",
            "@a": "~31a",
            "@a@": "~31a@",
            "a@": "a@",
            ".@": ".@",
            " @": " @",
            "/@": "~14@",
            "@/@~": "~31~14@~93",
            "@.": "~31.",
            "@..": "~31..",
        })

    def test_the_first_dot_of_the_two_names_of_dots_and_of_no_other(self):
        self.check({
            ".": "~13",
            "..": "~13.",
            "...": "...",
            "....": "....",
            ".a": ".a",
            "..a": "..a",
            ". ": ". ",
            ".. ": ".. ",
            " .": " .",
            "a.": "a.",
            "a..": "a..",
            "./.": ".~14.",
        })

    def test_every_other_sign_stays_as_it_is(self):
        for sign in SIGNS:
            if sign not in "/~@.":
                self.check({sign: sign, sign + "a": sign + "a", "a" + sign: "a" + sign})
        plain = "".join([sign for sign in SIGNS if sign not in "/~"])
        self.check({plain: plain, "13": "13"})

    def test_all_names_of_one_and_two_signs(self):
        names = SIGNS + [one + two for one in SIGNS for two in SIGNS]
        for name in names:
            part = written(name)
            self.assertEqual(part, written_by_the_rule(name))
            self.assertEqual(name_of(part), name)
            self.assertNotIn("/", part)

    def test_names_of_three_signs_that_matter(self):
        matter = "./~@1a "
        for name in [one + two + three for one in matter for two in matter for three in matter]:
            self.assertEqual(written(name), written_by_the_rule(name))
            self.assertEqual(name_of(written(name)), name)

    def test_long_names(self):
        row = "".join(SIGNS)
        for name in (row * 5, "@" * 300, "." * 300, "/" * 300, "~" * 300, "~13" * 200, "@/~." * 150):
            self.assertEqual(written(name), written_by_the_rule(name))
            self.assertEqual(name_of(written(name)), name)


if __name__ == "__main__":
    unittest.main()
