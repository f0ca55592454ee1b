import unittest

from plainway.errors import BadEscape, PathError
from plainway.signs import written
from plainway.steps import steps_of

SIGNS = [" "] + [chr(code) for code in range(ord("!"), ord("~") + 1) if chr(code) != "%"]

ROOT = ("root",)
UP = ("up",)
BAD_PARTS = ("~", "a~", "~1", "a~9", "~a", "~1a", "~~", "~~13", "~94", "~99", "a~14b~95c", ".~", "..~1",
             "@~", "@a~", "@~9", "@a~94", "@~~13", "@a~14b~1", "@.~")


def share(name):
    return ("share", name)


def step(name):
    return ("name", name)


class StepsOfPaths(unittest.TestCase):
    def check(self, table):
        for path, steps in table.items():
            with self.subTest(path=path):
                self.assertEqual(steps_of(path), steps)

    def test_a_list_of_tuples_of_texts(self):
        steps = steps_of("/a/../@b/c")
        self.assertIs(type(steps), list)
        for one in steps:
            self.assertIs(type(one), tuple)
            for text in one:
                self.assertIs(type(text), str)

    def test_names_in_their_order(self):
        self.check({
            "a": [step("a")],
            "a/b/c": [step("a"), step("b"), step("c")],
            "c/b/a/b": [step("c"), step("b"), step("a"), step("b")],
            " / ": [step(" "), step(" ")],
        })

    def test_the_root_and_empty_parts(self):
        self.check({
            "": [],
            "/": [ROOT],
            "//": [ROOT],
            "///": [ROOT],
            "/a": [ROOT, step("a")],
            "//a": [ROOT, step("a")],
            "a/": [step("a")],
            "a//": [step("a")],
            "a//b": [step("a"), step("b")],
            "a///b//": [step("a"), step("b")],
            "/a//b/": [ROOT, step("a"), step("b")],
            " /": [step(" ")],
            "~14": [step("/")],
            "~14a/b": [step("/a"), step("b")],
        })

    def test_dots(self):
        self.check({
            ".": [],
            "./": [],
            "/.": [ROOT],
            "./.": [],
            "..": [UP],
            "/..": [ROOT, UP],
            "../..": [UP, UP],
            "a/./b": [step("a"), step("b")],
            "a/../b": [step("a"), UP, step("b")],
            "../a/..": [UP, step("a"), UP],
            "...": [step("...")],
            "....": [step("....")],
            "a/...": [step("a"), step("...")],
            ".a": [step(".a")],
            "..a": [step("..a")],
            "a.": [step("a.")],
            "a..": [step("a..")],
            ". ": [step(". ")],
            " ..": [step(" ..")],
        })

    def test_names_of_escapes_are_no_dots_and_no_shares(self):
        self.check({
            "~13": [step(".")],
            ".~13": [step("..")],
            "~13.": [step("..")],
            "~13~13": [step("..")],
            "a/~13/.~13": [step("a"), step("."), step("..")],
            "~31a": [step("@a")],
            "~31": [step("@")],
            "a~14b": [step("a/b")],
            "~9313": [step("~13")],
            "~9313/~93": [step("~13"), step("~")],
        })

    def test_shares(self):
        self.check({
            "@": [share("")],
            "@/": [share("")],
            "/@": [ROOT, share("")],
            "@a": [share("a")],
            "@a~14b": [share("a/b")],
            "@a/b": [share("a"), step("b")],
            "@@": [share("@")],
            "@@a": [share("@a")],
            "@~31a": [share("@a")],
            "@.": [share(".")],
            "@..": [share("..")],
            "@~13": [share(".")],
            "@~9313": [share("~13")],
            "@ ": [share(" ")],
            "a/@b/@c/..": [step("a"), share("b"), share("c"), UP],
        })

    def test_a_share_sign_that_is_not_first_makes_no_share(self):
        self.check({
            "a@": [step("a@")],
            "a@b": [step("a@b")],
            " @b": [step(" @b")],
            ".@": [step(".@")],
            "..@a": [step("..@a")],
            "~00@": [step(" @")],
        })

    def test_a_written_name_is_one_step_of_that_name(self):
        for name in SIGNS + [one + two for one in SIGNS for two in SIGNS]:
            self.assertEqual(steps_of(written(name)), [step(name)])
            self.assertEqual(steps_of("@" + written(name)), [share(name)])

    def test_long_paths(self):
        names = ["n" + str(number) for number in range(600)]
        self.assertEqual(steps_of("/".join(names)), [step(name) for name in names])
        self.assertEqual(steps_of("/".join([".."] * 60)), [UP] * 60)
        self.assertEqual(steps_of("/" * 500), [ROOT])
        self.assertEqual(steps_of("/" + "a/.././/@b~14/" * 60), [ROOT] + [step("a"), UP, share("b/")] * 60)
        self.assertEqual(steps_of("~64" * 300 + "/b"), [step("a" * 300), step("b")])


class RefusedPaths(unittest.TestCase):
    def refuse(self, path):
        with self.subTest(path=path):
            with self.assertRaises(BadEscape):
                steps_of(path)

    def test_an_escape_that_is_none_in_any_part(self):
        for part in BAD_PARTS:
            for ahead in ("", "/", "a/", "../", "@s/", "./", "a/" * 60):
                for behind in ("", "/", "/a", "/..", "/@s", "/13", "//", "/a" * 60):
                    self.refuse(ahead + part + behind)

    def test_a_stroke_ends_the_escape(self):
        self.refuse("~/13")
        self.refuse("~1/3")
        self.refuse("@~/13")

    def test_the_refusal_is_a_path_error_and_a_value_error(self):
        for taken_by in (PathError, ValueError):
            with self.assertRaises(taken_by):
                steps_of("a/~94")


class ListsAreTheAskersOwn(unittest.TestCase):
    def test_changing_the_list_changes_no_later_answer(self):
        for path in ("", "/", "/a/..", "@a"):
            first = steps_of(path)
            kept = list(first)
            second = steps_of(path)
            self.assertIsNot(first, second)
            first.append("changed")
            self.assertEqual(second, kept)
            self.assertEqual(steps_of(path), kept)


if __name__ == "__main__":
    unittest.main()
