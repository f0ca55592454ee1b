import itertools
import unittest

from model import (AHEAD, BAD_PARTS, BEHIND, SIGNS, model_leads, model_part, model_plain, paths_of, places_of,
                   row_of_shares, turned)
from plainway.errors import BadEscape, NoShare, PathError, Ring
from plainway.plain import joined, plain, same
from plainway.shares import Shares
from plainway.walking import walk

TABLE = {"s": "/home/me", "root": "/", "a/b": "@s/../~13", "@": "/at/~31at"}

# Paths that lead somewhere in all the ways that there are.
WAYS = ["", ".", "/", "..", "../..", "a", "b", "a/b", "/a", "/..", "@s", "@root", "@s/..", "@@/a", "a/..", "a/../..",
        "../a", "../../b/a", "a/@s/b", "a/@root", "../a/..", "~13.", ".~13", "~31s", "@a~14b", "/home/me", "home"]


class PlainTexts(unittest.TestCase):
    def setUp(self):
        self.shares = Shares(TABLE)

    def check(self, table):
        for path, text in table.items():
            with self.subTest(path=path):
                self.assertEqual(plain(path, self.shares), text)

    def test_nothing_left(self):
        self.check({
            "": ".",
            ".": ".",
            "./": ".",
            "././.": ".",
            "a/..": ".",
            "a/b/../..": ".",
            "a/../b/..": ".",
            "./a/./..//": ".",
        })

    def test_names(self):
        self.check({
            "a": "a",
            "a/": "a",
            "./a": "a",
            "a//b/.": "a/b",
            "a/b/../c": "a/c",
            "a/b/c/../../d": "a/d",
            "a/../b": "b",
            " / ": " / ",
            "...": "...",
            "a@/b": "a@/b",
        })

    def test_ups(self):
        self.check({
            "..": "..",
            "../": "..",
            "../..": "../..",
            "../a": "../a",
            "../a/..": "..",
            "../a/../..": "../..",
            "a/../..": "..",
            "a/../../b": "../b",
            "../a/../b": "../b",
            "a/../../b/../../c/d": "../../c/d",
            "./.././/..": "../..",
        })

    def test_a_hundred_ups(self):
        for many in (99, 100, 700):
            ups = "/".join([".."] * many)
            self.check({
                ups: ups,
                ups + "/a": ups + "/a",
                "a/b/" + ups + "/../..": ups,
                "a/" * many + ups: ".",
                "/" + ups: "/",
                "@s/" + ups + "/a": "/a",
            })

    def test_the_root_anywhere(self):
        self.check({
            "/": "/",
            "//": "/",
            "/.": "/",
            "/..": "/",
            "/../..": "/",
            "/a": "/a",
            "//a/": "/a",
            "/a/..": "/",
            "/a/../..": "/",
            "/../a": "/a",
            "/a/./b//../c": "/a/c",
        })

    def test_a_share_anywhere(self):
        self.check({
            "@s": "/home/me",
            "/@s": "/home/me",
            "@s/a": "/home/me/a",
            "@s/..": "/home",
            "@s/../../..": "/",
            "a/b/@s": "/home/me",
            "../../@s/..": "/home",
            "a/@s/b": "/home/me/b",
            "@root": "/",
            "@root/a": "/a",
            "a/@root": "/",
            "a/@root/..": "/",
            "../@root/../b": "/b",
            "@s/@root/a": "/a",
            "@root/@s": "/home/me",
            "@s/a/@s/..": "/home",
        })

    def test_names_that_are_written_with_escapes(self):
        self.check({
            "~13": "~13",
            "a/~13": "a/~13",
            "/~13": "/~13",
            ".~13": "~13.",
            "~13.": "~13.",
            "~13~13": "~13.",
            "/.~13/..": "/",
            "../~13.": "../~13.",
            "~13./..": ".",
            "~31a": "~31a",
            "/~31a/b": "/~31a/b",
            "a~31": "a@",
            "~14a": "~14a",
            "/~14a/~14": "/~14a/~14",
            "~93": "~93",
            "~9313": "~9313",
            "/~9313": "/~9313",
            "~64~65": "ab",
            "..~64": "..a",
            "@a~14b": "/home/~13",
            "@a~14b/..": "/home",
            "@@": "/at/~31at",
            "@~31/../~31~14": "/at/~31~14",
        })

    def test_each_name_of_one_sign_or_two_is_written_as_it_is_told(self):
        for name in SIGNS + [one + two for one in "./~@a0 " for two in SIGNS]:
            part = "".join(["~%02d" % SIGNS.index(sign) for sign in name])
            for ahead in ("", "/", "../", "/b/"):
                self.check({ahead + part: ahead + model_part(name)})

    def test_all_short_paths(self):
        for path in paths_of(("", ".", "..", "a", "~13.", "@s", "@root"), 5):
            self.assertEqual(plain(path, self.shares), model_plain(path, TABLE), path)

    def test_long_paths(self):
        names = ["n%d" % number for number in range(700)]
        self.check({
            "/".join(names): "/".join(names),
            "//" + "//".join(names) + "/..": "/" + "/".join(names[:-1]),
            "/".join(["a", "..", ".."] * 200): "/".join([".."] * 200),
            "/".join(["..", "a"] * 60): "../a",
            "@s/" * 300 + "a": "/home/me/a",
        })
        for table in (row_of_shares(40), turned(row_of_shares(40))):
            text = "/" + "/".join(["n%d" % number for number in range(40)])
            self.assertEqual(plain("/".join(["a", "@s39"] * 60), Shares(table)), text)

    def test_a_plain_text_made_plain_once_more_stays(self):
        others = (self.shares, Shares({}), Shares({"s": "/other", "13": "/x", "31a": "/y"}))
        for path in paths_of(("", ".", "..", "a", "~13", ".~13", "~31s", "~14", "~9313", "@s", "@@"), 3):
            text = plain(path, self.shares)
            for shares in others:
                self.assertEqual(plain(text, shares), text, path)

    def test_a_plain_text_leads_where_its_path_leads(self):
        for path in paths_of(("", ".", "..", "a", "~13", "~31s", "@s", "@a~14b"), 4):
            text = plain(path, self.shares)
            for start in ([], ["k"], ["a", "b", "c"]):
                self.assertEqual(walk(start, text, Shares({})), walk(start, path, self.shares), (path, start))

    def test_one_plain_text_just_where_both_lead_to_one_place_from_every_place(self):
        texts = {}
        for path in paths_of(("", "..", "a", "b", "@s", "@root", ".~13"), 4):
            leads = str(model_leads(path, TABLE))
            texts.setdefault(leads, set()).add(plain(path, self.shares))
        for leads, found in texts.items():
            self.assertEqual(len(found), 1, found)
        self.assertEqual(len({text for found in texts.values() for text in found}), len(texts))

    def test_no_shares_at_all(self):
        for path, text in (("/a/../b", "/b"), ("a/../../b", "../b"), ("", ".")):
            self.assertEqual(plain(path, Shares({})), text)


class JoinedPaths(unittest.TestCase):
    def setUp(self):
        self.shares = Shares(TABLE)

    def check(self, table):
        for pair, text in table.items():
            with self.subTest(pair=pair):
                self.assertEqual(joined(*pair, self.shares), text)

    def test_names_and_ups(self):
        self.check({
            ("a", "b"): "a/b",
            ("a/", "b"): "a/b",
            ("a", ".."): ".",
            ("a", "../.."): "..",
            ("a", "../../b"): "../b",
            ("..", "a"): "../a",
            ("..", ".."): "../..",
            ("../a", "../../b"): "../../b",
            ("a/b/..", "../c"): "c",
            ("/", "a"): "/a",
            ("/a", ".."): "/",
            ("/a", "../../.."): "/",
            ("/a", "../../b"): "/b",
            ("@s", "a"): "/home/me/a",
            ("@s", "../.."): "/",
            ("a/~13", ".~13"): "a/~13/~13.",
        })

    def test_the_second_path_with_a_root_or_a_share(self):
        self.check({
            ("a", "/"): "/",
            ("a", "/b"): "/b",
            ("..", "/b"): "/b",
            ("/a", "/b"): "/b",
            ("/a", "//b/.."): "/",
            ("@s", "/b"): "/b",
            ("a", "@s"): "/home/me",
            ("a/", "@s/.."): "/home",
            ("/a", "b/@s"): "/home/me",
            ("@s", "@root/b"): "/b",
            ("@s", "@root"): "/",
            ("..", "@root"): "/",
        })

    def test_an_empty_path(self):
        self.check({
            ("", ""): ".",
            ("", "a"): "a",
            ("a", ""): "a",
            ("a", "."): "a",
            ("", "/a"): "/a",
            ("/", ""): "/",
            ("", ".."): "..",
            ("..", ""): "..",
            ("@s", ""): "/home/me",
            ("", "@s"): "/home/me",
        })

    def test_parts_of_both_paths_stay_parts_of_their_own(self):
        self.check({
            (".", "."): ".",
            (".", "a"): "a",
            ("~93", "13"): "~93/13",
            ("@s", "s"): "/home/me/s",
            ("a", "~14b"): "a/~14b",
        })

    def test_all_pairs_lead_where_the_two_lead_one_behind_the_other(self):
        for one, other in itertools.product(WAYS, repeat=2):
            text = joined(one, other, self.shares)
            self.assertEqual(plain(text, self.shares), text)
            for start in ([], ["k"], ["a", "b", "c", "d", "e"]):
                behind = walk(walk(start, one, self.shares), other, self.shares)
                self.assertEqual(walk(start, text, self.shares), behind, (one, other, start))

    def test_three_paths_from_the_left_and_from_the_right(self):
        for one, two, three in itertools.product(WAYS, repeat=3):
            left = joined(joined(one, two, self.shares), three, self.shares)
            right = joined(one, joined(two, three, self.shares), self.shares)
            self.assertEqual(left, right, (one, two, three))

    def test_long_paths(self):
        names = ["n%d" % number for number in range(700)]
        self.check({
            ("/".join(names), "/".join([".."] * 701)): "..",
            ("/".join([".."] * 100), "/".join(names)): "/".join([".."] * 100 + names),
        })


class SamePaths(unittest.TestCase):
    def setUp(self):
        self.shares = Shares(TABLE)

    def check(self, expected, pairs):
        for one, other in pairs:
            for first, second in ((one, other), (other, one)):
                with self.subTest(first=first, second=second):
                    self.assertIs(same(first, second, self.shares), expected)

    def test_paths_written_otherwise_that_lead_alike_from_every_place(self):
        self.check(True, (
            ("", "."), ("", ""), ("a/..", "."), ("a", "./a//"), ("../a/..", ".."), ("a/../../b", "../b"),
            ("~13.", ".~13"), ("~64", "a"), ("/", "//"), ("/", "/.."), ("/a", "/../a"),
            ("@s", "/home/me"), ("a/@s", "../@s"), ("@root", "/"), ("@root/a", "/a"), ("@a~14b", "/home/~13"),
            ("@a~14b/..", "@s/.."), ("@@", "@~31"), ("@s/../../..", "@root"), ("x/../..", "../y/.."),
        ))

    def test_paths_that_lead_alike_from_the_root_only(self):
        self.check(False, (
            ("..", "."), ("", "/"), (".", "@root"), ("..", "/"), ("..", "../.."), ("a", "/a"), ("../a", "a"),
            ("../a", "/a"), ("home/me", "@s"), ("../../a", "../a"), ("a/../..", "."),
        ))

    def test_paths_that_lead_alike_from_other_places_only(self):
        for one, other in (("/a", "."), ("/", ".."), ("../a", "."), ("../b", "/b"), ("/home/../b", "../b")):
            self.assertEqual(walk(["a"], one, self.shares), walk(["a"], other, self.shares))
            self.check(False, ((one, other),))

    def test_paths_that_lead_alike_from_nowhere(self):
        self.check(False, (
            ("a", "b"), ("/a", "/b"), ("a/b", "b/a"), ("@s", "@root"), ("~31s", "@s"), ("~13", "."), (".~13", ".."),
            ("a~14b", "a/b"), ("A", "a"), ("a", "a "), ("~9313", "~13"), ("/a", "/a/a"),
        ))

    def test_all_pairs_of_short_paths(self):
        paths = paths_of(("", "..", "a", "~13.", "@s", "@root"), 2) + WAYS
        leads = {path: model_leads(path, TABLE) for path in paths}
        for one, other in itertools.product(paths, repeat=2):
            self.assertIs(same(one, other, self.shares), leads[one] == leads[other], (one, other))

    def test_long_paths(self):
        names = "/".join(["n%d" % number for number in range(700)])
        self.check(True, ((names, "./" + names + "//"), ("a/" * 100 + "../" * 101, "..")))
        self.check(False, ((names, names + "/.."), ("../" * 100, "../" * 99)))


class RefusedPaths(unittest.TestCase):
    def setUp(self):
        self.shares = Shares(TABLE)

    def refuse(self, kind, path):
        """Refused alone, and as either of two."""
        with self.subTest(path=path):
            with self.assertRaises(kind):
                plain(path, self.shares)
        for other in ("", "a", "/a", "@s", "..", path):
            self.refuse_pair(kind, path, other)

    def refuse_pair(self, kind, one, other):
        for function in (joined, same):
            for pair in ((one, other), (other, one)):
                with self.subTest(function=function.__name__, pair=pair):
                    with self.assertRaises(kind):
                        function(*pair, self.shares)

    def test_an_escape_that_is_none_anywhere(self):
        for part in BAD_PARTS:
            for ahead in AHEAD:
                for behind in BEHIND:
                    self.refuse(BadEscape, ahead + part + behind)

    def test_a_share_that_is_not_in_the_table_anywhere(self):
        for part in ("@none", "@", "@~31s", "@~13"):
            for ahead in AHEAD:
                for behind in BEHIND:
                    self.refuse(NoShare, ahead + part + behind)

    def test_a_share_that_is_not_in_the_table_where_a_later_step_leads_elsewhere(self):
        for path in ("@none/@s", "@none/../../..", "a/@none/..", "@none/a/@root", "@s/@none/@s", "/@none/@root"):
            self.refuse(NoShare, path)
        for other in ("/", "/a", "@s", "@root", "../../.."):
            self.refuse_pair(NoShare, "@none", other)
            self.refuse_pair(NoShare, "a/@none", other)

    def test_a_wrong_escape_goes_ahead_of_a_share_that_is_not_there_in_one_path(self):
        for path in ("@none/~", "~/@none", "@none/@s/b~94", "@none/@~9", "@none/" * 60 + "~1", "/@/~~13"):
            self.refuse(BadEscape, path)

    def test_a_wrong_escape_of_either_goes_ahead_of_a_share_that_is_not_there(self):
        for missing in ("@none", "@", "/a/@none/@s", "@s/@none"):
            for wrong in ("~", "/~94", "a/@~1", "@s/..~"):
                self.refuse_pair(BadEscape, missing, wrong)
                self.refuse_pair(BadEscape, missing + "/" + wrong, "a")
                self.refuse_pair(BadEscape, missing + "/" + wrong, missing)

    def test_each_refusal_is_a_path_error_and_a_value_error(self):
        for path in ("a/~94", "a/@none"):
            for taken_by in (PathError, ValueError):
                self.refuse(taken_by, path)

    def test_no_refusal_is_one_of_another_kind(self):
        for path, others in (("~", (NoShare, Ring)), ("@none", (BadEscape, Ring))):
            for told in (lambda: plain(path, self.shares), lambda: joined("a", path, self.shares),
                         lambda: same(path, "a", self.shares)):
                try:
                    told()
                except PathError as refusal:
                    self.assertNotIsInstance(refusal, others)

    def test_alike_texts_are_refused_too(self):
        self.refuse_pair(BadEscape, "~", "~")
        self.refuse_pair(NoShare, "@none", "@none")

    def test_no_share_is_in_the_empty_table(self):
        for told in (lambda: plain("@s", Shares({})), lambda: joined("@s", "/", Shares({})),
                     lambda: same("/", "@s", Shares({}))):
            with self.assertRaises(NoShare):
                told()


class TheTableStays(unittest.TestCase):
    def test_answers_change_nothing_in_the_table(self):
        shares = Shares(TABLE)
        for path in WAYS:
            texts = [plain(path, shares), joined(path, "x", shares), joined("@s", path, shares)]
            self.assertIs(same(path, path, shares), True)
            self.assertEqual(texts, [plain(path, shares), joined(path, "x", shares), joined("@s", path, shares)])
        self.assertEqual(shares.names(), list(TABLE))
        self.assertEqual([shares.place(name) for name in TABLE],
                         [["home", "me"], [], ["home", "."], ["at", "@at"]])


if __name__ == "__main__":
    unittest.main()
