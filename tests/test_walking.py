import unittest

from model import AHEAD, BAD_PARTS, BEHIND, model_walk, paths_of, row_of_shares, turned
from plainway.errors import BadEscape, NoShare, PathError, Ring
from plainway.shares import Shares
from plainway.walking import walk

TABLE = {"s": "/home/me", "root": "/", "a/b": "@s/../x", "~13": "y", "..": "/dots", "@": "/at"}


class WhereStepsLead(unittest.TestCase):
    def setUp(self):
        self.shares = Shares(TABLE)

    def check(self, start, table):
        for path, place in table.items():
            with self.subTest(start=start, path=path):
                self.assertEqual(walk(start, path, self.shares), place)

    def test_from_the_root(self):
        self.check([], {
            "": [],
            ".": [],
            "/": [],
            "..": [],
            "../..": [],
            "a": ["a"],
            "a/b": ["a", "b"],
            "/a": ["a"],
            "@s": ["home", "me"],
            "@root": [],
            "../a": ["a"],
            "a/../../b": ["b"],
            "../a/..": [],
            "a/../../..": [],
        })

    def test_from_a_deeper_place(self):
        self.check(["k", "m"], {
            "": ["k", "m"],
            ".": ["k", "m"],
            "/": [],
            "//": [],
            "..": ["k"],
            "../..": [],
            "../../..": [],
            "../../../a": ["a"],
            "a": ["k", "m", "a"],
            "a/": ["k", "m", "a"],
            "a//./b": ["k", "m", "a", "b"],
            "a/..": ["k", "m"],
            "../m": ["k", "m"],
            "/a": ["a"],
            "/..": [],
            "/../a": ["a"],
            "@s": ["home", "me"],
            "@root": [],
            "@root/a": ["a"],
            "@root/..": [],
        })

    def test_a_share_leads_to_its_place_wherever_one_is(self):
        for start in ([], ["k"], ["home", "me"], ["k"] * 50):
            self.check(start, {
                "a/b/@s": ["home", "me"],
                "../@s/..": ["home"],
                "/a/@s/x": ["home", "me", "x"],
                "@s/@root/@s/y": ["home", "me", "y"],
                "@s/../../../..": [],
                "a/@root": [],
                "@s/@a~14b": ["home", "x"],
            })

    def test_names_of_shares_as_they_are_told(self):
        self.check(["k"], {
            "@~82": ["home", "me"],
            "@a~14b/z": ["home", "x", "z"],
            "@~9313": ["y"],
            "@..": ["dots"],
            "@~13.": ["dots"],
            "@@": ["at"],
            "@~31": ["at"],
        })

    def test_names_of_escapes_are_no_dots_no_shares_and_part_nothing(self):
        self.check(["k"], {
            "~13": ["k", "."],
            ".~13": ["k", ".."],
            "~13.": ["k", ".."],
            "~31a": ["k", "@a"],
            "~31s": ["k", "@s"],
            "~14a": ["k", "/a"],
            "a~14b/..": ["k"],
            "~9313/~93": ["k", "~13", "~"],
            "a@s": ["k", "a@s"],
            "...": ["k", "..."],
        })

    def test_all_short_paths_from_several_places(self):
        for path in paths_of(("", ".", "..", "a", "~13.", "@s", "@a~14b", "@root"), 4):
            for start in ([], ["k"], ["k", "m", "n"]):
                self.assertEqual(walk(start, path, self.shares), model_walk(start, path, TABLE), (start, path))

    def test_paths_of_sixty_parts(self):
        self.check(["k", "m"], {
            "/".join(["a"] * 60): ["k", "m"] + ["a"] * 60,
            "/".join([".."] * 60): [],
            "/".join(["a", ".."] * 30): ["k", "m"],
            "/".join(["a", "b", ".."] * 20): ["k", "m"] + ["a"] * 20,
            "/".join(["@s", ".."] * 30): ["home"],
            "/".join(["@s"] * 59 + ["a"]): ["home", "me", "a"],
        })

    def test_a_path_of_700_names_with_some_ups(self):
        names = ["n%d" % number for number in range(700)]
        for ups in (0, 1, 5, 699, 700):
            path = "/".join(names + [".."] * ups + ["end"])
            self.assertEqual(walk(["k"], path, self.shares), ["k"] + names[:700 - ups] + ["end"])
        self.assertEqual(walk(names, "../../x", self.shares), names[:-2] + ["x"])

    def test_shares_of_a_long_row(self):
        for table in (row_of_shares(40), turned(row_of_shares(40))):
            place = ["n%d" % number for number in range(40)]
            self.assertEqual(walk(["k"], "a/@s39/../b", Shares(table)), place[:-1] + ["b"])

    def test_no_shares_at_all(self):
        self.assertEqual(walk(["k"], "../a", Shares({})), ["a"])


class RefusedPaths(unittest.TestCase):
    def setUp(self):
        self.shares = Shares(TABLE)

    def refuse(self, kind, path):
        for start in ([], ["k", "m"]):
            with self.subTest(start=start, path=path):
                with self.assertRaises(kind):
                    walk(start, path, self.shares)

    def test_an_escape_that_is_none_anywhere(self):
        for part in BAD_PARTS:
            for ahead in AHEAD:
                for behind in BEHIND:
                    self.refuse(BadEscape, ahead + part + behind)

    def test_a_share_that_is_not_in_the_table_anywhere(self):
        for part in ("@none", "@", "@~31s", "@s ", "@S", "@a", "@~13", "@home"):
            for ahead in AHEAD:
                for behind in BEHIND:
                    self.refuse(NoShare, ahead + part + behind)

    def test_a_share_that_is_not_in_the_table_where_a_later_step_leads_elsewhere(self):
        for path in ("@none/@s", "@none/..", "@none/../../..", "@none/a/@root", "@s/@none/@s", "/@none/@root/.."):
            self.refuse(NoShare, path)

    def test_a_wrong_escape_goes_ahead_of_a_share_that_is_not_there(self):
        for path in ("@none/~", "~/@none", "@none/a/../@s/b~94", "@none/@~9", "@none/" * 60 + "~1", "/@/~~13"):
            self.refuse(BadEscape, path)

    def test_each_refusal_is_a_path_error_and_a_value_error(self):
        for path in ("a/~94", "a/@none"):
            for taken_by in (PathError, ValueError):
                self.refuse(taken_by, path)

    def test_no_refusal_is_one_of_another_kind(self):
        for path, others in (("~", (NoShare, Ring)), ("@none", (BadEscape, Ring))):
            try:
                walk([], path, self.shares)
            except PathError as refusal:
                self.assertNotIsInstance(refusal, others)

    def test_no_share_is_in_the_empty_table(self):
        with self.assertRaises(NoShare):
            walk([], "@s", Shares({}))

    def test_a_refused_path_leaves_the_place_as_it_was(self):
        start = ["k", "m"]
        for path in ("../a/~", "../a/@none"):
            with self.assertRaises(PathError):
                walk(start, path, self.shares)
            self.assertEqual(start, ["k", "m"])


class ListsAreTheirOwners(unittest.TestCase):
    PATHS = ("", ".", "a", "..", "../..", "a/..", "/", "@s", "@s/..", "@s/a", "@root", "a/../..")

    def test_the_place_handed_in_stays_as_it_was(self):
        shares = Shares(TABLE)
        for path in self.PATHS:
            start = ["k", "m"]
            walk(start, path, shares)
            self.assertEqual(start, ["k", "m"], path)

    def test_what_is_handed_out_is_another_list(self):
        shares = Shares(TABLE)
        for path in self.PATHS:
            for start in ([], ["k", "m"]):
                kept = list(start)
                place = walk(start, path, shares)
                self.assertIs(type(place), list)
                self.assertIsNot(place, start)
                place.append("changed")
                self.assertEqual(start, kept, path)

    def test_changing_what_is_handed_out_changes_no_later_answer(self):
        shares = Shares(TABLE)
        for path in self.PATHS:
            first = walk(["k", "m"], path, shares)
            kept = list(first)
            first.insert(0, "changed")
            self.assertEqual(walk(["k", "m"], path, shares), kept, path)
        self.assertEqual(shares.place("s"), ["home", "me"])
        self.assertEqual(shares.place("root"), [])


if __name__ == "__main__":
    unittest.main()
