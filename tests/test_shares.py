import itertools
import unittest

from model import AHEAD, BAD_PARTS, BEHIND, model_walk, places_of, row_of_shares, turned
from plainway.errors import BadEscape, NoShare, PathError, Ring
from plainway.plain import plain
from plainway.shares import Shares
from plainway.walking import walk


def ring_of(many):
    """So many shares in a ring, and one aside that has none."""
    table = {"aside": "/x"}
    for number in range(many):
        table["r%d" % number] = "/n/@r%d" % ((number + 1) % many)
    return table


class PlacesOfShares(unittest.TestCase):
    def check(self, table):
        """The table's paths and places, in pairs by the names."""
        for order in (table, turned(table)):
            shares = Shares({name: pair[0] for name, pair in order.items()})
            for name, pair in order.items():
                with self.subTest(name=name, path=pair[0], first=list(order)[0]):
                    self.assertEqual(shares.place(name), pair[1])
            self.assertEqual(shares.names(), list(order))

    def test_the_empty_table(self):
        shares = Shares({})
        self.assertEqual(shares.names(), [])
        with self.assertRaises(NoShare):
            shares.place("a")

    def test_one_share(self):
        for path, place in (("/a/b", ["a", "b"]), ("a/b", ["a", "b"]), ("/", []), ("", []), (".", []), ("..", []),
                            ("../../a", ["a"]), ("a/..", []), ("a/../../b", ["b"]), ("~13./~31a", ["..", "@a"])):
            self.check({"s": (path, place)})

    def test_paths_with_shares_at_the_start_in_the_middle_and_at_the_end(self):
        self.check({
            "start": ("@b/c", ["b1", "b2", "c"]),
            "middle": ("a/@b/c", ["b1", "b2", "c"]),
            "end": ("/a/@b", ["b1", "b2"]),
            "up": ("@b/..", ["b1"]),
            "ups": ("@b/../../../z", ["z"]),
            "both": ("@up/@start/d", ["b1", "b2", "c", "d"]),
            "twice": ("@b/@b", ["b1", "b2"]),
            "b": ("/b1/b2", ["b1", "b2"]),
            "root": ("/", []),
            "by root": ("a/@root/e", ["e"]),
        })

    def test_shares_need_not_stand_behind_those_that_they_have(self):
        table = {"a": "@b/1", "b": "@c/2", "c": "/3", "d": "@a/@b/4"}
        for names in itertools.permutations(table):
            shares = Shares({name: table[name] for name in names})
            self.assertEqual([shares.place(name) for name in "abcd"],
                             [["3", "2", "1"], ["3", "2"], ["3"], ["3", "2", "4"]])
            self.assertEqual(shares.names(), list(names))

    def test_forty_in_a_row_in_either_order(self):
        for many in (40, 45):
            row = row_of_shares(many)
            for table in (row, turned(row)):
                shares = Shares(table)
                self.assertEqual(shares.names(), list(table))
                for number in range(many):
                    self.assertEqual(shares.place("s%d" % number), ["n%d" % at for at in range(number + 1)])

    def test_forty_with_the_one_ahead_a_hundred_times_in_the_path(self):
        table = {"s0": "/n"}
        for number in range(1, 40):
            table["s%d" % number] = "/".join(["@s%d" % (number - 1), "x"] * 100)
        for order in (table, turned(table)):
            self.assertEqual(Shares(order).place("s39"), ["n"] + ["x"] * 39)

    def test_forty_with_long_paths_each_and_all_the_others_ahead(self):
        table = {}
        for number in range(40):
            ahead = ["@s%d" % other for other in range(number)]
            table["s%d" % number] = "/".join(ahead + ["n%d" % number] * 100)
        place = []
        for number in range(40):
            place = place + ["n%d" % number] * 100
        for order in (table, turned(table)):
            self.assertEqual(Shares(order).place("s39"), place)

    def test_a_path_has_one_share_in_all_ways_to_write_it(self):
        self.check({
            "a/b": ("/1", ["1"]),
            "~13": ("/2", ["2"]),
            "..": ("/3", ["3"]),
            "@": ("/4", ["4"]),
            "@a": ("/5", ["5"]),
            ".": ("/6", ["6"]),
            "/": ("/7", ["7"]),
            "~": ("/8", ["8"]),
            " ": ("/9", ["9"]),
            "by stroke": ("@a~14b/x", ["1", "x"]),
            "by tilde": ("@~9313/x", ["2", "x"]),
            "by dots": ("@../x", ["3", "x"]),
            "by dots too": ("@.~13/x", ["3", "x"]),
            "by sign": ("@@/x", ["4", "x"]),
            "by sign too": ("@~31/x", ["4", "x"]),
            "by sign and name": ("@@~64/x", ["5", "x"]),
            "by dot": ("@./x", ["6", "x"]),
            "by one stroke": ("@~14/x", ["7", "x"]),
            "by one tilde": ("@~93/x", ["8", "x"]),
            "by blank": ("@ /x", ["9", "x"]),
        })

    def test_the_names_are_those_of_the_table_not_as_they_are_written(self):
        shares = Shares({"a/b": "/1", "@a": "/2", "..": "/3"})
        for name in ("a~14b", "a", "~31a", "~13.", "@a/b", "@", "/", "A/B", " ", "a/b "):
            with self.subTest(name=name):
                with self.assertRaises(NoShare):
                    shares.place(name)
        self.assertEqual(shares.names(), ["a/b", "@a", ".."])

    def test_a_tilde_in_a_name_of_the_table_is_no_escape(self):
        shares = Shares({"~": "/1", "a~": "/2", "~94": "/3", "~13": "/4"})
        self.assertEqual([shares.place(name) for name in shares.names()], [["1"], ["2"], ["3"], ["4"]])

    def test_a_name_that_is_not_there_is_a_path_error_and_a_value_error(self):
        for taken_by in (NoShare, PathError, ValueError):
            with self.assertRaises(taken_by):
                Shares({"a": "/"}).place("b")


class WhatChangesNothing(unittest.TestCase):
    TABLE = {"b": "@a/x", "a": "/home", "c": "../y/@b"}

    def expect(self, shares):
        self.assertEqual(shares.names(), ["b", "a", "c"])
        self.assertEqual(shares.place("a"), ["home"])
        self.assertEqual(shares.place("b"), ["home", "x"])
        self.assertEqual(shares.place("c"), ["home", "x"])
        self.assertEqual(walk(["k"], "@b/z", shares), ["home", "x", "z"])
        self.assertEqual(plain("@c/..", shares), "/home")
        with self.assertRaises(NoShare):
            shares.place("d")
        with self.assertRaises(NoShare):
            walk([], "@d", shares)

    def test_the_dict_handed_in_stays_as_it_was(self):
        table = dict(self.TABLE)
        self.expect(Shares(table))
        self.assertEqual(list(table.items()), list(self.TABLE.items()))

    def test_the_dict_changed_later(self):
        table = dict(self.TABLE)
        shares = Shares(table)
        table["a"] = "/elsewhere"
        table["b"] = "~"
        self.expect(shares)
        table["d"] = "/new"
        self.expect(shares)
        del table["b"]
        self.expect(shares)
        table.clear()
        self.expect(shares)

    def test_a_refused_dict_stays_as_it_was_and_may_be_mended(self):
        for wrong in ("~", "@d", "@c"):
            table = dict(self.TABLE, a=wrong)
            with self.assertRaises(PathError):
                Shares(table)
            self.assertEqual(table, dict(self.TABLE, a=wrong))
            table["a"] = "/home"
            self.expect(Shares(table))

    def test_the_lists_handed_out_changed_later(self):
        shares = Shares(self.TABLE)
        names = shares.names()
        self.assertIs(type(names), list)
        self.assertIsNot(names, shares.names())
        names.reverse()
        names.append("d")
        self.expect(shares)
        for name in ("a", "b", "c"):
            place = shares.place(name)
            self.assertIs(type(place), list)
            self.assertIsNot(place, shares.place(name))
            place.clear()
            self.expect(shares)
            shares.place(name).append("changed")
            self.expect(shares)

    def test_two_tables_of_the_same_names_side_by_side(self):
        first = Shares({"a": "/1", "b": "@a/x"})
        second = Shares({"b": "/2", "a": "@b/y"})
        for _ in range(2):
            self.assertEqual([first.place("a"), first.place("b")], [["1"], ["1", "x"]])
            self.assertEqual([second.place("a"), second.place("b")], [["2", "y"], ["2"]])
            self.assertEqual((first.names(), second.names()), (["a", "b"], ["b", "a"]))


class RefusedTables(unittest.TestCase):
    def refuse(self, kind, table):
        """Whichever of the shares comes first, or just in both orders where there are many."""
        orders = itertools.permutations(table) if len(table) <= 4 else (list(table), list(turned(table)))
        for names in orders:
            with self.subTest(names=names, table=table):
                with self.assertRaises(kind):
                    Shares({name: table[name] for name in names})

    def test_a_broken_escape_anywhere_in_any_path(self):
        for part in BAD_PARTS:
            for ahead in AHEAD:
                for behind in BEHIND:
                    self.refuse(BadEscape, {"s": "/x", "t": ahead + part + behind})

    def test_a_share_that_is_not_in_the_table(self):
        for path in ("@none", "@", "/@", "@/a", "@none/..", "@none/@s", "@s/@none", "/a/@none/../..", "@~31s", "@S",
                     "a/" * 60 + "@none"):
            self.refuse(NoShare, {"s": "/x", "t": path})
            self.refuse(NoShare, {"t": path, "s": "@t"})

    def test_a_ring_of_one(self):
        for path in ("@r", "/@r", "@r/a", "a/@r", "@r/..", "@r/@s", "@s/@r", "@r/../../..", "@~81", "@r/" * 60):
            self.refuse(Ring, {"s": "/x", "r": path})
            self.refuse(Ring, {"r": path, "s": "/x", "behind": "@r", "more": "@s"})

    def test_a_ring_of_two_and_of_three(self):
        self.refuse(Ring, {"a": "@b", "b": "@a"})
        self.refuse(Ring, {"a": "@b/x", "b": "/y/@a/..", "s": "/"})
        self.refuse(Ring, {"a": "@b", "b": "@c", "c": "@a", "s": "@a"})
        self.refuse(Ring, {"s": "@a", "a": "@b", "b": "@a"})

    def test_rings_of_many(self):
        for many in (1, 2, 3, 39, 40, 45):
            self.refuse(Ring, ring_of(many))

    def test_a_ring_behind_a_long_row(self):
        table = row_of_shares(40)
        table["s0"] = "@s0"
        self.refuse(Ring, table)
        table["s0"] = "/n/@s39"
        self.refuse(Ring, table)
        table["s0"] = "@s20"
        self.refuse(Ring, table)

    def test_a_ring_that_the_way_does_not_need(self):
        self.refuse(Ring, {"a": "@a/@s", "s": "/x"})
        self.refuse(Ring, {"a": "@b/@s", "b": "@a/@s", "s": "/x"})
        self.refuse(Ring, {"a": "@b/..", "b": "@a/../../..", "s": "/x"})
        self.refuse(Ring, {"a": "@a/../..", "s": "/x"})
        self.refuse(Ring, {"a": "/@b/@s/y", "b": "@s/@a/@s", "s": "/"})

    def test_no_ring_where_shares_only_meet_again(self):
        shares = Shares({"top": "@left/@right", "left": "@low/l", "right": "@low/r/@left/..", "low": "/"})
        self.assertEqual([shares.place(name) for name in shares.names()], [[], ["l"], [], []])

    def test_a_broken_escape_goes_ahead_of_a_share_that_is_not_there(self):
        self.refuse(BadEscape, {"a": "~", "b": "@none"})
        self.refuse(BadEscape, {"a": "@none/~"})
        self.refuse(BadEscape, {"a": "@~9", "b": "@"})
        self.refuse(BadEscape, {"a": "/x", "b": "@none", "c": "y/~94"})

    def test_a_broken_escape_goes_ahead_of_a_ring(self):
        self.refuse(BadEscape, {"a": "@a", "b": "~~13"})
        self.refuse(BadEscape, {"a": "@a/~"})
        self.refuse(BadEscape, {"a": "@b", "b": "@a", "c": "x/a~94"})
        self.refuse(BadEscape, dict(ring_of(39), last="~"))

    def test_a_share_that_is_not_there_goes_ahead_of_a_ring(self):
        self.refuse(NoShare, {"a": "@a", "b": "@none"})
        self.refuse(NoShare, {"a": "@a/@none"})
        self.refuse(NoShare, {"a": "@none/@a"})
        self.refuse(NoShare, {"a": "@b", "b": "@a", "c": "@"})
        self.refuse(NoShare, dict(ring_of(39), last="@none"))

    def test_all_three_at_once(self):
        self.refuse(BadEscape, {"a": "@a", "b": "@none", "c": "~"})
        self.refuse(BadEscape, {"a": "@a/@none/~"})
        self.refuse(BadEscape, {"a": "@b/@none", "b": "@a", "c": "@none", "d": "@a/~1"})

    def test_each_refusal_is_a_path_error_and_a_value_error_and_of_one_kind(self):
        kinds = {"~": BadEscape, "@none": NoShare, "@a": Ring}
        for path, kind in kinds.items():
            for taken_by in (kind, PathError, ValueError):
                self.refuse(taken_by, {"a": path})
            try:
                Shares({"a": path})
            except PathError as refusal:
                self.assertEqual([one for one in kinds.values() if isinstance(refusal, one)], [kind])

    def test_all_tables_of_three_shares_and_some_paths(self):
        paths = ("/x", "@a", "@b/y", "@c/..", "@a/@b", "@d/@c", "~/@a", "")
        for row in itertools.product(paths, repeat=3):
            table = dict(zip("abc", row))
            kind = self.expected_refusal(table)
            if kind is None:
                shares = Shares(table)
                self.assertEqual([shares.place(name) for name in "abc"],
                                 [model_walk([], "@" + name, table) for name in "abc"])
            else:
                self.refuse(kind, table)

    def expected_refusal(self, table):
        if any("~" in path for path in table.values()):
            return BadEscape
        if any("@d" in path for path in table.values()):
            return NoShare
        for names in places_of("abc", 3):
            ring = names + names[:1]
            if names and all("@" + other in table[name] for name, other in zip(ring, ring[1:])):
                return Ring
        return None


if __name__ == "__main__":
    unittest.main()
