import itertools
import unittest

from model import model_part, paths_of, places_of
from plainway.plain import plain
from plainway.shares import Shares
from plainway.telling import by_share, way
from plainway.walking import walk

NONE = Shares({})
ODD_NAMES = (".", "..", "...", "@", "@a", "a@", "/", "a/b", "~", "~13", " ", "a")


class Ways(unittest.TestCase):
    def check(self, rows):
        for start, goal, text in rows:
            with self.subTest(start=start, goal=goal):
                self.assertEqual(way(start, goal), text)

    def test_between_alike_places(self):
        self.check([([], [], "."), (["a"], ["a"], "."), (["a", "b"], ["a", "b"], ".")])

    def test_to_the_root_and_from_the_root(self):
        self.check([
            (["a"], [], ".."),
            (["a", "b", "c"], [], "../../.."),
            ([], ["a"], "a"),
            ([], ["a", "b", "c"], "a/b/c"),
        ])

    def test_up_only_and_down_only(self):
        self.check([
            (["a", "b"], ["a"], ".."),
            (["a", "b", "c", "d"], ["a", "b"], "../.."),
            (["a"], ["a", "b"], "b"),
            (["a", "b"], ["a", "b", "c", "d"], "c/d"),
            (["a"], ["a", "a"], "a"),
            (["a", "a"], ["a"], ".."),
        ])

    def test_up_and_down(self):
        self.check([
            (["a"], ["b"], "../b"),
            (["a", "b"], ["a", "c"], "../c"),
            (["a", "b", "c"], ["a", "d", "e", "f"], "../../d/e/f"),
            (["a", "b"], ["b", "a"], "../../b/a"),
        ])

    def test_names_in_common_behind_unlike_ones(self):
        self.check([
            (["a", "x", "b"], ["a", "y", "b"], "../../y/b"),
            (["a", "c"], ["b", "c"], "../../b/c"),
            (["a", "b", "c", "d"], ["a", "x", "c", "d"], "../../../x/c/d"),
            (["a", "b"], ["b"], "../../b"),
            (["b"], ["a", "b"], "../a/b"),
        ])

    def test_names_that_are_alike_only_in_a_beginning_of_their_signs(self):
        self.check([
            (["ab"], ["a"], "../a"),
            (["a"], ["ab"], "../ab"),
            (["a", "bc"], ["a", "b", "c"], "../b/c"),
            (["a", "B"], ["a", "b"], "../b"),
        ])

    def test_names_that_are_written_with_escapes(self):
        self.check([
            ([], ["."], "~13"),
            ([], [".."], "~13."),
            (["a"], ["a", "..", "."], "~13./~13"),
            (["."], ["@a"], "../~31a"),
            (["a/b"], ["a", "b"], "../a/b"),
            (["a", "b"], ["a/b"], "../../a~14b"),
            ([".."], ["~13"], "../~9313"),
            (["..", "."], [".."], ".."),
            ([".."], ["..", "/"], "~14"),
            (["@"], [], ".."),
        ])

    def test_it_leads_from_the_one_to_the_other_and_is_plain(self):
        places = places_of(ODD_NAMES, 2)
        for start, goal in itertools.product(places, repeat=2):
            text = way(start, goal)
            self.assertEqual(walk(start, text, NONE), goal, (start, goal))
            self.assertEqual(plain(text, NONE), text)
            self.assertFalse(text.startswith(("/", "@")))

    def test_no_path_of_fewer_parts_leads_there(self):
        fewest = {}
        places = places_of("ab", 2)
        for path in paths_of(("..", "a", "b"), 4):
            for start in places:
                key = (str(start), str(walk(start, path, NONE)))
                parts = len(path.split("/")) if path else 0
                fewest[key] = min(parts, fewest.get(key, parts))
        for start, goal in itertools.product(places, repeat=2):
            text = way(start, goal)
            parts = 0 if text == "." else len(text.split("/"))
            self.assertEqual(parts, fewest[str(start), str(goal)], (start, goal))

    def test_long_places(self):
        names = ["n%d" % number for number in range(700)]
        self.check([
            (names, [], "/".join([".."] * 700)),
            ([], names, "/".join(names)),
            (names, names, "."),
            (names + ["x"], names + ["y", "z"], "../y/z"),
            (["x"] + names, names, "/".join([".."] * 701 + names)),
        ])

    def test_both_places_stay_as_they_were(self):
        for start, goal in ((["a", "b"], ["a", "c"]), (["a"], ["a"]), ([], ["a"]), (["a"], [])):
            kept = (list(start), list(goal))
            way(start, goal)
            self.assertEqual((start, goal), kept)
        one = ["a", "b"]
        self.assertEqual(way(one, one), ".")
        self.assertEqual(one, ["a", "b"])


class ToldByAShare(unittest.TestCase):
    def check(self, table, rows):
        shares = Shares(table)
        for place, text in rows:
            with self.subTest(table=table, place=place):
                self.assertEqual(by_share(place, shares), text)

    def test_no_share(self):
        self.check({}, [([], "/"), (["a"], "/a"), (["a", "..", "@b", "c/d"], "/a/~13./~31b/c~14d")])
        self.check({"s": "/x"}, [([], "/"), (["a"], "/a"), (["a", "x"], "/a/x")])

    def test_the_shares_own_place_and_places_below_it(self):
        self.check({"s": "/a/b"}, [
            (["a", "b"], "@s"),
            (["a", "b", "c"], "@s/c"),
            (["a", "b", "c", "d"], "@s/c/d"),
            (["a", "b", "a", "b"], "@s/a/b"),
        ])

    def test_a_place_just_above_or_beside_it(self):
        self.check({"s": "/a/b"}, [
            (["a"], "/a"),
            ([], "/"),
            (["a", "c"], "/a/c"),
            (["b"], "/b"),
            (["a", "c", "b"], "/a/c/b"),
            (["c", "a", "b"], "/c/a/b"),
        ])

    def test_names_that_are_alike_only_in_a_beginning_of_their_signs(self):
        self.check({"s": "/a/b"}, [
            (["a", "bc"], "/a/bc"),
            (["a", "bc", "d"], "/a/bc/d"),
            (["a", "B"], "/a/B"),
            (["a/b"], "/a~14b"),
            (["a/b", "c"], "/a~14b/c"),
            (["ab"], "/ab"),
        ])
        self.check({"s": "/abc"}, [(["ab"], "/ab"), (["ab", "c"], "/ab/c"), (["abc", "d"], "@s/d")])
        self.check({"s": "/a~14b"}, [(["a", "b"], "/a/b"), (["a/b", "c"], "@s/c")])

    def test_a_share_with_the_roots_place_tells_nothing(self):
        for path in ("/", "", "..", "a/..", "@other/.."):
            self.check({"root": path, "other": "/o"}, [([], "/"), (["a"], "/a"), (["o", "a"], "@other/a")])

    def test_the_longest_of_several_in_any_order(self):
        table = {"one": "/a", "two": "/a/b", "three": "/a/b/c", "root": "/", "aside": "/a/x/y/z"}
        for names in itertools.permutations(table):
            self.check({name: table[name] for name in names}, [
                (["a"], "@one"),
                (["a", "c"], "@one/c"),
                (["a", "x", "y"], "@one/x/y"),
                (["a", "b"], "@two"),
                (["a", "b", "d"], "@two/d"),
                (["a", "b", "c"], "@three"),
                (["a", "b", "c", "d", "e"], "@three/d/e"),
                (["b"], "/b"),
                ([], "/"),
            ])

    def test_the_first_of_alike_ones_in_the_tables_order(self):
        table = {"b": "/x/y", "a": "@b", "c": "/x/y/z/..", "above": "/x"}
        for names in itertools.permutations(table):
            first = [name for name in names if name != "above"][0]
            self.check({name: table[name] for name in names},
                       [(["x", "y"], "@" + first), (["x", "y", "w"], "@" + first + "/w"), (["x"], "@above")])

    def test_the_first_of_alike_ones_also_where_its_place_is_found_last(self):
        self.check({"late": "@middle", "middle": "@soon", "soon": "/x"}, [(["x", "y"], "@late/y")])
        self.check({"middle": "@soon", "late": "@middle", "soon": "/x"}, [(["x", "y"], "@middle/y")])

    def test_names_that_are_written_with_escapes(self):
        for name in ODD_NAMES:
            part = "@" + model_part(name)
            self.check({name: "/x"}, [
                (["x"], part),
                (["x", ".."], part + "/~13."),
                (["x", ".", "@b", "c/d", "~"], part + "/~13/~31b/c~14d/~93"),
            ])
        self.check({"@a": "/.~13"}, [([".."], "@~31a"), (["..", "a"], "@~31a/a"), (["."], "/~13")])

    def test_it_leads_to_the_place(self):
        shares = Shares({"@": "/a", "..": "/~13./~31", "a/b": "@@/~93", "root": "/"})
        for place in places_of(ODD_NAMES, 3):
            text = by_share(place, shares)
            self.assertEqual(walk(["k"], text, shares), place)
            self.assertEqual(text.startswith("@"), place[:1] == ["a"] or place[:2] == ["..", "@"])

    def test_long_places_and_many_shares(self):
        names = ["n%d" % number for number in range(700)]
        table = {}
        for number in range(40):
            table["s%d" % number] = "/" + "/".join(names[:number * 10])
        self.check(table, [
            (names, "@s39/" + "/".join(names[390:])),
            (names[:155], "@s15/" + "/".join(names[150:155])),
            (names[:9], "/" + "/".join(names[:9])),
        ])

    def test_the_place_and_the_table_stay_as_they_were(self):
        shares = Shares({"s": "/a/b", "root": "/"})
        for place in (["a", "b", "c"], ["a", "b"], ["a"], []):
            kept = list(place)
            text = by_share(place, shares)
            self.assertEqual(place, kept)
            self.assertEqual(by_share(place, shares), text)
        self.assertEqual((shares.names(), shares.place("s"), shares.place("root")), (["s", "root"], ["a", "b"], []))


if __name__ == "__main__":
    unittest.main()
