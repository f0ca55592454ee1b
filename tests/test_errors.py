import unittest

from plainway.errors import BadEscape, NoShare, PathError, Ring

KINDS = (BadEscape, NoShare, Ring)


class TheRefusals(unittest.TestCase):
    def test_any_refusal_is_a_value_error(self):
        self.assertTrue(issubclass(PathError, ValueError))

    def test_each_kind_is_taken_by_path_error_and_by_value_error(self):
        for kind in KINDS:
            for taken_by in (kind, PathError, ValueError):
                with self.subTest(kind=kind, taken_by=taken_by):
                    with self.assertRaises(taken_by):
                        raise kind("refused")

    def test_no_kind_takes_another_one(self):
        for kind in KINDS:
            for other in KINDS:
                if kind is not other:
                    with self.subTest(kind=kind, other=other):
                        self.assertFalse(issubclass(kind, other))

    def test_path_error_is_none_of_its_kinds(self):
        for kind in KINDS:
            self.assertFalse(issubclass(PathError, kind))


if __name__ == "__main__":
    unittest.main()
