import unittest

from towpath.errors import NoStretch, PathError


class Errors(unittest.TestCase):
    def test_path_error_is_a_value_error(self):
        self.assertEqual(PathError.__bases__, (ValueError,))

    def test_no_stretch_is_a_path_error(self):
        self.assertEqual(NoStretch.__bases__, (PathError,))

    def test_both_can_be_raised_with_free_words(self):
        for kind in (PathError, NoStretch):
            with self.assertRaises(ValueError):
                raise kind("words")


if __name__ == "__main__":
    unittest.main()
