"""The examples of the document, by points."""

import unittest

from tests.sessions import check_session


class Examples(unittest.TestCase):
    def test_point_4(self):
        check_session(self, """
            >>> from basketrope.towers import is_tower, tower_error
            >>> U = (2, (1, 3))
            >>> [is_tower(U), tower_error((0, ())), tower_error((2, None)), tower_error((2, (1, 0)))]
            [True, (None, 'excess'), (None, 'weights'), (1, 'weight')]
        """)

    def test_point_5(self):
        check_session(self, """
            >>> from basketrope.towers import is_group, weight_of
            >>> T = (4, (3, 4, 9, 20))
            >>> [is_group(T, (0, 2)), is_group(T, (2, 0)), is_group(T, (4,)), weight_of(T, (0, 2)), weight_of(T, ())]
            [True, False, False, 12, 0]
        """)


if __name__ == "__main__":
    unittest.main()
