import unittest

from postnet.bits import first_unsorted, sorts
from postnet.building import built, plain
from postnet.errors import BadPost, BadRow, NetError, TooWide
from postnet.layers import chain, layers
from postnet.notes import shown
from postnet.posts import mirrored, run, walked
from postnet.thinning import is_lean, rows_acting, thinned

GOOD = [(0, 1), (1, 2), (0, 2)]


def rows_of(call):
    """The call as one that takes a net alone, with a row that fits it."""
    return lambda width, posts: call(width, posts, [0] * max(width, 0))


WITH_A_ROW = {"run": run, "walked": walked}
WITH_ALL_ROWS = {
    "first_unsorted": first_unsorted,
    "sorts": sorts,
    "rows_acting": rows_acting,
    "thinned": thinned,
    "is_lean": is_lean,
}
WITH_A_NET = {
    "run": rows_of(run),
    "walked": rows_of(walked),
    "mirrored": mirrored,
    "layers": layers,
    "chain": chain,
    "shown": shown,
    **WITH_ALL_ROWS,
}
WITH_A_WIDTH = {"built": built, "plain": plain}


class RefusalTest(unittest.TestCase):
    def assert_refuses(self, refusal, call, *handed):
        with self.assertRaises(NetError) as caught:
            call(*handed)
        self.assertIs(type(caught.exception), refusal)
        self.assertIsInstance(caught.exception, ValueError)


class BadPostTest(RefusalTest):
    def each(self, width, posts):
        for name, call in WITH_A_NET.items():
            with self.subTest(call=name, width=width, posts=posts):
                self.assert_refuses(BadPost, call, width, posts)

    def wherever_it_stands(self, width, post):
        self.each(width, [post])
        for place in range(len(GOOD) + 1):
            self.each(width, GOOD[:place] + [post] + GOOD[place:])

    def test_width_below_one(self):
        for width in (0, -1, -2, -1000, -10 ** 99):
            self.each(width, [])

    def test_width_below_one_with_posts(self):
        self.each(0, [(0, 1)])
        self.each(-1, [(0, 1)])
        self.each(-3, [(-2, -1)])

    def test_number_below_nought(self):
        for post in ((-1, 0), (-1, 2), (-2, -1), (-3, 3), (-10 ** 99, 1)):
            self.wherever_it_stands(4, post)

    def test_number_that_is_the_width_or_more(self):
        for post in ((0, 4), (3, 4), (0, 5), (4, 5), (7, 9), (0, 10 ** 99)):
            self.wherever_it_stands(4, post)

    def test_two_equal_lanes(self):
        for post in ((0, 0), (2, 2), (3, 3)):
            self.wherever_it_stands(4, post)

    def test_lanes_the_wrong_way_round(self):
        for post in ((1, 0), (3, 0), (3, 2)):
            self.wherever_it_stands(4, post)

    def test_several_faults_in_one_post(self):
        for post in ((4, 4), (-1, -1), (5, 0), (0, -1), (4, -1)):
            self.wherever_it_stands(4, post)

    def test_no_post_fits_one_lane(self):
        for post in ((0, 0), (0, 1), (-1, 0), (1, 0)):
            self.each(1, [post])

    def test_last_of_five_hundred_posts(self):
        self.each(12, [(0, 1)] * 499 + [(11, 12)])

    def test_numbers_that_python_does_not_write_out(self):
        far = 10 ** 5000
        self.each(-far, [])
        self.each(4, [(0, far)])
        self.each(4, [(-far, 0)])

    def test_what_is_just_no_fault(self):
        for name, call in WITH_A_NET.items():
            with self.subTest(call=name):
                call(1, [])
                call(2, [(0, 1)])
                call(4, [(0, 3), (2, 3), (0, 1), (0, 3)])

    def test_width_alone(self):
        for name, call in WITH_A_WIDTH.items():
            for width in (0, -1, -2, -7, -1000, -10 ** 99, -10 ** 5000):
                with self.subTest(call=name, bits=width.bit_length()):
                    self.assert_refuses(BadPost, call, width)
            self.assertEqual(call(1), [])

    def test_refused_posts_are_left_as_they_were(self):
        for call in WITH_A_NET.values():
            posts = [(1, 2), (0, 1), (0, 3)]
            self.assert_refuses(BadPost, call, 3, posts)
            self.assertEqual(posts, [(1, 2), (0, 1), (0, 3)])


class BadRowTest(RefusalTest):
    def test_another_length(self):
        for name, call in WITH_A_ROW.items():
            for width, length in ((1, 0), (1, 2), (3, 0), (3, 1), (3, 2), (3, 4), (3, 6), (1000, 999), (1000, 1001)):
                for posts in ([], [(0, 1)] if width > 1 else []):
                    with self.subTest(call=name, width=width, length=length, posts=posts):
                        self.assert_refuses(BadRow, call, width, posts, [0] * length)

    def test_row_too_short_for_a_post(self):
        for call in WITH_A_ROW.values():
            self.assert_refuses(BadRow, call, 3, [(1, 2)], [1, 2])

    def test_behind_bad_post(self):
        for name, call in WITH_A_ROW.items():
            for post in ((0, 3), (-1, 0), (1, 1), (2, 1)):
                for row in ([], [1, 2], [1, 2, 3, 4]):
                    with self.subTest(call=name, post=post, row=row):
                        self.assert_refuses(BadPost, call, 3, [post], row)
                        self.assert_refuses(BadPost, call, 3, GOOD + [post], row)

    def test_behind_bad_width(self):
        for call in WITH_A_ROW.values():
            self.assert_refuses(BadPost, call, 0, [], [])
            self.assert_refuses(BadPost, call, 0, [], [1])
            self.assert_refuses(BadPost, call, -1, [], [1, 2])

    def test_refused_row_is_left_as_it_was(self):
        for call in WITH_A_ROW.values():
            row = [3, 2, 1]
            posts = [(0, 1)]
            self.assert_refuses(BadRow, call, 2, posts, row)
            self.assertEqual(row, [3, 2, 1])
            posts = [(0, 1), (0, 3)]
            self.assert_refuses(BadPost, call, 3, posts, row)
            self.assertEqual(row, [3, 2, 1])
            self.assertEqual(posts, [(0, 1), (0, 3)])


class TooWideTest(RefusalTest):
    def test_more_than_twelve_lanes(self):
        for name, call in WITH_ALL_ROWS.items():
            for width in (13, 14, 20, 64, 1000, 1001):
                for posts in ([], [(0, 1)], [(0, 12), (11, 12)]):
                    with self.subTest(call=name, width=width, posts=posts):
                        self.assert_refuses(TooWide, call, width, posts)

    def test_twelve_lanes_are_tried(self):
        self.assertEqual(first_unsorted(12, []), [0] * 10 + [1, 0])
        self.assertIs(sorts(12, []), False)
        self.assertEqual(rows_acting(12, [(0, 11)]), [[1] + [0] * 11])
        self.assertEqual(thinned(12, [(0, 11), (0, 11)]), [(0, 11)])
        self.assertIs(is_lean(12, [(0, 11)]), True)

    def test_behind_bad_post(self):
        for name, call in WITH_ALL_ROWS.items():
            for post in ((0, 13), (-1, 0), (5, 5), (12, 0)):
                with self.subTest(call=name, post=post):
                    self.assert_refuses(BadPost, call, 13, [post])
                    self.assert_refuses(BadPost, call, 13, [(0, 12), post])
                    self.assert_refuses(BadPost, call, 13, [post, (0, 12)])

    def test_behind_bad_post_for_any_width(self):
        for name, call in WITH_ALL_ROWS.items():
            for width in (13, 14, 100, 1000, 1001):
                with self.subTest(call=name, width=width):
                    self.assert_refuses(BadPost, call, width, [(0, 1), (0, width)])

    def test_refused_posts_are_left_as_they_were(self):
        for call in WITH_ALL_ROWS.values():
            posts = [(1, 2), (0, 1), (0, 1)]
            self.assert_refuses(TooWide, call, 13, posts)
            self.assertEqual(posts, [(1, 2), (0, 1), (0, 1)])

    def test_wide_nets_are_told_in_layers_and_lines(self):
        self.assertEqual(layers(13, [(0, 12)]), [[(0, 12)]])
        self.assertEqual(chain(13, [(0, 12)]), [0])
        self.assertEqual(shown(13, [(0, 12)]), ["13", "0:12"])

    def test_wide_nets_are_run_and_mirrored(self):
        self.assertEqual(run(13, [(0, 12)], [1] + [0] * 12), [0] * 12 + [1])
        self.assertEqual(walked(13, [(0, 12)], [1] + [0] * 12), ([[0] * 12 + [1]], [0]))
        self.assertEqual(mirrored(13, [(0, 11)]), [(1, 12)])


if __name__ == "__main__":
    unittest.main()
