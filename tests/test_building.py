import random
import unittest

from postnet.bits import is_rising, sorts
from postnet.building import built, plain
from postnet.posts import run
from tests.nets import WIDTH_4, acting_rows, neighbours

WIDTH_8 = (
    [(0, 1), (2, 3), (0, 2), (1, 3), (1, 2)]
    + [(4, 5), (6, 7), (4, 6), (5, 7), (5, 6)]
    + [(0, 4), (2, 6), (2, 4), (1, 5), (3, 7), (3, 5), (1, 2), (3, 4), (5, 6)]
)


def sorts_all_bits(width, posts):
    """Whether the posts sort all rows of noughts and ones, all of them tried at once."""
    lanes = acting_rows(width, posts)[1]
    return all(lanes[lane] & ~lanes[lane + 1] == 0 for lane in range(width - 1))


def rows_to_sort(width):
    """Rows of a width: falling, with equal numbers, of noughts and ones, and by chance."""
    chance = random.Random(width)
    yield list(range(width, 0, -1))
    yield [lane % 2 for lane in range(width)]
    yield [1] * (width // 2) + [0] * (width - width // 2)
    for most in (1, 3, width, 10 ** 99):
        yield [chance.randint(-most, most) for _ in range(width)]


class BuildingTest(unittest.TestCase):
    def assert_sorts_rows(self, width, posts):
        for row in rows_to_sort(width):
            self.assertEqual(run(width, posts, row), sorted(row), width)

    def assert_kinds(self, posts):
        self.assertIs(type(posts), list)
        for post in posts:
            self.assertIs(type(post), tuple)
            self.assertEqual(len(post), 2)
            self.assertEqual([type(lane) for lane in post], [int, int])


class BuiltTest(BuildingTest):
    def test_one_lane(self):
        self.assertEqual(built(1), [])

    def test_two_lanes(self):
        self.assertEqual(built(2), [(0, 1)])

    def test_three_lanes(self):
        self.assertEqual(built(3), [(0, 1), (0, 2), (1, 2)])

    def test_four_lanes(self):
        self.assertEqual(built(4), WIDTH_4)

    def test_five_lanes(self):
        self.assertEqual(built(5), [(0, 1), (2, 3), (0, 2), (1, 3), (1, 2), (0, 4), (2, 4), (1, 2), (3, 4)])

    def test_eight_lanes(self):
        self.assertEqual(built(8), WIDTH_8)

    def test_sixteen_lanes(self):
        upper = [(low + 8, high + 8) for low, high in WIDTH_8]
        merged = (
            [(0, 8), (4, 12), (4, 8), (2, 10), (6, 14), (6, 10), (2, 4), (6, 8), (10, 12)]
            + [(1, 9), (5, 13), (5, 9), (3, 11), (7, 15), (7, 11), (3, 5), (7, 9), (11, 13)]
            + [(1, 2), (3, 4), (5, 6), (7, 8), (9, 10), (11, 12), (13, 14)]
        )
        self.assertEqual(built(16), WIDTH_8 + upper + merged)

    def test_other_widths_leave_out_posts_with_a_lane_that_is_not_there(self):
        for width in (5, 6, 7):
            self.assertEqual(built(width), [post for post in WIDTH_8 if post[1] < width])
        for count in (2, 4, 8, 16, 32, 64):
            whole = built(count)
            for width in range(count // 2 + 1, count):
                self.assertEqual(built(width), [post for post in whole if post[1] < width], width)

    def test_as_many_posts_as_the_halves_and_the_merging_have(self):
        self.assertEqual([len(built(count)) for count in (1, 2, 4, 8, 16, 32, 64)], [0, 1, 5, 19, 63, 191, 543])
        self.assertEqual(len(built(1024)), 24063)

    def test_sorts(self):
        for width in range(1, 13):
            self.assertIs(sorts(width, built(width)), True, width)

    def test_sorts_all_bits_of_some_more_lanes(self):
        for width in range(1, 17):
            self.assertTrue(sorts_all_bits(width, built(width)), width)

    def test_puts_rows_of_greater_widths_in_order(self):
        for width in list(range(13, 40)) + [63, 64, 65, 100, 127, 128, 129, 500, 512, 1000, 1024, 1100]:
            self.assert_sorts_rows(width, built(width))

    def test_kinds(self):
        for width in (1, 2, 5, 8):
            self.assert_kinds(built(width))

    def test_each_answer_is_a_list_of_its_own(self):
        for width in (1, 2, 4):
            built(width).append((0, 9))
        self.assertEqual((built(1), built(2), built(4)), ([], [(0, 1)], WIDTH_4))


class PlainTest(BuildingTest):
    def test_few_lanes(self):
        self.assertEqual(plain(1), [])
        self.assertEqual(plain(2), [(0, 1)])
        self.assertEqual(plain(3), [(0, 1), (1, 2), (0, 1)])
        self.assertEqual(plain(4), [(0, 1), (1, 2), (2, 3), (0, 1), (1, 2), (0, 1)])
        self.assertEqual(
            plain(5),
            [(0, 1), (1, 2), (2, 3), (3, 4), (0, 1), (1, 2), (2, 3), (0, 1), (1, 2), (0, 1)],
        )

    def test_order_for_any_width(self):
        for width in (1, 2, 3, 8, 12, 13, 33, 100):
            self.assertEqual(plain(width), neighbours(0, width - 1), width)

    def test_as_many_posts_as_pairs_of_lanes(self):
        for width in (1, 2, 3, 7, 12, 50, 1000):
            self.assertEqual(len(plain(width)), width * (width - 1) // 2)

    def test_neighbours_alone(self):
        for low, high in plain(20):
            self.assertEqual(high, low + 1)

    def test_sorts(self):
        for width in range(1, 13):
            self.assertIs(sorts(width, plain(width)), True, width)

    def test_needs_its_last_post(self):
        for width in range(2, 9):
            self.assertIs(sorts(width, plain(width)[:-1]), False, width)

    def test_puts_rows_of_greater_widths_in_order(self):
        for width in (13, 16, 17, 40, 64, 100):
            self.assert_sorts_rows(width, plain(width))

    def test_widest_net(self):
        row = list(range(1000, 0, -1))
        self.assertTrue(is_rising(run(1000, plain(1000), row)))

    def test_kinds(self):
        for width in (1, 2, 5, 8):
            self.assert_kinds(plain(width))

    def test_each_answer_is_a_list_of_its_own(self):
        for width in (1, 2, 3):
            plain(width).append((0, 9))
        self.assertEqual((plain(1), plain(2), plain(3)), ([], [(0, 1)], [(0, 1), (1, 2), (0, 1)]))


if __name__ == "__main__":
    unittest.main()
