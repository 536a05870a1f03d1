import copy
import itertools
import unittest

from postnet.building import built, plain
from postnet.layers import chain, layers
from postnet.posts import run
from tests.nets import WIDTH_4, some_nets


def expected_layer_numbers(posts):
    """Point 13 told again: one more than the greatest of the earlier posts with a lane of the post."""
    numbers = []
    for post in posts:
        earlier = [number for other, number in zip(posts, numbers) if set(other) & set(post)]
        numbers.append(max(earlier) + 1 if earlier else 0)
    return numbers


def expected_layers(posts):
    numbers = expected_layer_numbers(posts)
    return [
        sorted(post for post, number in zip(posts, numbers) if number == layer)
        for layer in range(max(numbers, default=-1) + 1)
    ]


def longest_chain(posts):
    """How many posts the longest chain has, found without layers."""
    lengths = []
    for number, post in enumerate(posts):
        ahead = [lengths[other] for other in range(number) if set(posts[other]) & set(post)]
        lengths.append(1 + max(ahead, default=0))
    return max(lengths, default=0)


class LayersTest(unittest.TestCase):
    def test_no_posts(self):
        for width in (1, 2, 1000):
            self.assertEqual(layers(width, []), [])

    def test_one_post(self):
        self.assertEqual(layers(2, [(0, 1)]), [[(0, 1)]])

    def test_posts_that_share_no_lane(self):
        self.assertEqual(layers(6, [(0, 1), (2, 3), (4, 5)]), [[(0, 1), (2, 3), (4, 5)]])
        self.assertEqual(layers(6, [(0, 5), (1, 4), (2, 3)]), [[(0, 5), (1, 4), (2, 3)]])

    def test_posts_that_all_share_one(self):
        self.assertEqual(layers(4, [(0, 1), (0, 2), (0, 3)]), [[(0, 1)], [(0, 2)], [(0, 3)]])
        self.assertEqual(layers(4, [(2, 3), (0, 3), (1, 3)]), [[(2, 3)], [(0, 3)], [(1, 3)]])
        self.assertEqual(layers(4, [(1, 3), (0, 1), (1, 2)]), [[(1, 3)], [(0, 1)], [(1, 2)]])

    def test_same_post_several_times(self):
        self.assertEqual(layers(2, [(0, 1)] * 3), [[(0, 1)]] * 3)
        self.assertEqual(layers(4, [(2, 3), (0, 1), (0, 1)]), [[(0, 1), (2, 3)], [(0, 1)]])

    def test_order_within_a_layer(self):
        self.assertEqual(layers(6, [(4, 5), (2, 3), (0, 1)]), [[(0, 1), (2, 3), (4, 5)]])
        self.assertEqual(layers(6, [(2, 3), (1, 4), (0, 5)]), [[(0, 5), (1, 4), (2, 3)]])

    def test_order_is_that_of_the_numbers(self):
        self.assertEqual(layers(200, [(10, 11), (100, 101), (9, 12), (2, 3)]), [[(2, 3), (9, 12), (10, 11), (100, 101)]])

    def test_later_post_falls_into_an_early_layer(self):
        self.assertEqual(
            layers(6, [(0, 1), (1, 2), (2, 3), (4, 5)]),
            [[(0, 1), (4, 5)], [(1, 2)], [(2, 3)]],
        )

    def test_not_into_a_gap_ahead_of_a_post_on_its_lane(self):
        self.assertEqual(
            layers(4, [(0, 1), (1, 2), (2, 3), (0, 3)]),
            [[(0, 1)], [(1, 2)], [(2, 3)], [(0, 3)]],
        )

    def test_behind_the_later_of_both_lanes(self):
        self.assertEqual(
            layers(5, [(0, 1), (0, 2), (3, 4), (2, 3)]),
            [[(0, 1), (3, 4)], [(0, 2)], [(2, 3)]],
        )
        self.assertEqual(
            layers(5, [(3, 4), (2, 4), (0, 1), (1, 2)]),
            [[(0, 1), (3, 4)], [(2, 4)], [(1, 2)]],
        )

    def test_post_over_a_lane_does_not_stand_on_it(self):
        self.assertEqual(layers(4, [(1, 2), (0, 3)]), [[(0, 3), (1, 2)]])

    def test_built_nets(self):
        self.assertEqual(layers(4, WIDTH_4), [[(0, 1), (2, 3)], [(0, 2), (1, 3)], [(1, 2)]])
        self.assertEqual([len(layers(count, built(count))) for count in (1, 2, 4, 8, 16, 32)], [0, 1, 3, 6, 10, 15])

    def test_plain_nets(self):
        for width in range(2, 12):
            self.assertEqual(len(layers(width, plain(width))), 2 * width - 3)

    def test_as_told_again(self):
        for width, posts, _ in some_nets(31, 400, most_lanes=9, most_posts=25):
            self.assertEqual(layers(width, posts), expected_layers(posts), (width, posts))

    def test_no_two_posts_of_a_layer_on_a_lane_together(self):
        for width, posts, _ in some_nets(32, 200, most_lanes=9, most_posts=25):
            for layer in layers(width, posts):
                lanes = [lane for post in layer for lane in post]
                self.assertEqual(len(lanes), len(set(lanes)))

    def test_each_post_is_in_one_layer(self):
        for width, posts, _ in some_nets(33, 200, most_lanes=9, most_posts=25):
            found = layers(width, posts)
            self.assertEqual(sorted(itertools.chain(*found)), sorted(posts))
            self.assertNotIn([], found)

    def test_rows_come_out_as_behind_the_posts(self):
        for width, posts, chance in some_nets(34, 200, most_lanes=9, most_posts=25):
            found = layers(width, posts)
            row = [chance.randint(-9, 9) for _ in range(width)]
            self.assertEqual(run(width, list(itertools.chain(*found)), row), run(width, posts, row))
            mixed = [post for layer in found for post in chance.sample(layer, len(layer))]
            self.assertEqual(run(width, mixed, row), run(width, posts, row))

    def test_widest_and_longest_net(self):
        self.assertEqual(layers(1000, [(lane, lane + 500) for lane in range(499, -1, -1)]), [
            [(lane, lane + 500) for lane in range(500)]
        ])
        self.assertEqual(layers(1000, [(lane, lane + 1) for lane in range(500)]), [
            [(lane, lane + 1)] for lane in range(500)
        ])

    def test_somewhat_beyond_the_bounds_nothing_is_refused(self):
        self.assertEqual(layers(10 ** 30, [(0, 10 ** 29)]), [[(0, 10 ** 29)]])
        self.assertEqual(len(layers(1100, [(lane, lane + 1) for lane in range(1099)])), 1099)

    def test_kinds(self):
        answer = layers(4, WIDTH_4)
        self.assertIs(type(answer), list)
        for layer in answer:
            self.assertIs(type(layer), list)
            for post in layer:
                self.assertIs(type(post), tuple)


class ChainTest(unittest.TestCase):
    def assert_chain(self, width, posts):
        found = chain(width, posts)
        self.assertIs(type(found), list)
        self.assertEqual([type(number) for number in found], [int] * len(found))
        self.assertEqual(len(found), len(expected_layers(posts)), (width, posts, found))
        self.assertEqual(found, sorted(set(found)), (width, posts, found))
        self.assertLessEqual(set(found), set(range(len(posts))))
        for number, later in zip(found, found[1:]):
            self.assertTrue(set(posts[number]) & set(posts[later]), (width, posts, found))

    def test_no_posts(self):
        for width in (1, 2, 1000):
            self.assertEqual(chain(width, []), [])

    def test_one_post(self):
        self.assertEqual(chain(2, [(0, 1)]), [0])

    def test_posts_that_share_no_lane(self):
        self.assertIn(chain(6, [(0, 1), (2, 3), (4, 5)]), ([0], [1], [2]))

    def test_posts_that_all_share_one(self):
        self.assertEqual(chain(4, [(0, 1), (0, 2), (0, 3)]), [0, 1, 2])
        self.assertEqual(chain(4, [(0, 3), (1, 3), (2, 3)]), [0, 1, 2])

    def test_same_post_several_times(self):
        self.assertEqual(chain(2, [(0, 1)] * 4), [0, 1, 2, 3])
        self.assertEqual(chain(4, [(0, 1), (2, 3), (0, 1)]), [0, 2])

    def test_the_only_chain_there_is(self):
        self.assertEqual(chain(6, [(4, 5), (0, 1), (3, 4), (1, 2), (0, 3)]), [0, 2, 4])
        self.assertEqual(chain(5, [(3, 4), (0, 1), (3, 4), (1, 4)]), [0, 2, 3])
        self.assertEqual(chain(6, [(0, 1), (2, 3), (1, 2), (4, 5), (3, 4), (2, 5), (0, 2)])[-3:], [2, 5, 6])

    def test_posts_of_the_right_layers_that_share_no_lane_are_passed_over(self):
        self.assertEqual(chain(6, [(0, 1), (2, 3), (0, 2), (4, 5), (4, 5), (1, 2)])[1:], [2, 5])
        self.assertEqual(chain(7, [(0, 1), (1, 2), (3, 4), (3, 4), (1, 2)]), [0, 1, 4])

    def test_ordinary_nets(self):
        for width, posts in ((4, WIDTH_4), (8, built(8)), (32, built(32)), (10, plain(10)), (4, WIDTH_4 * 3)):
            self.assert_chain(width, posts)

    def test_any_nets(self):
        for width, posts, _ in some_nets(35, 500, most_lanes=9, most_posts=30):
            self.assert_chain(width, posts)

    def test_there_are_as_few_layers_as_can_be(self):
        for width, posts, _ in some_nets(36, 200, most_lanes=9, most_posts=30):
            self.assertEqual(len(layers(width, posts)), longest_chain(posts))
            self.assertEqual(len(chain(width, posts)), len(layers(width, posts)))

    def test_longest_net(self):
        self.assertEqual(chain(1000, [(lane, lane + 1) for lane in range(500)]), list(range(500)))
        self.assertEqual(chain(1000, [(0, 1)] * 500), list(range(500)))

    def test_somewhat_beyond_the_bounds_nothing_is_refused(self):
        self.assertEqual(chain(10 ** 30, [(0, 10 ** 29)]), [0])
        self.assertEqual(chain(1100, [(lane, lane + 1) for lane in range(1099)]), list(range(1099)))


class HandedInTest(unittest.TestCase):
    def test_posts_are_left_as_they_were(self):
        for call in (layers, chain):
            for width, posts, _ in some_nets(37, 50):
                ahead = copy.deepcopy(posts)
                call(width, posts)
                self.assertEqual(posts, ahead)

    def test_answers_are_lists_of_their_own(self):
        posts = [(2, 3), (0, 1)]
        answer = layers(4, posts)
        answer[0].append((0, 3))
        answer.append([])
        chain(4, posts).append(9)
        chain(4, []).append(9)
        layers(4, []).append([])
        self.assertEqual(posts, [(2, 3), (0, 1)])
        self.assertEqual(layers(4, posts), [[(0, 1), (2, 3)]])
        self.assertEqual((layers(4, []), chain(4, [])), ([], []))

    def test_equal_layers_are_lists_of_their_own(self):
        first, second = layers(2, [(0, 1), (0, 1)])
        self.assertIsNot(first, second)


if __name__ == "__main__":
    unittest.main()
