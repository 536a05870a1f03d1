import copy
import itertools
import unittest

from postnet.bits import sorts
from postnet.building import built, plain
from postnet.posts import run, walked
from postnet.thinning import is_lean, rows_acting, thinned
from tests.nets import HUNDRED_FIGURES, WIDTH_4, acting_rows, neighbours, some_nets


def expected_rows(width, posts):
    """The first row at which each post acts, told from all rows tried at once."""
    found = []
    for acting in acting_rows(width, posts)[0]:
        first = (acting & -acting).bit_length() - 1
        found.append([first >> (width - 1 - lane) & 1 for lane in range(width)] if acting else None)
    return found


class RowsActingTest(unittest.TestCase):
    def test_one_post(self):
        self.assertEqual(rows_acting(2, [(0, 1)]), [[1, 0]])
        self.assertEqual(rows_acting(3, [(0, 1)]), [[1, 0, 0]])
        self.assertEqual(rows_acting(3, [(1, 2)]), [[0, 1, 0]])
        self.assertEqual(rows_acting(3, [(0, 2)]), [[1, 0, 0]])

    def test_first_row_is_that_ahead_of_all_posts(self):
        self.assertEqual(rows_acting(3, [(0, 1), (1, 2)]), [[1, 0, 0], [0, 1, 0]])
        self.assertEqual(rows_acting(3, [(0, 1), (0, 2)]), [[1, 0, 0], [1, 1, 0]])
        self.assertEqual(rows_acting(3, [(0, 1), (1, 2), (0, 1)]), [[1, 0, 0], [0, 1, 0], [1, 1, 0]])
        self.assertEqual(rows_acting(3, [(1, 2), (0, 1), (1, 2)]), [[0, 1, 0], [1, 0, 0], [1, 0, 0]])

    def test_net_of_width_4(self):
        self.assertEqual(
            rows_acting(4, WIDTH_4),
            [[1, 0, 0, 0], [0, 0, 1, 0], [1, 1, 0, 0], [0, 1, 0, 0], [0, 1, 0, 1]],
        )

    def test_post_twice_in_a_row(self):
        self.assertEqual(rows_acting(2, [(0, 1), (0, 1)]), [[1, 0], None])
        self.assertEqual(rows_acting(3, [(0, 2), (0, 2), (0, 2)]), [[1, 0, 0], None, None])

    def test_post_again_behind_another(self):
        self.assertEqual(rows_acting(4, [(0, 1), (2, 3), (0, 1)]), [[1, 0, 0, 0], [0, 0, 1, 0], None])
        self.assertEqual(rows_acting(3, [(0, 1), (1, 2), (0, 1)])[2], [1, 1, 0])

    def test_posts_behind_a_net_that_sorts(self):
        pairs = list(itertools.combinations(range(4), 2))
        self.assertEqual(rows_acting(4, WIDTH_4 + pairs)[5:], [None] * 6)

    def test_no_posts(self):
        for width in (1, 2, 5, 12):
            self.assertEqual(rows_acting(width, []), [])

    def test_one_lane(self):
        self.assertEqual(rows_acting(1, []), [])

    def test_twelve_lanes(self):
        self.assertEqual(
            rows_acting(12, [(10, 11), (0, 1), (0, 11), (0, 1)]),
            [[0] * 10 + [1, 0], [1] + [0] * 11, [1, 1] + [0] * 10, None],
        )
        for posts in (built(12), plain(12), built(12) + plain(12)):
            self.assertEqual(rows_acting(12, posts), expected_rows(12, posts))

    def test_last_row_of_twelve_lanes_at_which_a_post_can_act(self):
        sunk = neighbours(0, 10) + [(lane, lane + 1) for lane in range(10, -1, -1)]
        self.assertEqual(rows_acting(12, sunk)[-1], [1] * 11 + [0])

    def test_five_hundred_posts(self):
        posts = (neighbours(0, 11) * 8)[:500]
        self.assertEqual(rows_acting(12, posts), rows_acting(12, posts[:66]) + [None] * 434)

    def test_as_told_by_all_rows_at_once(self):
        for width, posts, _ in some_nets(21, 400, most_lanes=7):
            self.assertEqual(rows_acting(width, posts), expected_rows(width, posts), (width, posts))

    def test_each_post_acts_at_its_row_and_at_no_earlier_one(self):
        for width, posts, _ in some_nets(22, 100, most_lanes=5):
            rows = [list(row) for row in itertools.product((0, 1), repeat=width)]
            acting = [walked(width, posts, row)[1] for row in rows]
            for number, first in enumerate(rows_acting(width, posts)):
                at = [row for row, numbers in zip(rows, acting) if number in numbers]
                self.assertEqual(first, at[0] if at else None)

    def test_post_that_acts_at_no_bits_acts_at_no_numbers(self):
        for width, posts, chance in some_nets(23, 200):
            first_rows = rows_acting(width, posts)
            for _ in range(10):
                row = [chance.randint(-4, 4) for _ in range(width)]
                for number in walked(width, posts, row)[1]:
                    self.assertIsNotNone(first_rows[number])

    def test_kinds(self):
        answer = rows_acting(3, [(0, 1), (0, 1), (1, 2)])
        self.assertIs(type(answer), list)
        self.assertIs(answer[1], None)
        for row in (answer[0], answer[2]):
            self.assertIs(type(row), list)
            self.assertEqual([type(bit) for bit in row], [int] * 3)

    def test_rows_are_lists_of_their_own(self):
        answer = rows_acting(4, [(0, 1), (0, 2), (1, 2), (0, 1), (0, 3)])
        rows = [row for row in answer if row is not None]
        for one, other in itertools.combinations(rows, 2):
            self.assertIsNot(one, other)
        both = rows_acting(3, [(1, 2), (0, 1), (1, 2)])
        self.assertEqual(both[1], both[2])
        both[1][0] = 9
        self.assertEqual(both[2], [1, 0, 0])
        self.assertEqual(rows_acting(3, [(1, 2), (0, 1), (1, 2)])[1], [1, 0, 0])


class ThinnedTest(unittest.TestCase):
    def test_post_twice_in_a_row(self):
        self.assertEqual(thinned(2, [(0, 1), (0, 1)]), [(0, 1)])
        self.assertEqual(thinned(3, [(0, 1), (0, 1), (1, 2), (1, 2), (0, 1)]), [(0, 1), (1, 2), (0, 1)])

    def test_posts_behind_a_net_that_sorts(self):
        self.assertEqual(thinned(4, WIDTH_4 + [(0, 3), (1, 2), (0, 1)]), WIDTH_4)
        self.assertEqual(thinned(4, WIDTH_4 + plain(4)), WIDTH_4)

    def test_posts_between_that_act_at_none(self):
        self.assertEqual(thinned(3, [(0, 1), (1, 2), (0, 2), (0, 1)]), [(0, 1), (1, 2), (0, 1)])
        self.assertEqual(thinned(4, [(0, 1), (2, 3), (0, 1), (1, 2), (2, 3)]), [(0, 1), (2, 3), (1, 2), (2, 3)])

    def test_lean_nets_stay(self):
        for width, posts in ((4, WIDTH_4), (3, [(0, 1), (1, 2)]), (2, [(0, 1)]), (5, plain(5))):
            self.assertEqual(thinned(width, posts), posts)

    def test_first_of_equal_posts_stays(self):
        posts = [(0, 1), (1, 2), (1, 2), (0, 1), (0, 1), (1, 2)]
        self.assertEqual(thinned(3, posts), [(0, 1), (1, 2), (0, 1)])

    def test_no_posts(self):
        for width in (1, 2, 12):
            self.assertEqual(thinned(width, []), [])

    def test_twelve_lanes(self):
        self.assertEqual(thinned(12, plain(12) + built(12)), plain(12))
        self.assertEqual(thinned(12, [(0, 11), (0, 11), (10, 11)]), [(0, 11), (10, 11)])

    def test_just_the_posts_that_act(self):
        for width, posts, _ in some_nets(24, 300):
            rows = expected_rows(width, posts)
            self.assertEqual(thinned(width, posts), [post for post, row in zip(posts, rows) if row is not None])

    def test_makes_the_same_of_every_row(self):
        for width, posts, chance in some_nets(25, 150):
            left = thinned(width, posts)
            for row in itertools.product((0, 1), repeat=width):
                self.assertEqual(run(width, left, list(row)), run(width, posts, list(row)))
            for most in (3, HUNDRED_FIGURES):
                row = [chance.randint(-most, most) for _ in range(width)]
                self.assertEqual(run(width, left, row), run(width, posts, row))

    def test_is_lean_and_stays_when_thinned_again(self):
        for width, posts, _ in some_nets(26, 200):
            left = thinned(width, posts)
            self.assertIs(is_lean(width, left), True)
            self.assertEqual(thinned(width, left), left)

    def test_sorts_where_the_net_does(self):
        for width, posts, _ in some_nets(27, 150, most_lanes=4, most_posts=20):
            self.assertIs(sorts(width, thinned(width, posts)), sorts(width, posts))

    def test_kinds(self):
        answer = thinned(3, [(0, 1), (0, 1), (1, 2)])
        self.assertIs(type(answer), list)
        for post in answer:
            self.assertIs(type(post), tuple)


class IsLeanTest(unittest.TestCase):
    def test_lean_nets(self):
        for width, posts in ((2, [(0, 1)]), (3, [(0, 1), (1, 2), (0, 1)]), (4, WIDTH_4), (12, plain(12))):
            self.assertIs(is_lean(width, posts), True, width)

    def test_net_that_does_not_sort_may_be_lean(self):
        self.assertIs(is_lean(3, [(0, 1), (1, 2)]), True)
        self.assertIs(is_lean(12, [(3, 7)]), True)

    def test_posts_that_act_at_no_row(self):
        self.assertIs(is_lean(2, [(0, 1), (0, 1)]), False)
        self.assertIs(is_lean(4, WIDTH_4 + [(0, 3)]), False)
        self.assertIs(is_lean(3, [(0, 1), (0, 1), (1, 2)]), False)
        self.assertIs(is_lean(3, [(0, 1), (1, 2), (0, 2), (0, 1)]), False)
        self.assertIs(is_lean(12, plain(12) + [(10, 11)]), False)

    def test_no_posts(self):
        for width in (1, 2, 12):
            self.assertIs(is_lean(width, []), True)

    def test_just_where_nothing_is_thinned(self):
        for width, posts, _ in some_nets(28, 200, most_posts=8):
            self.assertIs(is_lean(width, posts), None not in expected_rows(width, posts))
            self.assertIs(is_lean(width, posts), thinned(width, posts) == posts)


class HandedInTest(unittest.TestCase):
    def test_posts_are_left_as_they_were(self):
        for call in (rows_acting, thinned, is_lean):
            for width, posts, _ in some_nets(29, 50):
                ahead = copy.deepcopy(posts)
                call(width, posts)
                self.assertEqual(posts, ahead)

    def test_thinned_posts_are_a_list_of_their_own(self):
        for posts in ([], [(0, 1)], [(0, 1), (1, 2)]):
            ahead = list(posts)
            answer = thinned(3, posts)
            self.assertIsNot(answer, posts)
            answer.append((0, 2))
            self.assertEqual(posts, ahead)
            self.assertEqual(thinned(3, posts), ahead)


if __name__ == "__main__":
    unittest.main()
