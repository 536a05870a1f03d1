import copy
import itertools
import unittest

from postnet.posts import mirrored, run, walked
from tests.nets import HUNDRED_FIGURES, WIDTH_4, some_nets


def expected_walk(posts, row):
    """Point 4 told again, with a new row for each post."""
    rows = []
    acting = []
    for number, (low, high) in enumerate(posts):
        behind = list(row)
        behind[low] = min(row[low], row[high])
        behind[high] = max(row[low], row[high])
        if row[low] > row[high]:
            acting.append(number)
        rows.append(behind)
        row = behind
    return rows, acting


class RunTest(unittest.TestCase):
    def test_one_post_exchanges_where_low_is_greater(self):
        self.assertEqual(run(2, [(0, 1)], [2, 1]), [1, 2])

    def test_one_post_leaves_what_stands_right(self):
        self.assertEqual(run(2, [(0, 1)], [1, 2]), [1, 2])

    def test_post_touches_its_two_lanes_alone(self):
        self.assertEqual(run(5, [(1, 3)], [9, 8, 7, 6, 5]), [9, 6, 7, 8, 5])

    def test_first_and_last_lane(self):
        self.assertEqual(run(4, [(0, 3)], [4, 3, 2, 1]), [1, 3, 2, 4])

    def test_posts_stand_one_behind_the_other(self):
        self.assertEqual(run(3, [(0, 1), (1, 2)], [3, 2, 1]), [2, 1, 3])
        self.assertEqual(run(3, [(1, 2), (0, 1)], [3, 2, 1]), [1, 3, 2])

    def test_net_of_width_4_sorts_every_row(self):
        for row in itertools.product(range(4), repeat=4):
            self.assertEqual(run(4, WIDTH_4, list(row)), sorted(row))

    def test_a_net_that_does_not_sort(self):
        self.assertEqual(run(3, [(0, 1)], [3, 2, 1]), [2, 3, 1])

    def test_no_posts(self):
        self.assertEqual(run(3, [], [3, 1, 2]), [3, 1, 2])

    def test_one_lane(self):
        self.assertEqual(run(1, [], [7]), [7])

    def test_same_post_several_times(self):
        self.assertEqual(run(2, [(0, 1), (0, 1), (0, 1)], [2, 1]), [1, 2])
        self.assertEqual(run(3, [(0, 1), (1, 2), (0, 1)], [3, 2, 1]), [1, 2, 3])

    def test_equal_numbers(self):
        self.assertEqual(run(3, [(0, 1), (1, 2), (0, 1)], [2, 2, 1]), [1, 2, 2])
        self.assertEqual(run(2, [(0, 1)], [5, 5]), [5, 5])

    def test_negative_numbers(self):
        self.assertEqual(run(4, WIDTH_4, [0, -1, 1, -2]), [-2, -1, 0, 1])
        self.assertEqual(run(2, [(0, 1)], [-2, -1]), [-2, -1])

    def test_numbers_of_a_hundred_figures(self):
        row = [HUNDRED_FIGURES + 1, HUNDRED_FIGURES, -HUNDRED_FIGURES, -HUNDRED_FIGURES - 1]
        self.assertEqual(len(str(row[0])), 100)
        self.assertEqual(
            run(4, WIDTH_4, row),
            [-HUNDRED_FIGURES - 1, -HUNDRED_FIGURES, HUNDRED_FIGURES, HUNDRED_FIGURES + 1],
        )

    def test_widest_and_longest_net(self):
        width = 1000
        posts = [(lane, lane + 500) for lane in range(500)]
        row = list(range(width, 0, -1))
        self.assertEqual(run(width, posts, row), row[500:] + row[:500])

    def test_somewhat_beyond_the_bounds_nothing_is_refused(self):
        posts = [(lane, lane + 1) for lane in range(1099)]
        row = [10 ** 150] + [0] * 1099
        self.assertEqual(run(1100, posts, row), [0] * 1099 + [10 ** 150])

    def test_as_told_by_least_and_greatest(self):
        for width, posts, chance in some_nets(1, 300):
            row = [chance.randint(-4, 4) for _ in range(width)]
            rows = expected_walk(posts, row)[0]
            self.assertEqual(run(width, posts, row), rows[-1] if rows else row)


class WalkedTest(unittest.TestCase):
    def test_rows_and_acting_posts(self):
        rows, acting = walked(3, [(0, 1), (1, 2), (0, 1)], [2, 3, 1])
        self.assertEqual(rows, [[2, 3, 1], [2, 1, 3], [1, 2, 3]])
        self.assertEqual(acting, [1, 2])

    def test_kinds(self):
        answer = walked(3, [(0, 1), (1, 2)], [3, 2, 1])
        self.assertIs(type(answer), tuple)
        self.assertEqual(len(answer), 2)
        self.assertIs(type(answer[0]), list)
        self.assertIs(type(answer[1]), list)
        for row in answer[0]:
            self.assertIs(type(row), list)
        for number in answer[1]:
            self.assertIs(type(number), int)

    def test_no_posts(self):
        self.assertEqual(walked(3, [], [3, 1, 2]), ([], []))

    def test_one_lane(self):
        self.assertEqual(walked(1, [], [7]), ([], []))

    def test_row_in_order_has_no_acting_posts(self):
        self.assertEqual(walked(2, [(0, 1), (0, 1)], [1, 2]), ([[1, 2], [1, 2]], []))

    def test_all_posts_act(self):
        self.assertEqual(
            walked(3, [(0, 1), (1, 2), (0, 1)], [3, 2, 1]),
            ([[2, 3, 1], [2, 1, 3], [1, 2, 3]], [0, 1, 2]),
        )

    def test_same_post_acts_once_at_most_in_a_run_of_it(self):
        self.assertEqual(walked(2, [(0, 1), (0, 1), (0, 1)], [2, 1]), ([[1, 2]] * 3, [0]))

    def test_same_post_may_act_again_behind_another(self):
        self.assertEqual(walked(3, [(0, 1), (1, 2), (0, 1)], [2, 1, 0])[1], [0, 1, 2])

    def test_post_between_equal_numbers_does_not_act(self):
        self.assertEqual(walked(2, [(0, 1)], [5, 5]), ([[5, 5]], []))

    def test_negative_and_large_numbers(self):
        row = [HUNDRED_FIGURES + 1, HUNDRED_FIGURES, -HUNDRED_FIGURES]
        self.assertEqual(
            walked(3, [(0, 1), (0, 2)], row),
            (
                [
                    [HUNDRED_FIGURES, HUNDRED_FIGURES + 1, -HUNDRED_FIGURES],
                    [-HUNDRED_FIGURES, HUNDRED_FIGURES + 1, HUNDRED_FIGURES],
                ],
                [0, 1],
            ),
        )

    def test_widest_and_longest_net(self):
        width = 1000
        posts = [(lane, lane + 500) for lane in range(500)]
        row = list(range(width, 0, -1))
        rows, acting = walked(width, posts, row)
        self.assertEqual(len(rows), 500)
        self.assertEqual(rows[0], [500] + row[1:500] + [1000] + row[501:])
        self.assertEqual(rows[-1], row[500:] + row[:500])
        self.assertEqual(acting, list(range(500)))

    def test_as_told_by_least_and_greatest(self):
        for width, posts, chance in some_nets(2, 300):
            row = [chance.randint(-4, 4) for _ in range(width)]
            self.assertEqual(walked(width, posts, row), expected_walk(posts, row))

    def test_last_row_is_that_of_run(self):
        for width, posts, chance in some_nets(3, 100):
            row = [chance.randint(-4, 4) for _ in range(width)]
            rows = walked(width, posts, row)[0]
            self.assertEqual(([row] + rows)[-1], run(width, posts, row))


class MirroredTest(unittest.TestCase):
    def test_posts_in_the_same_order(self):
        self.assertEqual(mirrored(4, [(0, 1), (0, 2), (1, 3), (0, 3)]), [(2, 3), (1, 3), (0, 2), (0, 3)])

    def test_kinds(self):
        answer = mirrored(3, [(0, 1), (1, 2)])
        self.assertIs(type(answer), list)
        for post in answer:
            self.assertIs(type(post), tuple)

    def test_middle_post_is_its_own_mirror(self):
        self.assertEqual(mirrored(4, [(1, 2)]), [(1, 2)])
        self.assertEqual(mirrored(2, [(0, 1)]), [(0, 1)])

    def test_depends_on_the_width(self):
        self.assertEqual(mirrored(10, [(0, 1)]), [(8, 9)])

    def test_same_post_several_times(self):
        self.assertEqual(mirrored(3, [(0, 1), (0, 1), (1, 2), (0, 1)]), [(1, 2), (1, 2), (0, 1), (1, 2)])

    def test_no_posts(self):
        self.assertEqual(mirrored(5, []), [])

    def test_one_lane(self):
        self.assertEqual(mirrored(1, []), [])

    def test_widest_net(self):
        self.assertEqual(mirrored(1000, [(0, 999), (0, 1), (400, 700)]), [(0, 999), (998, 999), (299, 599)])

    def test_mirror_of_the_mirror_is_the_net(self):
        for width, posts, _ in some_nets(4, 100):
            self.assertEqual(mirrored(width, mirrored(width, posts)), posts)

    def test_mirror_does_the_same_to_turned_rows(self):
        for width, posts, chance in some_nets(5, 100):
            row = [chance.randint(-9, 9) for _ in range(width)]
            turned = [-number for number in reversed(row)]
            behind = [-number for number in reversed(run(width, mirrored(width, posts), turned))]
            self.assertEqual(behind, run(width, posts, row))


class HandedInTest(unittest.TestCase):
    def test_nothing_is_changed(self):
        for call in (run, walked):
            posts = list(WIDTH_4)
            row = [4, 3, 2, 1]
            call(4, posts, row)
            self.assertEqual(posts, WIDTH_4)
            self.assertEqual(row, [4, 3, 2, 1])
        posts = [(0, 1), (0, 2)]
        mirrored(4, posts)
        self.assertEqual(posts, [(0, 1), (0, 2)])

    def test_nothing_is_changed_in_any_net(self):
        for width, posts, chance in some_nets(6, 100):
            row = [chance.randint(-9, 9) for _ in range(width)]
            ahead = copy.deepcopy((posts, row))
            run(width, posts, row)
            walked(width, posts, row)
            mirrored(width, posts)
            self.assertEqual((posts, row), ahead)

    def test_row_of_run_is_a_list_of_its_own(self):
        for posts in ([], [(0, 1)]):
            row = [1, 2, 3]
            answer = run(3, posts, row)
            self.assertIs(type(answer), list)
            self.assertIsNot(answer, row)
            answer[0] = 9
            self.assertEqual(row, [1, 2, 3])

    def test_rows_of_walked_are_lists_of_their_own(self):
        row = [1, 2, 3]
        rows = walked(3, [(0, 1), (0, 1), (1, 2)], row)[0]
        everyone = [row] + rows
        for one, other in itertools.combinations(everyone, 2):
            self.assertIsNot(one, other)
        rows[0][0] = 9
        self.assertEqual(rows[1:], [[1, 2, 3], [1, 2, 3]])
        self.assertEqual(row, [1, 2, 3])

    def test_posts_of_mirrored_are_a_list_of_their_own(self):
        for posts in ([], [(0, 2)]):
            answer = mirrored(3, posts)
            self.assertIsNot(answer, posts)
            answer.append((0, 1))
            self.assertLessEqual(len(posts), 1)

    def test_the_same_call_answers_the_same_again(self):
        first = walked(4, WIDTH_4, [4, 3, 2, 1])
        first[0].clear()
        first[1].clear()
        run(4, WIDTH_4, [1, 1, 0, 0]).clear()
        mirrored(4, WIDTH_4).clear()
        self.assertEqual(walked(4, WIDTH_4, [4, 3, 2, 1]), expected_walk(WIDTH_4, [4, 3, 2, 1]))
        self.assertEqual(run(4, WIDTH_4, [1, 1, 0, 0]), [0, 0, 1, 1])
        self.assertEqual(mirrored(4, WIDTH_4), [(2, 3), (0, 1), (1, 3), (0, 2), (1, 2)])


if __name__ == "__main__":
    unittest.main()
