import copy
import itertools
import unittest

from postnet.bits import as_bits, first_unsorted, is_rising, sorts
from postnet.posts import run, walked
from tests.nets import HUNDRED_FIGURES, WIDTH_4, neighbours, some_nets


def expected_first_unsorted(width, posts):
    for row in itertools.product((0, 1), repeat=width):
        behind = list(row)
        for low, high in posts:
            behind[low], behind[high] = min(behind[low], behind[high]), max(behind[low], behind[high])
        if behind != sorted(row):
            return list(row)
    return None


class AsBitsTest(unittest.TestCase):
    def test_mark_among_the_numbers(self):
        self.assertEqual(as_bits([3, 1, 2], 2), [1, 0, 1])

    def test_mark_between_the_numbers(self):
        self.assertEqual(as_bits([10, 30, 20], 25), [0, 1, 0])

    def test_mark_below_all_numbers(self):
        self.assertEqual(as_bits([3, 1, 2], 0), [1, 1, 1])

    def test_mark_that_is_the_least_number(self):
        self.assertEqual(as_bits([3, 1, 2], 1), [1, 1, 1])

    def test_mark_that_is_the_greatest_number(self):
        self.assertEqual(as_bits([3, 1, 2], 3), [1, 0, 0])

    def test_mark_above_all_numbers(self):
        self.assertEqual(as_bits([3, 1, 2], 4), [0, 0, 0])

    def test_equal_numbers(self):
        self.assertEqual(as_bits([5, 5, 4, 5], 5), [1, 1, 0, 1])

    def test_empty_list(self):
        self.assertEqual(as_bits([], 0), [])

    def test_one_number(self):
        self.assertEqual(as_bits([7], 7), [1])
        self.assertEqual(as_bits([7], 8), [0])
        self.assertEqual(as_bits([7], 6), [1])

    def test_negative_numbers_and_marks(self):
        self.assertEqual(as_bits([-3, -1, 0, 2], -1), [0, 1, 1, 1])
        self.assertEqual(as_bits([-3, -1, 0, 2], 0), [0, 0, 1, 1])

    def test_numbers_of_a_hundred_figures(self):
        row = [HUNDRED_FIGURES, HUNDRED_FIGURES - 1, HUNDRED_FIGURES + 1, -HUNDRED_FIGURES]
        self.assertEqual(as_bits(row, HUNDRED_FIGURES), [1, 0, 1, 0])
        self.assertEqual(as_bits(row, -HUNDRED_FIGURES), [1, 1, 1, 1])
        self.assertEqual(as_bits(row, -HUNDRED_FIGURES + 1), [1, 1, 1, 0])

    def test_bits_of_bits(self):
        self.assertEqual(as_bits([1, 0, 1], 1), [1, 0, 1])

    def test_longer_than_nets_are(self):
        self.assertEqual(as_bits(list(range(1500)), 1000), [0] * 1000 + [1] * 500)

    def test_kinds(self):
        answer = as_bits([3, 1, 2], 2)
        self.assertIs(type(answer), list)
        for bit in answer:
            self.assertIs(type(bit), int)

    def test_row_is_left_as_it_was(self):
        row = [0, 1, 1]
        answer = as_bits(row, 1)
        self.assertIsNot(answer, row)
        answer[0] = 9
        self.assertEqual(row, [0, 1, 1])
        row = [3, 1, 2]
        as_bits(row, 2)
        self.assertEqual(row, [3, 1, 2])

    def test_bits_behind_a_post_are_the_bits_ahead_behind_that_post(self):
        for width, posts, chance in some_nets(11, 150):
            row = [chance.randint(-4, 4) for _ in range(width)]
            rows = walked(width, posts, row)[0]
            for mark in range(-5, 6):
                bit_rows = walked(width, posts, as_bits(row, mark))[0]
                self.assertEqual([as_bits(one, mark) for one in rows], bit_rows)


class IsRisingTest(unittest.TestCase):
    def test_rows_in_order(self):
        for row in ([1, 2, 3], [1, 1, 1], [1, 1, 2], [-3, -2, 0, 0, 5], [0, 1], [4, 4]):
            self.assertIs(is_rising(row), True, row)

    def test_rows_out_of_order(self):
        for row in ([2, 1], [2, 1, 3], [1, 3, 2], [1, 2, 3, 0], [3, 3, 2], [-1, -2], [1, 0, 2]):
            self.assertIs(is_rising(row), False, row)

    def test_empty_list(self):
        self.assertIs(is_rising([]), True)

    def test_one_number(self):
        for number in (0, 5, -5, HUNDRED_FIGURES):
            self.assertIs(is_rising([number]), True)

    def test_numbers_of_a_hundred_figures(self):
        self.assertIs(is_rising([-HUNDRED_FIGURES - 1, -HUNDRED_FIGURES, HUNDRED_FIGURES, HUNDRED_FIGURES + 1]), True)
        self.assertIs(is_rising([HUNDRED_FIGURES + 1, HUNDRED_FIGURES]), False)
        self.assertIs(is_rising([-HUNDRED_FIGURES, -HUNDRED_FIGURES - 1]), False)

    def test_fault_at_any_place(self):
        for place in range(1, 30):
            row = list(range(30))
            row[place] = row[place - 1] - 1
            self.assertIs(is_rising(row), False, place)

    def test_all_short_rows(self):
        for length in range(5):
            for row in itertools.product(range(3), repeat=length):
                self.assertIs(is_rising(list(row)), list(row) == sorted(row))

    def test_row_is_left_as_it_was(self):
        row = [3, 1, 2]
        is_rising(row)
        self.assertEqual(row, [3, 1, 2])


class FirstUnsortedTest(unittest.TestCase):
    def test_no_posts(self):
        self.assertEqual(first_unsorted(2, []), [1, 0])
        self.assertEqual(first_unsorted(3, []), [0, 1, 0])
        self.assertEqual(first_unsorted(5, []), [0, 0, 0, 1, 0])

    def test_first_lane_is_the_greatest_figure(self):
        self.assertEqual(first_unsorted(3, [(0, 1)]), [0, 1, 0])
        self.assertEqual(first_unsorted(3, [(1, 2)]), [1, 0, 0])
        self.assertEqual(first_unsorted(3, [(0, 2)]), [0, 1, 0])
        self.assertEqual(first_unsorted(3, [(1, 2), (0, 1)]), [1, 0, 0])
        self.assertEqual(first_unsorted(3, [(0, 1), (1, 2)]), [1, 1, 0])
        self.assertEqual(first_unsorted(3, [(0, 2), (1, 2)]), [1, 0, 1])
        self.assertEqual(first_unsorted(4, WIDTH_4[:-1]), [0, 1, 0, 1])

    def test_none_where_the_net_sorts(self):
        self.assertIsNone(first_unsorted(2, [(0, 1)]))
        self.assertIsNone(first_unsorted(3, [(0, 1), (1, 2), (0, 1)]))
        self.assertIsNone(first_unsorted(4, WIDTH_4))

    def test_same_post_several_times(self):
        self.assertIsNone(first_unsorted(2, [(0, 1), (0, 1)]))
        self.assertEqual(first_unsorted(3, [(1, 2), (1, 2), (1, 2)]), [1, 0, 0])

    def test_one_lane(self):
        self.assertIsNone(first_unsorted(1, []))

    def test_twelve_lanes(self):
        self.assertIsNone(first_unsorted(12, neighbours(0, 11)))
        self.assertEqual(first_unsorted(12, []), [0] * 10 + [1, 0])
        self.assertEqual(first_unsorted(12, neighbours(0, 10)), [0] * 10 + [1, 0])
        self.assertEqual(first_unsorted(12, neighbours(1, 11)), [1] + [0] * 11)

    def test_twelve_lanes_with_one_row_that_is_not_sorted(self):
        inserted = neighbours(1, 11) + [(lane, lane + 1) for lane in range(10)]
        self.assertEqual(first_unsorted(12, inserted), [1] + [0] * 11)
        self.assertIsNone(first_unsorted(12, inserted + [(10, 11)]))
        sunk = neighbours(0, 10) + [(lane, lane + 1) for lane in range(10, 0, -1)]
        self.assertEqual(first_unsorted(12, sunk), [1] * 11 + [0])
        self.assertIsNone(first_unsorted(12, sunk + [(0, 1)]))

    def test_five_hundred_posts(self):
        self.assertIsNone(first_unsorted(12, (neighbours(0, 11) * 8)[:500]))

    def test_kinds(self):
        answer = first_unsorted(3, [(1, 2)])
        self.assertIs(type(answer), list)
        for bit in answer:
            self.assertIs(type(bit), int)

    def test_as_told_by_all_rows(self):
        for width, posts, _ in some_nets(12, 400):
            self.assertEqual(first_unsorted(width, posts), expected_first_unsorted(width, posts), (width, posts))

    def test_answer_is_the_row_ahead_of_the_posts(self):
        posts = [(0, 1), (1, 2)]
        self.assertEqual(first_unsorted(3, posts), [1, 1, 0])
        self.assertEqual(run(3, posts, [1, 1, 0]), [1, 0, 1])


class SortsTest(unittest.TestCase):
    def test_nets_that_sort(self):
        self.assertIs(sorts(1, []), True)
        self.assertIs(sorts(2, [(0, 1)]), True)
        self.assertIs(sorts(3, [(0, 1), (1, 2), (0, 1)]), True)
        self.assertIs(sorts(4, WIDTH_4), True)
        self.assertIs(sorts(12, neighbours(0, 11)), True)

    def test_nets_that_do_not(self):
        self.assertIs(sorts(2, []), False)
        self.assertIs(sorts(3, [(0, 1), (1, 2)]), False)
        self.assertIs(sorts(3, [(0, 2), (0, 1)]), False)
        self.assertIs(sorts(12, []), False)
        self.assertIs(sorts(12, neighbours(1, 11)), False)
        self.assertIs(sorts(12, neighbours(0, 11)[:-1]), False)

    def test_net_of_width_4_needs_each_post(self):
        for number in range(len(WIDTH_4)):
            self.assertIs(sorts(4, WIDTH_4[:number] + WIDTH_4[number + 1:]), False, number)

    def test_order_of_the_posts_counts(self):
        self.assertIs(sorts(4, [(1, 2), (0, 1), (2, 3), (0, 2), (1, 3)]), False)

    def test_just_where_there_is_no_unsorted_row(self):
        for width, posts, _ in some_nets(13, 200):
            self.assertIs(sorts(width, posts), first_unsorted(width, posts) is None)

    def test_just_where_every_row_of_numbers_is_sorted(self):
        for width, posts, _ in some_nets(14, 200, most_lanes=4, most_posts=10):
            rows = itertools.product(range(width), repeat=width)
            every = all(is_rising(run(width, posts, list(row))) for row in rows)
            self.assertIs(sorts(width, posts), every, (width, posts))

    def test_row_that_is_not_sorted_has_such_bits(self):
        for width, posts, chance in some_nets(15, 200):
            row = [chance.randint(-4, 4) for _ in range(width)]
            by_marks = [is_rising(run(width, posts, as_bits(row, mark))) for mark in row]
            self.assertIs(is_rising(run(width, posts, row)), all(by_marks))


class HandedInTest(unittest.TestCase):
    def test_posts_are_left_as_they_were(self):
        for call in (first_unsorted, sorts):
            for width, posts, _ in some_nets(16, 50):
                ahead = copy.deepcopy(posts)
                call(width, posts)
                self.assertEqual(posts, ahead)

    def test_each_answer_is_a_list_of_its_own(self):
        answer = first_unsorted(3, [(1, 2)])
        again = first_unsorted(3, [(1, 2)])
        self.assertIsNot(answer, again)
        answer[0] = 9
        answer.clear()
        self.assertEqual(again, [1, 0, 0])
        self.assertEqual(first_unsorted(3, [(1, 2)]), [1, 0, 0])
        self.assertIs(sorts(3, [(1, 2)]), False)


if __name__ == "__main__":
    unittest.main()
