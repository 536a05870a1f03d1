import copy
import unittest

from postnet.building import built, plain
from postnet.errors import NetError, NoNet
from postnet.layers import layers
from postnet.notes import read, shown
from postnet.posts import run
from tests.nets import WIDTH_4, some_nets

GOOD = ["4", "0:1 2:3", "0:2", "1:3 1:2"]
NO_NUMBERS = (
    "", " ", "00", "01", "007", "+0", "+1", "-0", "-1", "1_0", "1.0", "0x1", "1e1", "a", "one", "1,", "1\n", "\n1",
    "\t1", "1\t", "1\r", "1\u00a0", "1;", "(1", "\u00b2", "\u0661", "\uff11", "\u0967", "1\u0661", "1\x00", "--1",
)
NO_LINES = (
    "", " ", "0:1 ", " 0:1", "0:1  1:2", "0:1 1:2 ", " 0:1 1:2", "0-1", "1", "0", "0 1", "0:1 2", "2 0:1", "0:1:2",
    "0:1:", ":0:1", "0::1", ":", "0:", ":1", "00:1", "0:01", "+0:1", "0:+1", "-0:1", "0:-1", "0: 1", "0 :1", "0 : 1",
    "0:1\n", "\n0:1", "0:1\n1:2", "0:1\t1:2", "0:1,1:2", "0:1, 1:2", "(0:1)", "0;1", "0,1", "(0, 1)", "a:b", "0:b",
    "0:1.0", "0:1_0", "0:1\r", "0:1\u00a01:2", "0:1\u30001:2", "\u0660:\u0661", "0:\u00b2", "0:\uff11", "0\uff1a1",
    "0:1 :", "0:1 1:", "0:1 :2", "0:1 00:1", "0:1 1-2", "0:1 1:2:3", "00:1 1:2", "0-1 1:2", "#0:1", "0:1 #",
)
NO_POSTS = (
    "0:4", "3:4", "4:5", "0:5", "7:9", "0:1000", "0:" + "9" * 99, "0:0", "2:2", "3:3", "4:4", "1:0", "3:0", "3:2",
    "5:0", "0:1 0:4", "0:4 0:1", "0:1 1:1 2:3", "2:3 1:0",
)


class ShownTest(unittest.TestCase):
    def test_ordinary_nets(self):
        self.assertEqual(shown(2, [(0, 1)]), ["2", "0:1"])
        self.assertEqual(shown(4, WIDTH_4), ["4", "0:1 2:3", "0:2 1:3", "1:2"])
        self.assertEqual(shown(3, [(0, 1), (1, 2), (0, 1)]), ["3", "0:1", "1:2", "0:1"])
        self.assertEqual(
            shown(8, built(8)),
            ["8", "0:1 2:3 4:5 6:7", "0:2 1:3 4:6 5:7", "0:4 1:2 3:7 5:6", "1:5 2:6", "2:4 3:5", "1:2 3:4 5:6"],
        )

    def test_no_posts(self):
        self.assertEqual(shown(1, []), ["1"])
        self.assertEqual(shown(7, []), ["7"])
        self.assertEqual(shown(1000, []), ["1000"])

    def test_posts_are_written_by_layers(self):
        self.assertEqual(shown(6, [(4, 5), (1, 2), (0, 1), (0, 3)]), ["6", "1:2 4:5", "0:1", "0:3"])
        self.assertEqual(shown(6, [(0, 1), (1, 2), (2, 3), (4, 5)]), ["6", "0:1 4:5", "1:2", "2:3"])

    def test_same_post_several_times(self):
        self.assertEqual(shown(2, [(0, 1)] * 3), ["2", "0:1", "0:1", "0:1"])

    def test_lanes_of_two_and_three_figures(self):
        self.assertEqual(
            shown(120, [(100, 101), (10, 11), (9, 12), (2, 3), (99, 102)]),
            ["120", "2:3 9:12 10:11 99:102 100:101"],
        )
        self.assertEqual(shown(1000, [(20, 999), (3, 100), (0, 10)]), ["1000", "0:10 3:100 20:999"])

    def test_figures_of_each_width(self):
        for width in (1, 9, 10, 11, 99, 100, 101, 109, 110, 305, 999, 1000, 1001, 1020):
            self.assertEqual(shown(width, []), [f"{width}"])

    def test_figures_of_each_lane(self):
        for lane in range(999):
            self.assertEqual(shown(1000, [(lane, lane + 1)]), ["1000", f"{lane}:{lane + 1}"])

    def test_any_nets(self):
        for width, posts, _ in some_nets(41, 200, most_lanes=14, most_posts=30):
            lines = [" ".join(f"{low}:{high}" for low, high in layer) for layer in layers(width, posts)]
            self.assertEqual(shown(width, posts), [str(width)] + lines)

    def test_kinds(self):
        answer = shown(4, WIDTH_4)
        self.assertIs(type(answer), list)
        self.assertEqual([type(line) for line in answer], [str] * 4)


class ReadTest(unittest.TestCase):
    def test_width_alone(self):
        for width in (1, 2, 9, 10, 100, 999, 1000):
            self.assertEqual(read([str(width)]), (width, []))

    def test_layers(self):
        self.assertEqual(read(["4", "0:1 2:3", "0:2 1:3", "1:2"]), (4, WIDTH_4))

    def test_lines_that_are_no_layers(self):
        self.assertEqual(read(["4", "0:1 2:3 0:2 1:3 1:2"]), (4, WIDTH_4))
        self.assertEqual(read(["4", "0:1", "2:3", "0:2", "1:3", "1:2"]), (4, WIDTH_4))
        self.assertEqual(read(["3", "1:2 0:1 0:1", "0:1", "0:2 1:2"]), (3, [(1, 2), (0, 1), (0, 1), (0, 1), (0, 2), (1, 2)]))

    def test_order_is_that_of_the_lines(self):
        self.assertEqual(read(["6", "4:5 2:3", "0:1"]), (6, [(4, 5), (2, 3), (0, 1)]))

    def test_lanes_of_several_figures(self):
        self.assertEqual(read(["1000", "0:10 100:999", "20:305"]), (1000, [(0, 10), (100, 999), (20, 305)]))

    def test_last_lane(self):
        self.assertEqual(read(["2", "0:1"]), (2, [(0, 1)]))
        self.assertEqual(read(["11", "9:10"]), (11, [(9, 10)]))

    def test_width_greater_than_a_thousand(self):
        for width in (1001, 1024, 5000, 10 ** 6, 10 ** 20, 10 ** 99 + 7):
            self.assertEqual(read([str(width)]), (width, []))
            self.assertEqual(read([str(width), f"0:{width - 1}"]), (width, [(0, width - 1)]))

    def test_width_of_more_figures_than_python_takes_at_once(self):
        lines = ["1" + "0" * 5000, "0:" + "9" * 5000]
        answer = read(lines)
        self.assertTrue(answer == (10 ** 5000, [(0, 10 ** 5000 - 1)]))
        self.assertTrue(shown(answer[0], answer[1]) == lines)

    def test_many_posts(self):
        self.assertEqual(read(["1000"] + ["0:1"] * 700), (1000, [(0, 1)] * 700))
        self.assertEqual(read(["1000", " ".join(["0:1"] * 700)]), (1000, [(0, 1)] * 700))

    def test_what_shown_wrote(self):
        for width, posts, chance in some_nets(42, 200, most_lanes=14, most_posts=30):
            answer = read(shown(width, posts))
            self.assertEqual(answer, (width, [post for layer in layers(width, posts) for post in layer]))
            row = [chance.randint(-9, 9) for _ in range(width)]
            self.assertEqual(run(width, answer[1], row), run(width, posts, row))
            self.assertEqual(shown(answer[0], answer[1]), shown(width, posts))
        for width, posts in ((100, built(100)), (30, plain(30))):
            self.assertEqual(shown(width, read(shown(width, posts))[1]), shown(width, posts))

    def test_kinds(self):
        answer = read(["4", "0:1 2:3", "1:2"])
        self.assertIs(type(answer), tuple)
        self.assertEqual(len(answer), 2)
        self.assertIs(type(answer[0]), int)
        self.assertIs(type(answer[1]), list)
        for post in answer[1]:
            self.assertIs(type(post), tuple)
            self.assertEqual([type(lane) for lane in post], [int, int])


class NoNetTest(unittest.TestCase):
    def assert_no_net(self, lines):
        with self.subTest(lines=lines):
            ahead = list(lines)
            with self.assertRaises(NetError) as caught:
                read(lines)
            self.assertIs(type(caught.exception), NoNet)
            self.assertIsInstance(caught.exception, ValueError)
            self.assertEqual(lines, ahead)

    def assert_no_line(self, line):
        """As the one line, as the last one, and in every place between the others."""
        self.assert_no_net(["4", line])
        for place in range(1, len(GOOD) + 1):
            self.assert_no_net(GOOD[:place] + [line] + GOOD[place:])

    def test_good_lines_are_read(self):
        self.assertEqual(read(GOOD), (4, WIDTH_4))

    def test_no_lines(self):
        self.assert_no_net([])

    def test_first_line_that_is_no_width(self):
        for line in NO_NUMBERS + NO_LINES[:6] + ("4 ", " 4", "4 4", "4:5", "0:1", "4 0:1"):
            if line not in ("0", "1"):
                self.assert_no_net([line])
                self.assert_no_net([line] + GOOD[1:])

    def test_width_is_missing(self):
        self.assert_no_net(GOOD[1:])
        self.assert_no_net([""] + GOOD)

    def test_width_below_one(self):
        for line in ("0", "-1", "-4", "-0"):
            self.assert_no_net([line])
            self.assert_no_net([line, "0:1"])

    def test_width_twice(self):
        self.assert_no_net(["4", "4"])
        self.assert_no_net(["4"] + GOOD)

    def test_line_that_is_not_of_posts(self):
        for line in NO_LINES:
            self.assert_no_line(line)

    def test_lane_that_is_no_number(self):
        for text in NO_NUMBERS:
            self.assert_no_line(f"{text}:3")
            self.assert_no_line(f"0:{text}")
            self.assert_no_line(f"0:1 {text}:3")
            self.assert_no_line(f"0:1 0:{text} 2:3")

    def test_posts_that_are_none(self):
        for line in NO_POSTS:
            self.assert_no_line(line)

    def test_no_post_fits_one_lane(self):
        for line in ("0:0", "0:1", "1:0"):
            self.assert_no_net(["1", line])

    def test_lane_that_is_a_great_width(self):
        for width in (1001, 10 ** 20, 10 ** 99):
            self.assert_no_net([str(width), f"0:{width}"])
            self.assert_no_net([str(width), f"0:1 {width - 1}:{width - 1}"])
            self.assert_no_net([str(width), f"{width - 1}:0"])

    def test_numbers_that_python_does_not_take_at_once(self):
        self.assert_no_net(["4", "0:" + "9" * 5000])
        self.assert_no_net(["0" + "9" * 5000])
        self.assert_no_net(["9" * 5000 + "x"])

    def test_last_of_many_lines(self):
        self.assert_no_net(["1000"] + ["0:1"] * 499 + ["999:1000"])
        self.assert_no_net(["1000"] + ["0:1"] * 499 + [""])


class HandedInTest(unittest.TestCase):
    def test_nothing_is_changed(self):
        for width, posts, _ in some_nets(43, 50):
            ahead = copy.deepcopy(posts)
            lines = shown(width, posts)
            self.assertEqual(posts, ahead)
            written = list(lines)
            read(lines)
            self.assertEqual(lines, written)

    def test_each_answer_is_a_list_of_its_own(self):
        for lines in (["3"], ["3", "0:1"]):
            ahead = read(lines)
            read(lines)[1].append((0, 2))
            self.assertEqual(read(lines), ahead)
        shown(3, []).append("0:1")
        self.assertEqual(shown(3, []), ["3"])


if __name__ == "__main__":
    unittest.main()
