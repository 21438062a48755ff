import unittest

from tests.helper import ALL_COINS, LOWEST, PLENTY, after, ask, begin, last, letter, load, receive, save, saved_bytes


class BeginTest(unittest.TestCase):
    def check(self, answer, me, n, value, coins=0):
        with self.subTest(me=me, n=n, value=value, coins=coins):
            self.assertEqual(last(begin(me, n, value, coins)), [answer])

    def test_n_at_its_edges(self):
        for n in (LOWEST, -1, 0, 1, 17, 256, PLENTY):
            self.check(-2, 0, n, 1)
        for n in range(2, 17):
            self.check(0, 0, n, 1)

    def test_me_at_its_edges(self):
        for n in range(2, 17):
            for me in (LOWEST, -1, n, n + 1, PLENTY):
                self.check(-2, me, n, 0)
            for me in range(n):
                self.check(0, me, n, 0)

    def test_value_at_its_edges(self):
        for value in (LOWEST, -1, 2, PLENTY):
            self.check(-2, 0, 2, value)
            self.check(-2, 15, 16, value)
        for value in (0, 1):
            self.check(0, 0, 2, value)
            self.check(0, 15, 16, value)

    def test_coins_at_their_edges(self):
        for coins in (0, 1, 2 ** 63, ALL_COINS):
            self.check(0, 1, 3, 1, coins)
            self.assertEqual(after(begin(1, 3, 1, coins)), saved_bytes(1, 3, [1], coins=coins))

    def test_the_node_that_is_made(self):
        for n in range(2, 17):
            for value in (0, 1):
                expected = saved_bytes(n - 1, n, [value], coins=77)
                self.assertEqual(after(begin(n - 1, n, value, 77)), expected)

    def test_a_refused_begin_leaves_the_object_as_it_was(self):
        so_far = [begin(2, 5, 1, 99), receive(letter(2, 0, 0, 1)), receive(letter(2, 4, 3, 2))]
        before = after(*so_far)
        for refused in (begin(0, 17, 0), begin(0, 1, 0), begin(5, 5, 0), begin(-1, 5, 0), begin(0, 5, 2)):
            self.assertEqual(last(*so_far, refused), [-2])
            self.assertEqual(after(*so_far, refused), before)

    def test_a_refused_begin_makes_no_node_that_hinders_a_later_one(self):
        self.assertEqual(ask(begin(0, 2, 2), begin(1, 2, 1), save())[1:], [[0], [0] + saved_bytes(1, 2, [1])])

    def test_a_second_begin_makes_the_node_anew(self):
        so_far = [
            begin(0, 2, 1, 5),
            receive(letter(0, 1, 0, 1)),
            receive(letter(0, 1, 1, 1)),
            receive(letter(0, 1, 7, 2)),
        ]
        self.assertEqual(after(*so_far), saved_bytes(0, 2, [1, 1, 1], 1, 5, {(7, 1): 2}))
        self.assertEqual(after(*so_far, begin(3, 4, 0, 6)), saved_bytes(3, 4, [0], coins=6))

    def test_a_begin_behind_a_load_makes_the_node_anew(self):
        loaded = load(saved_bytes(0, 2, [1, 1, 1], 1, 5, {(7, 1): 2}))
        self.assertEqual(after(loaded, begin(1, 3, 0)), saved_bytes(1, 3, [0]))


if __name__ == "__main__":
    unittest.main()
