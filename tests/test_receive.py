import unittest

from tests.helper import ALL_COINS, LOWEST, PLENTY, after, ask, begin, last, letter, letters, load, receive, saved_bytes

# f + 1 for each n, written out so that it isn't counted as the program counts it.
MORE_THAN_STOP = {2: 1, 3: 2, 4: 2, 5: 3, 6: 3, 7: 4, 8: 4, 9: 5, 10: 5, 11: 6, 12: 6, 13: 7, 14: 7, 15: 8, 16: 8}


def node_hearing(n, stage, own, others, coins=0, answer=None):
    """A load of node 0, at that stage, and the letters of others, from node 1 on."""
    words = [0] * stage + [own]
    calls = [load(saved_bytes(0, n, words, answer, coins))]
    return calls + [receive(letter(0, 1 + place, stage, word)) for place, word in enumerate(others)]


class RefusalTest(unittest.TestCase):
    def check(self, answer, call, so_far=None):
        so_far = so_far or [begin(1, 5, 1, 3), receive(letter(1, 2, 0, 0))]
        with self.subTest(call=call):
            self.assertEqual(last(*so_far, call), [answer])
            self.assertEqual(after(*so_far, call), after(*so_far))

    def test_most_below_0(self):
        for most in (-1, -2, LOWEST):
            self.check(-2, receive(letter(1, 3, 0, 0), most))
            self.check(-2, receive(letter(1, 2, 0, 0), most))

    def test_most_below_0_is_told_ahead_of_a_wrong_letter(self):
        self.check(-2, receive([], -1))
        self.check(-2, receive(letter(0, 3, 0, 0), -1))

    def test_k_above_1024(self):
        self.check(-2, receive([0] * 1025))
        self.check(-3, receive([0] * 1024))

    def test_not_8_bytes(self):
        right = letter(1, 3, 0, 0)
        for length in range(8):
            self.check(-3, receive(right[:length]))
        for length in (1, 8, 1016):
            self.check(-3, receive(right + [0] * length))
        self.check(-3, receive(right + right))

    def test_not_for_me(self):
        for to in (0, 2, 4, 5, 255):
            self.check(-3, receive(letter(to, 3, 0, 0)))

    def test_not_from_another_node(self):
        for sender in (1, 5, 6, 15, 255):
            self.check(-3, receive(letter(1, sender, 0, 0)))

    def test_not_a_stage(self):
        for stage in (129, 130, 255):
            self.check(-3, receive(letter(1, 3, stage, 0)))

    def test_not_a_word_of_the_stage(self):
        for stage in (0, 2, 4, 126, 128):
            for word in (2, 3, 255):
                self.check(-3, receive(letter(1, 3, stage, word)))
        for stage in (1, 3, 125, 127):
            for word in (3, 4, 255):
                self.check(-3, receive(letter(1, 3, stage, word)))

    def test_the_four_are_not_0(self):
        for place in range(4, 8):
            for number in (1, 255):
                wrong = letter(1, 3, 0, 0)
                wrong[place] = number
                self.check(-3, receive(wrong))

    def test_a_wrong_letter_that_would_do_nothing_is_refused(self):
        so_far = [load(saved_bytes(1, 5, [1] * 129))]
        self.check(-3, receive(letter(1, 3, 0, 2)), so_far)
        self.check(-3, receive(letter(1, 3, 128, 2)), so_far)
        self.check(-3, receive(letter(1, 1, 5, 0)), so_far)

    def test_a_wrong_letter_is_told_ahead_of_most(self):
        so_far = [begin(0, 2, 1)]
        self.check(-3, receive(letter(0, 1, 0, 2), 0), so_far)


class NothingTest(unittest.TestCase):
    def check(self, so_far, call):
        with self.subTest(call=call):
            self.assertEqual(last(*so_far, call), [0])
            self.assertEqual(after(*so_far, call), after(*so_far))

    def test_a_stage_before_the_nodes(self):
        so_far = [load(saved_bytes(1, 5, [1, 2, 0, 2]))]
        for stage in range(3):
            self.check(so_far, receive(letter(1, 3, stage, 1), 0))

    def test_stage_128(self):
        for words in ([1], [1] * 128, [1] * 129):
            for word in (0, 1):
                self.check([load(saved_bytes(1, 5, words))], receive(letter(1, 3, 128, word), 0))

    def test_any_stage_at_the_end(self):
        for stage in (0, 1, 126, 127, 128):
            self.check([load(saved_bytes(0, 2, [1] * 129))], receive(letter(0, 1, stage, 1), 0))

    def test_heard_from_the_sender_already(self):
        for stage in (0, 1, 6, 127):
            so_far = [begin(1, 5, 1), receive(letter(1, 3, stage, 0))]
            self.check(so_far, receive(letter(1, 3, stage, 0), 0))
            self.check(so_far, receive(letter(1, 3, stage, 1), 0))

    def test_the_first_word_of_a_sender_is_the_one_that_counts(self):
        so_far = [begin(0, 5, 1), receive(letter(0, 3, 0, 0)), receive(letter(0, 3, 0, 1))]
        self.assertEqual(last(*so_far, receive(letter(0, 4, 0, 1))), [32] + letters(0, 5, 1, 2))


class HeardTest(unittest.TestCase):
    def test_a_word_that_is_not_enough_yet(self):
        so_far = [begin(2, 5, 1, 9), receive(letter(2, 4, 0, 0), 0)]
        self.assertEqual(last(*so_far), [0])
        self.assertEqual(after(*so_far), saved_bytes(2, 5, [1], coins=9, heard={(0, 4): 0}))

    def test_words_of_later_stages(self):
        heard = {(1, 0): 2, (1, 1): 1, (1, 3): 0, (1, 4): 2, (2, 0): 1, (126, 4): 0, (127, 0): 2}
        so_far = [begin(2, 5, 1)] + [receive(letter(2, node, stage, heard[stage, node])) for stage, node in heard]
        self.assertEqual(ask(*so_far), [[0]] * 8)
        self.assertEqual(after(*so_far), saved_bytes(2, 5, [1], heard=heard))

    def test_every_sender_in_every_n(self):
        for n in range(2, 17):
            for me in (0, n // 2, n - 1):
                for sender in range(n):
                    call = receive(letter(me, sender, 1, 2))
                    expected = [-3] if sender == me else [0]
                    self.assertEqual(last(begin(me, n, 0), call), expected)


class GoingOnTest(unittest.TestCase):
    def test_the_node_goes_on_with_the_word_that_makes_enough(self):
        for n, more in MORE_THAN_STOP.items():
            others = n - more
            calls = [begin(0, n, 1)] + [receive(letter(0, node, 0, 1)) for node in range(1, others + 1)]
            told = ask(*calls)
            self.assertEqual(told[:-1], [[0]] * others)
            word = 1 if 2 * (others + 1) > n else 2
            self.assertEqual(told[-1], [8 * (n - 1)] + letters(0, n, 1, word))
            self.assertEqual(after(*calls), saved_bytes(0, n, [1, word]))

    def test_the_letters_byte_by_byte_the_lowest_node_first(self):
        told = last(begin(2, 4, 0), receive(letter(2, 3, 0, 0)), receive(letter(2, 0, 0, 0)))
        self.assertEqual(told, [24, 0, 2, 1, 0, 0, 0, 0, 0, 1, 2, 1, 0, 0, 0, 0, 0, 3, 2, 1, 0, 0, 0, 0, 0])

    def test_a_word_of_a_later_stage_does_not_make_enough(self):
        self.assertEqual(last(begin(0, 3, 1), receive(letter(0, 1, 1, 1))), [0])
        self.assertEqual(last(begin(0, 2, 1), receive(letter(0, 1, 2, 1))), [0])

    def test_several_stages_at_once(self):
        so_far = [
            begin(1, 3, 0, 2),
            receive(letter(1, 0, 1, 2)),
            receive(letter(1, 2, 2, 0)),
            receive(letter(1, 0, 4, 1)),
        ]
        news = receive(letter(1, 0, 0, 1))
        sent = letters(1, 3, 1, 2) + letters(1, 3, 2, 0) + letters(1, 3, 3, 0)
        self.assertEqual(last(*so_far, news), [48] + sent)
        expected = saved_bytes(1, 3, [0, 2, 0, 0], coins=2, heard={(4, 0): 1})
        self.assertEqual(after(*so_far, news), expected)

    def test_all_stages_at_once(self):
        so_far = [begin(0, 2, 0)] + [receive(letter(0, 1, stage, 0)) for stage in range(127, 0, -1)]
        news = receive(letter(0, 1, 0, 0))
        sent = [number for stage in range(1, 129) for number in letters(0, 2, stage, 0)]
        self.assertEqual(last(*so_far, news), [1024] + sent)
        self.assertEqual(after(*so_far, news), saved_bytes(0, 2, [0] * 129, 0))

    def test_all_stages_at_once_among_sixteen(self):
        heard = {(stage, node): 1 for stage in range(128) for node in range(8, 16)}
        del heard[0, 8]
        so_far = [load(saved_bytes(0, 16, [1], heard=heard))]
        sent = [number for stage in range(1, 129) for number in letters(0, 16, stage, 1)]
        self.assertEqual(last(*so_far, receive(letter(0, 8, 0, 1))), [15360] + sent)
        self.assertEqual(after(*so_far, receive(letter(0, 8, 0, 1))), saved_bytes(0, 16, [1] * 129, 1))

    def test_the_last_stage(self):
        so_far = [load(saved_bytes(1, 3, [0] * 128, coins=2 ** 63))]
        news = receive(letter(1, 0, 127, 2))
        self.assertEqual(last(*so_far, news), [16, 0, 1, 128, 0, 0, 0, 0, 0, 2, 1, 128, 0, 0, 0, 0, 0])
        self.assertEqual(after(*so_far, news), saved_bytes(1, 3, [0] * 129, coins=2 ** 63))

    def test_more_words_than_needed_all_count(self):
        # In stage 1 all four others are heard before the node comes to it: its 1s are f + 1 with the last.
        heard = {(0, 1): 1, (1, 1): 1, (1, 2): 1, (1, 3): 2, (1, 4): 1}
        so_far = [load(saved_bytes(0, 5, [0], heard=heard))]
        news = receive(letter(0, 2, 0, 1))
        self.assertEqual(last(*so_far, news), [64] + letters(0, 5, 1, 2) + letters(0, 5, 2, 1))
        self.assertEqual(after(*so_far, news), saved_bytes(0, 5, [0, 2, 1], 1))


class FirstStageTest(unittest.TestCase):
    def check(self, n, own, others, word, stage=0):
        with self.subTest(n=n, own=own, others=others, stage=stage):
            calls = node_hearing(n, stage, own, others)
            self.assertEqual(last(*calls), [8 * (n - 1)] + letters(0, n, stage + 1, word))
            self.assertEqual(after(*calls), saved_bytes(0, n, [0] * stage + [own, word]))

    def test_odd_n(self):
        for stage in (0, 2, 126):
            self.check(3, 0, [0], 0, stage)
            self.check(3, 1, [1], 1, stage)
            self.check(3, 0, [1], 2, stage)
            self.check(3, 1, [0], 2, stage)
            self.check(5, 0, [0, 0], 0, stage)
            self.check(5, 1, [1, 1], 1, stage)
            self.check(5, 1, [1, 0], 2, stage)
            self.check(5, 0, [0, 1], 2, stage)

    def test_even_n(self):
        self.check(2, 0, [0], 0)
        self.check(2, 1, [1], 1)
        self.check(2, 0, [1], 2)
        self.check(2, 1, [0], 2)
        # Just half is not more than half.
        self.check(4, 0, [0, 1], 2)
        self.check(4, 1, [0, 1], 2)
        self.check(4, 0, [0, 0], 0)
        self.check(4, 1, [1, 1], 1)
        self.check(16, 0, [0] * 7 + [1], 2)
        self.check(16, 1, [1] * 7 + [0], 2)
        self.check(16, 0, [0] * 8, 0)
        self.check(16, 1, [1] * 8, 1)

    def test_by_all_n_and_not_by_those_that_were_heard(self):
        # Two of three words, but not more than half of five.
        self.check(5, 1, [1, 0], 2)
        self.check(15, 1, [1] * 6 + [0], 2)
        self.check(15, 1, [1] * 7, 1)

    def test_it_brings_no_answer(self):
        self.assertEqual(after(*node_hearing(5, 0, 1, [1, 1]))[3], 0)


class SecondStageTest(unittest.TestCase):
    def check(self, n, own, others, word, answer, coins=0, stage=1, before=None):
        with self.subTest(n=n, own=own, others=others, coins=coins, stage=stage):
            calls = node_hearing(n, stage, own, others, coins, before)
            self.assertEqual(last(*calls), [8 * (n - 1)] + letters(0, n, stage + 1, word))
            self.assertEqual(after(*calls), saved_bytes(0, n, [0] * stage + [own, word], answer, coins))

    def test_any_says_0(self):
        self.check(5, 2, [0, 2], 0, None, ALL_COINS)
        self.check(5, 0, [2, 2], 0, None, ALL_COINS)
        self.check(5, 1, [1, 0], 0, None, ALL_COINS)
        self.check(16, 2, [2] * 7 + [0], 0, None, ALL_COINS)

    def test_any_says_1(self):
        self.check(5, 2, [1, 2], 1, None)
        self.check(5, 1, [2, 2], 1, None)
        self.check(16, 2, [2] * 7 + [1], 1, None)

    def test_the_coin(self):
        for r in range(64):
            self.check(3, 2, [2], 1, None, 1 << r, 2 * r + 1)
            self.check(3, 2, [2], 0, None, ALL_COINS - (1 << r), 2 * r + 1)

    def test_the_coin_in_every_n(self):
        for n, more in MORE_THAN_STOP.items():
            self.check(n, 2, [2] * (n - more), 1, None, 1)
            self.check(n, 2, [2] * (n - more), 0, None, ALL_COINS - 1)

    def test_the_answer_by_just_enough_and_one_less(self):
        for n, more in MORE_THAN_STOP.items():
            others = n - more
            for word in (0, 1):
                self.check(n, word, [word] * (more - 1) + [2] * (others - more + 1), word, word, ALL_COINS)
                if more > 1:
                    self.check(n, 2, [word] * (more - 1) + [2] * (others - more + 1), word, None, ALL_COINS)

    def test_the_answer_by_others_alone(self):
        self.check(4, 2, [1, 1], 1, 1)
        self.check(4, 2, [0, 0], 0, 0)
        self.check(2, 2, [1], 1, 1)
        self.check(2, 2, [0], 0, 0)

    def test_0_goes_ahead_of_1(self):
        self.check(2, 1, [0], 0, 0)
        self.check(2, 0, [1], 0, 0)

    def test_1_is_the_answer_where_0_is_the_word(self):
        self.check(4, 1, [1, 0], 0, 1)
        self.check(6, 1, [1, 0, 1], 0, 1)

    def test_no_answer_from_two_that_are_too_few(self):
        self.check(5, 1, [0, 1], 0, None)

    def test_the_answer_stays(self):
        self.check(3, 1, [1], 1, 0, 0, 3, 0)
        self.check(3, 0, [0], 0, 1, 0, 3, 1)
        self.check(3, 2, [2], 0, 1, 0, 3, 1)
        self.check(3, 2, [2], 1, 0, ALL_COINS, 127, 0)

    def test_the_answer_stays_through_letters(self):
        words = [1, 1, 0, 0, 0, 0]
        calls = [begin(0, 2, 1)] + [receive(letter(0, 1, stage, word)) for stage, word in enumerate(words)]
        self.assertEqual(after(*calls[:3])[3], 2)
        self.assertEqual(after(*calls)[2:4], [6, 2])

    def test_an_answer_in_a_later_round(self):
        self.check(3, 0, [0], 0, 0, 0, 127)
        self.check(3, 1, [1], 1, 1, 0, 65)


class MostTest(unittest.TestCase):
    def check(self, so_far, news, length):
        for most in (0, 1, length - 8, length - 1):
            told = ask(*so_far, receive(news, most))
            self.assertEqual(told[-1], [-7])
            self.assertEqual(after(*so_far, receive(news, most)), after(*so_far))
        enough = last(*so_far, receive(news, length))
        self.assertEqual(enough[0], length)
        self.assertEqual(len(enough), 1 + length)
        self.assertEqual(enough, last(*so_far, receive(news, PLENTY)))
        # What was refused may be asked again with room enough.
        self.assertEqual(last(*so_far, receive(news, length - 1), receive(news, length)), enough)

    def test_one_stage(self):
        for n, more in MORE_THAN_STOP.items():
            so_far = [begin(0, n, 1)] + [receive(letter(0, node, 0, 1)) for node in range(1, n - more)]
            self.check(so_far, letter(0, n - more, 0, 0), 8 * (n - 1))

    def test_several_stages(self):
        so_far = [begin(0, 3, 1), receive(letter(0, 2, 1, 1)), receive(letter(0, 2, 2, 1))]
        self.check(so_far, letter(0, 1, 0, 1), 48)

    def test_an_answer_is_not_kept_when_refused(self):
        self.check([load(saved_bytes(0, 2, [1, 1]))], letter(0, 1, 1, 1), 8)

    def test_nothing_sent_needs_no_room(self):
        self.assertEqual(last(begin(0, 5, 1), receive(letter(0, 1, 0, 1), 0)), [0])
        self.assertEqual(after(begin(0, 5, 1), receive(letter(0, 1, 0, 1), 0))[152:155], [0, 2, 0])


if __name__ == "__main__":
    unittest.main()
