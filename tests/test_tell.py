import unittest

from tests.helper import (
    after, again, ask, begin, last, letter, load, receive, save, saved_bytes, tell_answer, tell_stage,
)


class TellTest(unittest.TestCase):
    """Asks behind each of some calls; what is asked must leave the node as it was."""

    def check_each(self, question, calls, expected):
        asked = [one for call in calls for one in (call, question)]
        self.assertEqual(ask(*asked)[1::2], [[number] for number in expected])
        self.assertEqual(after(*asked), after(*calls))


class AnswerTest(TellTest):
    def check(self, calls, expected):
        self.check_each(tell_answer(), calls, expected)

    def test_none_just_begun(self):
        for n in range(2, 17):
            for value in (0, 1):
                self.check([begin(n - 1, n, value)], [-4])

    def test_0_and_1_behind_the_first_round(self):
        for value in (0, 1):
            calls = [begin(0, 2, value), receive(letter(0, 1, 0, value)), receive(letter(0, 1, 1, value))]
            self.check(calls, [-4, -4, value])
            calls = [begin(0, 3, value), receive(letter(0, 2, 0, value)), receive(letter(0, 1, 1, value))]
            self.check(calls, [-4, -4, value])

    def test_none_where_the_coin_falls(self):
        for coins in (0, 1):
            calls = [begin(0, 3, 1, coins), receive(letter(0, 2, 0, 0)), receive(letter(0, 1, 1, 2))]
            self.check(calls, [-4, -4, -4])

    def test_it_is_not_the_word(self):
        # Two of four say 1, which is f + 1, and one says 0, which makes the word 0.
        calls = [load(saved_bytes(0, 4, [1, 1])), receive(letter(0, 1, 1, 1)), receive(letter(0, 2, 1, 0))]
        self.check(calls, [-4, -4, 1])
        self.assertEqual(last(*calls, again(1, 2)), [8, 1, 0, 2, 0, 0, 0, 0, 0])

    def test_behind_a_load(self):
        for words in ([1], [0, 2], [1] * 128, [0] * 129):
            for answer, told in ((None, -4), (0, 0), (1, 1)):
                self.check([load(saved_bytes(1, 5, words, answer, 9))], [told])

    def test_behind_a_load_of_what_was_saved(self):
        for value in (0, 1):
            so_far = [begin(0, 2, value), receive(letter(0, 1, 0, value))]
            without = after(*so_far)
            news = receive(letter(0, 1, 1, value))
            with_one = after(*so_far, news)
            self.check([load(without), load(with_one), load(without), news], [-4, value, -4, value])

    def test_it_stays(self):
        for value in (0, 1):
            calls = [begin(0, 2, value)]
            calls += [receive(letter(0, 1, stage, value)) for stage in (0, 1)]
            # From here on the other node says otherwise, in every round to the end.
            calls += [receive(letter(0, 1, stage, 1 - value)) for stage in range(2, 128)]
            self.check(calls, [-4, -4] + [value] * 127)

    def test_it_stays_where_f_and_1_more_say_otherwise(self):
        for value in (0, 1):
            calls = [load(saved_bytes(0, 3, [0, 0, 0, 1 - value], value)), receive(letter(0, 1, 3, 1 - value))]
            self.check(calls, [value, value])

    def test_in_a_late_round(self):
        for value in (0, 1):
            for stage in (3, 65, 127):
                calls = [load(saved_bytes(0, 3, [0] * stage + [value])), receive(letter(0, 2, stage, value))]
                self.check(calls, [-4, value])

    def test_none_at_the_end(self):
        calls = [load(saved_bytes(0, 3, [0] * 127 + [2])), receive(letter(0, 2, 127, 2))]
        self.check(calls, [-4, -4])
        self.assertEqual(last(*calls, tell_stage()), [128])

    def test_none_behind_a_letter_that_is_refused(self):
        news = letter(0, 1, 1, 1)
        self.check([load(saved_bytes(0, 2, [1, 1])), receive(news, 7), receive(news, 8)], [-4, -4, 1])

    def test_refused_calls_leave_it(self):
        calls = [
            load(saved_bytes(0, 2, [0, 0, 0], 0)),
            begin(0, 2, 2),
            load(saved_bytes(2, 2, [1, 1, 1], 1)),
            receive(letter(1, 0, 2, 1)),
            again(1, 3),
        ]
        self.check(calls, [0] * 5)

    def test_a_second_begin_has_none(self):
        self.check([load(saved_bytes(0, 2, [1, 1, 1], 1)), begin(0, 2, 1)], [1, -4])


class StageTest(TellTest):
    def check(self, calls, expected):
        self.check_each(tell_stage(), calls, expected)

    def test_0_just_begun(self):
        for n in range(2, 17):
            self.check([begin(0, n, 1), begin(n - 1, n, 0)], [0, 0])

    def test_one_more_each_time_to_the_end(self):
        calls = [begin(0, 2, 1)] + [receive(letter(0, 1, stage, 1)) for stage in range(128)]
        self.check(calls, list(range(129)))

    def test_128_is_the_end(self):
        calls = [load(saved_bytes(0, 2, [1] * 129))] + [receive(letter(0, 1, stage, 1)) for stage in (0, 127, 128)]
        self.check(calls, [128] * 4)

    def test_as_it_goes_on_with_the_word_that_makes_enough(self):
        calls = [begin(2, 5, 1)] + [receive(letter(2, node, 0, 1)) for node in (0, 4, 3, 1)]
        self.check(calls, [0, 0, 1, 1, 1])

    def test_several_stages_at_once(self):
        calls = [begin(0, 3, 1)] + [receive(letter(0, 2, stage, 1)) for stage in (1, 2, 4)]
        self.check(calls + [receive(letter(0, 1, 0, 1))], [0, 0, 0, 0, 3])

    def test_all_stages_at_once(self):
        calls = [begin(0, 2, 0)] + [receive(letter(0, 1, stage, 0)) for stage in range(127, -1, -1)]
        self.check(calls, [0] * 128 + [128])

    def test_letters_that_do_nothing(self):
        calls = [load(saved_bytes(0, 2, [1, 1, 1]))]
        calls += [receive(letter(0, 1, stage, 1)) for stage in (0, 1, 128, 3)]
        self.check(calls, [2] * 5)

    def test_behind_a_load(self):
        for stage in range(129):
            self.check([load(saved_bytes(0, 3, [1] * (stage + 1)))], [stage])

    def test_behind_a_load_of_what_was_saved(self):
        so_far = [begin(0, 3, 1), receive(letter(0, 1, 0, 1)), receive(letter(0, 1, 3, 1))]
        saved = after(*so_far)
        self.check([load(saved), receive(letter(0, 2, 1, 1)), begin(0, 2, 1), load(saved)], [1, 2, 0, 1])

    def test_refused_calls_leave_it(self):
        calls = [
            load(saved_bytes(0, 2, [0, 0, 0], 0)),
            receive(letter(0, 1, 2, 1), 7),
            receive(letter(0, 1, 2, 2)),
            begin(2, 2, 0),
            load(saved_bytes(0, 2, [1] * 8, heard={(0, 1): 1})),
            again(1, 2, 7),
            again(1, 2),
            save(),
        ]
        self.check(calls, [2] * 8)


if __name__ == "__main__":
    unittest.main()
