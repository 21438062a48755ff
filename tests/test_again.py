import unittest

from tests.helper import LOWEST, PLENTY, after, again, ask, begin, last, letter, load, receive, saved_bytes

# Words of stages 0 to 128 that change often, so that the word of a wrong stage shows.
ALL_WORDS = [(stage // 2 + stage // 5) % (2 + stage % 2) for stage in range(129)]


def node_at(stage, me=1, n=5, answer=None):
    heard = {} if stage == 128 else {(stage, 3): 1}
    return load(saved_bytes(me, n, ALL_WORDS[:stage + 1], answer, 77, heard))


class AgainTest(unittest.TestCase):
    def check(self, answer, call, so_far):
        with self.subTest(call=call):
            self.assertEqual(last(*so_far, call), answer)
            self.assertEqual(after(*so_far, call), after(*so_far))


class RefusalTest(AgainTest):
    def test_to_is_not_another_node(self):
        for to in (LOWEST, -1, 1, 5, 6, 15, 16, 255, 256, PLENTY):
            self.check([-2], again(to, 0), [begin(1, 5, 1)])
            self.check([-2], again(to, 128), [node_at(128)])

    def test_to_in_every_n(self):
        for n in range(2, 17):
            for me in (0, n // 2, n - 1):
                for to in range(-1, n + 1):
                    right = to in range(n) and to != me
                    answer = [8, to, me, 0, 1, 0, 0, 0, 0] if right else [-2]
                    self.check(answer, again(to, 0), [begin(me, n, 1)])

    def test_stage_is_not_one(self):
        for stage in (LOWEST, -129, -128, -1, 129, 130, 255, 256, PLENTY):
            for now in (0, 3, 128):
                self.check([-2], again(0, stage), [node_at(now)])

    def test_most_below_0(self):
        for most in (-1, -8, LOWEST):
            for now in (0, 3, 128):
                self.check([-2], again(0, 0, most), [node_at(now)])
                self.check([-2], again(0, now, most), [node_at(now)])

    def test_the_stage_is_not_come_to(self):
        for now in (0, 1, 2, 63, 64, 126, 127):
            for stage in {now + 1, (now + 130) // 2, 128}:
                self.check([-4], again(0, stage), [node_at(now)])
            self.check([8] + letter(0, 1, now, ALL_WORDS[now]), again(0, now), [node_at(now)])

    def test_a_stage_that_others_were_heard_in_is_not_come_to(self):
        so_far = [begin(1, 5, 1), receive(letter(1, 0, 1, 2)), receive(letter(1, 2, 1, 0))]
        self.check([-4], again(0, 1), so_far)

    def test_nothing_is_refused_with_4_at_the_end(self):
        for stage in range(129):
            self.assertEqual(last(node_at(128), again(0, stage))[0], 8)

    def test_arguments_are_told_ahead_of_what_is_not_come_to(self):
        for now in (0, 3, 127):
            self.check([-2], again(1, now + 1), [node_at(now)])
            self.check([-2], again(5, 128), [node_at(now)])
            self.check([-2], again(0, now + 1, -1), [node_at(now)])
            self.check([-2], again(0, 129), [node_at(now)])

    def test_arguments_are_told_ahead_of_most(self):
        self.check([-2], again(1, 0, 7), [node_at(3)])
        self.check([-2], again(0, -1, 7), [node_at(3)])
        self.check([-2], again(0, 129, 0), [node_at(3)])

    def test_what_is_not_come_to_is_told_ahead_of_most(self):
        for most in (0, 7):
            self.check([-4], again(0, 4, most), [node_at(3)])
            self.check([-4], again(0, 128, most), [node_at(127)])

    def test_all_refusals_due_at_once(self):
        self.check([-2], again(1, 129, -1), [node_at(3)])
        self.check([-2], again(1, 4, 0), [node_at(3)])


class LetterTest(AgainTest):
    def test_its_word_of_stage_0_just_begun(self):
        for value in (0, 1):
            self.check([8, 4, 1, 0, value, 0, 0, 0, 0], again(4, 0), [begin(1, 5, value)])

    def test_its_words_of_its_stage_and_of_each_before_it(self):
        for now in (0, 1, 2, 3, 64, 126, 127, 128):
            calls = [node_at(now, answer=0)] + [again(4, stage) for stage in range(now + 1)]
            expected = [[8, 4, 1, stage, ALL_WORDS[stage], 0, 0, 0, 0] for stage in range(now + 1)]
            self.assertEqual(ask(*calls)[1:], expected)
            self.assertEqual(after(*calls), after(calls[0]))

    def test_every_word_that_a_stage_has(self):
        for stage in range(129):
            for word in range(2 + stage % 2):
                loaded = load(saved_bytes(2, 3, [0] * stage + [word]))
                self.assertEqual(last(loaded, again(0, stage)), [8, 0, 2, stage, word, 0, 0, 0, 0])

    def test_the_same_letter_that_was_sent_when_the_node_went_on(self):
        so_far = [begin(1, 3, 0, 2)]
        sent = [letter(to, 1, 0, 0) for to in (0, 2)]
        for stage, word in enumerate((1, 2, 1, 1, 0, 0)):
            so_far.append(receive(letter(1, 0, stage, word)))
            told = last(*so_far)
            self.assertEqual(told[0], 16)
            sent += [told[1:9], told[9:17]]
        for one in sent:
            self.check([8] + one, again(one[0], one[2]), so_far)

    def test_to_the_very_end_by_letters(self):
        so_far = [begin(0, 2, 1)] + [receive(letter(0, 1, stage, 1)) for stage in range(127)]
        self.check([-4], again(1, 128), so_far)
        self.check([8, 1, 0, 127, 1, 0, 0, 0, 0], again(1, 127), so_far)
        so_far.append(receive(letter(0, 1, 127, 1)))
        self.check([8, 1, 0, 128, 1, 0, 0, 0, 0], again(1, 128), so_far)
        self.check([8, 1, 0, 0, 1, 0, 0, 0, 0], again(1, 0), so_far)

    def test_the_word_is_the_nodes_own_and_not_a_heard_one(self):
        so_far = [begin(1, 5, 0), receive(letter(1, 4, 0, 1))]
        self.check([8, 4, 1, 0, 0, 0, 0, 0, 0], again(4, 0), so_far)

    def test_as_often_as_it_is_asked(self):
        told = ask(node_at(3), again(0, 2), again(0, 2), again(2, 2), again(0, 2))
        self.assertEqual(told[1], [8] + letter(0, 1, 2, ALL_WORDS[2]))
        self.assertEqual(told[2:], [told[1], [8] + letter(2, 1, 2, ALL_WORDS[2]), told[1]])

    def test_behind_a_refused_letter_the_stage_is_still_not_come_to(self):
        news = letter(0, 1, 0, 1)
        told = ask(begin(0, 2, 1), receive(news, 7), again(1, 1), receive(news, 8), again(1, 1))
        sent = [8, 1, 0, 1, 1, 0, 0, 0, 0]
        self.assertEqual(told, [[0], [-7], [-4], sent, sent])

    def test_behind_a_second_begin(self):
        self.check([-4], again(0, 1), [node_at(3), begin(1, 2, 1)])
        self.check([-2], again(2, 0), [node_at(3), begin(1, 2, 1)])
        self.check([8, 0, 1, 0, 1, 0, 0, 0, 0], again(0, 0), [node_at(3), begin(1, 2, 1)])


class MostTest(AgainTest):
    def test_just_below_8_and_at_8(self):
        for n in (2, 5, 16):
            for now in (0, 3, 128):
                for stage in {0, now}:
                    so_far = [node_at(now, 0, n)] if n > 3 else [load(saved_bytes(0, n, ALL_WORDS[:now + 1]))]
                    for most in (0, 1, 7):
                        self.check([-7], again(1, stage, most), so_far)
                    for most in (8, 9, 1024, PLENTY):
                        self.check([8] + letter(1, 0, stage, ALL_WORDS[stage]), again(1, stage, most), so_far)

    def test_what_was_refused_may_be_asked_again(self):
        told = ask(begin(0, 2, 1), again(1, 0, 7), again(1, 0, 8))
        self.assertEqual(told, [[0], [-7], [8, 1, 0, 0, 1, 0, 0, 0, 0]])


if __name__ == "__main__":
    unittest.main()
