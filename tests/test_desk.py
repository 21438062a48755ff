import unittest

from coinagree.desk import answers
from tests.helper import (
    after, again, ask, begin, letter, load, receive, save, saved_bytes, tell_answer, tell_stage,
)


def flat(calls):
    return [number for call in calls for number in call]


def mixed_calls_and_answers():
    """All seven calls over the objects 0, 7 and 15, each beside its answer."""
    saved = saved_bytes(1, 3, [0, 2], heard={(2, 0): 1})
    return [
        (begin(0, 3, 1, 5), [0]),
        (begin(0, 3, 2), [-2]),
        (tell_stage(), [0]),
        (receive(letter(0, 1, 0, 1)), [16, 1, 0, 1, 1, 0, 0, 0, 0, 2, 0, 1, 1, 0, 0, 0, 0]),
        (receive(letter(0, 1, 0, 1), -1), [-2]),
        (load(saved, 7), [0]),
        (again(2, 2, 8, 7), [-4]),
        (receive(letter(1, 0, 1, 2), 31, 7), [-7]),
        (tell_stage(7), [1]),
        (receive(letter(1, 0, 1, 2), 32, 7), [
            32, 0, 1, 2, 0, 0, 0, 0, 0, 2, 1, 2, 0, 0, 0, 0, 0, 0, 1, 3, 2, 0, 0, 0, 0, 2, 1, 3, 2, 0, 0, 0, 0]),
        (again(2, 3, 8, 7), [8, 2, 1, 3, 2, 0, 0, 0, 0]),
        (again(2, 3, 7, 7), [-7]),
        (again(1, 3, 8, 7), [-2]),
        (again(2, 1, 8), [8, 2, 0, 1, 1, 0, 0, 0, 0]),
        (load(saved_bytes(3, 3, [0]), 15), [-3]),
        (begin(15, 16, 0, 1, 15), [0]),
        (tell_stage(7), [3]),
        (tell_stage(), [1]),
        (tell_stage(15), [0]),
        (receive(letter(0, 2, 1, 1)), [16, 1, 0, 2, 1, 0, 0, 0, 0, 2, 0, 2, 1, 0, 0, 0, 0]),
        (receive(letter(0, 2, 1, 3)), [-3]),
        (tell_answer(), [1]),
        (tell_answer(7), [-4]),
        (tell_answer(15), [-4]),
        (save(7), [0] + saved_bytes(1, 3, [0, 2, 0, 2])),
        (save(), [0] + saved_bytes(0, 3, [1, 1, 1], 1, 5)),
        (save(15), [0] + saved_bytes(15, 16, [0], coins=1)),
    ]


def mixed_calls():
    return flat([call for call, answer in mixed_calls_and_answers()])


class DeskTest(unittest.TestCase):
    def test_the_form_of_the_answers(self):
        self.assertEqual(answers(begin(0, 2, 1)), [1, 0])
        self.assertEqual(answers(begin(0, 1, 1)), [1, -2])
        self.assertEqual(answers(begin(0, 2, 1) + save()), [1, 0, 2201, 0] + saved_bytes(0, 2, [1]))
        self.assertEqual(answers(load(saved_bytes(0, 2, [1]))), [1, 0])
        self.assertEqual(answers(load(saved_bytes(2, 2, [1]))), [1, -3])
        self.assertEqual(answers(begin(0, 3, 1) + receive(letter(0, 1, 9, 1))), [1, 0, 1, 0])
        sent = [1, 0, 1, 1, 0, 0, 0, 0]
        self.assertEqual(answers(begin(0, 2, 1) + receive(letter(0, 1, 0, 1))), [1, 0, 9, 8] + sent)
        self.assertEqual(answers(begin(0, 2, 1) + receive(letter(0, 1, 0, 1), 7)), [1, 0, 1, -7])
        self.assertEqual(answers(begin(0, 2, 1) + receive([])), [1, 0, 1, -3])
        self.assertEqual(answers(begin(0, 2, 1) + again(1, 0)), [1, 0, 9, 8, 1, 0, 0, 1, 0, 0, 0, 0])
        self.assertEqual(answers(begin(0, 2, 1) + again(0, 0)), [1, 0, 1, -2])
        self.assertEqual(answers(begin(0, 2, 1) + again(1, 1)), [1, 0, 1, -4])
        self.assertEqual(answers(begin(0, 2, 1) + again(1, 0, 7)), [1, 0, 1, -7])
        self.assertEqual(answers(begin(0, 2, 1) + tell_answer()), [1, 0, 1, -4])
        self.assertEqual(answers(load(saved_bytes(0, 2, [1], 1)) + tell_answer()), [1, 0, 1, 1])
        self.assertEqual(answers(load(saved_bytes(0, 2, [1], 0)) + tell_answer()), [1, 0, 1, 0])
        self.assertEqual(answers(load(saved_bytes(0, 2, [1] * 129)) + tell_stage()), [1, 0, 1, 128])

    def test_several_calls_and_objects(self):
        self.assertEqual({call[0] for call, answer in mixed_calls_and_answers()}, set(range(7)))
        expected = flat([[len(answer)] + answer for call, answer in mixed_calls_and_answers()])
        self.assertEqual(answers(mixed_calls()), expected)

    def test_sixteen_objects_each_by_itself(self):
        calls = [begin(which % 5, 5, which % 2, which, which) for which in range(16)]
        for which in range(16):
            calls.append(receive(letter(which % 5, (which + 1) % 5, which, 1), which=which))
        calls += [save(which) for which in range(16)]
        for which in range(16):
            calls += [again((which + 1) % 5, 0, which=which), tell_answer(which), tell_stage(which)]
        told = ask(*calls)
        self.assertEqual(told[:32], [[0]] * 32)
        for which in range(16):
            heard = {(which, (which + 1) % 5): 1}
            expected = saved_bytes(which % 5, 5, [which % 2], coins=which, heard=heard)
            self.assertEqual(told[32 + which], [0] + expected)
            sent = letter((which + 1) % 5, which % 5, 0, which % 2)
            self.assertEqual(told[48 + 3 * which:51 + 3 * which], [[8] + sent, [-4], [0]])

    def test_sixteen_objects_at_sixteen_stages(self):
        calls = [begin(which % 2, 2, which // 2 % 2, 0, which) for which in range(16)]
        for stage in range(15):
            for which in range(stage + 1, 16):
                came = letter(which % 2, 1 - which % 2, stage, which // 2 % 2)
                calls.append(receive(came, which=which))
        expected = []
        for which in range(16):
            value = which // 2 % 2
            calls += [tell_stage(which), tell_answer(which), again(1 - which % 2, which, which=which)]
            sent = letter(1 - which % 2, which % 2, which, value)
            expected += [[which], [value] if which > 1 else [-4], [8] + sent]
        self.assertEqual(ask(*calls)[-48:], expected)

    def test_two_objects_loaded_from_the_same_bytes_are_each_by_itself(self):
        saved = saved_bytes(0, 5, [1], heard={(3, 1): 2})
        told = ask(load(saved, 1), load(saved, 2), receive(letter(0, 2, 3, 0), which=2), save(1), save(2))
        self.assertEqual(told[3], [0] + saved)
        self.assertEqual(told[4], [0] + saved_bytes(0, 5, [1], heard={(3, 1): 2, (3, 2): 0}))

    def test_a_node_saved_in_one_object_goes_on_in_another(self):
        so_far = [begin(0, 3, 1, 1), receive(letter(0, 2, 1, 2))]
        saved = after(*so_far)
        news = letter(0, 1, 0, 0)
        told = ask(*so_far, load(saved, 9), receive(news), receive(news, which=9), save(), save(9))
        self.assertEqual(told[3], told[4])
        self.assertEqual(told[5], told[6])

    def test_what_is_handed_in_is_the_same_afterwards(self):
        calls = mixed_calls()
        answers(calls)
        self.assertEqual(calls, mixed_calls())

    def test_what_is_given_back_is_the_callers_own(self):
        calls = mixed_calls()
        told = answers(calls)
        told.clear()
        self.assertEqual(calls, mixed_calls())
        self.assertNotEqual(answers(calls), [])

    def test_the_same_list_twice_gives_the_same(self):
        calls = mixed_calls()
        first = answers(calls)
        kept = list(first)
        self.assertEqual(answers(calls), kept)
        self.assertEqual(first, kept)

    def test_nothing_is_kept_from_one_time_to_the_next(self):
        answers(flat([begin(0, 2, 1), receive(letter(0, 1, 0, 1))]))
        for call in (save(), tell_answer(), tell_stage(), again(1, 0), receive(letter(0, 1, 0, 1))):
            with self.assertRaises(KeyError):
                answers(call)

    def test_whole_numbers_alone_are_given_back(self):
        told = answers(mixed_calls())
        self.assertIs(type(told), list)
        self.assertEqual({type(number) for number in told}, {int})

    def test_four_hundred_calls(self):
        calls = [begin(0, 2, 1)] + [receive(letter(0, 1, stage % 128, 1)) for stage in range(398)] + [save()]
        told = ask(*calls)
        self.assertEqual(len(told), 400)
        self.assertEqual(told[1:129], [[8, 1, 0, stage, 1, 0, 0, 0, 0] for stage in range(1, 129)])
        self.assertEqual(told[129:399], [[0]] * 270)
        self.assertEqual(told[399], [0] + saved_bytes(0, 2, [1] * 129, 1))


if __name__ == "__main__":
    unittest.main()
