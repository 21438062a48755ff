import unittest

from coinagree.desk import answers
from tests.helper import after, ask, begin, letter, load, receive, save, saved_bytes


def flat(calls):
    return [number for call in calls for number in call]


def mixed_calls():
    saved = saved_bytes(1, 3, [0, 2], heard={(2, 0): 1})
    return flat([
        begin(0, 3, 1, 5),
        begin(0, 3, 2),
        receive(letter(0, 1, 0, 1)),
        receive(letter(0, 1, 0, 1), -1),
        load(saved, 7),
        receive(letter(1, 0, 1, 2), 31, 7),
        receive(letter(1, 0, 1, 2), 32, 7),
        save(7),
        save(),
    ])


class DeskTest(unittest.TestCase):
    def test_the_form_of_the_answers(self):
        self.assertEqual(answers(begin(0, 2, 1)), [1, 0])
        self.assertEqual(answers(begin(0, 1, 1)), [1, -2])
        self.assertEqual(answers(begin(0, 2, 1) + save()), [1, 0, 2201, 0] + saved_bytes(0, 2, [1]))
        self.assertEqual(answers(load(saved_bytes(0, 2, [1]))), [1, 0])
        self.assertEqual(answers(load(saved_bytes(2, 2, [1]))), [1, -3])
        self.assertEqual(answers(begin(0, 3, 1) + receive(letter(0, 1, 9, 1))), [1, 0, 1, 0])
        sent = [1, 0, 1, 1, 0, 0, 0, 0]
        self.assertEqual(answers(begin(0, 2, 1) + receive(letter(0, 1, 0, 1))), [1, 0, 9, 8] + sent)
        self.assertEqual(answers(begin(0, 2, 1) + receive(letter(0, 1, 0, 1), 7)), [1, 0, 1, -7])
        self.assertEqual(answers(begin(0, 2, 1) + receive([])), [1, 0, 1, -3])

    def test_several_calls_and_objects(self):
        first = [16, 1, 0, 1, 1, 0, 0, 0, 0, 2, 0, 1, 1, 0, 0, 0, 0]
        second = [32, 0, 1, 2, 0, 0, 0, 0, 0, 2, 1, 2, 0, 0, 0, 0, 0, 0, 1, 3, 2, 0, 0, 0, 0, 2, 1, 3, 2, 0, 0, 0, 0]
        node_7 = saved_bytes(1, 3, [0, 2, 0, 2])
        node_0 = saved_bytes(0, 3, [1, 1], coins=5)
        expected = [[0], [-2], first, [-2], [0], [-7], second, [0] + node_7, [0] + node_0]
        self.assertEqual(answers(mixed_calls()), flat([[len(told)] + told for told in expected]))

    def test_sixteen_objects_each_by_itself(self):
        calls = [begin(which % 5, 5, which % 2, which, which) for which in range(16)]
        for which in range(16):
            calls.append(receive(letter(which % 5, (which + 1) % 5, which, 1), which=which))
        calls += [save(which) for which in range(16)]
        told = ask(*calls)
        self.assertEqual(told[:32], [[0]] * 32)
        for which in range(16):
            heard = {(which, (which + 1) % 5): 1}
            expected = saved_bytes(which % 5, 5, [which % 2], coins=which, heard=heard)
            self.assertEqual(told[32 + which], [0] + expected)

    def test_two_objects_loaded_from_the_same_bytes_are_each_by_itself(self):
        saved = saved_bytes(0, 5, [1], heard={(3, 1): 2})
        told = ask(load(saved, 1), load(saved, 2), receive(letter(0, 2, 3, 0), which=2), save(1), save(2))
        self.assertEqual(told[3], [0] + saved)
        self.assertEqual(told[4], [0] + saved_bytes(0, 5, [1], heard={(3, 1): 2, (3, 2): 0}))

    def test_a_node_saved_in_one_object_goes_on_in_another(self):
        so_far = [begin(0, 3, 1, 1), receive(letter(0, 2, 1, 2))]
        saved = after(*so_far)
        news = letter(0, 1, 0, 0)
        told = ask(*so_far, load(saved, 9), receive(news), receive(news, which=9), save(), save(9))
        self.assertEqual(told[3], told[4])
        self.assertEqual(told[5], told[6])

    def test_what_is_handed_in_is_the_same_afterwards(self):
        calls = mixed_calls()
        answers(calls)
        self.assertEqual(calls, mixed_calls())

    def test_what_is_given_back_is_the_callers_own(self):
        calls = mixed_calls()
        told = answers(calls)
        told.clear()
        self.assertEqual(calls, mixed_calls())
        self.assertNotEqual(answers(calls), [])

    def test_the_same_list_twice_gives_the_same(self):
        calls = mixed_calls()
        first = answers(calls)
        kept = list(first)
        self.assertEqual(answers(calls), kept)
        self.assertEqual(first, kept)

    def test_nothing_is_kept_from_one_time_to_the_next(self):
        answers(flat([begin(0, 2, 1), receive(letter(0, 1, 0, 1))]))
        with self.assertRaises(KeyError):
            answers(save())

    def test_whole_numbers_alone_are_given_back(self):
        told = answers(mixed_calls())
        self.assertIs(type(told), list)
        self.assertEqual({type(number) for number in told}, {int})

    def test_four_hundred_calls(self):
        calls = [begin(0, 2, 1)] + [receive(letter(0, 1, stage % 128, 1)) for stage in range(398)] + [save()]
        told = ask(*calls)
        self.assertEqual(len(told), 400)
        self.assertEqual(told[1:129], [[8, 1, 0, stage, 1, 0, 0, 0, 0] for stage in range(1, 129)])
        self.assertEqual(told[129:399], [[0]] * 270)
        self.assertEqual(told[399], [0] + saved_bytes(0, 2, [1] * 129, 1))


if __name__ == "__main__":
    unittest.main()
