"""The form of what is handed in and given back, and that nothing is kept."""

import unittest

from staysup.house import answers
from tests.helper import again, ask, begin, flat, keep, kill, lose, mind, save, take, told, way

ALL_NINE = [begin(), ask(1, 3), again(1, 4), keep(1), take(3), lose(1), save(), kill(3), mind(), take(9), kill(1)]


class Interface(unittest.TestCase):
    def test_counts_stand_before_what_is_answered(self):
        self.assertEqual(answers(flat(ALL_NINE)), [
            1, 0,
            1, 1,
            1, 1,
            7, 0, 1, 3, 1, 0, 0, 5,
            9, 1, 3, 1, 1, 1, 1, 0, 0, 5,
            7, 0, 1, 3, 1, 0, 0, 5,
            1, 1,
            1, 0,
            2, 3, 1,
            1, -5,
            1, 1,
        ])

    def test_any_call_may_be_the_first_and_only_one(self):
        firsts = {
            -8: [again(1, 3), save(), kill(1)],
            -5: [take(1), keep(1), lose(1), mind()],
            -1: [ask(0, 3), again(0, 3), kill(0)],
            0: [begin()],
            1: [ask(3, 4)],
        }
        for answer, calls in firsts.items():
            for call in calls:
                self.assertEqual(answers(call), [1, answer])

    def test_the_list_is_not_changed(self):
        calls = flat(ALL_NINE)
        answers(calls)
        self.assertEqual(calls, flat(ALL_NINE))

    def test_what_is_given_back_is_not_what_was_handed_in(self):
        calls = flat(ALL_NINE)
        first = answers(calls)
        first.append(7)
        self.assertEqual(calls, flat(ALL_NINE))
        self.assertEqual(answers(calls), first[:-1])

    def test_nothing_is_kept_from_one_time_to_the_next(self):
        line = [begin()] + way(1, 3) + way(2, 4) + [ask(3, 3), kill(2)]
        first = answers(flat(line))
        self.assertEqual(answers(flat(line)), first)
        self.assertEqual(answers(begin()), [1, 0])
        self.assertEqual(answers(flat(line)), first)

    def test_all_is_whole_numbers_in_one_list(self):
        given = answers(flat(ALL_NINE))
        self.assertIs(type(given), list)
        self.assertEqual({type(number) for number in given}, {int})

    def test_a_hundred_calls(self):
        line = [ask(1, 3)] + [again(1, 4), lose(2)] * 49 + [lose(1)]
        self.assertEqual(len(line), 100)
        self.assertEqual(told(*line), [[1]] + [[1], [0, 1, 4, 1, 0, 0, 5]] * 49 + [[0, 1, 3, 1, 0, 0, 5]])


if __name__ == "__main__":
    unittest.main()
