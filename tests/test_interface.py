"""The form of what is handed in and given back, and that nothing is kept."""

import unittest

from staysup.house import answers
from tests.helper import (
    GREATEST, again, air, ask, begin, book, client, disk, flat, keep, kill, lose, mind, notes, process, save, take,
    ticks, told, turns, way,
)

ALL = [
    begin(), ask(1, 3), again(1, 4), keep(1), take(3), lose(1), book(), save(), ticks(40), kill(3), notes(), mind(),
    notes(), air(), turns(3), client(1), take(9), disk(), book(), process(3), ticks(10001), kill(1), book(), disk(),
]


class Interface(unittest.TestCase):
    def test_counts_stand_before_what_is_answered(self):
        self.assertEqual({call[0] for call in ALL}, set(range(17)))
        self.assertEqual(answers(flat(ALL)), [
            1, 0,
            1, 1,
            1, 1,
            7, 0, 1, 3, 1, 0, 0, 5,
            9, 1, 3, 1, 1, 1, 1, 0, 0, 5,
            7, 0, 1, 3, 1, 0, 0, 5,
            12, 1, 5, 0, 0, 0, 1, 1, 1, 0, 0, 5, 5,
            1, 1,
            1, 40,
            1, 0,
            3, 1, 3, 0,
            2, 3, 1,
            3, 0, 1, 40,
            14, 2, 0, 1, 4, 1, 0, 0, 5, 2, 3, 1, 1, 1, 5,
            1, 1,
            3, 1, 1, 0,
            1, -5,
            11, 5, 0, 0, 0, 1, 1, 1, 0, 0, 5, 5,
            12, 0, 5, 0, 0, 0, 1, 1, 1, 0, 0, 5, 5,
            2, 1, 2,
            1, -1,
            1, 1,
            1, -8,
            11, 5, 0, 0, 0, 1, 1, 1, 0, 0, 5, 5,
        ])

    def test_any_call_may_be_the_first_and_only_one(self):
        firsts = {
            -8: [again(1, 3), save(), kill(1), book()],
            -5: [take(1), keep(1), lose(1), mind()],
            -1: [ask(0, 3), again(0, 3), kill(0), ticks(10001), turns(201), client(0), process(0)],
            0: [begin(), ticks(0), turns(200), air()],
            1: [ask(3, 4)],
            10000: [ticks(10000)],
        }
        for answer, calls in firsts.items():
            for call in calls:
                self.assertEqual(answers(call), [1, answer])
        self.assertEqual(answers(client(3)), [3, 0, 0, 0])
        self.assertEqual(answers(disk()), [5, 0, 0, 0, 0, 0])
        self.assertEqual(answers(process(4)), [2, 0, 0])
        self.assertEqual(answers(notes()), [2, 0, 0])

    def test_the_greatest_numbers_are_refused(self):
        g = GREATEST
        refused = [ask(g, g, g, g, g), again(g, g), kill(g), ticks(g), turns(g), client(g), process(g)]
        self.assertEqual(told(begin(), *refused)[1:], [[-1]] * 7)
        self.assertEqual(told(begin(), ask(1, 3), take(g), keep(g), lose(g))[2:], [[-5]] * 3)

    def test_the_list_is_not_changed(self):
        calls = flat(ALL)
        answers(calls)
        self.assertEqual(calls, flat(ALL))

    def test_what_is_given_back_is_not_what_was_handed_in(self):
        calls = flat(ALL)
        first = answers(calls)
        first.append(7)
        self.assertEqual(calls, flat(ALL))
        self.assertEqual(answers(calls), first[:-1])

    def test_nothing_is_kept_from_one_time_to_the_next(self):
        line = [begin()] + way(1, 3) + way(2, 4) + [ask(3, 3), kill(2)]
        first = answers(flat(line))
        self.assertEqual(answers(flat(line)), first)
        self.assertEqual(answers(begin()), [1, 0])
        self.assertEqual(answers(flat(line)), first)

    def test_all_is_whole_numbers_in_one_list(self):
        given = answers(flat(ALL))
        self.assertIs(type(given), list)
        self.assertEqual({type(number) for number in given}, {int})

    def test_a_hundred_calls(self):
        line = [ask(1, 3)] + [again(1, 4), lose(2)] * 49 + [lose(1)]
        self.assertEqual(len(line), 100)
        self.assertEqual(told(*line), [[1]] + [[1], [0, 1, 4, 1, 0, 0, 5]] * 49 + [[0, 1, 3, 1, 0, 0, 5]])

    def test_a_hundred_calls_that_fill_the_book(self):
        line = [begin()] + [ask(2, 4, 0, 3, 1000), turns(4)] * 49 + [disk()]
        rows = [[2, number, 0, 3, 1000, 1000 * number] for number in range(1, 50)]
        self.assertEqual(told(*line)[1:], [[number] for one in range(1, 50) for number in (one, 0)]
                         + [[0, 0, 0, 49000, 49] + flat(rows)])


if __name__ == "__main__":
    unittest.main()
