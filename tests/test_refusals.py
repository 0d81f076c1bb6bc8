"""Refusals: each is given at its edge, the one told first is given, and all is as it was behind it."""

import unittest

from tests.helper import (
    GREATEST, SHOW, again, ask, begin, book, client, disk, house_after, keep, kill, last, lose, mind, process, save,
    sixty, state, step, take, ticks, told, turns, way,
)

# What is told of a house, and what calls do in it then.
PROBE = SHOW + [save(), again(1, 4), again(2, 4), again(3, 4), mind(), kill(4), kill(3), kill(2), kill(1), begin()]

BUSY = [begin(), ask(1, 3), ask(2, 4), take(1), take(1), take(1), kill(3), ask(3, 3)]


class Refusals(unittest.TestCase):
    def refused(self, line, call, refusal):
        self.assertEqual(last(*line, call), [refusal])
        house = house_after(*line)
        before = state(house)
        self.assertEqual(step(house, call), [refusal])
        self.assertEqual(state(house), before)
        if len(line) + len(PROBE) < 100:
            self.assertEqual(told(*line, call, *PROBE)[len(line) + 1:], told(*line, *PROBE)[len(line):])


class Begin(Refusals):
    def test_the_keeper_lives(self):
        self.refused([begin()], begin(), -8)
        self.refused(BUSY, begin(), -8)
        self.refused([begin(), kill(2), kill(3), kill(4)], begin(), -8)

    def test_the_keeper_does_not_live(self):
        self.assertEqual(last(begin()), [0])
        self.assertEqual(last(begin(), kill(1), begin()), [0])


class Ask(Refusals):
    def test_clients(self):
        for line in ([], BUSY[:1]):
            for c in (0, 4, GREATEST):
                self.refused(line, ask(c, 3), -1)
            for c in (1, 2, 3):
                self.assertEqual(last(*line, ask(c, 3)), [1])

    def test_servers(self):
        for s in (0, 1, 2, 5, GREATEST):
            self.refused([begin()], ask(1, s), -1)
        for s in (3, 4):
            self.assertEqual(told(begin(), ask(1, s), lose(1))[1:], [[1], [0, 1, s, 1, 0, 0, 5]])

    def test_what(self):
        for what in (3, GREATEST):
            self.refused([begin()], ask(1, 3, what), -1)
        for what in (0, 1, 2):
            self.assertEqual(last(begin(), ask(1, 3, what), lose(1)), [0, 1, 3, 1, what, 0, 5])

    def test_account(self):
        for account in (4, GREATEST):
            self.refused([begin()], ask(1, 3, 1, account), -1)
        for account in (0, 3):
            self.assertEqual(last(begin(), ask(1, 3, 1, account), lose(1)), [0, 1, 3, 1, 1, account, 5])

    def test_how_much(self):
        for what in (0, 1, 2):
            for much in (1001, GREATEST):
                self.refused([begin()], ask(1, 3, what, 0, much), -1)
            for much in (0, 1000):
                self.assertEqual(last(begin(), ask(1, 3, what, 0, much), lose(1)), [0, 1, 3, 1, what, 0, much])

    def test_the_client_waits(self):
        self.refused([ask(1, 3)], ask(1, 3), -8)
        self.refused([ask(1, 3)], ask(1, 4, 1, 1, 1), -8)
        self.refused([ask(1, 3), lose(1)], ask(1, 3), -8)
        self.refused(BUSY, ask(2, 4), -8)
        self.assertEqual(last(ask(1, 3), ask(2, 3)), [1])

    def test_sixty_letters(self):
        self.refused(sixty(), ask(2, 3), -6)
        self.assertEqual(last(*sixty()[:59], ask(2, 3)), [1])
        self.assertEqual(last(*sixty(), lose(60), ask(2, 3)), [1])

    def test_more_than_sixty_letters(self):
        self.refused(over_sixty(), ask(2, 3), -6)

    def test_the_first_told_is_given(self):
        self.refused([ask(1, 3)], ask(1, 5), -1)
        self.refused([ask(1, 3)], ask(1, 3, 3), -1)
        self.refused([ask(1, 3)], ask(1, 3, 0, 4), -1)
        self.refused([ask(1, 3)], ask(1, 3, 0, 0, 1001), -1)
        self.refused(sixty(), ask(4, 3), -1)
        self.refused(sixty(), ask(2, 3, 0, 0, 1001), -1)
        self.refused(sixty(), ask(1, 3), -8)


class Again(Refusals):
    def test_clients(self):
        for c in (0, 4, GREATEST):
            self.refused(BUSY, again(c, 3), -1)
        for c in (1, 2, 3):
            self.assertEqual(last(*BUSY, again(c, 3)), [1])

    def test_servers(self):
        for s in (0, 1, 2, 5, GREATEST):
            self.refused(BUSY, again(1, s), -1)
        for s in (3, 4):
            self.assertEqual(last(*BUSY, again(1, s)), [1])

    def test_the_client_does_not_wait(self):
        self.refused([], again(1, 3), -8)
        self.refused([ask(2, 3)], again(1, 3), -8)
        self.refused([begin()] + way(1, 3), again(1, 3), -8)

    def test_sixty_letters(self):
        self.refused(sixty(), again(1, 4), -6)
        self.assertEqual(last(*sixty()[:59], again(1, 4)), [1])

    def test_more_than_sixty_letters(self):
        self.refused(over_sixty(), again(1, 3), -6)

    def test_the_first_told_is_given(self):
        self.refused([], again(4, 3), -1)
        self.refused([], again(1, 2), -1)
        self.refused(sixty(), again(0, 3), -1)
        self.refused(sixty(), again(1, 5), -1)
        self.refused(sixty(), again(2, 3), -8)


class Letters(Refusals):
    def test_there_is_no_such_letter(self):
        for call in (take, keep, lose):
            for k in (0, 1, GREATEST):
                self.refused([begin()], call(k), -5)
            for k in (0, 4, GREATEST):
                self.refused([begin(), ask(1, 3), ask(2, 3), ask(3, 4)], call(k), -5)

    def test_the_first_and_the_last_one(self):
        line = [ask(1, 3), ask(2, 3), ask(3, 4)]
        for call in (take, keep, lose):
            self.assertEqual(last(*line, call(1)), [0, 1, 3, 1, 0, 0, 5])
            self.assertEqual(last(*line, call(3)), [0, 3, 4, 1, 0, 0, 5])

    def test_keep_with_sixty_letters(self):
        self.refused([begin()] + sixty(), keep(1), -6)
        self.refused(sixty(), keep(60), -6)
        self.assertEqual(told(begin(), *sixty()[:59], keep(59), lose(60))[-2:],
                         [[0, 1, 3, 1, 0, 0, 5], [1, 3, 1, 1, 1, 1, 0, 0, 5]])

    def test_keep_with_more_than_sixty_letters(self):
        self.refused(over_sixty(), keep(61), -6)

    def test_keep_tells_first_that_there_is_none(self):
        self.refused(sixty(), keep(61), -5)
        self.refused(sixty(), keep(0), -5)

    def test_take_and_lose_with_sixty_letters(self):
        line = [begin()] + sixty()
        self.assertEqual(told(*line, take(60), lose(60))[-2:], [[0, 1, 3, 1, 0, 0, 5], [1, 3, 1, 1, 1, 1, 0, 0, 5]])
        self.assertEqual(told(*line, lose(60), lose(60))[-2:], [[0, 1, 3, 1, 0, 0, 5], [-5]])
        self.assertEqual(last(*over_sixty(), take(61)), [2, 3, 1, 1, 1, 5])


class SaveKillMind(Refusals):
    def test_the_store_does_not_live(self):
        self.refused([], save(), -8)
        self.refused([begin(), ask(1, 3), take(1), take(1), kill(2)], save(), -8)
        self.refused([begin(), kill(1)], save(), -8)
        self.assertEqual(last(begin(), save()), [0])

    def test_saving_is_never_too_much(self):
        self.assertEqual(over_sixty()[-1], save())
        self.assertEqual(last(*over_sixty()), [1])

    def test_there_is_no_such_process(self):
        for p in (0, 5, GREATEST):
            self.refused([], kill(p), -1)
            self.refused(BUSY, kill(p), -1)

    def test_the_process_lives(self):
        self.assertEqual(last(begin(), kill(1)), [1])
        for p in (2, 3, 4):
            self.assertEqual(last(begin(), kill(p)), [0])

    def test_the_process_does_not_live(self):
        for p in (1, 2, 3, 4):
            self.refused([], kill(p), -8)
            self.refused([begin(), kill(1)], kill(p), -8)
        for p in (2, 3, 4):
            self.refused([begin(), kill(p)], kill(p), -8)

    def test_nothing_is_noted(self):
        self.refused([], mind(), -5)
        self.refused([begin()], mind(), -5)
        self.refused([begin(), kill(1)], mind(), -5)
        self.refused([begin(), kill(3), mind()], mind(), -5)
        self.refused([begin(), kill(3), kill(1), begin()], mind(), -5)


class TicksAndTurns(Refusals):
    def test_too_many_ticks(self):
        for n in (10001, GREATEST):
            self.refused([], ticks(n), -1)
            self.refused(BUSY + [ticks(7)], ticks(n), -1)

    def test_the_most_ticks(self):
        self.assertEqual(told(ticks(10000), ticks(10000), ticks(9999), ticks(0)), [[10000], [20000], [29999], [29999]])

    def test_too_many_turns(self):
        for n in (201, GREATEST):
            self.refused([], turns(n), -1)
            self.refused(BUSY, turns(n), -1)
            self.refused([begin()] + sixty(), turns(n), -1)

    def test_the_most_turns(self):
        self.assertEqual(told(turns(200), turns(199), begin(), turns(200)), [[0], [0], [0], [0]])
        self.assertEqual(last(*BUSY, turns(200)), [0])


class Telling(Refusals):
    def test_clients(self):
        for line in ([], BUSY):
            for c in (0, 4, GREATEST):
                self.refused(line, client(c), -1)
            for c in (1, 2, 3):
                self.assertEqual(last(*line, client(c)), [1, 1, 0] if line else [0, 0, 0])

    def test_processes(self):
        for line in ([], BUSY):
            for p in (0, 5, GREATEST):
                self.refused(line, process(p), -1)
        self.assertEqual(told(*[process(p) for p in (1, 2, 3, 4)]), [[0, 0]] * 4)
        self.assertEqual(told(*BUSY, *[process(p) for p in (1, 2, 3, 4)])[-4:], [[1, 1], [1, 1], [0, 1], [1, 1]])

    def test_the_book_while_the_keeper_does_not_live(self):
        self.refused([], book(), -8)
        self.refused([ask(1, 3)], book(), -8)
        self.refused(BUSY + [kill(1)], book(), -8)
        self.refused([begin()] + way(1, 3) + [kill(1)], book(), -8)
        self.refused([begin()] + [kill(2), mind()] * 3 + [kill(2), mind()], book(), -8)

    def test_the_book_while_the_keeper_lives(self):
        self.assertEqual(last(begin(), kill(2), kill(3), kill(4), book()), [0, 0, 0, 0, 0, 0])
        self.assertEqual(last(begin(), kill(1), begin(), book()), [0, 0, 0, 0, 0, 0])

    def test_the_disk_is_never_refused(self):
        self.assertEqual(last(disk()), [0, 0, 0, 0, 0])
        self.assertEqual(last(begin(), *way(1, 3), kill(1), disk()), [5, 0, 0, 0, 1, 1, 1, 0, 0, 5, 5])


def over_sixty():
    """61 letters on their way: 60, and one that the store sends by saving."""
    return [begin(), ask(1, 3), take(1), take(1)] + [again(1, 3)] * 60 + [save()]


if __name__ == "__main__":
    unittest.main()
