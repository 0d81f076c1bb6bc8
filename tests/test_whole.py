"""What the house stands for, on many lines of calls: made by a seed, so the same each time."""

import random
import unittest

from staysup.house import House
from tests.helper import (
    SHOW, again, air, ask, begin, book, client, disk, flat, keep, kill, last, lose, mind, notes, process, read_air,
    read_book, save, state, step, take, ticks, told, turns,
)

LINES = 300
CALLS = 100

# Behind any line: whoever is dead is minded, the house is begun if it is down, what was on its way has come, and
# who waits asks once more. 70 calls send 70 requests at most, of four rounds each, so 400 rounds leave none.
CLOSING = [mind(), mind(), mind(), begin(), turns(200), turns(200), again(1, 3), again(2, 4), again(3, 3), turns(200)]


def some_call(chance, house, deaths):
    """A call that may come next; the more deaths, the oftener somebody dies and is minded."""
    many = len(house.letters)
    k = chance.randint(0, many + 1) if chance.random() < 0.1 else chance.randint(min(1, many), many)
    c = chance.randint(0, 4) if chance.random() < 0.1 else chance.randint(1, 3)
    s = chance.randint(2, 5) if chance.random() < 0.1 else chance.randint(3, 4)
    p = chance.choice((0, 1, 2, 2, 2, 2, 2, 3, 3, 3, 4, 4, 4, 5))
    much = chance.choice((0, 1, 2, 5, 1000, 1001))
    asked = ask(c, s, chance.randint(0, 2), chance.randint(0, 3), much)
    calls = [begin()] * 4 + [asked] * 6 + [again(c, s)] * 3 + [take(k)] * 20 + [keep(k)] * 3
    calls = calls + [lose(k)] + [save()] * 6 + [kill(p)] * deaths + [mind()] * (deaths + 1)
    calls = calls + [ticks(chance.choice((0, 20, 50, 60, 100, 101, 10001))), turns(chance.choice((0, 1, 2, 201)))]
    calls = calls + [chance.choice((client(c), book(), disk(), process(p), notes(), air()))]
    return chance.choice(calls)


def some_line(seed, count):
    """A line of calls, and what each of them answers."""
    chance = random.Random(seed)
    house = House()
    line = []
    answered = []
    for place in range(count):
        line.append(some_call(chance, house, 1 + seed % 6))
        answered.append(step(house, line[-1]))
    return line, answered


def replayed(done):
    """What the accounts hold and what was answered, if just this is done in this order."""
    accounts = [0, 0, 0, 0]
    given = []
    for client_of, number, what, account, much, answer in done:
        enough = accounts[account] >= much
        accounts[account] += {0: much, 1: 0, 2: -much if enough else 0}[what]
        given.append(accounts[account] if what < 2 else int(enough))
    return accounts, given


class Shown:
    """What the calls tell of a house."""

    def __init__(self, house):
        parts = [step(house, call) for call in SHOW]
        self.made = {c: parts[c - 1][0] for c in (1, 2, 3)}
        self.waits = {c: parts[c - 1][1] for c in (1, 2, 3)}
        self.heard = {c: parts[c - 1][3:] for c in (1, 2, 3)}
        self.counts = {c: parts[c - 1][2] for c in (1, 2, 3)}
        self.living = {p: parts[p + 2][0] for p in (1, 2, 3, 4)}
        self.lives = {p: parts[p + 2][1] for p in (1, 2, 3, 4)}
        self.down = parts[7] == [-8]
        self.waiting = 0 if self.down else parts[7][0]
        self.book = read_book([0, 0, 0, 0, 0] if self.down else parts[7][1:])
        self.disk = read_book(parts[8])
        self.noted = parts[9][1:1 + parts[9][0]]
        self.times = parts[9][2 + parts[9][0]:]
        self.letters = read_air(parts[10])
        self.time = parts[11][0]


class Whole(unittest.TestCase):
    def check_book(self, book_shown, asked, ahead):
        accounts, done = book_shown
        self.assertEqual(replayed(done), (accounts, [one[5] for one in done]))
        for c in (1, 2, 3):
            numbers = [one[1] for one in done if one[0] == c]
            self.assertEqual(numbers, list(range(1, len(numbers) + 1)))
        order = [(one[0], one[1]) for one in done]
        for place, one in enumerate(done):
            self.assertEqual(one[2:5], asked[order[place]])
            self.assertLessEqual(ahead[order[place]], set(order[:place]))

    def check_processes(self, house):
        self.assertEqual(house.down, not house.living[1])
        if house.down:
            self.assertEqual((list(house.living.values()), house.noted, house.times), ([0, 0, 0, 0], [], []))
        else:
            self.assertEqual(sorted(house.noted), [p for p in (2, 3, 4) if not house.living[p]])
        if not house.living[2]:
            self.assertEqual(house.waiting, 0)
        self.assertLessEqual(len(house.times), 3)
        self.assertEqual(house.times, sorted(house.times))

    def check_answers(self, house):
        on_disk = {(one[0], one[1]): one[5] for one in house.disk[1]}
        for c in (1, 2, 3):
            self.assertEqual(house.counts[c], len(house.heard[c]))
            self.assertEqual(house.made[c], len(house.heard[c]) + house.waits[c])
            for number, answer in enumerate(house.heard[c], start=1):
                self.assertEqual(on_disk[(c, number)], answer)
        # Nobody is answered ahead of the disk, not by a letter on its way either.
        for letter in house.letters:
            if letter[0] in (2, 3):
                self.assertEqual(on_disk[tuple(letter[-3:-1])], letter[-1])

    def check_step(self, before, house, call):
        self.assertEqual(house.disk[1][:len(before.disk[1])], before.disk[1])
        if not house.down:
            self.assertEqual(house.book[1][:len(house.disk[1])], house.disk[1])
        for p in (1, 2, 3, 4):
            self.assertEqual(house.lives[p] - before.lives[p], 1 if house.living[p] > before.living[p] else 0)
        for c in (1, 2, 3):
            self.assertEqual(house.heard[c][:len(before.heard[c])], before.heard[c])
        self.assertEqual(house.time - before.time, call[1] if call[0] == 9 and call[1] <= 10000 else 0)

    def count_seen(self, seen, before, call, answer):
        if call[0] == 0:
            seen["came up by the disk"] += answer[0] > 0
        elif call[0] in (3, 4) and answer[0] == 1:
            seen["came to another life"] += answer[3] < before.lives[2]
        elif call[0] in (3, 4) and answer[0] == 2:
            seen["came to another life"] += answer[2] < before.lives[answer[1]]
        elif call[0] == 8 and answer[0] > 0:
            seen["went on" if answer[1] else "gave up"] += 1

    def check_line(self, line, seen):
        house = House()
        asked = {}
        ahead = {}
        behind = Shown(house)
        for call in line:
            before = behind
            held = state(house)
            answer = step(house, call)
            if answer[0] < 0:
                self.assertEqual((len(answer), state(house)), (1, held))
            elif call[0] == 1:
                request = (call[1], answer[0])
                asked[request] = call[3:]
                ahead[request] = {(c, n) for c in (1, 2, 3) for n in range(1, len(before.heard[c]) + 1)}
            elif call[0] in (3, 4, 5):
                self.assertEqual(answer, before.letters[call[1] - 1])
            held = state(house)
            behind = Shown(house)
            self.assertEqual(state(house), held)
            self.check_step(before, behind, call)
            self.check_book(behind.book, asked, ahead)
            self.check_book(behind.disk, asked, ahead)
            self.check_processes(behind)
            self.check_answers(behind)
            self.count_seen(seen, before, call, answer)
        seen["heard"] += sum(behind.counts.values())

    def test_books_and_answers_hold_behind_each_call(self):
        seen = {"came up by the disk": 0, "came to another life": 0, "went on": 0, "gave up": 0, "heard": 0}
        for seed in range(LINES):
            self.check_line(some_line(seed, CALLS)[0], seen)
        # The lines are of use only if all of this comes to pass in them.
        self.assertGreater(min(seen.values()), 50, seen)

    def test_a_line_answers_as_its_calls_do_one_by_one(self):
        for seed in range(LINES):
            line, answered = some_line(seed, CALLS)
            self.assertEqual(told(*line), answered)
            self.assertEqual(told(*line), answered)
            self.assertLessEqual(len(flat(line)), 700)

    def test_it_comes_up_again_and_everybody_is_answered(self):
        waited = 0
        for seed in range(LINES):
            line = some_line(seed, 70)[0]
            whole = line + CLOSING + SHOW
            parts = told(*whole)[len(line + CLOSING):]
            waited += sum(part[1] for part in told(*line, client(1), client(2), client(3))[-3:])
            for part in parts[:3]:
                self.assertEqual((part[1], part[2]), (0, part[0]))
            self.assertEqual([part[0] for part in parts[3:7]], [1, 1, 1, 1])
            self.assertEqual(parts[7], [0] + parts[8])
            self.assertEqual(parts[8][4], sum(part[0] for part in parts[:3]))
            self.assertEqual((parts[9][0], parts[10]), (0, [0]))
        self.assertGreater(waited, LINES)


class OneStory(unittest.TestCase):
    """Letters late, lost and taken twice, deaths, and the keeper that gives up, all in one line."""

    LATE = [begin(), ask(1, 3, 0, 0, 10), keep(1), take(2), save(), take(2), take(2), ask(1, 4, 2, 0, 4), take(2)]
    LOST = LATE + [take(2), save(), lose(2), again(1, 3), take(2), take(2), take(2), take(2)]
    DOWN = LOST + [ask(2, 4, 0, 0, 3), take(2), take(2)] + [kill(3), mind()] * 3 + [kill(2), mind()]
    UP = DOWN + [begin(), again(2, 3), ask(3, 4, 1, 0, 0), turns(10)]

    def test_what_was_answered_is_on_the_disk(self):
        self.assertEqual(told(*self.LOST, client(1), disk())[-2:],
                         [[2, 0, 2, 10, 1], [6, 0, 0, 0, 2, 1, 1, 0, 0, 10, 10, 1, 2, 2, 0, 4, 1]])

    def test_the_keeper_gives_up(self):
        self.assertEqual(told(*self.DOWN, process(1), book(), disk(), air())[-5:],
                         [[2, 0], [0, 1], [-8], [6, 0, 0, 0, 2, 1, 1, 0, 0, 10, 10, 1, 2, 2, 0, 4, 1],
                          [1, 0, 1, 3, 1, 0, 0, 10]])

    def test_it_comes_up_again_by_the_disk_and_everybody_is_answered(self):
        self.assertEqual(told(*self.UP)[-4:], [[2], [1], [1], [0]])
        self.assertEqual(told(*self.UP, client(1), client(2), client(3))[-3:],
                         [[2, 0, 2, 10, 1], [1, 0, 1, 9], [1, 0, 1, 9]])

    def test_the_first_request_comes_once_more_and_is_not_done_again(self):
        self.assertEqual(last(*self.UP, disk()), [
            9, 0, 0, 0, 4,
            1, 1, 0, 0, 10, 10, 1, 2, 2, 0, 4, 1, 2, 1, 0, 0, 3, 9, 3, 1, 1, 0, 0, 9,
        ])


if __name__ == "__main__":
    unittest.main()
