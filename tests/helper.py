"""How the tests speak to the house: a call is a list of numbers, a line is a list of calls."""

from staysup.house import House, NUMBERS, answer_call, answers


def begin():
    return [0]


def ask(c, s, what=0, account=0, much=5):
    return [1, c, s, what, account, much]


def again(c, s):
    return [2, c, s]


def take(k):
    return [3, k]


def keep(k):
    return [4, k]


def lose(k):
    return [5, k]


def save():
    return [6]


def kill(p):
    return [7, p]


def mind():
    return [8]


def ticks(n):
    return [9, n]


def turns(n):
    return [10, n]


def client(c):
    return [11, c]


def book():
    return [12]


def disk():
    return [13]


def process(p):
    return [14, p]


def notes():
    return [15]


def air():
    return [16]


# Tells all that calls can tell of a house, and changes nothing.
SHOW = [client(c) for c in (1, 2, 3)] + [process(p) for p in (1, 2, 3, 4)]
SHOW = SHOW + [book(), disk(), notes(), air(), ticks(0)]

GREATEST = 4294967295


def flat(line):
    return [number for call in line for number in call]


def told(*line):
    """What each call of a line answers, a list each."""
    numbers = answers(flat(line))
    parts = []
    while numbers:
        count = numbers[0]
        parts.append(numbers[1:1 + count])
        numbers = numbers[1 + count:]
    if len(parts) != len(line):
        raise AssertionError(f"{len(line)} calls, {len(parts)} answers")
    return parts


def last(*line):
    return told(*line)[-1]


def shown(*line):
    """What SHOW tells of the house behind a line."""
    return told(*line, *SHOW)[len(line):]


def step(house, call):
    """One call on a house that goes on living behind it."""
    if len(call) != 1 + NUMBERS[call[0]]:
        raise AssertionError(f"not a call: {call}")
    return answer_call(house, call[0], call[1:])


def house_after(*line):
    house = House()
    for call in line:
        step(house, call)
    return house


def state(thing):
    """All that an object holds, as plain values that can be compared and that later changes don't touch."""
    if isinstance(thing, (list, tuple)):
        return [state(part) for part in thing]
    if isinstance(thing, dict):
        return {key: state(part) for key, part in thing.items()}
    if isinstance(thing, int):
        return thing
    return state(vars(thing))


def parts_of(numbers, size):
    return [numbers[place:place + size] for place in range(0, len(numbers), size)]


def read_book(numbers):
    """A book as it is told: what the accounts hold, and the rows of what was done."""
    if len(numbers) != 5 + 6 * numbers[4]:
        raise AssertionError(f"not a book: {numbers}")
    return numbers[:4], parts_of(numbers[5:], 6)


def read_air(numbers):
    """The letters, one by one, each as long as its sort is."""
    letters = []
    place = 1
    while place < len(numbers):
        size = (7, 9, 6, 4)[numbers[place]]
        letters.append(numbers[place:place + size])
        place += size
    if (len(letters), sum(map(len, letters))) != (numbers[0], len(numbers) - 1):
        raise AssertionError(f"not letters: {numbers}")
    return letters


def way(c, s, what=0, account=0, much=5):
    """A request's whole way when no other letter is on its way and nobody else waits with the store."""
    return [ask(c, s, what, account, much), take(1), take(1), save(), take(1), take(1)]


def sixty(c=1, s=3):
    """60 letters on their way, all the same request."""
    return [ask(c, s)] + [again(c, s)] * 59
