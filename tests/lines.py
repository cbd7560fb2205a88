"""What the tests share: writing calls as numbers, and taking the answers apart."""

from childkeep.keeper import answers

LARGEST = 4294967295

ALONE, ALL, BEHIND = 0, 1, 2
ALWAYS, UNLESS_WELL, NEVER = 0, 1, 2
KEEPING, ANEW, ENDING, OVER = 0, 1, 2, 3

STOP = [2]
TICK = [3]
LOOK = [4]

WRONG = (-22, [])
IS_OFF = (-2, [])
TOO_LATE = (-11, [])
QUIET = (0, [])


def row(numbers, filler):
    return list(numbers) + [filler] * (8 - len(numbers))


def start(way=ALONE, most=15, within=10, how=(0, 0, 0), patience=(3, 3, 3), count=None, filler=0):
    """A start of as many children as how has numbers, if count doesn't say otherwise."""
    count = len(how) if count is None else count
    return [0, way, most, within, count, 8] + row(how, filler) + [8] + row(patience, filler)


def ended(child, why=0):
    return [1, child, why]


def begin(child):
    return (0, child, 0)


def halt(child, hard=0):
    return (1, child, hard)


def over(why):
    return (2, why, 0)


def told(*things):
    """The answer 0 with these things told."""
    return (0, list(things))


def seen(mode, on, stopping=None, notes=0):
    """What look answers: on is the children that are on."""
    bits = sum(1 << child for child in on)
    return (0, [], [mode, bits, 0 if stopping is None else stopping + 1, notes])


def joined(calls):
    return [number for call in calls for number in call]


def taken_apart(numbers):
    """Each answer as its number, the things told and, if there are any, the numbers besides."""
    found = []
    place = 0
    while place < len(numbers):
        size = numbers[place]
        answer = numbers[place + 1:place + 1 + size]
        if len(answer) != size or size < 2:
            raise AssertionError(f"no whole answer at {place}: {answer}")
        behind = 2 + 3 * answer[1]
        things = [tuple(answer[at:at + 3]) for at in range(2, behind, 3)]
        besides = answer[behind:]
        found.append((answer[0], things, besides) if besides else (answer[0], things))
        place += 1 + size
    return found


def run(*calls):
    return taken_apart(answers(joined(calls)))


def last(*calls):
    return run(*calls)[-1]
