"""What the tests share: texts and states in short, and plain oracles that go through time beat by beat."""

from functools import lru_cache
from itertools import combinations_with_replacement, product
from math import gcd

DIGITS = "0123456789abcdef"
HIGHEST = 15


class Fixed(list):
    """A list that tells of any change, also of one that is undone later."""

    def refuse(self, *args, **kwargs):
        raise RuntimeError("what was handed in is changed")

    __setitem__ = __delitem__ = __iadd__ = __imul__ = refuse
    append = clear = extend = insert = pop = remove = reverse = sort = refuse


def text(word):
    return [ord(sign) for sign in word]


def told(word):
    return [len(word)] + text(word)


def state(*numbers):
    return list(numbers) + [0] * (HIGHEST - len(numbers))


def heights(word):
    """The beats of a faultless text, each as a list of heights in the text's order."""
    beats = []
    within = None
    for sign in word:
        if sign == "[":
            within = []
        elif sign == "]":
            beats.append(within)
            within = None
        elif within is not None:
            within.append(DIGITS.index(sign))
        else:
            beats.append([DIGITS.index(sign)] if sign != "0" else [])
    return beats


def word_of(beats):
    signs = []
    for beat in beats:
        digits = "".join(DIGITS[height] for height in beat)
        signs.append("0" if not beat else digits if len(beat) == 1 else "[" + digits + "]")
    return "".join(signs)


def landing_on(beats, moment, before):
    """How many of the throws of the beats below `before` land on beat `moment`; time has no beginning."""
    total = 0
    for thrown in range(moment - HIGHEST, before):
        total += sum(1 for height in beats[thrown % len(beats)] if thrown + height == moment)
    return total


def wrong_beat(beats):
    for moment, beat in enumerate(beats):
        if landing_on(beats, moment, moment) != len(beat):
            return moment
    return None


def air_before(beats, moment):
    return [landing_on(beats, moment + ahead, moment) for ahead in range(HIGHEST)]


def thrown_balls(beats, since, length):
    """Of each beat from since on the balls thrown and their heights; every ball is followed from landing to landing."""
    lands = []
    for moment in range(-HIGHEST, 0):
        lands += [moment + height for height in beats[moment % len(beats)] if moment + height >= 0]
    lands.sort()
    told_beats = []
    for moment in range(since + length):
        here = [ball for ball, landing in enumerate(lands) if landing == moment]
        highest_first = sorted(beats[moment % len(beats)], reverse=True)
        assert len(here) == len(highest_first)
        for ball, height in zip(here, highest_first):
            lands[ball] = moment + height
        told_beats.append(list(zip(here, highest_first)))
    return told_beats[since:]


def small_words():
    """Every text of one to three beats out of a few kinds of beats, right or not."""
    kinds = ["0", "1", "2", "3", "5", "f", "[21]", "[12]", "[33]", "[321]"]
    for length in (1, 2, 3):
        for beats in product(kinds, repeat=length):
            yield "".join(beats)


def small_patterns():
    return [word for word in small_words() if wrong_beat(heights(word)) is None]


def steps_patterns():
    """Patterns of 5 to 16 beats, all heights among them: the throw of beat i lands where a times i and c lead."""
    for period in range(5, 17):
        for a, c in product(range(1, period), (0, 1, period - 1)):
            if gcd(a, period) == 1:
                yield "".join(DIGITS[(a * i + c - i) % period] for i in range(period))


def is_right(row):
    """Of single throws: no two land on the same beat of the period."""
    period = len(row)
    return len({(beat + height) % period for beat, height in enumerate(row)}) == period


@lru_cache(maxsize=None)
def right_words(n, b, high):
    """The texts of all right rows of n heights up to high, of b balls, the least first: all rows are gone through."""
    rows = product(range(high + 1), repeat=n)
    return ["".join(DIGITS[height] for height in row) for row in rows if sum(row) == n * b and is_right(row)]


@lru_cache(maxsize=None)
def single_patterns():
    """Right patterns of at most one throw on each beat: all short ones of some heights, and longer ones."""
    words = ["".join(row) for length in (1, 2, 3, 4) for row in product("0123457f", repeat=length)]
    return [word for word in words if wrong_beat(heights(word)) is None] + list(steps_patterns())


@lru_cache(maxsize=None)
def stacked_patterns():
    """Right patterns of up to three throws on a beat: two or three of single throws, thrown at the same time."""
    words = []
    for period in range(1, 17):
        rows = [heights(word) for word in single_patterns() if len(word) == period]
        for first, second, third in zip(rows, rows[1::2], rows[2::3]):
            pair = [sorted(beat + other, reverse=True) for beat, other in zip(first, second)]
            words += [word_of(pair), word_of([sorted(beat + other) for beat, other in zip(pair, third)])]
    return [word for word in words if len(word) <= 64]


def whole(numbers):
    return tuple(numbers) + (0,) * (HIGHEST - len(numbers))


def done(numbers, beat):
    """The state when a beat is done, whatever lands then."""
    moved = list(numbers[1:]) + [0]
    for height in beat:
        moved[height - 1] += 1
    return tuple(moved)


def beats_of(throws, high):
    """All beats of so many throws, the least first."""
    return sorted(combinations_with_replacement(range(high, 0, -1), throws))


def states_of(high, most, balls):
    return [whole(numbers) for numbers in product(range(most + 1), repeat=high) if sum(numbers) == balls]


def rows_from(start, length, high, most):
    """All rows of so many beats with the states they lead to, the least first."""
    if length == 0:
        yield [], start
        return
    for beat in beats_of(start[0], high):
        following = done(start, beat)
        if max(following) <= most:
            for row, end in rows_from(following, length - 1, high, most):
                yield [beat] + row, end


def first_way(start, goal, high, most):
    """Every row is tried, the shorter ones first, then the lesser ones."""
    for length in range(40):
        for row, end in rows_from(start, length, high, most):
            if end == goal:
                return row
    return None


class Leads:
    """All states of so many balls, and how far each is from a goal, told from the goal backwards."""

    def __init__(self, high, most, balls):
        self.states = states_of(high, most, balls)
        self.following = {}
        for numbers in self.states:
            pairs = [(beat, done(numbers, beat)) for beat in beats_of(numbers[0], high)]
            self.following[numbers] = [(beat, end) for beat, end in pairs if max(end) <= most]

    def distances(self, goal):
        far = {goal: 0}
        found = True
        while found:
            found = {}
            for numbers in self.states:
                ends = [far[end] for beat, end in self.following[numbers] if end in far]
                if numbers not in far and ends:
                    found[numbers] = min(ends) + 1
            far.update(found)
        return far

    def first_way(self, start, far):
        row = []
        while far[start] > 0:
            beat, start = min((beat, end) for beat, end in self.following[start] if far[end] == far[start] - 1)
            row.append(beat)
        return row
