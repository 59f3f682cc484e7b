"""What the tests share: texts and states in short, and plain oracles that go through time beat by beat."""

from itertools import product

DIGITS = "0123456789abcdef"
HIGHEST = 15


class Fixed(list):
    """A list that tells of any change, also of one that is undone later."""

    def refuse(self, *args, **kwargs):
        raise RuntimeError("what was handed in is changed")

    __setitem__ = __delitem__ = __iadd__ = __imul__ = refuse
    append = clear = extend = insert = pop = remove = reverse = sort = refuse


def text(word):
    return [ord(sign) for sign in word]


def told(word):
    return [len(word)] + text(word)


def state(*numbers):
    return list(numbers) + [0] * (HIGHEST - len(numbers))


def heights(word):
    """The beats of a faultless text, each as a list of heights in the text's order."""
    beats = []
    within = None
    for sign in word:
        if sign == "[":
            within = []
        elif sign == "]":
            beats.append(within)
            within = None
        elif within is not None:
            within.append(DIGITS.index(sign))
        else:
            beats.append([DIGITS.index(sign)] if sign != "0" else [])
    return beats


def word_of(beats):
    signs = []
    for beat in beats:
        digits = "".join(DIGITS[height] for height in beat)
        signs.append("0" if not beat else digits if len(beat) == 1 else "[" + digits + "]")
    return "".join(signs)


def landing_on(beats, moment, before):
    """How many of the throws of the beats below `before` land on beat `moment`; time has no beginning."""
    total = 0
    for thrown in range(moment - HIGHEST, before):
        total += sum(1 for height in beats[thrown % len(beats)] if thrown + height == moment)
    return total


def wrong_beat(beats):
    for moment, beat in enumerate(beats):
        if landing_on(beats, moment, moment) != len(beat):
            return moment
    return None


def air_before(beats, moment):
    return [landing_on(beats, moment + ahead, moment) for ahead in range(HIGHEST)]


def small_words():
    """Every text of one to three beats out of a few kinds of beats, right or not."""
    kinds = ["0", "1", "2", "3", "5", "f", "[21]", "[12]", "[33]", "[321]"]
    for length in (1, 2, 3):
        for beats in product(kinds, repeat=length):
            yield "".join(beats)


def small_patterns():
    return [word for word in small_words() if wrong_beat(heights(word)) is None]
