"""The calls of the bench. Each answers one list of whole numbers; a refusal begins with one below 0."""

from jugglebench.patterns import (
    form_of,
    heights_of,
    pattern_refusal,
    read_beats,
    root_of,
    state_before,
    told_text,
)


def judge(t):
    refusal = pattern_refusal(t)
    if len(refusal) > 0:
        return refusal
    beats = read_beats(t)
    heights = heights_of(beats)
    balls = sum(heights) // len(beats)
    widest = max([len(beat) for beat in beats])
    return [balls, len(beats), max(heights, default=0), widest, len(root_of(beats))]


def form(t):
    refusal = pattern_refusal(t)
    if len(refusal) > 0:
        return refusal
    return told_text(form_of(read_beats(t)))


def air(k, t):
    refusal = pattern_refusal(t)
    if len(refusal) > 0:
        return refusal
    return list(state_before(read_beats(t), k))
