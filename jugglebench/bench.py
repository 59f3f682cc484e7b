"""The calls of the bench. Each answers one list of whole numbers; a refusal begins with one below 0."""

from jugglebench.patterns import (
    MOST_HEIGHT,
    MOST_THROWS,
    ball_throws,
    beats_of,
    count_rows,
    different_states,
    form_of,
    heights_of,
    is_state,
    lifted_by,
    most_throws_of,
    number_of_row,
    orbits_of,
    pattern_refusal,
    read_beats,
    root_of,
    row_of,
    row_of_number,
    seen_backwards,
    shortest_row,
    state_after,
    state_before,
    swapped,
    text_fault,
    told_text,
    turned_by,
    whole_state,
    wrong_beat,
)

MOST_WAY_HEIGHT = 8
MOST_WAY_LANDING = 2
MOST_WAY_BALLS = 5
MOST_COUNTED_BEATS = 5
MOST_COUNTED_BALLS = 8
MOST_SINCE = 200
MOST_RUN_BEATS = 40


def judge(t):
    refusal = pattern_refusal(t)
    if len(refusal) > 0:
        return refusal
    beats = read_beats(t)
    heights = heights_of(beats)
    balls = sum(heights) // len(beats)
    return [balls, len(beats), max(heights, default=0), most_throws_of(beats), len(root_of(beats))]


def form(t):
    refusal = pattern_refusal(t)
    if len(refusal) > 0:
        return refusal
    return told_text(form_of(read_beats(t)))


def air(k, t):
    refusal = pattern_refusal(t)
    if len(refusal) > 0:
        return refusal
    return list(state_before(read_beats(t), k))


# More than 3 on a beat need only be looked for at the end: if the beats went on to it, none could throw as many.
def after(s, t):
    if not is_state(s):
        return [-1]
    fault = text_fault(t)
    if fault >= 0:
        return [-6, fault]
    state = whole_state(s)
    for beat in read_beats(t):
        if state[0] != len(beat):
            return [-5]
        state = state_after(state, beat)
    if max(state) > MOST_THROWS:
        return [-3]
    return list(state)


def fits_way(high, most, s):
    if not is_state(s) or sum(s) > MOST_WAY_BALLS:
        return False
    return max(s, default=0) <= most and sum(s[high:]) == 0


def is_way_asked(high, most, s, u):
    if not (1 <= high <= MOST_WAY_HEIGHT and 1 <= most <= MOST_WAY_LANDING):
        return False
    return fits_way(high, most, s) and fits_way(high, most, u) and sum(s) == sum(u)


def way(high, most, s, u):
    if not is_way_asked(high, most, s, u):
        return [-1]
    row = shortest_row(high, most, whole_state(s), whole_state(u))
    if row is None:
        return [-4]
    return told_text(row)


def pair_refusal(t, u):
    refusal = pattern_refusal(t)
    if len(refusal) > 0:
        return refusal
    return pattern_refusal(u)


def join(high, most, t, u):
    refusal = pair_refusal(t, u)
    if len(refusal) > 0:
        return refusal
    here = list(state_before(read_beats(t), 0))
    there = list(state_before(read_beats(u), 0))
    forth = way(high, most, here, there)
    if forth == [-1]:
        return forth
    return forth + way(high, most, there, here)


def orbits(t):
    refusal = pattern_refusal(t)
    if len(refusal) > 0:
        return refusal
    beats = read_beats(t)
    if most_throws_of(beats) > 1:
        return [-1]
    row = row_of(beats)
    found = orbits_of(row)
    answer = [len(found)]
    for orbit in found:
        balls = sum([row[beat] for beat in orbit]) // len(row)
        answer.extend([orbit[0], balls])
    return answer


def swap(i, j, t):
    refusal = pattern_refusal(t)
    if len(refusal) > 0:
        return refusal
    beats = read_beats(t)
    if most_throws_of(beats) > 1 or not i < j < len(beats):
        return [-1]
    row = swapped(row_of(beats), i, j)
    if min(row) < 0 or max(row) > MOST_HEIGHT:
        return [-3]
    return told_text(beats_of(row))


def turn(k, t):
    refusal = pattern_refusal(t)
    if len(refusal) > 0:
        return refusal
    beats = read_beats(t)
    return told_text(turned_by(beats, k % len(beats)))


def back(t):
    refusal = pattern_refusal(t)
    if len(refusal) > 0:
        return refusal
    return told_text(seen_backwards(read_beats(t)))


def lift(d, t):
    refusal = pattern_refusal(t)
    if len(refusal) > 0:
        return refusal
    if d > MOST_HEIGHT:
        return [-1]
    beats = lifted_by(read_beats(t), d)
    if max(heights_of(beats), default=0) > MOST_HEIGHT or wrong_beat(beats) >= 0:
        return [-3]
    return told_text(beats)


def is_count_asked(n, b, high):
    return 1 <= n <= MOST_COUNTED_BEATS and b <= MOST_COUNTED_BALLS and high <= MOST_HEIGHT


def count(n, b, high):
    if not is_count_asked(n, b, high):
        return [-1]
    return [count_rows([], n, b, high)]


def nth(n, b, high, i):
    if not is_count_asked(n, b, high):
        return [-1]
    if i >= count_rows([], n, b, high):
        return [-4]
    return told_text(beats_of(row_of_number(i, n, b, high)))


def place(high, t):
    refusal = pattern_refusal(t)
    if len(refusal) > 0:
        return refusal
    beats = read_beats(t)
    row = row_of(beats)
    balls = sum(row) // len(row)
    if most_throws_of(beats) > 1 or not is_count_asked(len(row), balls, high):
        return [-1]
    if max(row) > high:
        return [-4]
    return [number_of_row(row, balls, high)]


def runs(since, beats, t):
    refusal = pattern_refusal(t)
    if len(refusal) > 0:
        return refusal
    if since > MOST_SINCE or beats > MOST_RUN_BEATS:
        return [-1]
    answer = [beats]
    for pairs in ball_throws(read_beats(t), since + beats)[since:]:
        answer.append(len(pairs))
        for pair in pairs:
            answer.extend(pair)
    return answer


def prime(t):
    refusal = pattern_refusal(t)
    if len(refusal) > 0:
        return refusal
    beats = read_beats(t)
    root = root_of(beats)
    return [1 if different_states(root) == len(root) else 0, different_states(beats)]


def same(t, u):
    refusal = pair_refusal(t, u)
    if len(refusal) > 0:
        return refusal
    return [1 if form_of(read_beats(t)) == form_of(read_beats(u)) else 0]
