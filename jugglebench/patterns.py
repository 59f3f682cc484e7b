"""Patterns and states.

A beat is a list of its heights, from the highest on (none: an empty list), so that Python's own order of lists
is the order by which beats and patterns are compared. A pattern is a list of beats. A state is a tuple of
fifteen numbers.
"""

MOST_BEATS = 16
MOST_THROWS = 3
MOST_HEIGHT = 15
SPAN = 15
MOST_ROW = 39

ZERO = 48
NINE = 57
LETTER_A = 97
LETTER_F = 102
OPENING = 91
CLOSING = 93


# -1 stands for what is no digit, so that "at least 0" and "at least 1" ask for a digit and for one that's not 0.
def height_of(byte):
    if ZERO <= byte <= NINE:
        return byte - ZERO
    if LETTER_A <= byte <= LETTER_F:
        return byte - LETTER_A + 10
    return -1


def digit_of(height):
    if height < 10:
        return ZERO + height
    return LETTER_A + height - 10


def bracket_fault(t, start):
    for place in range(start + 1, len(t)):
        held = place - start - 1
        if t[place] == CLOSING:
            return -1 if held >= 2 else place
        if held == MOST_THROWS or height_of(t[place]) < 1:
            return place
    return len(t)


def beat_fault(t, start):
    if t[start] == OPENING:
        return bracket_fault(t, start)
    return -1 if height_of(t[start]) >= 0 else start


# Only asked of a beat without a fault, so a bracket is sure to be closed.
def beat_end(t, start):
    if t[start] == OPENING:
        return t.index(CLOSING, start) + 1
    return start + 1


# The place of the text's fault, -1 if it has none.
def text_fault(t):
    if len(t) == 0:
        return 0
    begun = 0
    place = 0
    while place < len(t):
        if begun == MOST_BEATS:
            return place
        fault = beat_fault(t, place)
        if fault >= 0:
            return fault
        begun += 1
        place = beat_end(t, place)
    return -1


# Only asked of a text without a fault. Brackets and the digit 0 are no throws: both have no height above 0.
def read_beats(t):
    beats = []
    place = 0
    while place < len(t):
        end = beat_end(t, place)
        heights = [height_of(byte) for byte in t[place:end]]
        beats.append(sorted([height for height in heights if height > 0], reverse=True))
        place = end
    return beats


def beat_text(beat):
    if len(beat) == 0:
        return [ZERO]
    digits = [digit_of(height) for height in beat]
    if len(beat) == 1:
        return digits
    return [OPENING] + digits + [CLOSING]


def told_text(beats):
    text = []
    for beat in beats:
        text.extend(beat_text(beat))
    return [len(text)] + text


def landing_counts(beats):
    period = len(beats)
    landing = [0] * period
    for start in range(period):
        for height in beats[start]:
            landing[(start + height) % period] += 1
    return landing


# The first beat on which not as many land as are thrown, -1 if the pattern is right.
def wrong_beat(beats):
    landing = landing_counts(beats)
    for beat in range(len(beats)):
        if landing[beat] != len(beats[beat]):
            return beat
    return -1


# What a call answers of a text that is no right pattern's; an empty list if it is one's.
def pattern_refusal(t):
    fault = text_fault(t)
    if fault >= 0:
        return [-6, fault]
    wrong = wrong_beat(read_beats(t))
    if wrong >= 0:
        return [-5, wrong]
    return []


def heights_of(beats):
    heights = []
    for beat in beats:
        heights.extend(beat)
    return heights


def most_throws_of(beats):
    return max([len(beat) for beat in beats])


# Single throws can be told by a row of heights, 0 for a beat without a throw: then every beat lands somewhere.
def row_of(beats):
    return [sum(beat) for beat in beats]


def beats_of(row):
    return [[height] if height > 0 else [] for height in row]


# A right row's throws lead from each beat to another one each, so the beat an orbit began with comes again.
def orbit_from(row, start):
    orbit = [start]
    beat = (start + row[start]) % len(row)
    while beat != start:
        orbit.append(beat)
        beat = (beat + row[beat]) % len(row)
    return orbit


def orbits_of(row):
    found = [orbit_from(row, start) for start in range(len(row))]
    return [orbit for orbit in found if orbit[0] == min(orbit)]


def swapped(row, early, late):
    gap = late - early
    changed = list(row)
    changed[early] = row[late] + gap
    changed[late] = row[early] - gap
    return changed


def turned_by(beats, shift):
    return beats[shift:] + beats[:shift]


def seen_backwards(beats):
    period = len(beats)
    mirrored = [[] for beat in beats]
    for start in range(period):
        for height in beats[start]:
            mirrored[(-start - height) % period].append(height)
    return [sorted(beat, reverse=True) for beat in mirrored]


# Among single throws a height of 0 is lifted like any other.
def lifted_by(beats, rise):
    if most_throws_of(beats) <= 1:
        return beats_of([height + rise for height in row_of(beats)])
    lifted = []
    for beat in beats:
        lifted.append([height + rise for height in beat])
    return lifted


# Rows of single throws are told apart by what matters for the beats to come alone: the beats of the period that are
# landed on so far, a bit for each, and the sum of the heights. counts has of each such pair how many rows there are.
def counts_with_beat(counts, beat, period, heights):
    longer = {}
    for pair in counts:
        for height in heights:
            landing = 1 << ((beat + height) % period)
            if (pair[0] & landing) == 0:
                reached = (pair[0] | landing, pair[1] + height)
                longer[reached] = longer.get(reached, 0) + counts[pair]
    return longer


# How many right rows there are that begin with the heights of begun.
def count_rows(begun, period, balls, high):
    counts = {(0, 0): 1}
    for beat in range(period):
        heights = [begun[beat]] if beat < len(begun) else list(range(high + 1))
        counts = counts_with_beat(counts, beat, period, heights)
    return counts.get(((1 << period) - 1, period * balls), 0)


# Only asked for a number below that of all such rows, so the height on each beat is sure to be found.
def row_of_number(number, period, balls, high):
    row = []
    left = number
    for beat in range(period):
        height = 0
        passed = count_rows(row + [height], period, balls, high)
        while passed <= left:
            left -= passed
            height += 1
            passed = count_rows(row + [height], period, balls, high)
        row.append(height)
    return row


def number_of_row(row, balls, high):
    lesser = 0
    for beat in range(len(row)):
        for height in range(row[beat]):
            lesser += count_rows(row[:beat] + [height], len(row), balls, high)
    return lesser


def root_of(beats):
    period = len(beats)
    for part in range(1, period):
        if beats[:part] * (period // part) == beats:
            return beats[:part]
    return list(beats)


def form_of(beats):
    root = root_of(beats)
    return max([turned_by(root, shift) for shift in range(len(root))])


# No throw is higher than fifteen, so nothing thrown longer ago than fifteen beats is in the air.
def state_before(beats, moment):
    state = [0] * SPAN
    for ago in range(1, SPAN + 1):
        for height in beats[(moment - ago) % len(beats)]:
            if height >= ago:
                state[height - ago] += 1
    return tuple(state)


def different_states(beats):
    return len(set([state_before(beats, moment) for moment in range(len(beats))]))


# Every ball lands from beat 0 on for the first time as the state before it tells, so that state numbers them all.
def first_landings(beats):
    state = state_before(beats, 0)
    landings = []
    numbered = 0
    for landing in state:
        landings.append(list(range(numbered, numbered + landing)))
        numbered += landing
    return landings


# Of each beat before the end: the balls that land on it, the least number first, each with the height it's thrown.
def ball_throws(beats, end):
    landings = first_landings(beats) + [[] for moment in range(end)]
    throws = []
    for moment in range(end):
        pairs = list(zip(sorted(landings[moment]), beats[moment % len(beats)]))
        for pair in pairs:
            landings[moment + pair[1]].append(pair[0])
        throws.append(pairs)
    return throws


def is_state(s):
    return len(s) <= SPAN and all([number <= MOST_THROWS for number in s])


def whole_state(s):
    return tuple(s) + (0,) * (SPAN - len(s))


def state_after(state, beat):
    moved = list(state[1:]) + [0]
    for height in beat:
        moved[height - 1] += 1
    return tuple(moved)


# Every beat of so many throws, none higher than high, the least first.
def beats_up_to(high, throws):
    beats = [[]]
    for done in range(throws):
        longer = []
        for beat in beats:
            highest = beat[-1] if len(beat) > 0 else high
            longer.extend([beat + [height] for height in range(1, highest + 1)])
        beats = longer
    return beats


# Adds to rows, which holds of each state come to so far the beats that lead there, what one beat more leads to.
def next_layer(high, most, layer, rows):
    following = []
    for state in layer:
        for beat in beats_up_to(high, state[0]):
            landed = state_after(state, beat)
            if max(landed) <= most and landed not in rows:
                rows[landed] = rows[state] + [beat]
                following.append(landed)
    return following


# The states of a layer stand in the order of the rows of beats that lead to them, and beats are tried from the least
# on: so the row by which a state is come to first is the least of its shortest ones. None if there is no row.
def shortest_row(high, most, start, goal):
    rows = {start: []}
    layer = [start]
    for done in range(MOST_ROW):
        if goal in rows:
            break
        layer = next_layer(high, most, layer, rows)
    return rows.get(goal)
