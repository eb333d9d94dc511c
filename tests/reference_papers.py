"""A slow and plain look at papers: line by line, by the words of [28] and [18]."""

import re
from math import gcd

from reference_lots import leaning_pairs
from reference_texts import first_fault
from stucklots.compass import compass
from stucklots.states import State
from stucklots.things import Thing

NAME = '[a-z]{1,6}'
NUMBER = '(?:0|-?[1-9][0-9]{0,8})'
FORMS = {
    's': re.compile(f'part ({NUMBER} {NUMBER}) ({NAME}(?: {NAME})*)|draw ({NAME})'),
    'c': re.compile(f'clump ({NAME}(?: {NAME})*)'),
    'w': re.compile(f'walk ({NUMBER} {NUMBER}) ({NAME}(?: {NAME})*)'),
    'b': re.compile(f'bar ({NAME}) ([012]) ({NAME})'),
    'd': re.compile('done'),
}
BEGINNINGS = re.compile('s*(cw*b*)*d?')


def is_ascending(names):
    return names == sorted(set(names))


def direction_in(words):
    """The direction that two words write, or None."""
    u, v = (int(word) for word in words.split(' '))
    return (u, v) if gcd(u, v) == 1 and max(abs(u), abs(v)) <= 999 else None


def told(line):
    """The pair of the sign of a line and of what it tells, or None if it has no form."""
    for sign, form in FORMS.items():
        found = form.fullmatch(line)
        if not found:
            continue
        if sign == 's' and found.group(3):
            return (sign, ('draw', found.group(3)))
        if sign in 'sw':
            names = found.group(2).split(' ')
            direction = direction_in(found.group(1))
            if direction is None or (sign == 's' and not is_ascending(names)):
                return None
            return (sign, ('part', direction, tuple(names)) if sign == 's' else (direction, names))
        if sign == 'c':
            names = found.group(1).split(' ')
            return (sign, names) if is_ascending(names) else None
        return (sign, (found.group(1), int(found.group(2)), found.group(3)) if sign == 'b' else ())
    return None


def rows_of(text, first):
    """The list of (line, sign, value) of the further lines, or the result for the first line that cannot stand."""
    *lines, rest = text.split('\n')
    rows = []
    for at in range(first, len(lines)):
        row = told(lines[at])
        if row is None or not BEGINNINGS.fullmatch(''.join(sign for _, sign, _ in rows) + row[0]):
            return ('text', at, 'form')
        rows.append((at, *row))
    if rest:
        return ('text', len(lines), 'form')
    return rows if rows and rows[-1][1] == 'd' else ('text', len(lines), 'missing')


def is_walk(lot, walk):
    """The words of [18] about a walk in a direction."""
    direction, names = walk
    pairs = leaning_pairs(lot, direction)
    least = min(lot.names())
    return (names[0] == names[-1] == least and set(names) == set(lot.names())
            and all(pair in pairs for pair in zip(names, names[1:])))


def bars(lot, bar):
    """Whether a piece of the lot bars a way."""
    peg, index, name = bar
    ways = lot.thing.peg_called(peg).ways()
    return name in lot.names() and lot.thing.piece(name).bars_way(ways[index])


def look_at_clump(lot, at, rows):
    """The result for the walks and bars behind the line clump with the index at, or None if they are right."""
    walks = [(line, value) for line, sign, value in rows if sign == 'w']
    found = [(line, value) for line, sign, value in rows if sign == 'b']
    directions = compass(lot.thing, lot.names())
    for (line, walk), direction in zip(walks, directions):
        if walk[0] != direction or not is_walk(lot, walk):
            return ('walk', line)
    if len(walks) != len(directions):
        return ('walk', at + min(len(walks), len(directions)) + 1)
    places = [(peg, index) for peg in lot.pegs() for index in range(len(lot.thing.peg_called(peg).ways()))]
    for (line, bar), place in zip(found, places):
        if bar[:2] != place or not bars(lot, bar):
            return ('bar', line)
    if len(found) != len(places):
        return ('bar', at + len(walks) + min(len(found), len(places)) + 1)
    return None


def look_by_words(text):
    """The result of looking at a string."""
    first = first_fault(text, head=True)
    if isinstance(first, tuple):
        return ('text', *first)
    rows = rows_of(text, first)
    if isinstance(rows, tuple):
        return rows
    state = State(Thing.read(''.join(line + '\n' for line in text.split('\n')[:first])))
    for line, sign, step in rows:
        if sign == 's':
            try:
                state = state.after(step)
            except (ValueError, LookupError):
                return ('step', line)
    clumps = [at for at, (_, sign, _) in enumerate(rows) if sign == 'c']
    lots = state.lots()
    for at, lot in zip(clumps, lots):
        if rows[at][2] != lot.names():
            return ('clump', rows[at][0])
    if len(clumps) != len(lots):
        return ('clump', rows[clumps[len(lots)]][0] if len(clumps) > len(lots) else rows[-1][0])
    for at, stop, lot in zip(clumps, clumps[1:] + [len(rows)], lots):
        result = look_at_clump(lot, rows[at][0], rows[at + 1:stop])
        if result is not None:
            return result
    return ('clumps', len(lots))
