"""A slow and plain reading of instructions: line by line, each word of [22] by itself."""

import re
from math import gcd

NAME = '[a-z]{1,6}'
NUMBER = '(?:0|-?[1-9][0-9]{0,8})'
FORMS = {
    'turn': re.compile(f'turn ({NUMBER}) ({NUMBER})'),
    'part': re.compile(fr'part ((?:\+?{NAME})(?: \+?{NAME})*)'),
    'draw': re.compile(f'draw ({NAME})'),
    'let': re.compile(f'let ({NAME}) ({NAME}(?: {NAME})*)'),
    'block': re.compile(f'block ({NAME})'),
    'close': re.compile('close'),
    'do': re.compile(f'do ({NAME})'),
}


def told(line):
    """The first word of a line and what its form has found, or None."""
    for word, form in FORMS.items():
        found = form.fullmatch(line)
        if found and word == 'turn':
            u, v = (int(number) for number in found.groups())
            return (word, (u, v)) if gcd(u, v) == 1 and abs(u) <= 999 and abs(v) <= 999 else None
        if found:
            return (word, *found.groups())
    return None


def in_block(rows):
    """Whether the line behind some rows stands within a block."""
    words = [row[0] for row in rows if row[0] in ('block', 'close')]
    return bool(words) and words[-1] == 'block'


def words_for(rows, row):
    """All words that apply to a line behind some rows that stand."""
    if row is None:
        return ['form']
    words = []
    if len(rows) >= 60:
        words.append('many')
    if row[0] in ('block', 'let', 'do') and in_block(rows):
        words.append('nested')
    if row[0] == 'close' and not in_block(rows):
        words.append('open')
    if row[0] in ('let', 'block') and row[1] in [other[1] for other in rows if other[0] == row[0]]:
        words.append('double')
    lets = [other[1] for other in rows if other[0] == 'let']
    blocks = [other[1] for other in rows if other[0] == 'block']
    if row[0] == 'part' and not {item[1:] for item in row[1].split() if item[0] == '+'} <= set(lets):
        words.append('unknown')
    if row[0] == 'do' and row[1] not in blocks:
        words.append('unknown')
    return words


def first_fault(text):
    """The pair (line, why), or None if no line is wrong."""
    *lines, rest = text.split('\n')
    rows = []
    for at, line in enumerate(lines):
        words = words_for(rows, told(line))
        if words:
            return (at, words[0])
        rows.append(told(line))
    if rest:
        return (len(lines), 'form')
    return (len(lines), 'missing') if in_block(rows) else None


def written_out(text):
    """The pairs of a line and what it tells, with each block written out where it is done, and nowhere else."""
    rows = [(at, told(line)) for at, line in enumerate(text.split('\n')[:-1])]
    found = []
    for at, row in rows:
        if row[0] == 'do':
            start = [line for line, other in rows if other == ('block', row[1])][0]
            stop = [line for line, other in rows if other == ('close',) and line > start][0]
            found += rows[start + 1:stop]
        elif not in_block([other for line, other in rows if line <= at]):
            found.append((at, row))
    return found


def steps_of(text):
    """The pairs of a line and a step."""
    lets = {row[1]: row[2].split() for row in map(told, text.split('\n')[:-1]) if row[0] == 'let'}
    direction = (1, 0)
    found = []
    for at, row in written_out(text):
        if row[0] == 'turn':
            direction = row[1]
        if row[0] == 'draw':
            found.append((at, row))
        if row[0] == 'part':
            names = [name for item in row[1].split() for name in (lets[item[1:]] if item[0] == '+' else [item])]
            found.append((at, ('part', direction, tuple(sorted(set(names))))))
    return found
