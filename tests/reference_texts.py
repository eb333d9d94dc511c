"""A slow and plain reading of the text of a thing: line by line, each word of [8] by itself."""

import itertools
import re
from math import gcd

from reference import are_joined, do_overlap

NAME = '[a-z]{1,6}'
NUMBER = '(?:0|-?[1-9][0-9]{0,8})'
FORMS = {
    'T': re.compile('thing'),
    'P': re.compile(f'piece ({NAME})'),
    'p': re.compile(f'part ({NUMBER}(?: {NUMBER})*)'),
    'G': re.compile(f'peg ({NAME}) ({NAME}) ({NAME})'),
    'w': re.compile(f'way ({NUMBER}) ({NUMBER}) ({NUMBER}) ({NUMBER})'),
    'E': re.compile('end'),
}
BEGINNINGS = re.compile('(T((Pp+)*P?)?|T(Pp+)+(Gw*)*E?)')


def corners_in(numbers):
    return tuple(zip(numbers[::2], numbers[1::2]))


def is_told_part(numbers):
    """Whether numbers tell a part from its least corner: each three corners, in their order, turn to the left."""
    corners = corners_in(numbers)
    if len(numbers) % 2 or not 3 <= len(corners) <= 6 or any(abs(number) > 200 for number in numbers):
        return False
    turns = [(c - a) * (f - b) - (d - b) * (e - a) for (a, b), (c, d), (e, f) in itertools.combinations(corners, 3)]
    return all(turn > 0 for turn in turns) and min(corners) == corners[0]


def is_told_way(numbers):
    x, y, u, v = numbers
    return abs(x) <= 200 and abs(y) <= 200 and abs(u) <= 999 and abs(v) <= 999 and gcd(u, v) == 1


def told(line):
    """The pair of the sign of a line and of what it tells, or None if it has no form."""
    for sign, form in FORMS.items():
        found = form.fullmatch(line)
        if found and sign == 'p':
            numbers = [int(word) for word in found.group(1).split(' ')]
            return (sign, corners_in(numbers)) if is_told_part(numbers) else None
        if found and sign == 'w':
            return (sign, None) if is_told_way([int(word) for word in found.groups()]) else None
        if found and sign == 'G':
            return (sign, found.groups()) if found.group(2) < found.group(3) else None
        if found:
            return (sign, ''.join(found.groups()))
    return None


def hang_together(parts):
    reached = parts[:1]
    while True:
        further = [part for part in parts if part not in reached and any(are_joined(part, other) for other in reached)]
        if not further:
            return len(reached) == len(parts)
        reached += further


def last_parts(rows):
    """The parts behind the last line piece."""
    starts = [at for at, row in enumerate(rows) if row[0] == 'P']
    return [row[1] for row in rows[starts[-1]:] if row[0] == 'p'] if starts else []


def words_for(rows, row):
    """All words that apply to a line behind some rows that stand."""
    signs = ''.join(sign for sign, _ in rows)
    if row is None or not BEGINNINGS.fullmatch(signs + row[0]):
        return ['form']
    sign, value = row
    names = [row[1] for row in rows if row[0] == 'P']
    pegs = [row[1][0] for row in rows if row[0] == 'G']
    parts = last_parts(rows)
    ways = len(signs) - len(signs.rstrip('w'))
    words = []
    if sign != 'p' and signs.endswith('p') and not hang_together(parts):
        words.append('loose')
    if ((sign == 'P' and len(names) >= 9) or (sign == 'p' and len(parts) >= 4) or (sign == 'G' and len(pegs) >= 8)
            or (sign == 'w' and ways >= 3)):
        words.append('many')
    if ((sign == 'P' and names and value <= names[-1]) or (sign == 'p' and parts and value <= parts[-1])
            or (sign == 'G' and pegs and value[0] <= pegs[-1])):
        words.append('order')
    if sign == 'G' and value[0] in names:
        words.append('double')
    if sign == 'G' and not {value[1], value[2]} <= set(names):
        words.append('unknown')
    if sign == 'p' and any(do_overlap(value, other) for other_sign, other in rows if other_sign == 'p'):
        words.append('overlap')
    return words


def first_fault(text, head=False):
    """The pair (line, why), or the number of lines of the thing if no line is wrong; with head up to the line end."""
    *lines, rest = text.split('\n')
    rows = []
    for at, line in enumerate(lines):
        if head and rows and rows[-1][0] == 'E':
            return at
        row = told(line)
        words = words_for(rows, row)
        if words:
            return (at, words[0])
        rows.append(row)
    ended = bool(rows) and rows[-1][0] == 'E'
    if rest and not (head and ended):
        return (len(lines), 'form')
    return len(lines) if ended else (len(lines), 'missing')
