"""Papers: texts that show what the clumps of a thing are."""

from stucklots.clumps import played, taken_apart
from stucklots.errors import InvalidText, LotError, Missing
from stucklots.states import State
from stucklots.stuck import is_told_bar, is_told_walk, stuck_paper, ways_of
from stucklots.thingtexts import read_thing_head, thing_text
from stucklots.words import is_direction, is_name, is_name_row, is_number, lines_told, number_in, numbers_told

MOST_INDEX = 2
# By the first word of a line: the first words that the next line may have. The line end of the thing comes first, and
# nothing stands behind done.
NEXT_WORDS = {
    "end": ("part", "draw", "clump", "done"),
    "part": ("part", "draw", "clump", "done"),
    "draw": ("part", "draw", "clump", "done"),
    "clump": ("walk", "bar", "clump", "done"),
    "walk": ("walk", "bar", "clump", "done"),
    "bar": ("bar", "clump", "done"),
}


def paper_text(thing, picks=()):
    """A paper with the steps that picks choose."""
    steps = taken_apart(thing, picks)
    lines = [step_line(step) for step in steps]
    for lot in played(thing, steps).lots():
        lines.extend(lot_lines(lot))
    return thing_text(thing) + lines_told(lines + ["done"])


def step_line(step):
    """The line of a step."""
    if step[0] == "draw":
        return f"draw {step[1]}"
    return way_line("part", step[1], step[2])


def way_line(word, direction, names):
    """The line of a word, a direction and names."""
    return " ".join([word, numbers_told([direction]), *names])


def lot_lines(lot):
    """The lines of a stuck lot."""
    walks, bars = stuck_paper(lot)
    lines = [" ".join(["clump", *lot.names()])]
    lines.extend([way_line("walk", direction, walk) for direction, walk in walks])
    lines.extend([f"bar {peg} {index} {name}" for peg, index, name in bars])
    return lines


def look(text):
    """What any value is as a paper: the first result that applies."""
    try:
        thing, rows = paper_read(text)
    except InvalidText as error:
        return ("text", error.line, error.why)
    state = State(thing)
    for line, row in rows:
        if row[0] in ("part", "draw"):
            state = state_behind(state, row)
            if state is None:
                return ("step", line)
    lots = state.lots()
    sections = sections_of(rows)
    line = wrong_clump(lots, sections, rows[-1][0])
    if line is not None:
        return ("clump", line)
    for lot, section in zip(lots, sections):
        fault = section.fault(lot)
        if fault is not None:
            return fault
    return ("clumps", len(lots))


def state_behind(state, step):
    """The state behind a step, or None if it cannot be taken."""
    try:
        return state.after(step)
    except (LotError, Missing):
        return None


def paper_read(text):
    """The thing of a paper, and the list of the pairs of each further line and what it tells; raises InvalidText."""
    thing, first = read_thing_head(text)
    lines = text.split("\n")
    # What stands behind the last line feed is no line of its own, or one that lacks its line feed.
    rest = lines.pop()
    rows = []
    word = "end"
    for at in range(first, len(lines)):
        row = line_form(lines[at])
        if row is None or word == "done" or row[0] not in NEXT_WORDS[word]:
            raise InvalidText(at, "form")
        word = row[0]
        rows.append((at, row))
    if rest:
        raise InvalidText(len(lines), "form")
    if word != "done":
        raise InvalidText(len(lines), "missing")
    return (thing, rows)


def line_form(line):
    """The tuple of the first word of a line and of what it tells, or None if the line has no form."""
    word, *further = line.split(" ")
    if word in ("part", "walk"):
        return way_form(word, further)
    if word == "clump":
        names = tuple(further)
        return (word, names) if is_name_row(names) else None
    if word == "bar":
        return bar_form(further)
    if word == "draw":
        return (word, further[0]) if len(further) == 1 and is_name(further[0]) else None
    return (word,) if word == "done" and not further else None


def way_form(word, further):
    """What a line part or walk tells by its further words, or None if it has no form."""
    direction = tuple([number_in(text) for text in further[:2]])
    names = tuple(further[2:])
    # The names of a walk come in any order, and several times.
    stand = is_name_row(names) if word == "part" else len(names) > 0 and all([is_name(name) for name in names])
    return (word, direction, names) if is_direction(direction) and stand else None


def bar_form(further):
    """What a line bar tells by its further words, or None if it has no form."""
    if len(further) != 3 or not is_name(further[0]) or not is_name(further[2]):
        return None
    index = number_in(further[1])
    return ("bar", further[0], index, further[2]) if is_number(index, 0, MOST_INDEX) else None


class Section:
    """The lines of one clump: the names of its line clump, and then its walks and its bars."""

    def __init__(self, line, names):
        self.line = line
        self.told_names = names
        self.walks = []
        self.bars = []

    def fault(self, lot):
        """The result for the first line that is wrong, looked at for a lot, or None."""
        line = self.wrong_walk(lot)
        if line is not None:
            return ("walk", line)
        line = self.wrong_bar(lot)
        return None if line is None else ("bar", line)

    def wrong_walk(self, lot):
        """The first line walk that is not the walk of its place; the line behind them if walks are lacking; or None."""
        directions = lot.compass()
        for at, (line, row) in enumerate(self.walks):
            if at >= len(directions) or not is_told_walk(lot, directions[at], row[1:]):
                return line
        return self.line + 1 + len(self.walks) if len(self.walks) < len(directions) else None

    def wrong_bar(self, lot):
        """The first line bar that is not the bar of its place; the line behind them if bars are lacking; or None."""
        places = ways_of(lot)
        for at, (line, row) in enumerate(self.bars):
            if at >= len(places):
                return line
            peg, index = places[at]
            if not is_told_bar(lot, peg, index, row[1:]):
                return line
        return self.line + 1 + len(self.walks) + len(self.bars) if len(self.bars) < len(places) else None


def sections_of(rows):
    """The list of the sections of the lines of a paper."""
    sections = []
    for line, row in rows:
        if row[0] == "clump":
            sections.append(Section(line, row[1]))
        elif row[0] == "walk":
            sections[-1].walks.append((line, row))
        elif row[0] == "bar":
            sections[-1].bars.append((line, row))
    return sections


def wrong_clump(lots, sections, done):
    """The first line clump with other names than the lot of its place; the line done if clumps are lacking; or None."""
    for at, section in enumerate(sections):
        if at >= len(lots) or section.told_names != tuple(lots[at].names()):
            return section.line
    return done if len(sections) < len(lots) else None
