"""Instructions: texts that tell steps, with names that stand for others and blocks that are done several times."""

from stucklots.compass import FIRST_DIRECTION
from stucklots.errors import InvalidText, LotError, Missing, Refused
from stucklots.states import State
from stucklots.words import is_direction, is_name, lines_told, number_in, numbers_told

MOST_LINES = 60


def done_lines(text):
    """The list of the pairs of a line and the step that is done there, blocks written out."""
    found = []
    direction = FIRST_DIRECTION
    for line, told in lines_read(text):
        if told[0] == "turn":
            direction = told[1]
        elif told[0] == "part":
            found.append((line, ("part", direction, told[1])))
        else:
            found.append((line, told))
    return found


def plain_steps(text):
    """The list of the steps of instructions."""
    return [step for line, step in done_lines(text)]


def written(steps):
    """The text of steps, with a line turn only where the direction is another one."""
    lines = []
    present = FIRST_DIRECTION
    for step in steps:
        if step[0] == "draw":
            lines.append(f"draw {step[1]}")
            continue
        if step[1] != present:
            present = step[1]
            lines.append(f"turn {numbers_told([present])}")
        lines.append(" ".join(["part", *step[2]]))
    return lines_told(lines)


def shortened(text):
    """The written text of the plain steps of instructions."""
    return written(plain_steps(text))


def turnings(steps):
    """How many partings of some steps have another direction than the parting ahead of them."""
    directions = [step[1] for step in steps if step[0] == "part"]
    return len(directions[:1]) + len([at for at in range(1, len(directions)) if directions[at] != directions[at - 1]])


def run(thing, text):
    """The state to which instructions lead; raises InvalidText(line, why), Refused(line, why)."""
    state = State(thing)
    for line, step in done_lines(text):
        state = state_behind(state, line, step)
    return state


def trace(thing, text):
    """The pairs of a line and the state behind each step; raises as run."""
    state = State(thing)
    for line, step in done_lines(text):
        state = state_behind(state, line, step)
        yield (line, state)


def state_behind(state, line, step):
    """The state behind the step of a line; raises Refused(line, why)."""
    try:
        return state.after(step)
    except (LotError, Missing) as error:
        raise Refused(line, error.code)


def line_form(line):
    """The tuple of the first word of a line and of what it tells, or None if the line has no form."""
    word, *further = line.split(" ")
    if word == "turn":
        direction = tuple([number_in(text) for text in further])
        return (word, direction) if is_direction(direction) else None
    if word == "part":
        return (word, further) if are_names([item.removeprefix("+") for item in further]) else None
    if word == "let":
        return (word, further[0], further[1:]) if are_names(further) and len(further) > 1 else None
    if word in ("draw", "block", "do"):
        return (word, further[0]) if are_names(further) and len(further) == 1 else None
    return (word,) if word == "close" and not further else None


def are_names(words):
    """Whether there are words, and all of them are names."""
    return len(words) > 0 and all([is_name(word) for word in words])


class Sheet:
    """What the lines of instructions have told so far."""

    def __init__(self):
        self.lets = {}
        self.blocks = {}
        self.open_block = None
        self.done = []

    def fault(self, line, told):
        """The word for why a line cannot stand here, or None."""
        if told is None:
            return "form"
        if line >= MOST_LINES:
            return "many"
        if self.open_block is not None and told[0] in ("block", "let", "do"):
            return "nested"
        if self.open_block is None and told[0] == "close":
            return "open"
        if (told[0] == "let" and told[1] in self.lets) or (told[0] == "block" and told[1] in self.blocks):
            return "double"
        if (told[0] == "part" and not self.knows(told[1])) or (told[0] == "do" and told[1] not in self.blocks):
            return "unknown"
        return None

    def knows(self, items):
        """Whether each word of the items stands for names."""
        return all([item[1:] in self.lets for item in items if item[0] == "+"])

    def names(self, items):
        """The ascending tuple of the names that items tell."""
        found = []
        for item in items:
            found.extend(self.lets[item[1:]] if item[0] == "+" else [item])
        return tuple(sorted(set(found)))

    def take(self, line, told):
        """Keeps what a line tells that has no fault."""
        if told[0] == "let":
            self.lets[told[1]] = told[2]
        elif told[0] == "block":
            self.open_block = told[1]
            self.blocks[told[1]] = []
        elif told[0] == "close":
            self.open_block = None
        elif told[0] == "do":
            self.done.extend(self.blocks[told[1]])
        else:
            row = self.done if self.open_block is None else self.blocks[self.open_block]
            row.append((line, ("part", self.names(told[1])) if told[0] == "part" else told))


def lines_read(text):
    """The list of the pairs of each line turn, part and draw that is done, and what it tells, blocks written out."""
    if not isinstance(text, str):
        raise InvalidText(0, "form")
    lines = text.split("\n")
    # What stands behind the last line feed is no line of its own, or one that lacks its line feed.
    rest = lines.pop()
    sheet = Sheet()
    for at, line in enumerate(lines):
        told = line_form(line)
        why = sheet.fault(at, told)
        if why is not None:
            raise InvalidText(at, why)
        sheet.take(at, told)
    if rest:
        raise InvalidText(len(lines), "form")
    if sheet.open_block is not None:
        raise InvalidText(len(lines), "missing")
    return sheet.done
