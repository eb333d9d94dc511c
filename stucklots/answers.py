"""The answers of a works to lines."""

from stucklots.clumps import clumps
from stucklots.errors import LotError, Missing, NothingLeft
from stucklots.singles import kernel
from stucklots.spares import price_of
from stucklots.turnings import fewest_turnings
from stucklots.words import is_direction, number_in


def row_told(names):
    """The names with a space between, or none."""
    return " ".join(names) if names else "none"


def lots_told(lots):
    """The lots, each as its names with + between, with a space between."""
    return " ".join(["+".join(names) for names in lots])


def names_answer(works):
    """The names of the jobs."""
    return row_told(works.names())


def lots_answer(works, name):
    """The lots of a bench."""
    return lots_told([lot.names() for lot in works.bench(name).lots()])


def pegs_answer(works, name):
    """The fast pegs of a bench."""
    return row_told(works.bench(name).fast())


def ended_answer(works, name):
    """Whether a bench is ended."""
    return "yes" if works.bench(name).is_ended() else "no"


def clumps_answer(works, name):
    """The clumps of a thing."""
    return lots_told([names for names, pegs in clumps(works.thing_of(name))])


def kernel_answer(works, name):
    """The pieces of the kernel of a thing."""
    return row_told(kernel(works.thing_of(name))[0])


def turnings_answer(works, name):
    """The fewest turnings of a thing."""
    return str(fewest_turnings(works.thing_of(name)))


def price_answer(works, name, piece):
    """The price of a piece, when each piece has the price 1."""
    thing = works.thing_of(name)
    return str(price_of(thing, piece, {other: 1 for other in thing.names()}))


def done_answer(works, deed):
    """The answer behind a deed."""
    works.do(deed)
    return "done"


def draw_answer(works, name, peg):
    """The answer behind the drawing of a peg."""
    return done_answer(works, ("step", name, ("draw", peg)))


def drop_answer(works, name):
    """The answer behind the dropping of a job."""
    return done_answer(works, ("drop", name))


def move_answer(works, name, fresh):
    """The answer behind the moving of a job to another name."""
    return done_answer(works, ("move", name, fresh))


def undo_answer(works):
    """The answer behind an undo."""
    works.undo()
    return "done"


def redo_answer(works):
    """The answer behind a redo."""
    works.redo()
    return "done"


# By the first word of a line and the number of its further words.
ANSWERS = {
    ("names", 0): names_answer,
    ("lots", 1): lots_answer,
    ("pegs", 1): pegs_answer,
    ("ended", 1): ended_answer,
    ("clumps", 1): clumps_answer,
    ("kernel", 1): kernel_answer,
    ("turnings", 1): turnings_answer,
    ("price", 2): price_answer,
    ("draw", 2): draw_answer,
    ("drop", 1): drop_answer,
    ("move", 2): move_answer,
    ("undo", 0): undo_answer,
    ("redo", 0): redo_answer,
}


def answer_to(works, line):
    """The answer of a works to a line."""
    words = line.split(" ")
    if "" in words or "\n" in line:
        return "unknown"
    try:
        return answer_told(works, words[0], words[1:])
    except (LotError, Missing, NothingLeft) as error:
        return f"error {error.code}"


def answer_told(works, word, further):
    """The answer to a line by its first word and its further words; raises what it meets."""
    if word == "part":
        return part_answer(works, further)
    if (word, len(further)) not in ANSWERS:
        return "unknown"
    answer = ANSWERS[word, len(further)]
    return answer(works, *further)


def part_answer(works, further):
    """The answer behind a parting; the line is unknown unless it tells a direction and a piece."""
    direction = tuple([number_in(text) for text in further[1:3]])
    if len(further) < 4 or not is_direction(direction):
        return "unknown"
    return done_answer(works, ("step", further[0], ("part", direction, tuple(sorted(set(further[3:]))))))
