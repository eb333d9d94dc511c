"""Lots: pieces of a thing with fast pegs, and what of them can leave in a direction."""

from itertools import combinations

from stucklots.compass import chosen_names, compass
from stucklots.errors import Barred, Held, InvalidLot, InvalidNumber, InvalidRow, NoParting, NotFast, OtherThing, Pegged
from stucklots.errors import UnknownName
from stucklots.rounds import check_direction
from stucklots.rows import first_wrong, has_bit, index_of_row, indexes_in, row_count_of, row_with_index
from stucklots.words import is_number


class Lot:
    """A lot of a thing: some of its pieces, and fast pegs that tie two of them. It never changes."""

    def __init__(self, thing, names=None, *, fast=None):
        self.thing = thing
        self._names = chosen_names(thing, names)
        self._pegs = chosen_pegs(thing, self._names, fast)

    def names(self):
        """The ascending list of the names of its pieces."""
        return list(self._names)

    def pegs(self):
        """The ascending list of the names of its fast pegs."""
        return list(self._pegs)

    def told(self):
        """The pair of both as tuples."""
        return (tuple(self._names), tuple(self._pegs))

    def compass(self):
        """The compass of its pieces."""
        return compass(self.thing, self._names)

    def __contains__(self, name):
        return name in self._names

    def _check_names(self, names):
        """Raises UnknownName(name) with the first item that is no name of a piece of the lot."""
        for name in names:
            if name not in self._names:
                raise UnknownName(name)

    def leaning(self, direction):
        """By each name of a piece the ascending list of those on which it leans in a direction."""
        pegs = [self.thing.peg_called(name) for name in self._pegs]
        ties = [(peg.one, peg.other) for peg in pegs] + [(peg.other, peg.one) for peg in pegs]
        return {one: [other for other in self._names
                      if (one, other) in ties or self.thing.is_barred(one, other, direction)]
                for one in self._names}

    def leans(self, one, other, direction):
        """Whether the piece one leans on the piece other in a direction."""
        self._check_names([one, other])
        check_direction(direction)
        return other in self.leaning(direction)[one]

    def least(self, direction, name):
        """The least set of a piece in a direction, an ascending tuple."""
        check_direction(direction)
        self._check_names([name])
        return tuple(reached(self.leaning(direction), name))

    def can_leave(self, direction, names):
        """Whether a list of names of its pieces can leave in a direction."""
        check_direction(direction)
        self._check_names(names)
        return leans_within(self.leaning(direction), names)

    def leaving(self, direction):
        """All sets but nothing and all that can leave, shorter ones first, those with as many names ascending."""
        check_direction(direction)
        yield from leaving_sets(self.leaning(direction))

    def groups(self, direction):
        """The ascending list of the groups of a direction."""
        check_direction(direction)
        return groups_of(self.leaning(direction))

    def row_count(self, direction):
        """How many rows of groups there are."""
        check_direction(direction)
        return row_count_of(free_groups(self.leaning(direction)))

    def row_at(self, direction, index):
        """The row of groups with an index."""
        check_direction(direction)
        leaning = self.leaning(direction)
        free = free_groups(leaning)
        if not is_number(index, 0, row_count_of(free) - 1):
            raise InvalidNumber(index)
        groups = groups_of(leaning)
        return [groups[at] for at in row_with_index(free, index)]

    def row_index(self, direction, row):
        """The index of a row of groups."""
        check_direction(direction)
        leaning = self.leaning(direction)
        groups = groups_of(leaning)
        if not isinstance(row, (list, tuple)) or len(row) != len(groups):
            raise InvalidRow(-1)
        free = free_groups(leaning)
        order = indexes_in(groups, row)
        wrong = first_wrong(free, order)
        if wrong is not None:
            raise InvalidRow(wrong)
        return index_of_row(free, order)

    def draws(self):
        """The list of the steps that draw a peg, by ascending names."""
        return [("draw", peg) for peg in self._pegs if self.has_free_way(peg)]

    def partings(self):
        """The list of the steps that part least sets: by the compass, then by ascending names, each once."""
        return [("part", direction, names) for direction in self.compass()
                for names in least_sets(self.leaning(direction))]

    def parted(self, direction, names):
        """The pair of the lot of some names, which leave in a direction, and the lot of the rest."""
        check_direction(direction)
        self._check_names(names)
        going = [name for name in self._names if name in names]
        staying = [name for name in self._names if name not in names]
        if not going or not staying:
            raise NoParting()
        check_not_barred(self.thing, going, staying, direction)
        kept = self.thing.pegs_between(going) + self.thing.pegs_between(staying)
        for peg in self._pegs:
            if peg not in kept:
                raise Pegged(peg)
        return (self.part_of(going), self.part_of(staying))

    def part_of(self, names):
        """The lot of some of its pieces, with the fast pegs that tie two of them."""
        between = self.thing.pegs_between(names)
        return Lot(self.thing, names, fast=[peg for peg in self._pegs if peg in between])

    def has_free_way(self, peg):
        """Whether a peg of the thing, fast or not, has a way that no piece of the lot bars."""
        return any([self.none_bars(barring) for barring in self.thing.barring(peg)])

    def none_bars(self, barring):
        """Whether none of the pieces that bar something is in the lot."""
        return not any([name in self._names for name in barring])

    def drawable(self, peg):
        """Whether a fast peg can be drawn."""
        name = self.thing.peg_called(peg).name
        if name not in self._pegs:
            raise NotFast(peg)
        return self.has_free_way(name)

    def drawn(self, peg):
        """The lot in which a peg is not fast any more."""
        if not self.drawable(peg):
            raise Held(peg)
        return Lot(self.thing, self._names, fast=[name for name in self._pegs if name != peg])

    def is_stuck(self):
        """Whether there is no step in the lot."""
        if self.draws():
            return False
        return all([len(self.groups(direction)) == 1 for direction in self.compass()])

    def _check_thing(self, other):
        """Raises OtherThing() unless another value is a lot of an equal thing."""
        if not isinstance(other, Lot) or self.thing != other.thing:
            raise OtherThing()

    def __or__(self, other):
        self._check_thing(other)
        return Lot(self.thing, self._names + other.names(), fast=self._pegs + other.pegs())

    def within(self, other):
        """Whether its pieces and its fast pegs are among those of another lot."""
        self._check_thing(other)
        names = other.names()
        pegs = other.pegs()
        return all([name in names for name in self._names]) and all([peg in pegs for peg in self._pegs])

    def __eq__(self, other):
        return isinstance(other, Lot) and self.thing == other.thing and self.told() == other.told()

    def __len__(self):
        return len(self._names)

    def __repr__(self):
        return f"Lot({len(self._names)} pieces, {len(self._pegs)} pegs)"


def chosen_pegs(thing, names, fast):
    """The ascending list of the fast pegs of a lot with some names; raises InvalidLot(at), UnknownName(name)."""
    between = thing.pegs_between(names)
    if fast is None:
        return between
    if not isinstance(fast, (list, tuple)):
        raise InvalidLot(-2)
    pegs = [thing.peg_called(name).name for name in fast]
    for at, name in enumerate(pegs):
        if name not in between:
            raise InvalidLot(at)
    return sorted(set(pegs))


def check_not_barred(thing, names, others, direction):
    """Raises Barred(one, other) with the first pair of a name and one of the others that bars it."""
    for one in names:
        for other in others:
            if thing.is_barred(one, other, direction):
                raise Barred(one, other)


def reached(leaning, name):
    """The ascending list of all names that a name reaches."""
    found = {name: True}
    ahead = [name]
    while ahead:
        here = ahead.pop()
        for other in leaning[here]:
            if other not in found:
                found[other] = True
                ahead.append(other)
    return sorted(found)


def least_sets(leaning):
    """The list of the least sets of all names, by ascending names, each once and without the set of all."""
    found = []
    for name in leaning:
        least = tuple(reached(leaning, name))
        if len(least) < len(leaning) and least not in found:
            found.append(least)
    return found


def leans_within(leaning, names):
    """Whether no name of a list leans on one outside of it."""
    return all([other in names for name in names for other in leaning[name]])


def leaving_sets(leaning):
    """The list of all sets but nothing and all that can leave, shorter ones first."""
    names = list(leaning)
    found = []
    for many in range(1, len(names)):
        for chosen in combinations(names, many):
            if leans_within(leaning, chosen):
                found.append(chosen)
    return found


def groups_of(leaning):
    """The ascending list of the groups of names that reach one another."""
    reach = {name: reached(leaning, name) for name in leaning}
    return sorted({tuple([other for other in reach[name] if name in reach[other]]) for name in leaning})


def free_groups(leaning):
    """By each set of groups, told by the bits of their indexes, the ascending indexes of those that can come next."""
    groups = groups_of(leaning)
    needs = [needed_groups(leaning, groups, group) for group in groups]
    return [free_indexes(needs, placed) for placed in range(1 << len(groups))]


def needed_groups(leaning, groups, group):
    """The ascending indexes of the other groups that a group reaches."""
    # Names of one group reach one another, so one name of each group tells.
    names = reached(leaning, group[0])
    return [at for at, other in enumerate(groups) if other != group and other[0] in names]


def free_indexes(needs, placed):
    """The ascending indexes that are not placed yet, while all that they need are."""
    return [at for at, need in enumerate(needs)
            if not has_bit(placed, at) and all([has_bit(placed, other) for other in need])]
