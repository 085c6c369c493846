"""Reads of a pair's system that have coefs on one side's unknowns alone, the ones' or the others'."""

from countfold.lattices import Lattice
from countfold.reads import broken_read, measured, short_ways
from countfold.rows import added
from countfold.wholes import product_of, settled, units

# A read of both sides is split in two parts where one has no more whole values, about, than so many.
_NARROW = 60

# How finely a part is measured, beside how often links are taken to make it.
_FINE = 1000


def sided_reads(system, table, *, width, ones):
    """Two tuples of reads with coefs on the first so many unknowns alone, or on those behind alone.

    By each it is told where the unknowns are whole. The table is of the system, which fits; its point is another one
    behind.
    """
    measures, held = measured(system, table, width=width)
    apart = _reads_apart(table, measures, held, ones)
    both = _reads_in_parts(system, table, measures, held, ones) + apart
    return _ordered(both, width), _ordered(apart, width)


def _ordered(reads, width):
    """Reads, of each of which the breadth is told, without it."""
    # What has no whole value ends the search at once.
    empty = [read for breadth, read in reads if breadth < 0]
    # Units behind: what is broken by both sides together is read by no other.
    return (*empty[:1], *[read for _, read in reads], *units(width))


def _breadth(table, read):
    """Over how many whole numbers a read goes, less 1; below 0 where there is none."""
    high, low = table.greatest((0, *read)), table.greatest((0, *[-coef for coef in read]))
    return high[0] // high[1] + low[0] // low[1]


def _reads_apart(table, measures, held, ones):
    """The reads of what the ones' unknowns can be and of what the others' can, each with its breadth, narrow first."""
    reads = []
    for low, high in ((0, ones), (ones, table.width)):
        for read in _reads_at(measures, held, low, high):
            reads.append((*[0] * low, *read, *[0] * (table.width - high)))
    return sorted([(_breadth(table, read), read) for read in reads])


def _reads_at(measures, held, low, high):
    """Reads, cut to unknowns low to below high, of what these can be; what is held is worth 0."""
    rows = _rows_at(held, low, high)
    paper = settled(rows, width=high - low)
    if paper[0] == "rest":
        return (broken_read(rows, paper, width=high - low),)
    own = [((0, *row[1 + low:1 + high]), worth, divisor) for row, worth, divisor in measures
           if not any(row[1:1 + low]) and not any(row[1 + high:])]
    return short_ways(paper, own)[1]


def _rows_at(rows, low, high):
    """Rows, cut likewise, of all that rows added can make with coefs on these unknowns alone."""
    columns = [(0, *column) for column in zip(*rows)][1:]
    _, _, weights, _ = settled(columns[:low] + columns[high:], width=len(rows))
    made = [added(rows, part, width=len(columns)) for part in weights]
    return [(row[0], *row[1 + low:1 + high]) for row in made]


def _reads_in_parts(system, table, measures, held, ones):
    """The reads of both sides together, each in two parts, one of each side, with their breadths.

    What both sides clash in is seldom of one side alone; a read with a narrow part takes few splits of that one.
    """
    moves, reads = short_ways(settled([(0, *row[1:]) for row in held], width=table.width), measures)
    scales = [1 + max(0, _breadth(table, read)) for read in reads]
    paper = settled(held, width=table.width)
    if paper[0] == "rest":
        reads = (broken_read(held, paper, width=table.width), *reads)
    links = [row[1:] for kind, row in system if kind == "nought" and any(row[1:1 + ones]) and any(row[1 + ones:])]
    sides = [Side(links, moves, scales, low, high) for low, high in ((0, ones), (ones, table.width))]
    found = []
    for read in reads:
        pairs = [_pair(table, side.narrowed(read), ones) for side in sides]
        breadth, place = min([(pair[0][0], place) for place, pair in enumerate(pairs)])
        found.extend(pairs[place] if breadth <= _NARROW else [])
    return found


def _pair(table, read, ones):
    """The two parts of a read, each with its breadth, the narrow one first."""
    left = (*read[:ones], *[0] * (table.width - ones))
    right = (*[0] * ones, *read[ones:])
    return sorted([(_breadth(table, part), part) for part in (left, right)])


class Side:
    """The links of a pair, measured by how broad they are at one side's unknowns, low to below high."""

    def __init__(self, links, moves, scales, low, high):
        self.low = low
        self.high = high
        # What the coefs on this side are measured by: how much they change along each move of both sides.
        self.moves = moves
        self.scales = scales
        vectors = [self._vector(link) + unit for link, unit in zip(links, units(len(links)))]
        self.lattice = Lattice(vectors, links, links)
        self.lattice.shorten()

    def _vector(self, coefs):
        part = coefs[self.low:self.high]
        return tuple([_FINE * scale * product_of(part, move[self.low:self.high])
                      for scale, move in zip(self.scales, self.moves)])

    def narrowed(self, read):
        """A read and links, so often each that it is narrow at this side; links are always worth 0."""
        behind = (0,) * len(self.lattice.moves)
        return self.lattice.lessened(self._vector(read) + behind, read)
