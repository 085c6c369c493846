"""Trims: which rows a paper uses, and papers without idle splits."""


def rows_used(system, paper):
    """The numbers of the system's rows that a paper uses, rising."""
    used = [place for step in paper for place in _places_used(step)]
    return sorted({place for place in used if place < len(system)})


def _places_used(step):
    """The places in its path of the rows that a step uses."""
    if step[0] == "split":
        return []
    return [place for place, weight in enumerate(step[1]) if weight != 0]


def is_trim(system, paper):
    """Whether of each split of a paper either row is used by a step that comes of its side."""
    kept = _kept(paper, _lengths(system, paper))
    return all([kept[number] == number for number in range(len(paper))])


def _lengths(system, paper):
    """How many rows the path of each step has, in a dict by the steps' numbers."""
    lengths = {0: len(system)}
    for number, step in enumerate(paper):
        if step[0] == "split":
            lengths[step[2]] = lengths[step[3]] = lengths[number] + 1
    return lengths


def _kept(paper, lengths):
    """For each step the one that can stand in its stead: of a split whose row isn't used on a side, that side's."""
    kept = {}
    used = {}
    # From behind, so that both sides of a split are told ahead of it.
    for number in reversed(range(len(paper))):
        step = paper[number]
        kept[number] = number
        used[number] = {place: True for place in _places_used(step)}
        if step[0] == "split":
            place = lengths[number]
            idle = [side for side in step[2:] if place not in used[side]]
            if idle:
                kept[number] = kept[idle[0]]
                used[number] = used[idle[0]]
            else:
                used[number] = {**used[step[2]], **used[step[3]]}
    return kept


def trimmed(system, paper, *, width):
    """A trim paper of the system, made of a paper, of no more steps."""
    lengths = _lengths(system, paper)
    kept = _kept(paper, lengths)
    steps = [None]
    # The number of a step to come, the step of the paper that it is made of, the places of that one's path it has.
    waiting = [(0, 0, tuple(range(len(system))))]
    while waiting:
        number, other, places = waiting.pop()
        step = paper[kept[other]]
        if step[0] == "split":
            _, row, left, right = step
            places += (lengths[kept[other]],)
            waiting.extend([(len(steps) + 1, right, places), (len(steps), left, places)])
            steps[number] = ("split", tuple(row), len(steps), len(steps) + 1)
            steps.extend([None, None])
        else:
            steps[number] = (step[0], tuple([step[1][place] for place in places]), *step[2:])
    return tuple(steps)
