"""What tellings leave of a tree: known ties, pieces, open places (3.2).

A top can hang at any open place of another piece, as nobody would tell: what is above
the place by unknown ties hangs at open places, too. So a picture is left by some tree
if the known ties make no ring, each place tells just those that it should, and, if
there are tops at all, some place of the head's piece is open.
"""


class Forest:
    """The known ties of a picture, and the pieces into which they part the places.

    `top_of` has for each place the top of its piece, 0 in the head's; `pieces` and
    `open_places` have for each piece, by tops, its places and those that are open.
    """

    def __init__(self, ties, top_of, is_open):
        tops = sorted(set(top_of))
        places = range(len(top_of))
        self.ties = ties
        self.top_of = top_of
        self.tops = tops
        self.pieces = [tuple([place for place in places if top_of[place] == top])
                       for top in tops]
        self.open_places = [tuple([place for place in piece if is_open[place]])
                            for piece in self.pieces]


def forest_of(view, blocks, told):
    """The forest of tellings of so many blocks, or None if no tree tells these."""
    up, down = view
    ties = _known_ties(up, told)
    if ties is None:
        return None
    ways = [_way_up(ties, place) for place in range(blocks + 1)]
    if None in ways or not _tells_just(down, told, ties, ways):
        return None
    forest = Forest(ties, [way[-1] for way in ways], [_is_open(down, told, way) for way in ways])
    if len(forest.pieces) > 1 and not forest.open_places[0]:
        return None
    return forest


def _known_ties(up, told):
    """The dict of ties that are told, or None if the tellings can't be right."""
    ties = {}
    for place in told:
        row, beneath = told[place]
        if place != 0 and not _is_whole(up, row):
            return None
        for block, above in list(zip((place, *row), row)) + list(beneath):
            if block == 0 or ties.setdefault(block, above) != above:
                return None
    return {block: ties[block] for block in sorted(ties)}


def _is_whole(up, row):
    # A row may be shorter only because the head is reached.
    return len(row) == up or row[-1:] == (0,)


def _way_up(ties, place):
    """A place and those above it by known ties, or None if these lead into a ring."""
    way = [place]
    while way[-1] in ties:
        way.append(ties[way[-1]])
        if len(way) > len(ties) + 1:
            return None
    return way


def _tells_just(down, told, ties, ways):
    """Whether each place that tells tells the known ties beneath it, and no others."""
    beneath = {place: [] for place in told}
    for block in ties:
        for place in ways[block][1:down + 1]:
            if place in beneath:
                beneath[place].append((block, ties[block]))
    return all([told[place][1] == tuple(beneath[place]) for place in told])


def _is_open(down, told, way):
    # The places that would tell of a block that hangs at the beginning of the way.
    return not any([place in told for place in way[:down]])
