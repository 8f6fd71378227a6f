"""Trees of cases, grown."""

from boxfew.cases import width


def grown(book, many):
    """Tell the first node of a tree that shows that many boxes don't do; they must not do."""
    row = Row(book, many)
    return _node(row, list(range(len(book[1]))))


def _node(row, left):
    """Tell a node for the things that are not put in yet."""
    thing = _next_thing(row, left)
    rest = [other for other in left if other != thing]
    nodes = []
    for box in row.boxes():
        node = row.why_not(thing, box)
        if node is None:
            row.put(thing, box)
            node = _node(row, rest)
            row.take(thing)
        nodes.append(node)
    return ("thing", thing, tuple(nodes))


def _next_thing(row, left):
    """Tell the thing by which the tree is likely to stay small: one that has the fewest ways."""
    ways = [(len(row.ways(thing)), thing) for thing in left]
    least, first = min(ways)
    if least == 0:
        return first
    return min([(_outlook(row, thing, left), thing) for count, thing in ways if count == least])[1]


def _outlook(row, thing, left):
    """Tell in how many ways the others can still be put in, each by itself, if this thing comes next."""
    total = 0
    for box in row.ways(thing):
        row.put(thing, box)
        together = 1
        for other in left:
            if other != thing and together:
                together *= len(row.ways(other))
        row.take(thing)
        total += together
    return total


class Row:
    """The boxes in their row, while a tree is grown: where has the box of each thing put in."""

    def __init__(self, book, many):
        self.book = book
        self.room, self.sizes, apart, ahead = book
        self.many = many
        things = range(len(self.sizes))
        self.apart = [[pair for pair in apart if thing in pair] for thing in things]
        self.ahead = [[pair for pair in ahead if thing in pair] for thing in things]
        self.where = {}
        self.borne = [0] * many

    def put(self, thing, box):
        """Put a thing into a box."""
        self.where[thing] = box
        self.borne[box] += self.sizes[thing]

    def take(self, thing):
        """Take a thing out again."""
        self.borne[self.where[thing]] -= self.sizes[thing]
        del self.where[thing]

    def boxes(self):
        """Tell the boxes into which a thing may go."""
        return list(range(width(self.book, self.many, self.where)))

    def ways(self, thing):
        """Tell the boxes into which a thing can be put with nothing wrong yet."""
        return [box for box in self.boxes() if self.why_not(thing, box) is None]

    def why_not(self, thing, box):
        """Tell the node that shows that a thing can't be put into a box, or None."""
        if self.borne[box] + self.sizes[thing] > self.room:
            return ("over", box)
        for one, other in self.apart[thing]:
            mate = other if one == thing else one
            if self.where.get(mate) == box:
                return ("apart", one, other)
        for one, other in self.ahead[thing]:
            if self.where.get(one, box) > self.where.get(other, box):
                return ("ahead", one, other)
        return None
