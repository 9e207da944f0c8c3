"""What several tests need: all small trees, strange arguments, a check of errors."""

import functools
import itertools

from foldervotes.books import Book
from foldervotes.checker import Checker
from foldervotes.desk import Desk
from foldervotes.disk import Disk
from foldervotes.errors import BadTree, NoBlock
from foldervotes.histories import History
from foldervotes.pictures import Picture
from foldervotes.shell import Shell
from foldervotes.store import Store
from foldervotes.trees import Tree
from foldervotes.words import Words

HUGE = 10 ** 79


def nested(make, inner, deep=40):
    thing = inner
    for _ in range(deep):
        thing = make(thing)
    return thing


@functools.lru_cache(maxsize=None)
def led_things():
    """Objects of Parts 4 and 5; nobody leads them on."""
    return (Disk(2), [Disk(2)], Store(Disk(2)), (Checker(Store(Disk(2))), 1), Shell(2),
            Book(Store(Disk(3))), {1: Desk(3)})


def strange_things():
    """Objects of all kinds that an argument can be, none of them an integer or a tuple
    of integers alone."""
    return [
        True, False, None,
        "", "1", "head", "a b\n", b"", b"\x01", b"ab",
        [], [0], [1], [1, 2], [1, 1], [0, 1, 2], [[1], 2],
        (None,), (True, False), (1, True), ("1", "2"), (1, None), (1, (2,)), ((1, 2), 3),
        {}, {0: 1}, {1: 1}, {(1, 2): [3]}, {"up": 1, "down": 1},
        Tree((0,)), Tree((0, 1, 2)), (Tree((0,)),), [Tree((0,)), 1],
        Picture((1, 1), 1, {0: ((), ((1, 0),))}), (Picture((0, 0), 2, {0: ((), ())}),),
        Words(1, (0,), ((True,), (False,))), {1: Words(1, (None,), ((None,), (False,)))},
        History(Tree((0,)), ((1, 0),)), [History(Tree((0, 1)), ())],
        NoBlock(), BadTree(("ring", 1)),
        nested(lambda x: [x], 1), nested(lambda x: (x,), 1), nested(lambda x: {1: x}, 1),
        nested(lambda x: (x, x), 1, 4), nested(lambda x: [x, (1, x)], 1, 4),
        nested(lambda x: (1, x), Tree((0,))), nested(lambda x: ("ring", x), None),
        *led_things(),
    ]


def not_within(least, most):
    """What is no integer from least to most."""
    wrong = [-HUGE, -41, -1, least - 1, most + 1, 41, HUGE, -HUGE * 10 + 1, HUGE * 10 - 1]
    tuples = [(), (1,), (0, 0), (1, 1), (1, 2, 3)]
    return strange_things() + tuples + [n for n in wrong if not least <= n <= most]


ALL_VIEWS = [(up, down) for up in range(5) for down in range(5)]


def not_views():
    """What is no view."""
    return strange_things() + [
        0, 1, -1, HUGE, (), (1,), (1, 1, 1), (0, 0, 0), (5, 0), (0, 5), (5, 5), (-1, 0),
        (0, -1), (True, 1), (1, False), (True, True), [1, 1], (1, None), ("1", "1"),
        (HUGE, 1), (1, HUGE), ((1,), 1), (1, [1]), "11", b"\x01\x01", ((1, 1),),
    ]


def climb(hung, block):
    """The places above a block, nearest first, the head last; None if a ring is met."""
    above = []
    while block != 0:
        block = hung[block - 1]
        if block in above:
            return None
        above.append(block)
    return above


def all_hung(blocks):
    """The hung of every tree of so many blocks."""
    found = []
    for hung in itertools.product(range(blocks + 1), repeat=blocks):
        if all(climb(hung, block) is not None for block in range(1, blocks + 1)):
            found.append(hung)
    return found


def chance_tree(chance, blocks, width):
    """A tree by chance; the less the width, the longer its ways to the head."""
    names = list(range(1, blocks + 1))
    chance.shuffle(names)
    hung = {}
    for at, block in enumerate(names):
        hung[block] = chance.choice([0, *names[max(0, at - width):at]])
    return Tree(tuple(hung[block] for block in range(1, blocks + 1)))


def told(tree, view, place):
    """What a place tells, as the document's words say it, from all ways to the head."""
    up, down = view
    ways = {block: climb(tree.hung, block) for block in range(1, len(tree.hung) + 1)}
    row = tuple(ways[place][:up]) if place else ()
    ties = [(block, way[0]) for block, way in ways.items() if place in way[:down]]
    return row, tuple(sorted(ties))


def lots(items):
    """All lots of some things."""
    items = sorted(items)
    return [lot for many in range(len(items) + 1)
            for lot in itertools.combinations(items, many)]


def raised(test, error, call, *args):
    """Checks that a call raises just this error and changes no argument; gives it."""
    before = repr(plain(args))
    try:
        result = call(*args)
    except Exception as caught:
        if type(caught) is not error or repr(plain(args)) != before:
            test.fail(f"{call.__name__}{args!r} raises {caught!r}")
        return caught
    test.fail(f"{call.__name__}{args!r} is {result!r}")


def plain(thing):
    """A thing with objects of the package in it shown by what they keep."""
    if isinstance(thing, (list, tuple)):
        return type(thing)([plain(part) for part in thing])
    if isinstance(thing, dict):
        return ("dict", [(plain(key), plain(worth)) for key, worth in thing.items()])
    if isinstance(thing, Exception) or type(thing).__module__.startswith("foldervotes."):
        return (type(thing).__name__, plain(vars(thing)))
    return thing


def refused(test, led, error, call, *args):
    """Checks that a call raises just this error and changes nothing of a led object; gives it."""
    before = repr(plain(led))
    caught = raised(test, error, call, *args)
    test.assertEqual(repr(plain(led)), before, f"{call.__name__}{args!r}")
    return caught
