"""Changed copies of nested tuples, and values of all kinds, for the tests."""


class Agreeing:
    """An object that is equal to everything and has no hash."""

    __hash__ = None

    def __eq__(self, other):
        return True


class Broken:
    """An object that answers no question."""

    def __bool__(self):
        raise RuntimeError

    def __eq__(self, other):
        raise RuntimeError

    def __hash__(self):
        raise RuntimeError

    def __len__(self):
        raise RuntimeError

    def __iter__(self):
        raise RuntimeError

    def __index__(self):
        raise RuntimeError


def other_things():
    """Values of all kinds; none of them is a number, letters, a machine, a rule or a tuple of these."""
    return [
        None, True, False, 0, 1, -1, 2, 10 ** 60, -(10 ** 60), 0.0, 1.5, float("nan"), float("inf"), 1j,
        "", " ", "a1", "2", "(1, 2)", b"", b"ab", bytearray(b"ab"), memoryview(b"ab"),
        (), ((),), (None,), (None, None), (None, None, None), ("", ""), ("", "", ""), ((), (), ()),
        [], [[]], [1, 2], [2, "a", [[[0, 0]]]], {}, {0: 1}, {True: 1}, {"a": (0, 0)}, {0: {}, 1: []},
        set(), {1, 2}, frozenset(), frozenset([1, 2]), range(2), iter([1, 2]), slice(1, 2), ...,
        NotImplemented, int, str, tuple, list, object, object(), len, lambda: 1, ValueError, ValueError("x"),
        Agreeing, Agreeing(), Broken(), (Agreeing(), Agreeing()), (Broken(), Broken()),
        (Agreeing(), Agreeing(), Agreeing()),
        (2, "a", Agreeing()), (2, "a", (Agreeing(),)), (2, "a", ((Agreeing(),),)), (2, "a", (((Agreeing(),),),)),
        (2, "a", (((Broken(), Broken()),),)), (2, "a", ((((Broken(), 0), (Broken(), 0)),),)),
        ("a", Agreeing()), ("a", (Agreeing(),)), ("a", ((Agreeing(),),)), ("a", ((Broken(),),)), (Broken(), ((0,),)),
    ]


def of_other_kinds(part):
    """Values that are of another kind than part, but look like it where that can be."""
    found = [True, False, "0", "", b"ab", 1.0, [], {}, Agreeing(), Broken(), object()]
    if isinstance(part, int):
        found = found + [bool(part), float(part), str(part), (part,), [part]]
    elif isinstance(part, str):
        found = found + [list(part), tuple(part), part.encode(), 0, 1]
    elif isinstance(part, tuple):
        found = found + [list(part), [list(part)], dict(enumerate(part)), str(part), 0, 1]
    return found


def paths_of(thing, path=()):
    """All places in nested tuples, as paths of indexes, that of the whole first."""
    paths = [path]
    if isinstance(thing, tuple):
        for at, part in enumerate(thing):
            paths.extend(paths_of(part, path + (at,)))
    return paths


def part_at(thing, path):
    for at in path:
        thing = thing[at]
    return thing


def put(thing, path, parts):
    """thing with the part at path, not the whole, replaced by any number of parts."""
    at = path[0]
    if len(path) > 1:
        parts = [put(thing[at], path[1:], parts)]
    return thing[:at] + tuple(parts) + thing[at + 1:]


def listed(thing):
    """thing with lists instead of all tuples."""
    if isinstance(thing, tuple):
        return [listed(part) for part in thing]
    return thing
