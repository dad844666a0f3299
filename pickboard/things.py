"""Whether something that was handed in is just what would be told."""


def are_same(things, told):
    """Whether two lists or tuples hold the same, one behind the other."""
    return len(things) == len(told) and all([is_same(one, other) for one, other in zip(things, told)])


def is_same(thing, told):
    """Whether something is just what is told, where a tuple is no list and True is no number."""
    if isinstance(told, list):
        return isinstance(thing, list) and are_same(thing, told)
    if isinstance(told, tuple):
        return isinstance(thing, tuple) and are_same(thing, told)
    # Python takes True for 1 and False for 0.
    return isinstance(thing, bool) == isinstance(told, bool) and thing == told
