"""Whether a thing, which may be any value, is just what it should be."""


def is_exactly(thing, right):
    """Tell whether thing is right, made of integers, strings, None, tuples, lists and dicts by integers.

    Kinds count at any depth: a boolean is no integer, also as a key, and a list is no tuple.
    """
    if not type(thing) is type(right):
        return False
    if type(right) == dict:
        # A key that is no integer might be equal to one.
        if len(thing) != len(right) or not all([type(key) == int for key in thing]):
            return False
        return all([key in right and is_exactly(thing[key], right[key]) for key in thing])
    if type(right) == list or type(right) == tuple:
        if len(thing) != len(right):
            return False
        return all([is_exactly(part, like) for part, like in zip(thing, right)])
    return thing == right
