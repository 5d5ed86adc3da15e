"""Whether any object at all is a name, a count, a list of names, a stock and the like."""


def is_whole(value):
    """Whether an object is a whole number."""
    # Python takes True and False for integers; the program does not.
    return isinstance(value, int) and not isinstance(value, bool)


def is_count(value):
    """Whether an object is a whole number of at least 0."""
    return is_whole(value) and value >= 0


def is_name(value):
    """Whether an object is a string of 1 to 10 signs a to z."""
    if not isinstance(value, str) or not 1 <= len(value) <= 10:
        return False
    return all(["a" <= sign <= "z" for sign in value])


def are_unlike(names):
    """Whether no string stands twice in a list of them."""
    return len(set(names)) == len(names)


def are_names(value):
    """Whether an object is a list, perhaps an empty one, of different names."""
    if not isinstance(value, list) or not all([is_name(name) for name in value]):
        return False
    return are_unlike(value)


def is_stock(value):
    """Whether an object is a dictionary from kinds to counts."""
    if not isinstance(value, dict):
        return False
    return all([is_name(kind) and is_count(count) for kind, count in value.items()])


def is_exchange(value):
    """Whether an object is a dictionary from names to names that only exchanges its keys with one another."""
    if not isinstance(value, dict):
        return False
    if not all([is_name(name) and is_name(new) for name, new in value.items()]):
        return False
    return sorted(value) == sorted(value.values())


def are_pairs(value):
    """Whether an object is a list of tuples of a name and a count, no name twice."""
    if not isinstance(value, list) or not all([_is_pair(pair) for pair in value]):
        return False
    return are_unlike([name for name, _ in value])


def _is_pair(value):
    return isinstance(value, tuple) and len(value) == 2 and is_name(value[0]) and is_count(value[1])
