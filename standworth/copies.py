"""Copies of values, with which nothing changes that is changed in what was handed in."""


def copied(value):
    """Any value with new lists and dicts, also within its tuples, lists and dicts."""
    if isinstance(value, list):
        return [copied(item) for item in value]
    if isinstance(value, tuple):
        return tuple([copied(item) for item in value])
    if isinstance(value, dict):
        return {key: copied(item) for key, item in value.items()}
    return value
