"""What holds for values of any kind: which are numbers, and how one is copied."""


def is_number(value):
    """Whether any value is an integer; True and False are none, though Python counts them among them."""
    return isinstance(value, int) and not isinstance(value, bool)


def copied(value):
    """The value with new lists and dicts in it, so that whoever passed it can go on changing its own."""
    if isinstance(value, list):
        return [copied(piece) for piece in value]
    if isinstance(value, tuple):
        return tuple([copied(piece) for piece in value])
    if isinstance(value, dict):
        return {key: copied(worth) for key, worth in value.items()}
    return value
