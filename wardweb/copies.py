"""Copies of what is handed in or told."""


def copied(thing):
    """The thing with each list, tuple and dict in it made anew; all else is never changed, so it is shared."""
    if isinstance(thing, list):
        return [copied(part) for part in thing]
    if isinstance(thing, tuple):
        return tuple([copied(part) for part in thing])
    if isinstance(thing, dict):
        return {key: copied(thing[key]) for key in thing}
    return thing
