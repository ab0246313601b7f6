"""Copies to the bottom, so that an object holds nothing that its maker can still change."""


def copied(value):
    if isinstance(value, list):
        return [copied(member) for member in value]
    if isinstance(value, tuple):
        # A tuple can not be changed, but a list within it can.
        return tuple([copied(member) for member in value])
    if isinstance(value, dict):
        return copied_dict(value)
    return value


def copied_dict(value):
    fresh = {}
    for key, member in value.items():
        fresh[key] = copied(member)
    return fresh
