"""Paths: "/" for the head, otherwise "/" and a name for each step (9.1)."""

from foldervotes.signs import is_name


def steps_of(path):
    """The tuple of the names of a path's steps, or None for what is no path."""
    if path == "/":
        return ()
    if not isinstance(path, str) or not path.startswith("/"):
        return None
    steps = path[1:].split("/")
    return tuple(steps) if all([is_name(step) for step in steps]) else None


def path_of(steps):
    """The path of some steps."""
    return "/" + "/".join(steps)
