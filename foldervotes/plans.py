"""What a commit of changes makes and drops, step by step (12.3)."""

from foldervotes.opening import ROOT, file_path
from foldervotes.pages import Pages, part_text, parts_of, pieces_of
from foldervotes.signs import least_names

MAKE = "make"
CALM = "calm"
PUT = "put"
LAST_CALM = "last calm"
DROP = "drop"


class Plan:
    """The pages behind a commit, the pairs of path and text that it makes, and its steps.

    A step is a kind, a path and a text.
    """

    def __init__(self, pages, made, dropped):
        self.pages = pages
        self.made = made
        self.steps = [(MAKE, path, text) for path, text in made]
        self.steps.append((CALM, "", ""))
        self.steps.append((PUT, ROOT, pages.root()))
        self.steps.append((LAST_CALM, "", ""))
        self.steps.extend([(DROP, path, "") for path in dropped])


def plan_of(pages, taken, changes):
    """The plan of right changes, by the names that are taken; None if nothing changes."""
    changed = {name: changes[name] for name in sorted(changes)
               if changes[name] != pages.texts.get(name)}
    if not changed:
        return None
    texts = {name: pages.texts[name] for name in pages.texts if name not in changed}
    files = {name: pages.files[name] for name in texts}
    made = []
    for name in changed:
        if changed[name] is not None:
            pieces = pieces_of(changed[name])
            names = least_names(len(made) + len(pieces), taken)[len(made):]
            texts[name] = changed[name]
            files[name] = names
            made.extend(list(zip(names, pieces)))
    parts = parts_of(files)
    names = least_names(len(made) + len(parts), taken)[len(made):]
    for own, following, signs in zip(names, names[1:] + names[-1:], parts):
        made.append((own, part_text(following, signs)))
    after = Pages(texts, files, names)
    used = after.all_files()
    dropped = [name for name in sorted(pages.all_files()) if name not in used]
    return Plan(after, [(file_path(name), text) for name, text in made],
                [file_path(name) for name in dropped])
