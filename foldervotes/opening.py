"""Opening the book that lies in a store (12.2)."""

from foldervotes.errors import BadBook, NoBlocks
from foldervotes.pages import PIECE_SIGNS, Pages, files_in, part_in
from foldervotes.signs import is_name

BOOK = "/book"
ROOT = "/root"


def file_path(name):
    """The path of a file of the book."""
    return BOOK + "/" + name


def opened(store):
    """The pages of the book of a store, which is laid first, and swept at last."""
    _lay(store)
    pages = _read(store)
    _sweep(store, pages)
    return pages


def _lay(store):
    """Makes what is lacking of an empty book."""
    if store.kind(BOOK) == "file":
        raise BadBook(BOOK)
    if store.kind(ROOT) == "folder" and store.entries(ROOT):
        raise BadBook(ROOT)
    # An empty folder at the root gives back the block that the file there takes.
    lacking = [path for path in (BOOK, ROOT) if store.kind(path) is None]
    if store.free() < len(lacking):
        raise NoBlocks()
    if store.kind(BOOK) == "folder" and store.kind(ROOT) == "file":
        return
    if store.kind(BOOK) is None:
        store.folder(BOOK)
    if store.kind(ROOT) == "folder":
        store.drop(ROOT)
    if store.kind(ROOT) is None:
        store.make(ROOT, "")
    store.calm()


def _read(store):
    root = store.read(ROOT)
    if root == "":
        return Pages({}, {}, [])
    if not is_name(root):
        raise BadBook(ROOT)
    parts, index = _read_parts(store, root)
    files = files_in(index)
    if files is None or not _are_unlike(parts, files):
        raise BadBook(ROOT)
    texts = {name: _read_text(store, files[name]) for name in files}
    return Pages(texts, files, parts)


def _read_parts(store, first):
    """The list of the names of the parts' files, and the index."""
    parts = []
    index = ""
    name = first
    while parts == [] or name != parts[-1]:
        if store.kind(file_path(name)) != "file" or name in parts:
            raise BadBook(file_path(name))
        part = part_in(name, store.read(file_path(name)))
        if part is None:
            raise BadBook(file_path(name))
        parts.append(name)
        name, signs = part
        index += signs
    return parts, index


def _are_unlike(parts, files):
    """Whether no file is named twice."""
    names = list(parts)
    for text in files:
        names.extend(files[text])
    return len(set(names)) == len(names)


def _read_text(store, names):
    pieces = []
    for at, name in enumerate(names, start=1):
        path = file_path(name)
        piece = store.read(path) if store.kind(path) == "file" else ""
        if piece == "" or at < len(names) and len(piece) < PIECE_SIGNS:
            raise BadBook(path)
        pieces.append(piece)
    return "".join(pieces)


def _sweep(store, pages):
    """Drops from the book's folder what is no file of it."""
    used = pages.all_files()
    others = [name for name in store.entries(BOOK) if name not in used]
    for name in others:
        if store.kind(file_path(name)) == "folder" and store.entries(file_path(name)):
            raise BadBook(file_path(name))
    if others:
        _let_root_reach(store)
    for name in others:
        store.drop(file_path(name))


def _let_root_reach(store):
    """Lets what waits for the root come to the disk.

    It waits if an elder book wrote it and was led no more: a cut must not bring back a
    root whose files are dropped.
    """
    disk = store.disk()
    key = ("body", store.block_of(ROOT))
    for _ in range(disk.waits_for(key)):
        disk.reach(key)
