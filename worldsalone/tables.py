"""Translations by the tables that stand in the frames of a machine."""


def table_cell(meaning, frames, table, page):
    """The pair (table, page) of the cell that tells of a page, or None if it does not exist."""
    return (table, page) if table < len(frames) else None


def page_entry(meaning, frames, table, page):
    """The entry of a page if it leads to a frame that exists, otherwise None."""
    if table_cell(meaning, frames, table, page) is None:
        return None
    entry = meaning.entry(frames[table][page])
    return entry if entry is not None and entry[0] < len(frames) else None


def frame_of(meaning, frames, table, page):
    """The frame of a page, or None."""
    entry = page_entry(meaning, frames, table, page)
    return None if entry is None else entry[0]


def rights_at(meaning, frames, table, is_user, page):
    """The string of the rights that a page is allowed."""
    entry = page_entry(meaning, frames, table, page)
    if entry is None or (is_user and entry[1] == "system"):
        return ""
    return entry[2]


def translated(meaning, frames, table, is_user, address, right):
    """The pair (frame, place) to which an address comes for a right, or None."""
    page = meaning.page(address)
    if right not in rights_at(meaning, frames, table, is_user, page):
        return None
    return (frame_of(meaning, frames, table, page), meaning.place(address))
