"""Mappings: by which frames of the box, and with which rights, the pages of a world can be reached."""

from worldsalone.kinds import is_count
from worldsalone.tables import frame_of, rights_at, table_cell, translated

RIGHTS = "rwx"


class Mapping:
    """The entries of the pages of a world; each is a tuple (box frame, rights, cell)."""

    def __init__(self):
        self._entries = {}

    def __len__(self):
        return len(self._entries)

    def entry(self, page):
        """The entry of a page, or None."""
        return self._entries.get(page, None) if is_count(page) else None

    def as_dict(self):
        """The plain form: the dict from the pages, ascending, to pairs (box frame, rights)."""
        return {page: self._entries[page][:2] for page in sorted(self._entries)}

    def widen(self, page, box_frame, right, cell):
        """Gives the entry of a page a right, or the page a new entry with this right alone."""
        rests_on = tuple(cell)
        rights = right
        if page in self._entries and self._entries[page][0] == box_frame and self._entries[page][2] == rests_on:
            rights = self._entries[page][1] + right
        in_order = "".join([letter for letter in RIGHTS if letter in rights])
        self._entries[page] = (box_frame, in_order, rests_on)

    def fall_by_cell(self, cell):
        """Lets the entries fall that rest on a cell, and returns the list of their pages."""
        rests_on = tuple(cell)
        return self._fall([page for page in self._entries if self._entries[page][2] == rests_on])

    def fall_by_box_frame(self, box_frame):
        """Lets the entries fall that lead to a box frame, and returns the list of their pages."""
        return self._fall([page for page in self._entries if self._entries[page][0] == box_frame])

    def fall_writing(self, box_frame):
        """Lets the entries fall that lead to a box frame and have "w", and returns the list of their pages."""
        leading = [page for page in self._entries if self._entries[page][0] == box_frame]
        return self._fall([page for page in leading if "w" in self._entries[page][1]])

    def fall_all(self):
        """Lets all entries fall, and returns the list of their pages."""
        return self._fall(list(self._entries))

    def _fall(self, pages):
        """Lets the entries of these pages fall, and returns the ascending list of the pages."""
        for page in pages:
            del self._entries[page]
        return sorted(pages)

    def twin(self):
        """Another mapping with equal entries."""
        other = Mapping()
        pages = list(self._entries)
        for page in pages:
            box_frame, rights, cell = self._entries[page]
            for right in rights:
                other.widen(page, box_frame, right, cell)
        return other

    def __eq__(self, other):
        return isinstance(other, Mapping) and self._entries == other._entries


def limit_of(table, copied, closed, frame):
    """The string of the rights that a mapping may have for a frame of a world with this table."""
    if frame in copied:
        limit = ""
    else:
        limit = "r" if frame == table else "rw"
    return limit if frame in closed else limit + "x"


def wanted(machine, copied, closed, address, right):
    """How an access that a mapping refuses stands with the world: refused, wanted or barred."""
    meaning = machine.meaning()
    frames = machine.frames()
    table = machine.special("table")
    reached = translated(meaning, frames, table, machine.is_user(), address, right)
    if reached is None:
        return ("refused",)
    frame = reached[0]
    if right not in limit_of(table, copied, closed, frame):
        return ("barred", frame)
    return ("wanted", frame, table_cell(meaning, frames, table, meaning.page(address)))


def is_true_entry(page, entry, machine, holders, copied, closed):
    """Whether the entry of a page is as it has to be in a mapping that is true; see first_untrue."""
    box_frame, rights, cell = entry
    meaning = machine.meaning()
    frames = machine.frames()
    table = machine.special("table")
    # A page that the meaning does not have has no table cell, though there may be a place with its number.
    if page >= meaning.pages() or table_cell(meaning, frames, table, page) != cell:
        return False
    frame = frame_of(meaning, frames, table, page)
    if frame is None or frame not in holders:
        return False
    allowed = rights_at(meaning, frames, table, machine.is_user(), page)
    limit = limit_of(table, copied, closed, frame)
    if not all([right in allowed and right in limit for right in rights]):
        return False
    holder, is_alone = holders[frame]
    return box_frame == holder and (is_alone or "w" not in rights)


def first_untrue(mapping, machine, holders, copied, closed):
    """The least page whose entry makes a mapping untrue for a world with this machine, or None.

    holders gives, for each frame that lies in the box (or whose copy does, if it has one),
    the pair of the box frame and whether no other frame lies there.
    """
    for page in mapping.as_dict():
        if not is_true_entry(page, mapping.entry(page), machine, holders, copied, closed):
            return page
    return None
