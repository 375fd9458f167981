"""What a host keeps of its worlds, and how it stays true whatever changes."""

from worldsalone.copies import Copies, copied_words, stop_word
from worldsalone.errors import UnknownWorld
from worldsalone.kinds import is_count
from worldsalone.machines import with_part
from worldsalone.mappings import Mapping
from worldsalone.sharing import share_alike
from worldsalone.stock import Stock
from worldsalone.tables import frame_of


class Hosted:
    """What a host keeps of one world, apart from the words of its frames."""

    def __init__(self, machine, doubted):
        # The frames of this machine are not looked at: their words lie in the stock.
        self.machine_kept = machine
        self.mapped = Mapping()
        self.patched = Copies(machine.meaning(), doubted)
        self.steps = 0
        self.fills = 0
        self.emulations = 0


class Hosting:
    """A box, the stock of its frames, and the worlds that lie there.

    The mapping of each world is true behind each call.
    """

    def __init__(self, box, frames, doubted):
        self._box = box
        self._stock = Stock(box, frames)
        self._doubted = tuple(doubted)
        self._hosted = {}

    def box(self):
        """The box."""
        return self._box

    def stock(self):
        """The stock, of which callers only ask."""
        return self._stock

    def admit(self, machine):
        """Opens a world and returns its number."""
        w = self._stock.open_world(machine.frames())
        self._hosted[w] = Hosted(machine, self._doubted)
        return w

    def hosted(self, w):
        """What is kept of an open world."""
        if not is_count(w) or w not in self._hosted:
            raise UnknownWorld(w)
        return self._hosted[w]

    def machine(self, w):
        """The machine of a world."""
        kept = self.hosted(w).machine_kept
        frames = [self._stock.frame_words(w, frame) for frame in range(self._stock.many(w))]
        return with_part(kept, "frames", frames)

    def take_over(self, w, machine):
        """Gives a world all parts of a machine but the frames."""
        hosted = self.hosted(w)
        kept = hosted.machine_kept
        hosted.machine_kept = machine
        if kept.special("table") != machine.special("table") or kept.is_user() != machine.is_user():
            hosted.mapped.fall_all()

    def bring(self, w, frame, is_writing, kept):
        """Brings a frame or a copy and returns its frame of the box."""
        g, moves = self._stock.brought(w, frame, is_writing, kept)
        self._fall_by(moves)
        return g

    def put_out(self, w, frame):
        """Puts a frame out."""
        self._fall_by(self._stock.put_out(w, frame))

    def share(self):
        """Shares alike frames and returns the number of frames of the box that became free."""
        freed, joined = share_alike(self._stock)
        mappings = [self._hosted[w].mapped for w in self._hosted]
        for mapping in mappings:
            for g in freed:
                mapping.fall_by_box_frame(g)
            for g in joined:
                mapping.fall_writing(g)
        return len(freed)

    def write(self, w, frame, place, word):
        """Gives a cell of a world another word."""
        self._fall_by(self._stock.write(w, frame, place, word))
        self.note_written(w, frame, place)

    def note_written(self, w, frame, place):
        """Lets fall and end what rests on a cell of a world that has another word now."""
        self.hosted(w).mapped.fall_by_cell((frame, place))
        self._end_copy(w, frame)

    def page_frame(self, w, page):
        """The frame of a page of a world, or None."""
        machine = self.machine(w)
        return frame_of(machine.meaning(), machine.frames(), machine.special("table"), page)

    def patch(self, w, page):
        """Makes a copy of the frame of a page, or closes it where no copy can be made."""
        frame = self.page_frame(w, page)
        meaning = self._box.meaning()
        self.hosted(w).patched.patch(frame)
        if stop_word(meaning) is not None:
            words = copied_words(meaning, self._doubted, self._stock.frame_words(w, frame))
            self._stock.make_copy(w, frame, words)
        where = self._stock.where(w, frame)
        if where[0] != "out":
            self.hosted(w).mapped.fall_by_box_frame(where[1])

    def unpatch(self, w, page):
        """Ends the copy or the closing of the frame of a page."""
        self._end_copy(w, self.page_frame(w, page))

    def drop(self, w):
        """Lets all entries of a world fall."""
        self.hosted(w).mapped.fall_all()

    def close(self, w):
        """Closes a world."""
        self._stock.close_world(w)
        del self._hosted[w]

    def _fall_by(self, moves):
        """Lets the entries fall that lead to where frames of their worlds have left."""
        for w, _, g in moves:
            self._hosted[w].mapped.fall_by_box_frame(g)

    def _end_copy(self, w, frame):
        """Ends the copy or the closing of a frame, if there is one."""
        self.hosted(w).patched.end(frame)
        self._fall_by(self._stock.drop_copy(w, frame))
