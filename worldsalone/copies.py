"""The copies of patched frames, in which doubtful words are exchanged for a word that stops."""

from worldsalone.errors import UnknownName
from worldsalone.kinds import is_key_of


def is_stop_word(meaning, word):
    """Whether a bare step that fetches a word is never done."""
    code = meaning.code_of(word)
    if code is None:
        return True
    user = meaning.book().instruction(code[0])[2]
    return len(user) > 0 and user[0][0] == "trap"


def stop_words(meaning):
    """The ascending list of the stop words."""
    return [word for word in range(meaning.words()) if is_stop_word(meaning, word)]


def stop_word(meaning):
    """The least stop word, or None."""
    words = stop_words(meaning)
    return None if words == [] else words[0]


def is_doubtful(meaning, doubted, word):
    """Whether a word has the code of an instruction that is doubted, and is no stop word."""
    code = meaning.code_of(word)
    return code is not None and code[0] in doubted and not is_stop_word(meaning, word)


def doubtful_places(meaning, doubted, words):
    """The ascending list of the places of words at which a doubtful word stands."""
    return [place for place, word in enumerate(words) if is_doubtful(meaning, doubted, word)]


def copied_words(meaning, doubted, words):
    """The list of the words of a copy of a frame with these words."""
    stop = stop_word(meaning)
    if stop is None:
        raise UnknownName("stop")
    return [stop if is_doubtful(meaning, doubted, word) else word for word in words]


def check_doubted(meaning, doubted):
    """Raises UnknownName for the first thing that is not the name of an instruction."""
    names = [instruction[0] for instruction in meaning.book().instructions()]
    for name in doubted:
        if not is_key_of(name, names):
            raise UnknownName(name)


class Copies:
    """Which frames of a world have a copy, and which ones are closed."""

    def __init__(self, meaning, doubted):
        check_doubted(meaning, doubted)
        self._meaning = meaning
        self._doubted = tuple(doubted)
        self._has_stop = stop_word(meaning) is not None
        self._patched = {}

    def patch(self, frame):
        """Notes that a frame has a copy, or is closed where no copy can be made."""
        self._patched[frame] = True

    def end(self, frame):
        """Notes that a frame neither has a copy nor is closed."""
        self._patched.pop(frame, None)

    def copied(self):
        """The ascending list of the frames that have a copy."""
        return sorted(self._patched) if self._has_stop else []

    def closed(self):
        """The ascending list of the frames that are closed."""
        return [] if self._has_stop else sorted(self._patched)

    def is_covered(self, frame, words):
        """Whether a frame that has these words is covered."""
        return frame in self._patched or doubtful_places(self._meaning, self._doubted, words) == []

    def twin(self):
        """Another one with equal copies."""
        other = Copies(self._meaning, self._doubted)
        patched = list(self._patched)
        for frame in patched:
            other.patch(frame)
        return other

    def __eq__(self, other):
        if not isinstance(other, Copies) or self._meaning != other._meaning:
            return False
        return self._doubted == other._doubted and sorted(self._patched) == sorted(other._patched)
