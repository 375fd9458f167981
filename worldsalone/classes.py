"""Classes of equal terms."""


class Classes:
    """The terms that were met, as numbers, and which of them are equal.

    Terms that are the same have one number, and primitives of equal arguments are equal.
    """

    def __init__(self):
        self._numbers = {}
        self._class_of = []
        self._prims = []

    def twin(self):
        """Another one with the same terms; what is met or joined in one later changes nothing in the other."""
        other = Classes()
        other._numbers = {key: self._numbers[key] for key in self._numbers}
        other._class_of = list(self._class_of)
        other._prims = list(self._prims)
        return other

    def number(self, term):
        """The number of a term."""
        # A term can be nested deeper than a key may be, so arguments stand in keys by their numbers.
        if term[0] != "prim":
            return self._number_of_key(term)
        numbers = []
        for k, arg in enumerate(term[2]):
            # Where each row doubles a term, looking at both of its equal halves would take too long.
            known = [numbers[earlier] for earlier in range(k) if term[2][earlier] == arg]
            numbers.append(self.number(arg) if known == [] else known[0])
        return self._number_of_key((term[0], term[1], tuple(numbers)))

    def is_equal(self, one, other):
        """Whether the terms with two numbers are equal."""
        return self._class_of[one] == self._class_of[other]

    def class_of(self, number):
        """What is the same just for numbers of equal terms, until terms are joined."""
        return self._class_of[number]

    def all_classes(self):
        """The ascending list of the classes of all terms that were met."""
        return sorted(set(self._class_of))

    def all_prims(self):
        """The list of the tuples (name, classes of the arguments, class) of the primitives that were met."""
        return [self._sign(key) + (self._class_of[number],) for number, key in self._prims]

    def join(self, one, other):
        """Makes the terms with two numbers equal, and all terms that are equal because of this."""
        waiting = [(one, other)]
        while waiting:
            one, other = waiting.pop()
            kept = self._class_of[one]
            gone = self._class_of[other]
            self._class_of = [kept if told == gone else told for told in self._class_of]
            waiting.extend(self._alike_prims())

    def _number_of_key(self, key):
        """The number of the term with this key, a new one if it was not met before."""
        if key not in self._numbers:
            number = len(self._class_of)
            self._numbers[key] = number
            self._class_of.append(number)
            if key[0] == "prim":
                self._add_prim(number, key)
        return self._numbers[key]

    def _sign(self, key):
        """What is the same for primitives that are equal because their arguments are."""
        return (key[1], tuple([self._class_of[arg] for arg in key[2]]))

    def _add_prim(self, number, key):
        """Notes a primitive that was just met; its class is that of one with equal arguments."""
        sign = self._sign(key)
        for other, known in self._prims:
            if self._sign(known) == sign:
                self._class_of[number] = self._class_of[other]
        self._prims.append((number, key))

    def _alike_prims(self):
        """The list of pairs of primitives with equal arguments that are not equal yet."""
        first = {}
        found = []
        for number, key in self._prims:
            other = first.setdefault(self._sign(key), number)
            if not self.is_equal(number, other):
                found.append((other, number))
        return found
