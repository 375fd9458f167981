"""Sharing: alike frames lie in one frame of the box."""


def holds_copy(stock, g):
    """Whether a copy lies in a frame of the box."""
    return any([isinstance(frame, tuple) for _, frame in stock.lying(g)])


def groups(stock):
    """The list of the groups of full frames of the box that have equal words, without those that hold copies."""
    found = {}
    for g in sorted(stock.full()):
        if not holds_copy(stock, g):
            w, frame = stock.lying(g)[0]
            found.setdefault(tuple(stock.frame_words(w, frame)), []).append(g)
    return [list(found[words]) for words in found]


def least_full(stock):
    """The number of full frames of the box that there would be after sharing."""
    return len(groups(stock)) + len([g for g in stock.full() if holds_copy(stock, g)])


def share_alike(stock):
    """Shares alike frames; returns the frames of the box that became free, and those that were joined."""
    freed = []
    joined = []
    for group in groups(stock):
        others = group[1:]
        if others != []:
            stock.unite(group[0], others)
            freed.extend(others)
            joined.append(group[0])
    return (sorted(freed), joined)
