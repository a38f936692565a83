"""Edits, which replace slices of given contents."""

from sameshape.limits import checked


def apply_edits(contents, edits):
    """Return the contents after some edits."""
    found = []
    place = 0
    for start, end, inserted in edits:
        found.extend(contents[place:start])
        found.extend(inserted)
        place = end
    found.extend(contents[place:])
    return checked(tuple(found))


def clashes(ours, theirs):
    """Return the tuple of the pairs of the indices of edits that clash."""
    found = []
    first = 0
    for i, (start, end, inserted) in enumerate(ours):
        # An edit that ends before this one starts also ends before all later ones.
        while first < len(theirs) and theirs[first][1] < start:
            first += 1
        j = first
        while j < len(theirs) and theirs[j][0] <= end:
            if theirs[j] != (start, end, inserted):
                found.append((i, j))
            j += 1
    return tuple(found)


def merged_edits(ours, theirs):
    """Return all edits of both, or None if two of them clash."""
    if clashes(ours, theirs):
        return None
    # Edits with the same start touch, so they are equal.
    found = {edit[0]: edit for edit in ours + theirs}
    return tuple([found[start] for start in sorted(found)])
