"""Changes of maps."""

from sameshape.codes import order_of
from sameshape.errors import ChangeDoesNotApply, ChangesDoNotFollow
from sameshape.limits import checked
from sameshape.pairs import entries_of, keys_of, values_of


def changes_between(first, second):
    """Return the changes that lead from the first map to the second one."""
    before = values_of(first)
    after = values_of(second)
    rows = [(key, before.get(key), after.get(key)) for key in keys_of((first, second))]
    return tuple([row for row in rows if row[1] != row[2]])


def apply_changes(contents, changes):
    """Return the contents of the map after some changes."""
    values = values_of(contents)
    for place, (key, before, _) in enumerate(changes):
        if values.get(key) != before:
            raise ChangeDoesNotApply(place)
    for key, _, after in changes:
        values[key] = after
    return checked(entries_of(values))


def inverted(changes):
    """Return the changes that lead back."""
    return tuple([(key, after, before) for key, before, after in changes])


def composed(first, second):
    """Return the changes that do what the first and then the second changes do."""
    found = {change[0]: change for change in first}
    for key, before, after in second:
        if key not in found:
            found[key] = (key, before, after)
        elif found[key][2] == before:
            found[key] = (key, found[key][1], after)
        else:
            raise ChangesDoNotFollow()
    rows = [found[key] for key in sorted(found, key=order_of)]
    return tuple([row for row in rows if row[1] != row[2]])
