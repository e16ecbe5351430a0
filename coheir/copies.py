"""Where a row moves copies: values of a play, and marks of heaps alike."""


def copies_behind(row, home, own, other):
    """Return what the home, and the cache that makes the row, have for a copy behind it."""
    source, back = row[7], row[8]
    for_home = {"keep": home, "own": own, "other": other}
    for_own = {"keep": own, "home": home, "other": other}
    return for_home[back], for_own[source]
