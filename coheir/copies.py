"""Where a row moves copies: values of a play, and marks of heaps alike."""


def copies_behind(row, home, own, other):
    """Return what the home, and the cache that makes the row, have for a copy behind it."""
    source, back = row[7], row[8]
    for_home = {"keep": home, "own": own, "other": other}
    for_own = {"keep": own, "home": home, "other": other}
    return for_home[back], for_own[source]


def split_copies_behind(row, home, own, got):
    """Return what the home and the own cache have behind a split row, and the list of what is sent."""
    sends, source, back = row[6:]
    told = {"home": home, "own": own, "got": got}
    for_home = home if back == "keep" else told[back]
    for_own = own if source == "keep" else told[source]
    return for_home, for_own, [told[word] for _, word in sends]
