"""Relations that explain an observation: papers, and rounds in what is ahead of what."""

from coheir.errors import BadNumber, NoAnswer
from coheir.events import BEGINNING, Events
from coheir.plain import check_observation
from coheir.rounds import has_round, shortest_round
from coheir.whole import is_tuple_of, is_whole


def is_an_order(order):
    """Tell whether a string is one of the three orders."""
    return order in ("plain", "buffered", "loose")


def check_order(order):
    """Raise BadNumber if a string is no order."""
    if not is_an_order(order):
        raise BadNumber("an order is plain, buffered or loose")


def events_of(program, observation):
    """Return the ascending list of the events of an observation."""
    check_observation(program, observation)
    return list(Events(program, observation).instructions)


def kept_pairs(program, observation, order):
    """Return the ascending list of the pairs of events of one core that the order keeps."""
    check_observation(program, observation)
    check_order(order)
    return pairs_kept(program, Events(program, observation), order)


def pairs_kept(program, events, order):
    """Return the ascending list of the pairs of one core that the order keeps."""
    return [(one, other) for one, other in events.in_core() if is_kept(program[one[0]], one[1], other[1], order)]


def is_kept(core, early, late, order):
    """Tell whether two instructions of a core stay in their order."""
    if order == "plain" or core[early][0] != "store":
        return True
    if any(between[0] in ("swap", "fence") for between in core[early + 1:late]):
        return True
    word = core[late][0]
    if word == "store":
        return order == "buffered" or core[early][1] == core[late][1]
    return word != "load"


def does_fit(program, observation, paper):
    """Tell whether a tuple is a paper that fits."""
    check_observation(program, observation)
    return fits(Events(program, observation), paper)


def fits(events, paper):
    """Tell whether a tuple is a paper of these events, and fits."""
    if not is_paper(events, paper):
        return False
    sources, lines = paper
    return all(can_be_read(events, event, source) for event, source in sources) and swaps_fit(events, sources, lines)


def is_paper(events, paper):
    """Tell whether a tuple is a paper of these events."""
    if not is_tuple_of(paper, 2) or not isinstance(paper[0], tuple) or not is_tuple_of(paper[1], 4):
        return False
    sources, lines = paper
    if not all(is_tuple_of(pair, 2) and is_event(pair[0]) and is_event(pair[1]) for pair in sources):
        return False
    if [event for event, _ in sources] != list(events.told):
        return False
    return all(has_writers(row, events.writers(line)) for line, row in enumerate(lines))


def has_writers(row, writers):
    """Tell whether a tuple has the events that write a line, each once."""
    return isinstance(row, tuple) and all(is_event(event) for event in row) and sorted(row) == writers


def is_event(pair):
    """Tell whether a value has the form of an event: a pair of integers."""
    return is_tuple_of(pair, 2) and is_whole(pair[0]) and is_whole(pair[1])


def can_be_read(events, event, source):
    """Tell whether a source has what an event reads, and is not this event."""
    if source == BEGINNING:
        return events.told[event] == 0
    if source == event or not events.has_written(source) or events.line(source) != events.line(event):
        return False
    return events.value(source) == events.told[event]


def swaps_fit(events, sources, lines):
    """Tell whether each swap stands in its line just behind its source."""
    swaps = [(event, source) for event, source in sources if events.word(event) == "swap"]
    for event, source in swaps:
        row = (BEGINNING,) + lines[events.line(event)]
        if row[row.index(event) - 1] != source:
            return False
    return True


def ahead_by_lines(program, observation, paper):
    """Return the ascending list of the pairs of the relation by lines."""
    check_observation(program, observation)
    return pairs_by_lines(fitting(program, observation, paper), paper)


def fitting(program, observation, paper):
    """Return the events of an observation, or raise NoAnswer if the paper does not fit."""
    events = Events(program, observation)
    if not fits(events, paper):
        raise NoAnswer("the paper does not fit")
    return events


def pairs_by_lines(events, paper):
    """Return the ascending list of the pairs of the relation by lines."""
    core = [(one, other) for one, other in events.in_core() if are_of_one_line(events, one, other)]
    return sorted(set(core + by_source(paper) + by_line(paper) + by_reading(events, paper)))


def are_of_one_line(events, one, other):
    """Tell whether two events are of the same line."""
    return events.line(one) is not None and events.line(one) == events.line(other)


def by_source(paper):
    """Return the pairs of a source and an event that reads."""
    return [(source, event) for event, source in paper[0] if source != BEGINNING]


def by_line(paper):
    """Return the pairs of an event and a later one in the order of its line."""
    return [(one, other) for row in paper[1] for at, one in enumerate(row) for other in row[at + 1:]]


def by_reading(events, paper):
    """Return the pairs of a load and an event that stands behind its source in the order of the line."""
    sources, lines = paper
    found = []
    for event, source in sources:
        if events.word(event) == "load":
            row = (BEGINNING,) + lines[events.line(event)]
            found.extend([(event, other) for other in row[row.index(source) + 1:]])
    return found


def ahead_whole(program, observation, paper, order):
    """Return the ascending list of the pairs of the whole relation."""
    check_observation(program, observation)
    check_order(order)
    return pairs_whole(program, fitting(program, observation, paper), paper, order)


def pairs_whole(program, events, paper, order):
    """Return the ascending list of the pairs of the whole relation."""
    source = [(one, other) for one, other in by_source(paper) if order == "plain" or one[0] != other[0]]
    kept = pairs_kept(program, events, order)
    return sorted(set(kept + source + by_line(paper) + by_reading(events, paper)))


def round_in(pairs):
    """Return a shortest round of a list of pairs of events, or None."""
    return shortest_round(pairs)


def explains(program, observation, paper, order):
    """Tell whether a paper explains an observation by an order."""
    check_observation(program, observation)
    check_order(order)
    events = Events(program, observation)
    if not fits(events, paper) or has_round(pairs_by_lines(events, paper)):
        return False
    return not has_round(pairs_whole(program, events, paper, order))
