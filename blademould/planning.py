"""Plies as spans (from, up to), that not with it: their ends, and the plan of what is missing."""


def count_ends(spans, stations):
    """How many of the spans' ends lie at each station."""
    ends = [0] * stations
    for first, behind in spans:
        # The root's and the tip's edges lie between no two stations: a span that reaches one has no end there.
        if first > 0:
            ends[first] += 1
        if behind < stations:
            ends[behind] += 1
    return ends


def runs_lacking(lacking, height):
    """The spans, each as long as can be, of stations that lack height layers or more, from the root on."""
    runs = []
    first = 0
    for station, lacks_here in enumerate(lacking):
        if lacks_here < height:
            if first < station:
                runs.append((first, station))
            first = station + 1
    if first < len(lacking):
        runs.append((first, len(lacking)))
    return runs


def plan_spans(lacking):
    """The plan's spans: those of the first layer that is missing, then those of the next ones."""
    spans = []
    for height in range(1, max(lacking) + 1):
        spans.extend(runs_lacking(lacking, height))
    return spans


def fewest_spans(lacking):
    """How many spans make just what is lacking, at least."""
    fewest = 0
    lacked_before = 0
    for lacks_here in lacking:
        # What the station before lacks too, its spans make as they go on; only what this one lacks more needs new ones.
        fewest += max(lacks_here - lacked_before, 0)
        lacked_before = lacks_here
    return fewest
