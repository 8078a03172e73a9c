"""Papers that state whether a grouping of an ask is finest."""

from mumhouse.groupings import divisions_of
from mumhouse.halls import lets_grouping
from mumhouse.mumpapers import mum_paper


def finest_paper(hall, ask, grouping):
    """Return a paper "finest", "finer" or "tells" of the grouping; "tells" if it is not mum aloud."""
    lets_grouping(hall, ask, grouping)
    papers = [mum_paper(hall(ask, group)) for group in grouping]
    for n, paper in enumerate(papers):
        if paper[0] == "tells":
            return "tells", n, paper
    rows = []
    for n, group in enumerate(grouping):
        row = []
        for division in divisions_of(group):
            pair = told_side(hall, ask, division)
            if pair is None:
                return "finer", n, division, tuple([mum_paper(hall(ask, half)) for half in division])
            row.append(pair)
        rows.append(tuple(row))
    return "finest", tuple(papers), tuple(rows)


def told_side(hall, ask, sides):
    """Return (side, paper): the first of some groups behind which the hall tells, and a paper of this; or None."""
    for side, group in enumerate(sides):
        paper = mum_paper(hall(ask, group))
        if paper[0] == "tells":
            return side, paper
    return None
