"""Papers that state whether a grouping of an ask is finest as a permit of an asker."""

from mumhouse.groupings import divided, divisions_of
from mumhouse.mumpapers import mum_paper


def permit_paper(hall, asker, ask, grouping):
    """Return a paper "finest", "finer" or "tells" of the permit."""
    paper = mum_paper(hall.with_permit(asker, ask, grouping))
    if paper[0] == "tells":
        return "tells", paper
    rows = []
    for n, group in enumerate(grouping):
        row = []
        for division in divisions_of(group):
            found = mum_paper(hall.with_permit(asker, ask, divided(grouping, n, division)))
            if found[0] == "mum":
                return "finer", n, division, found
            row.append(found)
        rows.append(tuple(row))
    return "finest", paper, tuple(rows)
