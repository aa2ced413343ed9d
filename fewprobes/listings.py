"""Texts and edges with how often runs went along them."""

from fewprobes.compiler import statement_counts
from fewprobes.flow import flow_of
from fewprobes.profiles import check_profile
from fewprobes.readings import right_reading


def listing(text, profile):
    """A text with a column ahead of how often the first statement of each line was begun."""
    begun_at = {}
    for line, many in line_counts(text, profile):
        if line not in begun_at:
            begun_at[line] = many
    wide = max([len(str(begun_at[line])) for line in begun_at], default=0)
    rows = text.split("\n")
    # Behind the last line end no further line begins.
    if rows[-1] == "":
        rows.pop()
    found = []
    for number, row in enumerate(rows, 1):
        told = str(begun_at[number]).rjust(wide) + ": " if number in begun_at else " " * (wide + 2)
        found.append(told + row + "\n")
    return "".join(found)


def line_counts(text, profile):
    """For each statement of a text the line in which it begins, and how often it was begun."""
    reading = right_reading(text)
    return list(zip(reading.lines, statement_counts(reading.kept[0], profile)))


def unrun_lines(text, profile):
    """The lines in which a statement begins that was never begun."""
    return sorted(set([line for line, many in line_counts(text, profile) if many == 0]))


def ranked(program, profile):
    """All edges with their counts, those first that were gone most often."""
    flow = flow_of(program)
    check_profile(flow, profile)
    order = sorted([(0 - many, number) for number, many in enumerate(profile[2])])
    return [(0 - less, flow.edges[number]) for less, number in order]
