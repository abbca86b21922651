"""How one comes from strip to strip, and which strips hang together.

A spot is (row, column, kind): a tie there, or the lean that such a tie forbids.
A table tells, at [here][there], whether one comes from strip here to strip there.
"""


def passage(rows, spot):
    """The strip from which one comes by a tie at this spot, then the strip to which."""
    column_strip = rows + spot[1]
    if spot[2] == 0:
        return (spot[0], column_strip)
    return (column_strip, spot[0])


def met_from(count, passages, start):
    """For each of count strips whether one comes to it from start; a strip comes to itself."""
    met = [strip == start for strip in range(count)]
    grown = True
    while grown:
        grown = False
        for source, target in passages:
            if met[source] and not met[target]:
                met[target] = True
                grown = True
    return met


def reach_table(count, passages):
    return [met_from(count, passages, start) for start in range(count)]


def met_by_either(line, other):
    return [here or there for here, there in zip(line, other)]


def table_with(table, step):
    """The table as it would be if one came from strip step[0] to strip step[1], too."""
    onward = table[step[1]]
    return [met_by_either(line, onward) if line[step[0]] else line for line in table]


def reached(table, strip):
    return [other for other in range(len(table)) if table[strip][other]]


def together(table, strip):
    return [other for other in range(len(table)) if table[strip][other] and table[other][strip]]


def first_of_part(table, strip):
    for other in range(strip):
        if table[strip][other] and table[other][strip]:
            return other
    return strip


def firsts(table):
    """The first of each part, rising: one strip for each part there is."""
    return [strip for strip in range(len(table)) if first_of_part(table, strip) == strip]


def leads_out(table, strip):
    """Whether one comes from the strip's part to another."""
    return any([table[strip][other] and not table[other][strip] for other in range(len(table))])


def is_led_to(table, strip):
    """Whether one comes to the strip's part from another."""
    return any([table[other][strip] and not table[strip][other] for other in range(len(table))])


def end_firsts(table):
    return [strip for strip in firsts(table) if not leads_out(table, strip)]


def start_firsts(table):
    return [strip for strip in firsts(table) if not is_led_to(table, strip)]


def needed_at_least(table):
    """So many ties more, or more, make it firm: each end needs one that leads out, each start one that leads in."""
    if len(firsts(table)) == 1:
        return 0
    return max(len(end_firsts(table)), len(start_firsts(table)))


def may_lean(table, rows, spot):
    step = passage(rows, spot)
    return not table[step[0]][step[1]]
