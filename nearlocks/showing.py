"""Plans, books and houses as texts: words parted by one blank, rows by line feeds."""

from nearlocks.tales import all_events


def show_plan(plan):
    return "\n".join(group_rows(plan))


def group_rows(group):
    name, bound, members = group
    rows = [f"group {name} {bound}"]
    for member in members:
        if isinstance(member, str):
            rows.append(f"hand {member}")
        else:
            rows.extend(group_rows(member))
    rows.append("end")
    return rows


def show_book(book):
    rows = []
    for name, program in book:
        rows.append(f"program {name}")
        rows.extend([show_row(row) for row in program])
    return "\n".join(rows)


def show_row(row):
    # Only the looks of a take may be None, and a take without looks is its word alone.
    return " ".join([str(part) for part in row if part is not None])


def house_rows(house):
    """The rows of a house's text, or of a draft's."""
    rows = [show_hand(name, house.hands[name]) for name in house.hands]
    return rows + [show_group(name, house.groups[name]) for name in house.groups]


def show_hand(name, hand):
    """A hand's row in a house's text."""
    row, last, how, looks = hand
    return f"hand {name} {row} {last} {how} {show_maybe(looks)}"


def show_group(name, group):
    """A group's row in a house's text."""
    holder, count, places = group
    return f"group {name} {show_maybe(holder)} {count} {show_places(places)}"


def show_maybe(thing):
    return "-" if thing is None else str(thing)


def show_places(places):
    if len(places) == 0:
        return "-"
    return ",".join([member if standing else member + "!" for member, standing in places])


def show_events(events):
    """The events of all steps, in one row."""
    return " ; ".join([" ".join([str(part) for part in event]) for event in all_events(events)])
