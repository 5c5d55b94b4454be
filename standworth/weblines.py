"""The sheets of the lines of a web: tuples (key, start, end, room, fee, owner)."""

TOWN = ""
HOME = ()


def standing_sheets(land, standing):
    """The sheets of the buy, the free and the wait that there are for a standing."""
    yard, hour = standing
    sheets = [
        (("buy", yard, hour), HOME, standing, None, land.top, TOWN),
        (("free", yard, hour), standing, HOME, None, 0, TOWN),
    ]
    if hour < land.last:
        _, fee, beds = land.yard(yard)
        sheets.append((("wait", yard, hour), standing, (yard, hour + 1), beds, fee, TOWN))
    return sheets


def road_sheets(land, road, since):
    """The sheets of the walks on a road that begin at the hour since or later."""
    yard, other, hours, fee = road
    return [
        (("walk", yard, other, hour), (yard, hour), (other, hour + hours), None, fee, TOWN)
        for hour in range(since, land.last - hours + 1)
    ]


def asking_sheet(asking):
    """The sheet of the line of an asking."""
    return (asking.key, asking.start, asking.end, asking.crews, asking.fee, asking.owner)


def web_sheets(land, askings, since):
    """The sheets, in the order of lines, of a land and of askings that do not begin before since."""
    sheets = [asking_sheet(asking) for asking in askings]
    for standing in land.standings(since):
        sheets.extend(standing_sheets(land, standing))
    for road in land.roads():
        sheets.extend(road_sheets(land, road, since))
    return sorted(sheets, key=lambda sheet: sheet[0])


def keys_at(places, sheets, at):
    """A dict of places to the keys of the sheets that have the place as their item with an index."""
    keys = {place: [] for place in places}
    for sheet in sheets:
        keys[sheet[at]].append(sheet[0])
    return keys
