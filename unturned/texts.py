"""Webs and streams as texts."""

from unturned.bounds import HOUSES, ROADS
from unturned.errors import NoText
from unturned.plain import is_order
from unturned.streams import streamfault
from unturned.webs import road_fault

# As many figures as the greatest room has.
FIGURES = 13


def web_text(web):
    """The lines of a web, a line end behind each."""
    roads, gives, takes = web
    lines = [houses_line(len(gives))]
    lines.extend([road_line(road) for road in roads])
    lines.extend([order_line("give", order) for order in gives])
    lines.extend([order_line("take", order) for order in takes])
    return "".join([line + "\n" for line in lines])


def houses_line(houses):
    """The line that tells how many houses there are."""
    return f"houses {houses}"


def road_line(road):
    """The line of a road."""
    begin, end, room = road
    return f"road {end_word(begin)} {end_word(end)} {room}"


def end_word(end):
    """The word for where a road begins or ends."""
    return "-" if end is None else str(end)


def order_line(word, order):
    """The line of a house's order."""
    roads = ",".join([str(road) for road in order]) if len(order) > 0 else "-"
    return f"{word} {roads}"


def stream_text(stream):
    """What the roads bear with blanks between."""
    return " ".join([str(bears) for bears in stream])


def read_web(thing):
    """The web whose text it is."""
    check_text(thing)
    # The empty line behind the last line end is never right, and its number is how many lines there are.
    lines = thing.split("\n")
    houses = read_houses(lines)
    roads = read_roads(lines, houses)
    gives = read_orders(lines, 1 + len(roads), "give", [begin for begin, end, room in roads], houses)
    takes = read_orders(lines, 1 + len(roads) + houses, "take", [end for begin, end, room in roads], houses)
    web = (roads, gives, takes)
    # There may be lines too many, or the last line end may lack.
    if web_text(web) != thing:
        raise NoText(1 + len(roads) + 2 * houses)
    return web


def check_text(thing):
    """NoText(None) of what is no text."""
    if not isinstance(thing, str):
        raise NoText(None)


def read_houses(lines):
    """How many houses there are by the first line."""
    for houses in range(1, HOUSES + 1):
        if lines[0] == houses_line(houses):
            return houses
    raise NoText(0)


def read_roads(lines, houses):
    """The roads of the lines behind the first, up to one that is no road's or could be none's."""
    roads = []
    for line in lines[1:ROADS + 1]:
        road = tuple([number_in(word) for word in line.split(" ")[1:]])
        # Another word than that for outside is None, too, but the line that is written of it is another one.
        if road_fault(len(roads), road, houses) is not None or road_line(road) != line:
            break
        roads.append(road)
    if len(roads) == 0:
        raise NoText(1)
    return tuple(roads)


def read_orders(lines, first, word, ends, houses):
    """The orders of all houses from this line on; ends has for each road the house that has it."""
    return tuple([read_order(lines, first + house, word, [road for road, end in enumerate(ends) if end == house])
                  for house in range(houses)])


def read_order(lines, at, word, roads):
    """The order of just these roads by this line."""
    if at < len(lines):
        order = roads_in(lines[at].split(" ")[-1])
        if is_order(order, roads) and order_line(word, order) == lines[at]:
            return order
    raise NoText(at)


def number_in(word):
    """The number whose figures the word is, without needless noughts and not too many, or None."""
    if not word.isascii() or not word.isdigit() or len(word) > FIGURES:
        return None
    if word.startswith("0") and word != "0":
        return None
    return int(word)


def roads_in(word):
    """The numbers in the word, with commas between two, () of - alone, or None."""
    if word == "-":
        return ()
    roads = tuple([number_in(part) for part in word.split(",")])
    return None if None in roads else roads


def read_stream(web, thing):
    """The stream of the web whose text it is."""
    check_text(thing)
    stream = tuple([number_in(word) for word in thing.split(" ")])
    if streamfault(web, stream) is not None:
        raise NoText(0)
    return stream
