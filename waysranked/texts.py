"""Nets and ways as texts, and nets read from texts."""

from waysranked.errors import NoText, NoWay
from waysranked.nets import MOST_PLACES, MOST_ROADS, check_net, is_road_among
from waysranked.wholes import is_within

# The greatest number in the text of a net has this many figures.
MOST_FIGURES = 2


def net_text(net):
    """Tell the text of a net."""
    check_net(net)
    places, roads = net
    return "\n".join([str(places)] + [" ".join([str(part) for part in road]) for road in roads])


def way_text(way):
    """Tell the text of a way, a tuple of numbers of roads."""
    if not isinstance(way, tuple) or not all([is_within(road, 0, MOST_ROADS - 1) for road in way]):
        raise NoWay("this is no tuple of numbers of roads")
    if not way:
        return "."
    return "-".join([str(road) for road in way])


def net_read(text):
    """Tell the net that a text writes."""
    if not isinstance(text, str):
        raise NoText(-1)
    return net_of_lines(text.split("\n"))


def net_of_lines(lines):
    """Tell the net that these lines write, one at least."""
    places = number_of_figures(lines[0], MOST_FIGURES)
    if not is_within(places, 1, MOST_PLACES):
        raise NoText(0)
    roads = []
    for at, line in enumerate(lines[1:], start=1):
        road = parts_of_line(line)
        if at > MOST_ROADS or not is_road_among(places, road):
            raise NoText(at)
        roads.append(road)
    return places, tuple(roads)


def parts_of_line(line):
    """Tell the numbers that a line writes with one blank between, as a tuple, with None for what is no number."""
    return tuple([number_of_figures(word, MOST_FIGURES) for word in line.split(" ")])


def number_of_figures(word, most):
    """Tell the whole number that a word of so many figures at most writes, None where it writes none."""
    # Python reads signs, blanks and noughts ahead, too, and numbers of very many figures not at all.
    if len(word) > most or not word.isascii() or not word.isdigit():
        return None
    if word.startswith("0") and word != "0":
        return None
    return int(word)
