"""A desk: it is told lines and answers them by an office that it keeps."""

from waysranked.apart import least_apart
from waysranked.changes import span_of
from waysranked.errors import NoLine
from waysranked.fronts import front_of
from waysranked.nets import cost_along
from waysranked.office import Office
from waysranked.texts import net_of_lines, number_of_figures, way_text
from waysranked.walks import walk_of

MOST_FIGURES = 30


def answer_ask(office, parts):
    """Find a new ask and tell its number."""
    start, goal, many = parts
    return str(office.ask(start, goal, many=many))


def answer_drop(office, parts):
    """Drop an ask."""
    office.drop(parts[0])
    return "ok"


def answer_undo(office, parts):
    """Undo the last deed that stands."""
    office.undo()
    return "ok"


def answer_turn(office, parts):
    """Turn a road's cost and tell which asks were kept."""
    road, cost = parts
    return text_of_turn(office.turn(road, cost))


def answer_shut(office, parts):
    """Shut a road and tell which asks were kept."""
    return text_of_turn(office.turn(parts[0], None))


def answer_ways(office, parts):
    """Tell the told ways of an ask."""
    told, paper = office.told_of(parts[0])
    return listed([way_text(way) for way in told])


def answer_costs(office, parts):
    """Tell what the told ways of an ask cost."""
    told, paper = office.told_of(parts[0])
    return listed([str(cost_along(office.net(), way)) for way in told])


def answer_shows(office, parts):
    """Tell what the paper of an ask shows."""
    return office.shows(parts[0])


def answer_walk(office, parts):
    """Tell the walk of a number."""
    start, goal, number = parts
    walk = walk_of(office.net(), start, goal, number)
    return listed([] if walk is None else [way_text(walk)])


def answer_apart(office, parts):
    """Tell the ways of a least set that is apart."""
    start, goal, many, word = parts
    ways = least_apart(office.net(), start, goal, many=many, by=word)
    return listed([] if ways is None else [way_text(way) for way in ways])


def answer_front(office, parts):
    """Tell the pairs of a front."""
    start, goal = parts
    return listed([f"{cost}/{time}" for cost, time, way in front_of(office.net(), start, goal)])


def answer_span(office, parts):
    """Tell the span of a road."""
    start, goal, many, road = parts
    low, high = span_of(office.net(), start, goal, road, many=many)
    return f"{low} {high}"


def listed(words):
    """Tell words with blanks between, none where there are none."""
    if not words:
        return "none"
    return " ".join(words)


def text_of_turn(told):
    """Tell the text of the asks that were kept and of those found anew."""
    kept, anew = told
    return " ".join(["kept"] + [str(number) for number in kept] + ["anew"] + [str(number) for number in anew])


# What stands behind the first word of a line: "n" for a number, "w" for any word.
FORMS = {
    "net": "w",
    "ask": "nnn",
    "drop": "n",
    "undo": "",
    "turn": "nn",
    "shut": "n",
    "ways": "n",
    "costs": "n",
    "shows": "n",
    "walk": "nnn",
    "apart": "nnnw",
    "front": "nn",
    "span": "nnnn",
}
# What answers each line but that of a net, which makes a new office.
ANSWERS = {
    "ask": answer_ask,
    "drop": answer_drop,
    "undo": answer_undo,
    "turn": answer_turn,
    "shut": answer_shut,
    "ways": answer_ways,
    "costs": answer_costs,
    "shows": answer_shows,
    "walk": answer_walk,
    "apart": answer_apart,
    "front": answer_front,
    "span": answer_span,
}


class Desk:
    """What is told lines, with an office of its own."""

    def __init__(self):
        self.office = Office((2, ()))

    def say(self, line):
        """Tell the answer to a line."""
        if not isinstance(line, str):
            raise NoLine("this is no text")
        word, *rest = line.split(" ")
        if word not in FORMS:
            raise NoLine("this line begins with another word than a line may")
        parts = parts_of(FORMS[word], rest)
        if word == "net":
            self.office = Office(net_of_word(parts[0]))
            return "ok"
        answer = ANSWERS[word]
        return answer(self.office, parts)


def parts_of(form, words):
    """Tell the numbers and words that stand behind the first word of a line, as a list."""
    if len(words) != len(form) or "" in words:
        raise NoLine("this line has not the words that it is to have")
    parts = []
    for sign, word in zip(form, words):
        part = number_of_figures(word, MOST_FIGURES) if sign == "n" else word
        if part is None:
            raise NoLine("there is a word in this line where a number is to be")
        parts.append(part)
    return parts


def net_of_word(word):
    """Tell the net that a word writes with a semicolon for each line end and a comma for each blank."""
    return net_of_lines([line.replace(",", " ") for line in word.split(";")])
