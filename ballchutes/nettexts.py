"""Nets that are read from texts, and written as texts."""

from ballchutes.checking import check_net
from ballchutes.errors import BadText
from ballchutes.piecing import net_of
from ballchutes.reading import KEPT, read_lines


def read_net(text):
    """The net that a text tells; BadText, then BadPiece, then BadNet if it tells none."""
    if not isinstance(text, str):
        raise BadText(0, 0)
    body, pieces = read_lines(text)
    return net_of(body, pieces)


def write_net(net):
    """A text that is read as the net, with names without dots."""
    check_net(net)
    words = words_for([*net.knots, *net.outlets, *net.inlets])
    lines = [f"inlet {words[inlet]}: {words[knot]}" for inlet, knot in net.inlets.items()]
    for knot, (front, turn) in net.knots.items():
        ahead = f"{row_text(front, words)} / " if front else ""
        lines.append(f"knot {words[knot]}: {ahead}{row_text(turn, words)}")
    lines.extend([f"outlet {words[outlet]}" for outlet in net.outlets])
    return "".join([line + "\n" for line in lines])


def row_text(row, words):
    """The drops of a row, each in brackets, with these words for its targets."""
    drops = [" ".join([words[target] for target in drop]) for drop in row]
    return " ".join([f"({drop})" for drop in drops])


def words_for(names):
    """For each of these names the word by which it is written, none twice."""
    words = {}
    taken = {word: True for word in KEPT}
    for name in names:
        word = name.replace(".", "")
        number = 2
        while word in taken:
            word = name.replace(".", "") + str(number)
            number += 1
        words[name] = word
        taken[word] = True
    return words
