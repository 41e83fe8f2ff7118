"""Programs written as texts, and read from them."""

from callpact.errors import BadText
from callpact.programs import PLACES, check_program

FIGURES = "0123456789"
MOST_FIGURES = 3
NO_BOXES = "-"


def boxes_word(boxes):
    """Tell the word for boxes of a house."""
    if len(boxes) == 0:
        return NO_BOXES
    return "".join([str(box) for box in boxes])


def house_line(house):
    """Tell the line for a house."""
    ins, out, kept = house
    return f"house {boxes_word(ins)} {out} {boxes_word(kept)}"


def routine_lines(routine):
    """Tell the lines for a routine."""
    house, rows = routine
    return [f"routine {house}"] + [" ".join([str(part) for part in row]) for row in rows]


def written(program):
    """Tell the text for a program."""
    check_program(program)
    houses, routines = program
    lines = [house_line(house) for house in houses]
    for routine in routines:
        lines.extend(routine_lines(routine))
    return "\n".join(lines)


def are_figures(word):
    """Tell whether a word is one or more figures."""
    return len(word) > 0 and all([sign in FIGURES for sign in word])


def is_number_word(word):
    """Tell whether a word is a number without a needless 0."""
    if not are_figures(word) or len(word) > MOST_FIGURES:
        return False
    return word == "0" or word[0] != "0"


def is_boxes_word(word):
    """Tell whether a word is for boxes handed in or kept."""
    return word == NO_BOXES or are_figures(word)


def is_house_line(words):
    """Tell whether a line's words are for a house."""
    if len(words) != 4 or words[0] != "house":
        return False
    return is_boxes_word(words[1]) and is_number_word(words[2]) and is_boxes_word(words[3])


def is_routine_line(words):
    """Tell whether a line's words are for a routine."""
    return len(words) == 2 and words[0] == "routine" and is_number_word(words[1])


def is_row_line(words):
    """Tell whether a line's words are for a row."""
    places = PLACES.get(words[0])
    if places is None or len(words) != len(places) + 1:
        return False
    return all([is_number_word(word) for word in words[1:]])


def boxes_read(word):
    """Tell the boxes that a word is for."""
    if word == NO_BOXES:
        return ()
    return tuple([int(figure) for figure in word])


def house_read(words):
    """Tell the house that a line's words are for."""
    return (boxes_read(words[1]), int(words[2]), boxes_read(words[3]))


def row_read(words):
    """Tell the row that a line's words are for."""
    return (words[0], *[int(word) for word in words[1:]])


def read(text):
    """Tell the program that a text is for."""
    houses = []
    routines = []
    for number, line in enumerate(text.split("\n")):
        words = line.split(" ")
        if is_house_line(words) and len(routines) == 0:
            houses.append(house_read(words))
        elif is_routine_line(words):
            routines.append((int(words[1]), []))
        elif is_row_line(words) and len(routines) > 0:
            _, rows = routines[-1]
            rows.append(row_read(words))
        else:
            raise BadText(number)
    program = (tuple(houses), tuple([(house, tuple(rows)) for house, rows in routines]))
    check_program(program)
    return program
