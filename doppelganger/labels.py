"""Lists of instructions in which labels stand for places."""


def placed(items):
    """Returns the instructions of a list, with places in the place of labels.

    A label is a text. Where it is an item of the list, it stands for the place of what follows;
    where it stands in an instruction, behind the first entry, it is replaced by that place.
    """
    places = {}
    instructions = []
    for item in items:
        if isinstance(item, str):
            places[item] = len(instructions)
        else:
            instructions.append(item)
    return [(first, *[places.get(entry, entry) for entry in rest]) for first, *rest in instructions]
