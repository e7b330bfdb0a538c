"""Values for tests: lists for tuples, and wrong things made of right ones."""


def listed(value):
    """A copy of value with lists for tuples, at any depth."""
    if isinstance(value, (list, tuple)):
        return [listed(part) for part in value]
    return value


def only_tuples(value):
    """Whether nothing in value is a list."""
    if isinstance(value, tuple):
        return all(only_tuples(part) for part in value)
    return not isinstance(value, list)


def parts_of(value, way=()):
    """All pairs of a way into value, and of what stands there."""
    told = [(way, value)]
    if isinstance(value, tuple):
        for place, part in enumerate(value):
            told.extend(parts_of(part, way + (place,)))
    return told


def changed(value, way, part):
    """value with part at the end of way."""
    if way == ():
        return part
    place = way[0]
    return value[:place] + (changed(value[place], way[1:], part),) + value[place + 1:]


def wrong_for(part):
    """What never stands where part does."""
    if isinstance(part, bool):
        return [int(part), None, "True", ()]
    if isinstance(part, int):
        return [bool(part), True, False, str(part), (part,), -1]
    if isinstance(part, str):
        return [part + "s", 0, None, ()]
    if isinstance(part, tuple):
        return [list(part), listed(part), 0, True, "()"]
    return []


def broken(value, spared=()):
    """All unlike copies of value with one wrong thing in it, but those in spared."""
    told = []
    for way, part in parts_of(value):
        told.extend([changed(value, way, wrong) for wrong in wrong_for(part)])
    told.extend([None, "", 7, True, (), [], (None,), value[:-1], value + (0,), value + (None,), (value,)])
    known = [repr(other) for other in spared] + [repr(value)]
    return [other for other in told if repr(other) not in known]


def check_described(case, described, right, spared=()):
    """described takes each of right, and no broken copy of one but those in spared."""
    for value in right:
        with case.subTest(right=value):
            case.assertIs(described(value), True)
        for other in broken(value, spared):
            with case.subTest(of=value, wrong=other):
                case.assertIs(described(other), False)
