"""A shell: requests that lay out a WORLD and play it, look at what there is, undo and redo."""

from sendershade.alike import other_world
from sendershade.errors import BadLine, NoPaper, NothingDone, NoToken, Unfit
from sendershade.forms import frozen
from sendershade.lines import lines_of, number_in
from sendershade.plans import played_out, prompt
from sendershade.shades import cut, shade
from sendershade.shares import share
from sendershade.sights import sight_of
from sendershade.texts import plan_text, read_choice, read_wishes, read_world, view_text, world_text
from sendershade.threads import how_many
from sendershade.views import view_of
from sendershade.worlds import is_choice, is_wishes

# Of each word what it is, how many numbers stand behind it, whether there is a text.
HEADS = {
    "world": ("deed", 0, True), "wishes": ("deed", 0, True), "step": ("deed", 0, True), "go": ("deed", 0, False),
    "hold": ("deed", 0, False), "back": ("deed", 1, False),
    "now": ("look", 0, False), "start": ("look", 0, False), "steps": ("look", 0, False), "seen": ("look", 0, False),
    "lies": ("look", 1, False), "many": ("look", 0, False), "who": ("look", 1, False), "cut": ("look", 2, False),
    "share": ("look", 2, False), "other": ("look", 2, False),
    "undo": ("undo", 0, False), "redo": ("redo", 0, False),
}
MOST_FIGURES = 4


def first_desk():
    """The DESK of the least WORLD there is."""
    world = ((1, 1), ((), ()), ((1, 0, None, True, True),), (None,), 0, (((), (), ()),), (), ())
    return ((world, ()), (), ())


def _is_number_word(word):
    return len(word) <= MOST_FIGURES and number_in(word) is not None


def _kind_of(lines):
    """What the request with these lines is; None if they are those of none."""
    if lines == []:
        return None
    word, *numbers = lines[0].split(" ")
    if word not in HEADS:
        return None
    kind, many, with_text = HEADS[word]
    if len(numbers) != many or not all([_is_number_word(own) for own in numbers]):
        return None
    if (len(lines) > 1) != with_text or not all([line[:1] == " " for line in lines[1:]]):
        return None
    return kind


def is_request(thing):
    """Whether thing is a string that is one request, whatever its text."""
    return isinstance(thing, str) and _kind_of(lines_of(thing)) is not None


def requests(text):
    """The list of the requests of text."""
    told, begun, lines = [], 0, lines_of(text)
    for place in range(1, len(lines) + 1):
        if place == len(lines) or lines[place][:1] != " ":
            if _kind_of(lines[begun:place]) is None:
                raise BadLine(begun + 1)
            told.append("\n".join(lines[begun:place]))
            begun = place
    return told


def _parts(request):
    """The triple of the first word, of the numbers behind it, and of the text of a request."""
    lines = lines_of(request)
    word, *numbers = lines[0].split(" ")
    return (word, [int(number) for number in numbers], "\n".join([line[1:] for line in lines[1:]]))


def _with_wishes(start, wishes):
    """start with these WISHES; Unfit() if they are none of its NET and REST."""
    if not is_wishes(start[0], start[1], wishes):
        raise Unfit()
    return start[:3] + (wishes,) + start[4:]


def _with_choice(scene, choice):
    """scene with choice behind its PLAN; Unfit() if it does not suit."""
    start, plan = scene
    if not is_choice(played_out(start, plan), choice):
        raise Unfit()
    return (start, plan + (choice,))


def scene_after(scene, request):
    """The SCENE behind a deed."""
    if _kind_of(lines_of(request)) != "deed":
        raise Unfit()
    scene = frozen(scene)
    start, plan = scene
    word, numbers, text = _parts(request)
    if word == "world":
        return (read_world(text), ())
    if word == "wishes":
        return (_with_wishes(start, read_wishes(text)), ())
    if word == "step":
        return _with_choice(scene, read_choice(text))
    if word == "go":
        return (start, plan + (prompt(played_out(start, plan)),))
    if word == "hold":
        return (start, plan + (((), ()),))
    if numbers[0] > len(plan):
        raise Unfit()
    return (start, plan[:numbers[0]])


def _spaced(numbers):
    return " ".join([str(number) for number in numbers])


def _lies(world, house):
    """What lies in a HOUSE; Unfit() if there is none such."""
    if house >= world[0][1]:
        raise Unfit()
    return _spaced(world[5][house][0])


def _told_of_letters(scene, word, numbers):
    """What a look tells that asks whose letters there are."""
    start, plan = scene
    if word == "other":
        return world_text(other_world(start, plan, numbers[0], numbers[1]))
    sight = sight_of(played_out(start, plan))
    if word == "many":
        return str(how_many(sight))
    if word == "who":
        return _spaced(shade(sight, numbers[0]))
    if word == "cut":
        return _spaced(cut(sight, numbers[0], numbers[1]))
    above, below = share(sight, numbers[0], numbers[1])
    return f"{above}/{below}"


def _told(scene, word, numbers):
    """What a look tells; nothing is an empty string."""
    start, plan = scene
    if word == "start":
        return world_text(start)
    if word == "steps":
        return plan_text(plan)
    if word == "now" or word == "seen" or word == "lies":
        world = played_out(start, plan)
        if word == "now":
            return _spaced((world[4], len(world[6])))
        return view_text(view_of(world)) if word == "seen" else _lies(world, numbers[0])
    return _told_of_letters(scene, word, numbers)


def said(scene, request):
    """What a look tells."""
    if _kind_of(lines_of(request)) != "look":
        raise Unfit()
    word, numbers, _ = _parts(request)
    told = _told(frozen(scene), word, numbers)
    return "-" if told == "" else told


def _moved(scene, these, others):
    """The SCENE of the last pair of these, what is left of them, others with the SCENE that was, and the word."""
    if these == ():
        raise NothingDone()
    word, other = these[-1]
    return (other, these[:-1], others + ((word, scene),), word)


def _done(desk, request):
    """The pair of the DESK behind request, and of the reply; what it raises is raised."""
    scene, past, later = desk
    kind = _kind_of(lines_of(request))
    if kind == "undo":
        scene, past, later, word = _moved(scene, past, later)
        return ((scene, past, later), word)
    if kind == "redo":
        scene, later, past, word = _moved(scene, later, past)
        return ((scene, past, later), word)
    if kind == "look":
        return (desk, said(scene, request))
    word, _, _ = _parts(request)
    return ((scene_after(scene, request), past + ((word, scene),), ()), "done")


def _reply_or_refusal(desk, request):
    """As _done; what it raises changes nothing, and its class is told."""
    try:
        return _done(desk, request)
    except NoToken:
        word = "NoToken"
    except NothingDone:
        word = "NothingDone"
    except Unfit:
        word = "Unfit"
    except NoPaper:
        word = "NoPaper"
    except BadLine:
        word = "BadLine"
    return (desk, "refused " + word)


def worked(desk, request):
    """The pair of the DESK behind request, and of the reply."""
    if not is_request(request):
        raise Unfit()
    return _reply_or_refusal(frozen(desk), request)


def session(desk, text):
    """The pair of the DESK behind all requests of text, and of the tuple of the replies."""
    desk, replies = frozen(desk), []
    for request in requests(text):
        desk, reply = _reply_or_refusal(desk, request)
        replies.append(reply)
    return (desk, tuple(replies))
