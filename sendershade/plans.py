"""Plans of the rest: what they lead to, what of them is idle, when letters are home."""

from sendershade.bins import box_with, is_refused
from sendershade.covers import goes_to
from sendershade.errors import NoPaper, Unfit
from sendershade.forms import as_set, frozen
from sendershade.nets import is_steady
from sendershade.worlds import how_full, moved, senders_of, suits, token_of


def is_plan(world, thing):
    """Whether thing is a PLAN for world."""
    return isinstance(thing, tuple) and _first_unfit(frozen(world), thing) is None


def _first_unfit(world, choices):
    """As first_unfit; lists in choices are no tuples."""
    for place, choice in enumerate(choices):
        if not suits(world, choice):
            return place
        world = moved(world, choice)
    return None


def first_unfit(world, choices):
    """The place of the first of choices that does not suit the WORLD behind those ahead; None without."""
    return _first_unfit(frozen(world), frozen(choices))


def worlds_along(world, plan):
    """As played; both are frozen, and plan may be anything."""
    if not isinstance(plan, tuple):
        raise Unfit()
    told = [world]
    for choice in plan:
        if not suits(world, choice):
            raise Unfit()
        world = moved(world, choice)
        told.append(world)
    return told


def played(world, plan):
    """The list of world and of the WORLDS behind each CHOICE of plan."""
    return worlds_along(frozen(world), frozen(plan))


def played_out(world, plan):
    """The WORLD to which plan leads."""
    return played(world, plan)[-1]


def prompt(world):
    """The CHOICE without letters in which all come that were sent at the moment of world."""
    rest, moment = world[1], world[4]
    comes = [token for token, (cover, _, sent) in enumerate(world[6])
             if sent == moment and is_steady(rest, goes_to(cover))]
    return ((), tuple(comes))


def prompt_plan(world, many):
    """The PLAN of so many prompt CHOICES."""
    world = frozen(world)
    plan = []
    for _ in range(many):
        choice = prompt(world)
        plan.append(choice)
        world = moved(world, choice)
    return tuple(plan)


def _idle_places(world, comes):
    """The places in comes of the TOKENS that change nothing, at the next moment of world."""
    bins, whose = list(world[5]), senders_of(world)
    idle = []
    for place, token in enumerate(comes):
        word, house = goes_to(world[6][token][0])
        if word == "person" or is_refused(world[2][house], bins[house], token, whose):
            idle.append(place)
        else:
            bins[house] = box_with(world[2][house], bins[house], token, whose, world[4] + 1)
    return idle


def idle_comes(world, plan):
    """The set of the pairs (place in plan, place in its comes) of TOKENS that change nothing."""
    plan = frozen(plan)
    along = played(world, plan)
    return tuple([(place, spot) for place, choice in enumerate(plan)
                  for spot in _idle_places(along[place], choice[1])])


def without_idle(world, plan):
    """plan without the TOKENS that change nothing."""
    plan = frozen(plan)
    idle = idle_comes(world, plan)
    told = []
    for place, (letters, comes) in enumerate(plan):
        left = [token for spot, token in enumerate(comes) if (place, spot) not in idle]
        told.append((letters, tuple(left)))
    return tuple(told)


def _letters_sent(world):
    """The set of the LETTERS whose COVER 0 is on the roads."""
    covers = [row[0] for row in world[6]]
    return as_set([letter for letter, place in covers if place == 0])


def letters_on(world, plan):
    """The set of the LETTERS whose COVER 0 is on the roads behind plan."""
    return _letters_sent(played_out(world, plan))


def _is_home(world, letter, came):
    """Whether letter is home in world, came being the TOKENS that came ahead of it."""
    token = token_of(world, (letter, len(letter[1])))
    if token is None:
        return False
    return letter[2] in world[1][0] or token in came


def home_behind(world, plan):
    """The set of the LETTERS that are home behind plan."""
    plan = frozen(plan)
    last = played_out(world, plan)
    came = [token for _, comes in plan for token in comes]
    return tuple([letter for letter in _letters_sent(last) if _is_home(last, letter, came)])


def all_home_by(world, most):
    """The least many, to most, of prompt CHOICES behind which all LETTERS of the WISHES are home."""
    world = frozen(world)
    wished = [wish[1] for wish in world[3] if wish is not None]
    came = []
    for many in range(most + 1):
        if all([_is_home(world, letter, came) for letter in wished]):
            return many
        choice = prompt(world)
        came.extend(choice[1])
        world = moved(world, choice)
    raise NoPaper()


def fullest(world, plan):
    """The greatest number that lies in one HOUSE in a WORLD of plan."""
    return max([max(how_full(own)) for own in played(world, plan)])
