"""The shell: requests, deeds and looks beside what they stand for; undo and redo; a session whole and in parts."""

from random import Random
from unittest import TestCase

from sendershade.alike import is_other, other_world
from sendershade.errors import BadLine, NoPaper, NoToken, Unfit
from sendershade.plans import played_out, prompt
from sendershade.shades import cut, shade
from sendershade.shares import share
from sendershade.shell import first_desk, is_request, requests, said, scene_after, session, worked
from sendershade.sights import sight_of
from sendershade.texts import choice_text, plan_text, read_view, read_world, view_text, wishes_text, world_text
from sendershade.threads import how_many
from sendershade.views import view_of, view_till
from sendershade.worlds import is_begun, is_choice
from tests.calls_finds import BOTH, FLOOD, HALL, SLY
from tests.calls_shell import DESK, SCENE
from tests.model import some_run
from tests.scenes import some_scene
from tests.values import listed

HEADS = ("go", "hold", "back 0", "back 9999", "now", "start", "steps", "seen", "lies 0", "many", "who 3", "cut 3 4",
         "share 3 4", "other 3 4", "undo", "redo", "world\n x", "wishes\n x", "step\n x")
WRONG = ("", " ", "go ", " go", "Go", "go 1", "go\n x", "go\n ", "back", "back ", "back 07", "back 00", "back -1", "back 10000",
         "back 1 2", "back x", "back\n 1", "back  1", "now 0", "seen\n", "seen\n ", "lies", "lies 0 0", "lies h0", "who", "who 1 2",
         "cut 1", "cut 1 2 3", "cut 1  2", "cut 1,2", "share 1", "other 1", "other 1 2\n x", "step", "step\n", "step x\n y",
         "step\nchoice", "step\n choice\ngo", "world", "wishes", "wishes -\n x", "undo 1", "undo\n x", "redo\n ", "look", "a b",
         "go\ngo", "\ngo", "go\n\n", "who 12345", "who 1.", "played")


def reply(request, scene=SCENE):
    return worked((scene, (), ()), request)[1]


def some_text(chance, scene):
    """A request for this SCENE, and now and then one that is refused."""
    now = played_out(*scene)
    tokens = len(now[6]) + 1
    looks = ["now", "start", "steps", "seen", "many", f"lies {chance.randrange(4)}", f"who {chance.randrange(tokens)}"]
    looks += [f"{word} {chance.randrange(tokens)} {chance.randrange(4)}" for word in ("cut", "share", "other")]
    comes = ",".join(str(chance.randrange(tokens)) for _ in range(2))
    deeds = ["go", "hold", f"back {chance.randrange(4)}", f"step\n choice\n  comes {comes}", "go", "undo", "undo", "redo",
             "step\n choice\n  letter 0 0 0 1", "wishes\n " + wishes_text(now[3]).replace("\n", "\n "), "step\n none"]
    return chance.choice(looks + deeds * 2)


class TestRequests(TestCase):

    def test_is_request(self):
        for thing in HEADS:
            self.assertIs(is_request(thing), True, thing)
        for thing in WRONG + (None, True, 0, (), ("go",), ["go"], [], b"go"):
            self.assertIs(is_request(thing), False, thing)
        # A line that is a blank alone is a text, too; whatever stands in it, it is one.
        for thing in ("step\n ", "world\n \n ", "wishes\n go\n  back 9\n nonsense", "step\n  "):
            self.assertIs(is_request(thing), True, thing)

    def test_requests(self):
        self.assertEqual(requests(""), [])
        for head in HEADS:
            self.assertEqual(requests(head), [head])
        self.assertEqual(requests("\n".join(HEADS)), list(HEADS))
        self.assertEqual(requests("step\n \n a\ngo\nworld\n b"), ["step\n \n a", "go", "world\n b"])
        for text, number in (("go\nlook", 2), ("go\n", 2), ("\ngo", 1), (" go", 1), ("go\n x", 1), ("go\ngo\n x\nstep", 2),
                             ("step\n a\n b\nstep\ngo", 4), ("step\n a\n\n b", 3), (" a\n b", 1), ("go\nseen\nback 07\nx", 3),
                             ("go\nstep", 2), ("\n", 1), (" ", 1), ("step\n a\n", 3), ("undo\n ", 1)):
            for call in (requests, lambda own: session(first_desk(), own)):
                with self.assertRaises(BadLine) as caught:
                    call(text)
                self.assertEqual(caught.exception.number, number, text)
        for wrong in WRONG[1:]:
            self.assertTrue(wrong in ("go\ngo",) or self.is_bad(wrong), wrong)

    def is_bad(self, text):
        try:
            return len(requests(text)) > 1
        except BadLine:
            return True

    def test_in_one_way(self):
        chance = Random(8)
        for _ in range(200):
            told = [chance.choice(HEADS) for _ in range(chance.randrange(6))]
            self.assertEqual(requests("\n".join(told)), told)


class TestDeeds(TestCase):

    def test_first_desk(self):
        (start, plan), past, later = first_desk()
        self.assertEqual((plan, past, later), ((), (), ()))
        self.assertIs(is_begun(start), True)
        self.assertEqual(start, ((1, 1), ((), ()), ((1, 0, None, True, True),), (None,), 0, (((), (), ()),), (), ()))

    def test_world_and_wishes(self):
        text = "world\n " + world_text(SLY).replace("\n", "\n ")
        self.assertEqual(scene_after(SCENE, text), (SLY, ()))
        wishes = ((2, (0, (0,), 1, 1)), None, None)
        told = scene_after(SCENE, "wishes\n " + wishes_text(wishes).replace("\n", "\n "))
        self.assertEqual(told, (HALL[:3] + (wishes,) + HALL[4:], ()))
        # Wishes that are none of the NET or the REST.
        for lines in (" wish -", " wish -\n  wish -\n  wish 1 2 0 0 0", " wish -\n  wish 1 1 1 0 0\n  wish -",
                      " wish -\n  wish 1 1 0 3 0\n  wish -", " wish -\n  wish -\n  wish -\n  wish -"):
            self.assertRaises(Unfit, scene_after, SCENE, "wishes\n wishes\n " + lines)

    def test_steps(self):
        choice = (((2, (0,), 1, 1),), (0, 2))
        text = "step\n " + choice_text(choice).replace("\n", "\n ")
        self.assertEqual(scene_after((HALL, FLOOD[:1]), text), (HALL, FLOOD[:1] + (choice,)))
        for choice in (((), (9,)), (((0, (0,), 1, 1),), ()), (((2, (1,), 1, 1),), ())):
            self.assertRaises(Unfit, scene_after, SCENE, "step\n " + choice_text(choice).replace("\n", "\n "))
        self.assertEqual(scene_after(SCENE, "hold"), (HALL, BOTH + (((), ()),)))
        self.assertEqual(scene_after(SCENE, "go"), (HALL, BOTH + (prompt(played_out(HALL, BOTH)),)))
        self.assertEqual(scene_after((HALL, BOTH[:1]), "go"), SCENE)

    def test_back(self):
        self.assertEqual([scene_after(SCENE, f"back {many}") for many in (0, 1, 2)], [(HALL, BOTH[:own]) for own in (0, 1, 2)])
        for many in (3, 9999):
            self.assertRaises(Unfit, scene_after, SCENE, f"back {many}")

    def test_wrong_texts(self):
        for request, number in (("step\n ", 1), ("world\n ", 1), ("wishes\n \n a", 1), ("step\n choice\n comes 0", 2),
                                ("step\n choice\n  comes 0\n  x", 3), ("world\n world 1 1", 2), ("wishes\n wishes\n  wish", 2)):
            with self.assertRaises(BadLine) as caught:
                scene_after(SCENE, request)
            self.assertEqual(caught.exception.number, number, request)

    def test_other_strings(self):
        looks = [head for head in HEADS if head.split(" ")[0].split("\n")[0] in
                 ("now", "start", "steps", "seen", "lies", "many", "who", "cut", "share", "other")]
        deeds = [head for head in HEADS if head not in looks and head not in ("undo", "redo")]
        for request in list(WRONG) + looks + ["undo", "redo"]:
            self.assertRaises(Unfit, scene_after, SCENE, request)
        for request in list(WRONG) + deeds + ["undo", "redo"]:
            self.assertRaises(Unfit, said, SCENE, request)
        for request in WRONG:
            self.assertRaises(Unfit, worked, DESK, request)


class TestLooks(TestCase):

    def test_told(self):
        self.assertEqual([said(SCENE, own) for own in ("now", "many", "lies 0", "who 2", "who 0", "share 2 1", "share 0 9")],
                         ["2 4", "2", "-", "0 1", "0", "1/2", "0/1"])
        self.assertEqual([said(SCENE, own) for own in ("cut 0 1", "cut 2 2", "share 0 0")], ["0", "0 1 2", "1/1"])
        self.assertEqual((said(SCENE, "start"), said(SCENE, "steps")), (world_text(HALL), plan_text(BOTH)))
        self.assertEqual(said(SCENE, "seen"), view_text(view_of(played_out(HALL, BOTH))))
        self.assertEqual((said((HALL, ()), "steps"), said((HALL, ()), "seen"), said((HALL, ()), "now")), ("-", "view", "0 0"))
        self.assertEqual(said((HALL, BOTH[:1] + (((), (1,)),)), "lies 0"), "1")
        wide = HALL[:2] + (((4, 0, None, True, True),),) + HALL[3:]
        self.assertEqual(said((wide, FLOOD + (((), (2, 0)),)), "lies 0"), "1 0 2")

    def test_errors(self):
        for request, error in (("lies 1", Unfit), ("lies 9999", Unfit), ("cut 2 0", NoPaper), ("other 2 2", NoPaper),
                               ("other 0 1", NoPaper)):
            self.assertRaises(error, said, SCENE, request)
        for word in ("who 4", "cut 4 9", "share 4 9", "other 4 9"):
            with self.assertRaises(NoToken) as caught:
                said(SCENE, word)
            self.assertEqual(caught.exception.token, 4)
        # Without care there is no SIGHT.
        for word in ("many", "who 99", "cut 99 0", "share 99 0", "other 99 0"):
            self.assertRaises(Unfit, said, (SLY, FLOOD), word)
        self.assertEqual([said((SLY, FLOOD), own) for own in ("now", "lies 0")], ["2 5", "-"])

    def test_other(self):
        told = read_world(said(SCENE, "other 2 0"))
        self.assertIs(is_other(HALL, BOTH, 2, 0, told), True)
        self.assertEqual(told, other_world(HALL, BOTH, 2, 0))


class TestWorked(TestCase):

    def test_deeds_and_looks(self):
        scene = (HALL, BOTH + (((), ()),))
        self.assertEqual(worked(DESK, "hold"), ((scene, DESK[1] + (("hold", SCENE),), ()), "done"))
        self.assertEqual(worked(DESK, "now"), (DESK, "2 4"))
        self.assertEqual(worked(DESK, "step\n choice")[0][1][-1], ("step", SCENE))
        self.assertEqual(worked(listed(DESK), "back 1")[0], ((HALL, BOTH[:1]), DESK[1] + (("back", SCENE),), ()))

    def test_undo_and_redo(self):
        undone, word = worked(DESK, "undo")
        self.assertEqual((undone, word), (((HALL, BOTH[:1]), (), DESK[2] + (("go", SCENE),)), "go"))
        self.assertEqual(worked(undone, "redo"), (DESK, "go"))
        redone, word = worked(DESK, "redo")
        self.assertEqual((redone, word), (((HALL, BOTH + BOTH[:1]), DESK[1] + (("hold", SCENE),), ()), "hold"))
        self.assertEqual(worked(redone, "undo"), (DESK, "hold"))
        self.assertEqual(worked(undone, "undo"), (undone, "refused NothingDone"))
        self.assertEqual(worked(redone, "redo"), (redone, "refused NothingDone"))
        # A deed behind an undo: what was undone is gone; a look, and what is refused, leave it.
        self.assertEqual(worked(undone, "hold")[0][2], ())
        for request in ("seen", "who 99", "back 99", "step\n x"):
            self.assertEqual(worked(undone, request)[0], undone)

    def test_refused(self):
        for request, name in (("who 9", "NoToken"), ("cut 2 0", "NoPaper"), ("other 0 1", "NoPaper"), ("lies 1", "Unfit"),
                              ("back 3", "Unfit"), ("step\n choice\n  comes 9", "Unfit"), ("step\n ", "BadLine"),
                              ("world\n wishes", "BadLine"), ("wishes\n wishes", "Unfit"), ("wishes\n world", "BadLine"),
                              ("undo", "NothingDone"), ("redo", "NothingDone")):
            desk = (SCENE, (), ())
            self.assertEqual(worked(desk, request), (desk, "refused " + name))
        self.assertEqual([reply(own, (SLY, FLOOD)) for own in ("many", "other 9 9")], ["refused Unfit"] * 2)

    def test_session(self):
        self.assertEqual(session(DESK, ""), (DESK, ()))
        desk, told = session(DESK, "undo\nundo\nredo\nredo\nredo\nback 0\nredo\nnow")
        self.assertEqual(told, ("go", "refused NothingDone", "go", "hold", "refused NothingDone", "done", "refused NothingDone", "0 0"))
        self.assertEqual(desk, ((HALL, ()), DESK[1] + (("hold", SCENE), ("back", (HALL, BOTH + BOTH[:1]))), ()))
        # With a line that is no request nothing is done at all.
        self.assertRaises(BadLine, session, DESK, "go\ngo\nnone")


class TestRuns(TestCase):

    def some_session(self, number):
        """A DESK and requests for it."""
        chance = Random(number)
        start, plan, _ = some_scene(number, 3)
        desk = here = ((start, plan), (), ())
        told = []
        for _ in range(25):
            told.append(some_text(chance, here[0]))
            here, _ = worked(here, told[-1])
        return desk, told, here

    def test_whole_and_in_parts(self):
        for number in range(24):
            desk, told, last = self.some_session(number)
            whole = session(desk, "\n".join(told))
            self.assertEqual(whole[0], last)
            self.assertEqual(len(whole[1]), len(told))
            for cut_at in (0, 1, 7, 20, len(told)):
                here, replies = session(desk, "\n".join(told[:cut_at]))
                there, others = session(here, "\n".join(told[cut_at:]))
                self.assertEqual((there, replies + others), whole)

    def test_what_each_does(self):
        for number in range(24):
            desk, told, _ = self.some_session(number)
            for request in told:
                later, word = worked(desk, request)
                head = request.split("\n")[0].split(" ")[0]
                if word.startswith("refused "):
                    self.assertEqual(later, desk)
                elif head in ("undo", "redo"):
                    pairs = desk[1] if head == "undo" else desk[2]
                    self.assertEqual((word, later[0]), pairs[-1])
                    back, other = worked(later, "redo" if head == "undo" else "undo")
                    self.assertEqual((back, other), (desk, word))
                elif word == "done":
                    self.assertEqual(later, (scene_after(desk[0], request), desk[1] + ((head, desk[0]),), ()))
                    self.assertEqual(worked(later, "undo")[0][0], desk[0])
                    self.check_seen(desk[0], later[0], head)
                else:
                    self.assertEqual((later, word), (desk, said(desk[0], request)))
                desk = later

    def check_seen(self, scene, later, head):
        """What seen tells behind step, go, hold goes on from what it told ahead."""
        if head in ("step", "go", "hold"):
            ahead, behind = read_view(said(scene, "seen")), read_view(said(later, "seen"))
            self.assertEqual(view_till(behind, len(scene[1])), ahead)
            self.assertIs(is_choice(played_out(*scene), later[1][-1]), True)

    def test_looks(self):
        for number in range(24):
            start, plan, along = some_scene(number, 4)
            scene, last = (start, plan), along[-1]
            sight = sight_of(last)
            self.assertEqual(said(scene, "now"), f"{last[4]} {len(last[6])}")
            self.assertEqual(said(scene, "many"), str(how_many(sight)))
            for house in range(start[0][1]):
                self.assertEqual(said(scene, f"lies {house}"), " ".join(map(str, last[5][house][0])) or "-")
            for token in range(0, len(sight), 2):
                people = [int(word) for word in said(scene, f"who {token}").split(" ")]
                self.assertEqual(people, list(shade(sight, token)))
                for person in range(start[0][0] + 1):
                    self.check_person(scene, sight, token, person, person in people)

    def check_person(self, scene, sight, token, person, known):
        """who tells just the PERSONS for whom other tells a text, who have a share, for whom there is no cut."""
        above, below = share(sight, token, person)
        self.assertEqual(said(scene, f"share {token} {person}"), f"{above}/{below}")
        self.assertIs(above > 0, known)
        if not known:
            self.assertRaises(NoPaper, said, scene, f"other {token} {person}")
            told = said(scene, f"cut {token} {person}")
            self.assertEqual(told, " ".join(map(str, cut(sight, token, person))))
            return
        self.assertRaises(NoPaper, said, scene, f"cut {token} {person}")
        text = said(scene, f"other {token} {person}")
        steps = [line for choice in scene[1] for line in ["step"] + [" " + own for own in choice_text(choice).split("\n")]]
        lines = ["world"] + [" " + line for line in text.split("\n")] + steps + ["seen"]
        _, told = session(first_desk(), "\n".join(lines))
        self.assertEqual(told, ("done",) * (len(scene[1]) + 1) + (said(scene, "seen"),))

    def test_any_rules(self):
        for number in range(40):
            _, plan, along = some_run(number)
            scene = (along[0], plan)
            text = "\n".join(["world"] + [" " + line for line in world_text(along[0]).split("\n")])
            desk, told = session(first_desk(), text + "\nstart\nsteps")
            self.assertEqual((desk[0], told), ((along[0], ()), ("done", world_text(along[0]), "-")))
            self.assertEqual([said(scene, own) for own in ("start", "steps", "seen")],
                             [world_text(along[0]), plan_text(plan), view_text(view_of(along[-1]))])
            self.assertEqual(said(scene, "lies 0"), " ".join(map(str, along[-1][5][0][0])) or "-")
            self.assertEqual(session(desk, "undo\nundo")[1], ("world", "refused NothingDone"))
