"""Desks: their deeds and asks, the order of their errors, the log, back and again, and plays at a desk."""

import random
import unittest

from contests import FAR
from examples import assert_raises, run_examples
from gapsame import desk as told_desk
from gapsame.desk import Desk
from gapsame.errors import BadGame, BadNumber, BadPosition, BadText, FieldError, Misfit, NoName, Nothing, Over, TooMany
from gapsame.families import family, grown
from gapsame.games import bound
from gapsame.likeness import alike, cut
from gapsame.lines import columns_of, rows_of
from gapsame.moves import done, is_held, is_let, is_still, may_go, reached
from gapsame.pictures import picture
from gapsame.positions import Position, at
from gapsame.strikes import struck
from gapsame.turns import mirrored, moved, turned
from gapsame.wins import is_won, judged
from orders import ASKS, DEEDS, Model
from pairs import telling_moves

EXAMPLES = """
>>> desk = Desk()
>>> begin = ("kind chief lord leaps -1 -1 , -1 0 , -1 1 , 0 -1 , 0 1 , 1 -1 , 1 0 , 1 1", "kind runner rides right left up down", "edge left 0", "edge low 0", "piece 1 chief 0 0", "piece 0 chief 2 1", "piece 0 runner 9 9", "keep near")
>>> [desk.told(order) for order in begin]
['-', '-', '-', '-', '-', '-', '-', '-']
>>> [desk.told(order) for order in ("kinds", "names", "at 2 1", "at 5 5", "struck 1 1 0", "let 9 9 0 9", "may 9 9 9 10", "may 9 9 8 8", "state")]
['chief runner', 'near', '0 chief', '-', 'yes', 'yes', 'yes', 'no', 'open']
>>> [desk.told(order) for order in ("wins 1", "first 1", "columns", "rows", "bound 2", "family columns 1", "picture -1 0 4 2")]
['yes', '9 9 0 9', '-1 0 2 9', '-1 0 1 9', '8', 'no yes no no no no no no', '~..C ~c..']
>>> [desk.told(order) for order in ("clear 9 9", "piece 0 runner 1000 700", "alike near 1", "alike near 2", "cut 2")]
['-', '-', 'yes', 'no columns', '-']
>>> desk.told("text").split(" / ")[2:]
['edge left 1', 'edge low 1', 'goal hold', 'turn 0', 'piece 0 chief 3 2', 'piece 0 runner 11 10', 'piece 1 chief 1 1']
>>> [desk.told("go 11 10 1 10"), desk.back(), desk.told("state"), desk.again(), desk.told("state"), len(desk)]
['reached', 'go 11 10 1 10', 'open', 'go 11 10 1 10', 'reached', 12]
>>> [desk.told(order) for order in ("use near", "play 1", "left", "reply", "left", "state", "stop")]
['-', '-', '1 0', '9 9 0 9', '0 over', 'open', '-']
>>> desk.told("piece 2 chief 0 0")
raises BadText(0, 1)
>>> desk.told("kind runner rides up up")
raises BadText(0, 4)
>>> desk.told("use far")
raises NoName('far')
>>> desk.told("go 9 9 8 8")
raises Misfit('move')
>>> desk.told("reply")
raises Nothing()
>>> Desk().told("state")
raises BadGame('kinds')
"""
CHIEF = "kind chief lord leaps -1 -1 , -1 0 , -1 1 , 0 -1 , 0 1 , 1 -1 , 1 0 , 1 1"
BEGIN = (CHIEF, "kind runner rides right left up down", "edge left 0", "edge low 0", "piece 1 chief 0 0",
         "piece 0 chief 2 1", "piece 0 runner 9 9",
         "keep near")
CHASE = ("kind sled rides left down", "kind post leaps 1 0", "goal take post", f"piece 0 sled {FAR} 7",
         "piece 1 post 0 0")
# Asks that tell all that a desk has.
ALL = ("kinds", "names", "text", "at 0 0", "at 2 1", "struck 1 1 0", "may 9 9 0 9", "let 9 9 0 9", "state", "columns",
       "rows", "bound 3", "alike near 1",
       "alike far 2", "wins 1", "first 1", "family rows 0", "picture -2 -2 12 12", "left", "field")


def made(*orders):
    """A desk that was told these orders."""
    desk = Desk()
    for order in orders:
        desk.told(order)
    return desk


def answer(desk, order):
    """What a desk answers, or the error that it raises."""
    try:
        return desk.told(order)
    except FieldError as error:
        return type(error).__name__, sorted(vars(error).items())


def answers(desk):
    return [answer(desk, order) for order in ALL]


def listed(values):
    return " ".join([str(value) for value in values]) or "-"


def state(position):
    return "reached" if reached(position) else "held" if is_held(position) else "still" if is_still(position) else "open"


class Answers(unittest.TestCase):
    def test_examples(self):
        run_examples(self, EXAMPLES, dict(vars(told_desk)))

    def test_all_orders_stand_in_the_tables(self):
        self.assertEqual(len(DEEDS), 19)
        self.assertEqual(len(ASKS), 18)

    def test_nothing_is_told_yet(self):
        desk = Desk()
        self.assertEqual([desk.told(order) for order in ("kinds", "names", "at 0 0")], ["-"] * 3)
        self.assertEqual((desk.log, len(desk)), ((), 0))
        for order in ("text", "struck 0 0 0", "may 0 0 0 1", "let 0 0 0 1", "state", "columns", "rows", "bound 0",
                      "wins 1", "first 2",
                      "family rows 0", "picture 0 0 1 1", "keep near", "cut 1", "grow rows 0 1", "quarter", "mirror",
                      "shift 0 0", "go 0 0 0 1", "play 1"):
            assert_raises(self, BadGame("kinds"), desk.told, order)
        for order in ("reply", "tell 0 0 0 1", "stop", "left", "field"):
            assert_raises(self, Nothing(), desk.told, order)
        for order in ("use near", "alike near 1"):
            assert_raises(self, NoName("near"), desk.told, order)
        for order in ("stone 0 0", "clear 5 5", "turn 1", "edge left none", "goal hold", CHIEF, "piece 0 ox 0 0"):
            self.assertEqual(desk.told(order), "-")

    def test_kinds_and_names(self):
        desk = made("kind owl rides up", "kind ant leaps 1 0", "goal take ant", "piece 0 owl 0 0", "keep two",
                    "keep one", "keep three")
        self.assertEqual([desk.told("kinds"), desk.told("names")], ["ant owl", "one three two"])
        desk.told("kind owl rides down")
        self.assertEqual(desk.told("text"), "kind ant leaps 1 0 / kind owl rides down / goal take ant / turn 0 / piece 0 owl 0 0")
        desk.told("use two")
        self.assertEqual(desk.told("text"), "kind ant leaps 1 0 / kind owl rides up / goal take ant / turn 0 / piece 0 owl 0 0")

    def test_what_stands_gives_way(self):
        desk = made("kind owl rides up", "goal take owl", "piece 0 owl 0 0", "piece 1 owl 0 0")
        self.assertEqual(desk.told("at 0 0"), "1 owl")
        desk.told("stone 0 0")
        self.assertEqual(desk.told("at 0 0"), "stone")
        assert_raises(self, BadPosition("pieces"), desk.told, "text")
        desk.told("piece 0 owl 0 0")
        self.assertEqual(desk.told("text"), "kind owl rides up / goal take owl / turn 0 / piece 0 owl 0 0")
        self.assertEqual([desk.told(order) for order in ("clear 0 0", "clear 0 0", "at 0 0")], ["-"] * 3)
        self.assertEqual(len(desk), 8)

    def test_what_makes_no_position(self):
        base = ("kind owl rides up", CHIEF, "piece 0 owl 0 0", "piece 1 chief 5 5")
        wrong = {
            ("edge left 3", "edge right 2"): BadGame("edges"), ("goal take ox",): BadGame("goal"),
            ("goal take chief",): BadGame("goal"),
            ("goal reach left owl",): BadGame("goal"), ("piece 0 ox 3 3",): BadPosition("pieces"),
            ("clear 5 5",): Misfit("pieces"),
            ("piece 1 chief 6 6",): Misfit("pieces"), ("edge left 1",): Misfit("pieces"),
            ("edge high 6", "stone 0 7"): Misfit("stones"),
            tuple(f"kind {name} rides up" for name in "abcdefgh"): BadGame("kinds"),
            tuple(f"stone 9 {row}" for row in range(17)): BadPosition("stones"),
            tuple(f"piece 0 owl 9 {row}" for row in range(15)): BadPosition("pieces"),
            ("goal take ox", "edge low 9", "edge high 1"): BadGame("edges"),
        }
        for orders, error in wrong.items():
            desk = made(*base, *orders)
            for order in ("state", "keep near", "text", "go 0 0 0 1", "play 1", "columns", "wins 1", "cut 0", "quarter",
                          "picture 0 0 1 1"):
                assert_raises(self, error, desk.told, order)
            self.assertEqual([desk.told("names"), desk.told("at 7 7")], ["-", "-"])

    def test_edges_and_goals(self):
        desk = made("kind owl rides up", "piece 0 owl 0 0", "goal reach high owl", "edge high 9", "edge left -4",
                    "edge low -3", "edge right 7", "edge right none")
        self.assertEqual(desk.told("text"), "kind owl rides up / edge left -4 / edge low -3 / edge high 9 / goal reach high owl / turn 0 / piece 0 owl 0 0")
        self.assertEqual([desk.told("wins 1"), desk.told("first 1"), desk.told("go 0 0 0 9")],
                         ["yes", "0 0 0 9", "reached"])

    def test_states(self):
        held = made(CHIEF, "kind runner rides right left up down", "piece 1 chief 0 0", f"piece 0 runner {FAR} -1",
                    f"piece 0 runner -{FAR} 1",
                    "piece 0 runner 7 0", "piece 1 runner 50 50", "turn 1", "goal take runner")
        self.assertEqual(held.told("state"), "held")
        held.told("goal hold")
        self.assertEqual(held.told("state"), "reached")
        still = made(CHIEF, "piece 1 chief 0 0", "edge left 0", "edge right 0", "edge low 0", "edge high 0", "turn 1")
        self.assertEqual(still.told("state"), "still")
        still.told("edge high 1")
        self.assertEqual(still.told("state"), "open")

    def test_none_of_a_book(self):
        desk = made(*CHASE)
        self.assertEqual([desk.told(order) for order in ("wins 1", "first 1", "wins 2")], ["no", "-", "yes"])
        self.assertEqual(desk.told("first 2"), " ".join([str(part) for square in judged(Position.read(desk.told("text").replace(" / ", "\n")), 2).book[0]
                                                         for part in square]))

    def test_as_a_plain_model(self):
        """Desks told many deeds, and a model told the same; all asks are answered as the functions of the model's position tell."""
        chance = random.Random(901)
        for _ in range(12):
            desk, model = Desk(), Model()
            for order in BEGIN:
                desk.told(order)
                model.do(order)
            for _ in range(30):
                self.assert_step(chance, desk, model)

    def assert_step(self, chance, desk, model):
        place = f"{chance.randint(0, 6)} {chance.randint(0, 6)}"
        order = chance.choice([
            f"piece {chance.randint(0, 1)} runner {place}", f"stone {place}", f"clear {place}",
            f"turn {chance.randint(0, 1)}", "keep far", "use near", "use far",
            f"edge right {chance.choice(['none', '7', '20'])}",
            f"goal {chance.choice(['hold', 'take runner', 'reach low chief'])}",
            f"cut {chance.randint(0, 3)}", "quarter", "mirror", f"shift {chance.randint(-9, 9)} {FAR}",
            f"grow columns {chance.randint(0, 3)} {chance.randint(1, 9)}",
            "go", "go", "go", "kind axe rides up", "kind axe leaps 1 2"])
        word, *items = order.split(" ")
        before, log = answers(desk), desk.log
        try:
            if word in ("cut", "quarter", "mirror", "shift", "grow", "go"):
                order, wanted = self.set_up(chance, model, word, items)
            else:
                if word == "use" and items[0] not in model.kept:
                    raise NoName(items[0])
                model.do(order)
                wanted = "-"
        except FieldError as error:
            assert_raises(self, error, desk.told, order if word != "go" else "go 0 0 0 1")
            self.assertEqual((answers(desk), desk.log), (before, log))
            return
        self.assertEqual(desk.told(order), wanted)
        self.assertEqual(desk.log, (*log, order))
        self.assert_asks(chance, desk, model)

    def set_up(self, chance, model, word, items):
        position = model.position()
        if word == "go":
            moves = [move for move in telling_moves(position, 3) if is_let(position, move)]
            if not moves:
                raise Misfit("move")
            move = chance.choice(moves)
            model.use(done(position, move))
            return "go " + listed([*move[0], *move[1]]), state(model.position())
        number = [int(item) for item in items if item != "columns"]
        actions = {"cut": cut, "quarter": turned, "mirror": mirrored, "shift": moved}
        model.use(grown(position, "columns", *number) if word == "grow" else actions[word](position, *number))
        return " ".join([word, *items]), "-"

    def assert_asks(self, chance, desk, model):
        try:
            position = model.position()
        except FieldError as error:
            for order in ("text", "state", "rows"):
                assert_raises(self, error, desk.told, order)
            return
        column, row = chance.choice([piece[2:] for piece in position.pieces])
        move = (column, row), (column + chance.randint(-2, 2), row)
        squares, moves = f"{column} {row}", listed([*move[0], *move[1]])
        thing, there = at(position, (column, row)), at(position, move[1])
        wanted = {
            "kinds": listed(sorted(model.kinds)), "names": listed(sorted(model.kept)),
            "text": str(position).replace("\n", " / "),
            f"at {squares}": f"{thing[0]} {thing[1]}", f"at {listed(move[1])}": "-" if there is None else there if there == "stone" else listed(there[:2]),
            f"struck {squares} 0": "yes" if struck(position, (column, row), 0) else "no",
            f"may {moves}": "yes" if may_go(position, move) else "no",
            f"let {moves}": "yes" if is_let(position, move) else "no", "state": state(position),
            "columns": listed(columns_of(position)),
            "rows": listed(rows_of(position)), "bound 5": str(bound(position.game, 5)),
            f"picture {squares} 5 4": listed(picture(position, (column, row), 5, 4)),
        }
        for name, kept in model.kept.items():
            paper = alike(kept, position, 1)
            wanted[f"alike {name} 1"] = "yes" if paper else f"no {paper.part}"
        if position.turn == 0:
            paper = judged(position, 1)
            wanted["wins 1"] = "yes" if is_won(position, 1) else "no"
            wanted["first 1"] = listed([*paper.book[0][0], *paper.book[0][1]]) if paper else "-"
            if len(position.pieces) < 5:
                papers = family(position, "columns", 0, 1).papers
                wanted["family columns 0"] = listed(["yes" if one else "no" for one in papers])
        for order, told in wanted.items():
            self.assertEqual(desk.told(order), told, order)


class Errors(unittest.TestCase):
    def refused(self, desk, error, *orders):
        """That the desk refuses the orders, each with this error, and nothing changes."""
        before, log = answers(desk), desk.log
        for order in orders:
            assert_raises(self, error, desk.told, order)
        self.assertEqual((answers(desk), desk.log), (before, log))

    def test_too_many(self):
        desk = made(*BEGIN, "play 1")
        while len(desk) < 200:
            desk.told("turn 0")
        self.refused(desk, TooMany("orders", 200), "turn 0", "kind ox rides up", "use nobody", "reply", "tell 0 0 0 1",
                     "stop", "go 0 0 0 0", "play 2",
                     "keep near", "grow columns 9 1", "quarter")
        self.refused(desk, BadText(0, 1), "turn 2", "kind", "use", "stop 1", "cut 13")
        self.refused(desk, BadText(0, 0), "x", "", None)
        self.assertEqual([desk.told(order) for order in ("state", "left", "wins 1", "names")],
                         ["open", "1 0", "yes", "near"])
        assert_raises(self, NoName("far"), desk.told, "alike far 1")
        self.assertEqual(desk.back(), "turn 0")
        self.assertEqual(desk.told("reply"), "9 9 0 9")
        self.refused(desk, TooMany("orders", 200), "reply", "stop")
        assert_raises(self, Nothing(), desk.again)

    def test_199_orders(self):
        desk = made(*["turn 0"] * 199)
        self.assertEqual(len(desk), 199)
        self.assertEqual(desk.told("turn 1"), "-")
        assert_raises(self, TooMany("orders", 200), desk.told, "turn 1")
        self.assertEqual([desk.back(), desk.again(), len(desk)], ["turn 1", "turn 1", 200])
        self.assertEqual(len(desk.twin()), 200)
        assert_raises(self, TooMany("orders", 200), desk.twin().told, "turn 1")

    def test_names_ahead_of_positions(self):
        desk = made("kind owl rides up", "goal take ox")
        self.refused(desk, NoName("near"), "use near", "alike near 0")
        self.refused(desk, BadGame("goal"), "keep near")
        kept = made("kind owl rides up", "goal take owl", "piece 0 owl 0 0", "keep near", "goal take ox")
        self.refused(kept, BadGame("goal"), "alike near 0", "keep near", "text")
        self.assertEqual(kept.told("use near"), "-")
        self.assertEqual(kept.told("alike near 12"), "yes")

    def test_positions_ahead_of_functions(self):
        desk = made(*BEGIN, "goal take ox")
        self.refused(desk, BadGame("goal"), "grow columns 9 1", "family rows 9", "go 0 0 5 5", "play 1", "wins 1")
        desk.told("goal hold")
        self.refused(desk, BadNumber("index"), "grow columns 3 1", "grow rows 9 1", "family rows 3",
                     f"family columns {FAR}")
        self.refused(desk, Misfit("move"), "go 9 9 8 8", "go 0 0 0 1", "go 5 5 6 6", f"go 9 9 {FAR} {FAR}",
                     "go 2 1 1 1")
        desk.told("turn 1")
        self.refused(desk, Misfit("turn"), "wins 1", "wins 2", "first 1", "family rows 0", "play 1", "play 2")
        self.refused(desk, BadNumber("index"), "family rows 3")
        desk.told("use near")
        desk.told("clear 9 9")
        self.refused(desk, Misfit("position"), "play 1", "play 2")

    def test_plays_that_are_not_begun(self):
        for desk in (Desk(), made(*BEGIN), made(*BEGIN, "play 1", "stop"), made("goal take ox")):
            self.refused(desk, Nothing(), "reply", "tell 0 0 0 1", "stop", "left", "field")


class Plays(unittest.TestCase):
    def test_to_the_end(self):
        desk = made(*CHASE, "play 2")
        seen = [answers(desk)]
        self.assertEqual(desk.told("left"), "2 0")
        assert_raises(self, Misfit("turn"), desk.told, "tell 0 0 1 0")
        first = desk.told("reply")
        self.assertEqual(desk.told("left"), "1 1")
        assert_raises(self, Misfit("turn"), desk.told, "reply")
        for order in ("tell 0 0 2 0", "tell 0 0 0 0", f"tell {first}", "tell 5 5 6 5"):
            assert_raises(self, Misfit("move"), desk.told, order)
        seen.append(answers(desk))
        self.assertEqual([desk.told("tell 0 0 1 0"), desk.told("left")], ["-", "1 0"])
        seen.append(answers(desk))
        last = desk.told("reply")
        self.assertEqual(last.split(" ")[2:], ["1", "0"])
        self.assertEqual(desk.told("left"), "0 over")
        seen.append(answers(desk))
        for order in ("reply", "tell 1 0 2 0", "tell 0 0 0 1"):
            assert_raises(self, Over(), desk.told, order)
        # What is set up stays as it was.
        self.assertEqual(desk.told("text").split(" / ")[-2:], [f"piece 0 sled {FAR} 7", "piece 1 post 0 0"])
        self.assertEqual(desk.told("field").split(" / ")[-2:], ["turn 1", "piece 0 sled 1 0"])
        self.assertEqual([desk.back(), desk.back(), desk.back()], ["reply", "tell 0 0 1 0", "reply"])
        self.assertEqual(answers(desk), seen[0])
        for at, order in enumerate(("reply", "tell 0 0 1 0", "reply")):
            self.assertEqual(desk.again(), order)
            self.assertEqual(answers(desk), seen[at + 1])
        desk.back()
        desk.back()
        self.assertEqual([desk.told("tell 0 0 1 0"), desk.told("reply")], ["-", last])

    def test_a_play_in_the_place_of_one(self):
        desk = made(*BEGIN, "play 1", "reply")
        self.assertEqual(desk.told("left"), "0 over")
        self.assertEqual([desk.told("play 2"), desk.told("left")], ["-", "2 0"])
        desk.told("clear 9 9")
        assert_raises(self, Misfit("position"), desk.told, "play 1")
        self.assertEqual(desk.told("left"), "2 0")
        self.assertEqual(desk.told("field").split(" / ")[-3:],
                         ["piece 0 chief 2 1", "piece 0 runner 9 9", "piece 1 chief 0 0"])
        self.assertEqual([desk.back(), desk.back(), desk.told("left")], ["clear 9 9", "play 2", "0 over"])

    def test_what_is_set_up_does_not_change_the_play(self):
        desk = made(*CHASE, "play 2", "quarter", "turn 1", "clear 0 0", "kind ox rides up")
        field = desk.told("field")
        first = desk.told("reply")
        self.assertEqual(first, made(*CHASE, "play 2").told("reply"))
        self.assertIn("piece 1 post 0 0", field)
        self.assertEqual(desk.told("left"), "1 1")

    def test_told_the_log_of_another(self):
        desk = made(*BEGIN, "keep far", *CHASE[:3], "edge left none", "clear 0 0", "clear 2 1", "clear 9 9", *CHASE[3:],
                    "play 2", "reply", "tell 0 0 1 0", "reply")
        other = made(*desk.log)
        self.assertTrue(other == desk)
        self.assertEqual(answers(other), answers(desk))


class Logs(unittest.TestCase):
    def test_log_and_len(self):
        desk = Desk()
        for at, order in enumerate(BEGIN):
            desk.told(order)
            desk.told("kinds")
            self.assertEqual((desk.log, len(desk)), (BEGIN[:at + 1], at + 1))
            self.assertIsInstance(desk.log, tuple)
        answers(desk)
        self.assertEqual(desk.log, BEGIN)

    def test_back_to_the_first_and_again(self):
        desk, seen = Desk(), []
        orders = (*BEGIN, "keep far", "cut 2", "quarter", "mirror", "shift 5 5", "grow rows 0 9", "edge right 99", "edge left none", "edge right none", "use near", "play 1",
                  "reply", "stop", "go 9 9 0 9")
        for order in orders:
            seen.append((answers(desk), desk.log))
            desk.told(order)
        seen.append((answers(desk), desk.log))
        for _ in range(2):
            for at in reversed(range(len(orders))):
                self.assertEqual(desk.back(), orders[at])
                self.assertEqual((answers(desk), desk.log), seen[at])
            for _ in range(2):
                assert_raises(self, Nothing(), desk.back)
            self.assertTrue(desk == Desk())
            for at, order in enumerate(orders):
                self.assertEqual(desk.again(), order)
                self.assertEqual((answers(desk), desk.log), seen[at + 1])
            for _ in range(2):
                assert_raises(self, Nothing(), desk.again)

    def test_again_behind_another_deed(self):
        desk = made(*BEGIN, "turn 1")
        desk.back()
        desk.back()
        desk.told("state")
        assert_raises(self, BadText(0, 0), desk.told, "x")
        assert_raises(self, NoName("far"), desk.told, "use far")
        assert_raises(self, Misfit("move"), desk.told, "go 9 9 8 8")
        self.assertEqual(desk.again(), "keep near")
        desk.told("stone 5 5")
        assert_raises(self, Nothing(), desk.again)
        self.assertEqual([desk.back(), desk.back()], ["stone 5 5", "keep near"])
        self.assertEqual([desk.again(), desk.again()], ["keep near", "stone 5 5"])
        assert_raises(self, Nothing(), desk.again)

    def test_the_same_deed_told_behind_back(self):
        desk = made("turn 1", "turn 0")
        desk.back()
        desk.told("turn 0")
        assert_raises(self, Nothing(), desk.again)

    def test_equal(self):
        self.assertIs(Desk() == Desk(), True)
        self.assertIs(made(*BEGIN) == made(*BEGIN), True)
        self.assertIs(made(*BEGIN) != made(*BEGIN), False)
        self.assertIs(made("turn 0") == made("turn 1"), False)
        self.assertIs(made("turn 0") == Desk(), False)
        self.assertIs(made("turn 0", "turn 1") == made("turn 1"), False)
        desk = made("turn 0", "turn 1")
        desk.back()
        self.assertIs(desk == made("turn 0"), True)
        for value in ((), ("turn 0",), None, 0, "turn 0", object(), Desk):
            self.assertIs(made("turn 0") == value, False)
            self.assertIs(Desk() == value, False)

    def test_twins(self):
        desk = made(*BEGIN, "play 1", "turn 1")
        desk.back()
        twin = desk.twin()
        self.assertIsInstance(twin, Desk)
        self.assertTrue(twin == desk)
        self.assertEqual(answers(twin), answers(desk))
        assert_raises(self, Nothing(), twin.again)
        before = answers(desk)
        self.assertEqual(twin.told("reply"), "9 9 0 9")
        twin.told("kind ox rides up")
        twin.told("keep far")
        self.assertEqual(answers(desk), before)
        self.assertFalse(twin == desk)
        self.assertEqual(desk.again(), "turn 1")
        seen = answers(twin)
        desk.told("stone 3 3")
        desk.told("stop")
        self.assertEqual(answers(twin), seen)
        for _ in range(len(twin)):
            twin.back()
        self.assertTrue(twin == Desk())
        self.assertEqual(len(desk), len(BEGIN) + 4)
        self.assertEqual(twin.again(), BEGIN[0])

    def test_desks_are_apart(self):
        one, other = Desk(), Desk()
        one.told("kind owl rides up")
        one.told("stone 0 0")
        self.assertEqual([other.told("kinds"), other.told("at 0 0"), len(other)], ["-", "-", 0])


if __name__ == "__main__":
    unittest.main()
