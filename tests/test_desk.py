"""[113] Errands and deeds as words, desks, [114] atlases as texts."""

import unittest

from pacerose.atlas import Atlas
from pacerose.atlastexts import atlas_text, read_atlas
from pacerose.deskwords import deed_text, errand_text, read_deed, read_errand
from pacerose.desk import Desk
from pacerose.errors import BadAtlas, BadDeed, BadErrand, BadLine, BadText, NothingUndone, RoseError
from pacerose.kinds import Kind, mirror_kind, plain_kind
from tests.helpers import (BAD_RATIOS, NINE, ODD, QUARTER, check_pure, check_refusals, cube_kind, fails, kinds_of, other_kinds, row_of,
                           seeded)
from tests.test_atlas import (BAD_WORDS, MILLPORT, NO_ERRANDS, PORTINN, any_deed, any_errand, do, harbour, tupled)

NO_TEXT = (BadText, {"line": None})
NOT_STRINGS = [thing for thing in ODD if not isinstance(thing, str)]
M, P = (("mill", "port", 1),), (("port", "inn", 2),)
BY_HAND = [(("place", "mill", (3, -4)), "place mill 3 -4"), (("move", "mill", (0, 0)), "move mill 0 0"), (("drop", "mill"), "drop mill"),
           (("told", M, (3, 1), (7, 2)), "told mill-port 3 7/2"), (("told", M, (5, 1), None), "told mill-port 5 -"),
           (("fact", M, P, (-1, 3)), "fact mill-port 2*port-inn -1/3"), (("forget", 0), "forget 0"),
           (("ask", "fast", M, (), (4, 1)), "ask fast mill-port none 4"), (("close", "fast"), "close fast"),
           (("attempt", (("drop", "a"),)), "attempt drop a"),
           (("attempt", (("place", "a", (1,)), ("told", (), (0, 1), (0, 1)), ("forget", 12))), "attempt place a 1 ; told none 0 0 ; forget 12"),
           (("place", "none", (NINE, -NINE, 0)), "place none 999999999 -999999999 0"),
           (("told", (("none", "none", NINE),), (-NINE, 2), (NINE, NINE - 1)), "told 999999999*none-none -999999999/2 999999999/999999998"),
           (("ask", "attempt", P + M, M * 6, (0, 1)), "ask attempt 2*port-inn+mill-port " + "+".join(["mill-port"] * 6) + " 0")]
TALL = NINE + 1


class ErrandWordsTest(unittest.TestCase):
    def test_by_hand(self):
        self.assertEqual(errand_text([("mill", "port", 2), ("port", "mill", 1)]), "2*mill-port+port-mill")
        self.assertEqual((errand_text([]), errand_text(()), errand_text([("a", "a", 1)])), ("none", "none", "a-a"))
        self.assertEqual(read_errand("2*mill-port+port-mill"), (("mill", "port", 2), ("port", "mill", 1)))
        self.assertEqual((read_errand("none"), read_errand("none-a")), ((), (("none", "a", 1),)))

    def test_both_ways(self):
        r = seeded(1131)
        for _ in range(300):
            errand = tuple((a, b, r.choice([1, 2, 10, NINE])) for a, b, _ in any_errand(r, ["a", "none", "attempt", "zzzzzzzz"], 6))
            self.assertEqual(read_errand(check_pure(self, errand_text, errand)), errand)
            self.assertEqual(errand_text(list(errand)), errand_text(errand))

    def test_wrong(self):
        for bad in NO_ERRANDS + [[("mill", "port", TALL)], [("mill", "port", 1), ("mill", "port", 10 ** 400)]]:
            fails(self, BadErrand, errand_text, bad)
        for thing in ODD:
            if thing != () and thing != []:
                fails(self, BadErrand, errand_text, thing)
        for bad in ["", " ", "None", "none ", "mill", "mill-", "-port", "mill-port-inn", "mill--port", "mill-port+", "+mill-port", "mill-port++mill-port",
                    "1*mill-port", "0*mill-port", "-2*mill-port", "02*mill-port", "+2*mill-port", "2 *mill-port", "2* mill-port", "2*", "*mill-port",
                    "2*3*mill-port", "2*none", "none+none", "mill-port+none", "Mill-port", "mill-portttttt", "mill-port ", " mill-port",
                    "mill - port", "mill-p0rt", "1000000000*mill-port", "+".join(["a-b"] * 7), "mill-port\n", "\u0662*mill-port", "mill\u2010port",
                    "2.0*mill-port", "1_0*mill-port", "a-\u00e4"]:
            fails(self, NO_TEXT, read_errand, bad)
        for bad in NOT_STRINGS:
            fails(self, NO_TEXT, read_errand, bad)
        check_refusals(self, errand_text, {"errand": MILLPORT}, [("errand", NO_ERRANDS, BadErrand)])
        check_refusals(self, read_errand, {"text": "none"}, [("text", NOT_STRINGS, NO_TEXT)])


class DeedWordsTest(unittest.TestCase):
    def test_by_hand(self):
        for deed, line in BY_HAND:
            self.assertEqual(deed_text(deed), line)
            self.assertEqual(read_deed(line), deed)
        self.assertEqual(deed_text(deed=BY_HAND[0][0]), read_deed(line="place mill 3 -4") and "place mill 3 -4")

    def test_both_ways(self):
        r = seeded(1132)
        for _ in range(400):
            deed = tupled(any_deed(r, harbour(r.choice(kinds_of(2))), 6))
            line = check_pure(self, deed_text, deed)
            self.assertEqual(read_deed(line), deed)

    def test_no_deeds(self):
        wrong = []
        for bad in BAD_WORDS:
            wrong += [("place", bad, (1, 2)), ("move", bad, (1, 2)), ("drop", bad), ("close", bad), ("ask", bad, M, P, (1, 1))]
        for bad in [None, 5, "ab", (), [1, 2], (1, 2, 3, 4), (True, 0), (1.0, 0), (TALL, 0), (0, -TALL)]:
            wrong += [("place", "mill", bad), ("move", "mill", bad)]
        for bad in NO_ERRANDS + [(("mill", "port", TALL),), ((("mill", "port", 1),),), [("mill", "port", 1)], []]:
            wrong += [("told", bad, (1, 1), None), ("fact", bad, P, (1, 1)), ("fact", M, bad, (1, 1)), ("ask", "q", bad, P, (1, 1)),
                      ("ask", "q", M, bad, (1, 1))]
        for bad in BAD_RATIOS + [(TALL, 1), (-TALL, 1), (1, TALL)]:
            wrong += [("told", M, bad, None), ("fact", M, P, bad), ("ask", "q", M, P, bad)]
            if bad is not None:
                wrong.append(("told", M, (-TALL + 1, 1), bad))
        wrong += [("told", M, (5, 1), (7, 2)), ("told", M, (1, 2), (1, 3)), ("told", M, (0, 1), (-1, 1)), ("told", M, (1, 1)), ("told", M, (1, 1), None, None)]
        for bad in [-1, True, 1.0, None, "0", TALL, (0,)]:
            wrong.append(("forget", bad))
        wrong += [("undo",), ("redo",), ("drop",), ("place", "mill"), ("begin", 2), ("answer", "q"), (None, "mill"), ([], "mill"), ("drop", "a", "b")]
        for bad in wrong:
            fails(self, BadDeed, deed_text, bad)
            fails(self, BadDeed, deed_text, ("attempt", (("drop", "a"), bad)))
        for bad in [("attempt",), ("attempt", ()), ("attempt", [("drop", "a")]), ("attempt", None), ("attempt", "drop"), ("attempt", ("drop", "a")),
                    ("attempt", (("attempt", (("drop", "a"),)),)), ("attempt", (["drop", "a"],)), ["drop", "a"], ("attempt", (("drop", "a"),), 0)]:
            fails(self, BadDeed, deed_text, bad)
        for thing in ODD:
            fails(self, BadDeed, deed_text, thing)

    def test_near_deeds(self):
        for deed, _ in BY_HAND:
            for near in other_kinds(deed):
                if deed[0] == "place" and type(near) is tuple and len(near) == 3 and near[:2] == deed[:2] and type(near[2]) is tuple \
                        and 1 <= len(near[2]) <= 3 and all(type(part) is int for part in near[2]):
                    continue
                try:
                    line = deed_text(near)
                except BadDeed:
                    continue
                # What is right, too, has a line of its own.
                self.assertEqual(read_deed(line), near)
                self.assertNotEqual(line, deed_text(deed))

    def test_no_lines(self):
        lines = ["", " ", "mill", "place", "place mill", "place mill ", "place mill 1 2 3 4", "place mill 1  2", "place  mill 1 2", " place mill 1 2",
                 "place mill 1 2 ", "Place mill 1 2", "place Mill 1 2", "place mill 01 2", "place mill +1 2", "place mill -0 2", "place mill 1.0 2",
                 "place mill 1000000000 2", "place mill 1,2", "place mill (1, 2)", "place mill x 2", "place abcdefghi 1 2", "drop", "drop a b", "drop 1",
                 "told mill-port 5", "told mill-port 5 4", "told mill-port 5 - -", "told mill-port - 5", "told mill-port 6/2 7", "told mill-port 5/1 7",
                 "told mill-port 5/0 7", "told mill-port 5/-2 7", "told mill-port 0/3 7", "told mill-port -0 7", "told mill-port 5 7/", "told mill-port /2 7",
                 "told mill-port 1/2/3 7", "told mill-port 5 None", "told none none none", "told mill-port 1000000000 -", "told mill-port 1/1000000000 -",
                 "told 1*mill-port 5 7", "told mill-port+ 5 7", "told mill 5 7", "told", "fact mill-port 5", "fact mill-port none", "fact none none -",
                 "fact mill-port none 5 6", "forget", "forget -1", "forget 00", "forget 1 2", "forget x", "forget 1000000000", "forget -0", "ask fast mill-port none",
                 "ask fast mill-port none 4 5", "ask Fast mill-port none 4", "ask mill-port none 4 4", "close", "close fast now", "close 1", "attempt",
                 "attempt ", "attempt  ", "attempt drop", "attempt drop a ;", "attempt drop a ; ", "attempt ; drop a", "attempt drop a;drop b",
                 "attempt drop a ; ; drop b", "attempt attempt drop a", "attempt drop a ; attempt drop b", "attempt drop a  ; drop b", " attempt drop a",
                 "attempt undo", "undo", "redo", "begin 2 1,0,0,1", "answer q", "drop a\n", "drop a\ndrop b", "drop\ta", "forget \u0662"]
        for line in lines:
            fails(self, NO_TEXT, read_deed, line)
            if not line.startswith("attempt"):
                fails(self, NO_TEXT, read_deed, "attempt drop a ; " + line)
        for bad in NOT_STRINGS:
            fails(self, NO_TEXT, read_deed, bad)

    def test_other_lines(self):
        """Lines with one sign more, less or another one: what is read is told by just this line."""
        r, read = seeded(1133), 0
        for _ in range(3000):
            line = r.choice(BY_HAND)[1]
            at, sign = r.randrange(len(line)), r.choice(" -+*/;01a9")
            near = r.choice([line[:at] + line[at + 1:], line[:at] + sign + line[at:], line[:at] + sign + line[at + 1:]])
            try:
                deed = read_deed(near)
            except BadText as raised:
                self.assertEqual(vars(raised), {"line": None})
                continue
            read += 1
            self.assertEqual(deed_text(deed), near)
        self.assertGreater(read, 100)


class DeskTest(unittest.TestCase):
    def test_by_hand(self):
        atlas = Atlas(mirror_kind(2))
        desk = Desk(atlas)
        said = [("place mill 0 0", "done"), ("place port 3 0", "done"), ("place port 3 0", "refused"), ("stretch mill-port", "0 -"),
                ("told mill-port 5 15/2", "done"), ("stretch mill-port", "5 15/2"), ("stretch 2*port-mill+port-mill", "15 45/2"),
                ("stretch none", "0 0"), ("stretch mill-inn", "refused"), ("ask fast mill-port none 6", "done"), ("answer fast", "open"),
                ("grounds fast", "open"), ("worth fast", "mill-port,port-mill"), ("changed", "none"), ("fact mill-port none 11/2", "done"),
                ("answer fast", "sure"), ("grounds fast", "1"), ("worth fast", "none"), ("changed", "fast open to sure"), ("undo", "done"),
                ("answer fast", "open"), ("redo", "done"), ("redo", "refused"), ("answer fast", "sure"), ("forget 1", "done"),
                ("changed", "fast sure to open"), ("answer slow", "refused"), ("grounds slow", "refused"), ("worth slow", "refused"),
                ("ask never mill-port none -1/2", "done"), ("answer never", "no"), ("grounds never", "none"),
                ("ask always none mill-port 0", "done"), ("grounds always", "none"), ("close fast", "done"), ("answer fast", "refused"),
                ("attempt place inn 1 1 ; drop inn", "done"), ("attempt place inn 1 1 ; drop gate", "refused"), ("told none 1 1", "refused"),
                ("drop mill", "refused"), ("forget 5", "refused"), ("move port 1 2 3", "refused"), ("place inn 1", "refused")]
        for line, reply in said:
            self.assertEqual(desk.say(line), reply, line)
        self.assertEqual(len(atlas), 10)
        self.assertEqual(Desk(atlas=atlas).say(line="changed"), "none")

    def test_one_way_worth_trying(self):
        desk = Desk(harbour(plain_kind(2)))
        for line in ["drop gate", "drop inn", "told mill-port 1 9", "ask q mill-port none 5", "place inn 3 0", "place up 0 1"]:
            self.assertEqual(desk.say(line), "done")
        self.assertEqual(desk.say("worth q"), "mill-inn,mill-port")
        self.assertEqual(desk.say("drop inn"), "done")
        self.assertEqual(desk.say("worth q"), "mill-port")
        self.assertEqual(desk.say("told port-up 0 1"), "done")
        self.assertEqual(desk.say("worth q"), "mill-port,mill-up")

    def test_two_changes_and_grounds(self):
        desk = Desk(harbour())
        for line in ["ask b mill-port none 5", "ask a none mill-port -7", "told mill-inn 2 3", "told inn-port 4 4"]:
            self.assertEqual(desk.say(line), "done")
        self.assertEqual(desk.say("stretch mill-port"), "1 7")
        for line in ["told mill-port 0 7", "undo", "attempt told mill-gate 1 5 ; forget 0 ; forget 0"]:
            self.assertEqual(desk.say(line), "done")
        self.assertEqual(desk.say("changed"), "a open to no; b open to sure")
        self.assertEqual(desk.say("attempt forget 0 ; told mill-port 7 -"), "done")
        self.assertEqual(desk.say("changed"), "a no to sure; b sure to no")
        for line in ["forget 0", "told mill-inn 0 2", "told inn-port 0 3"]:
            self.assertEqual(desk.say(line), "done")
        self.assertEqual((desk.say("answer b"), desk.say("grounds b")), ("sure", "0,1"))
        self.assertEqual(desk.say("undo"), "done")
        self.assertEqual(desk.say("changed"), "none")

    def test_what(self):
        desk = Desk(harbour())
        for line in ["", " ", "what", "hello there", "answer", "answer ", "answer  q", "answer q r", "answer Q", "answer q1", "answer abcdefghi", "Answer q",
                     "stretch", "stretch ", "stretch mill", "stretch mill-port inn-port", "stretch 1*mill-port", "grounds", "grounds 1", "worth", "worth Q",
                     "changed ", "changed q", " changed", "undo ", " undo", "undo 1", "redo now", "place mill", "drop", "told mill-port 5 4", "begin 2 1,0,0,1",
                     "sides q", "log", "places", "undo\n", "answer q\n", "attempt", "attempt undo", "attempt attempt drop a", "stretch 0*mill-port"]:
            self.assertEqual(desk.say(line), "what", line)
        self.assertEqual(len(desk.atlas), 4)

    def test_desk_and_atlas(self):
        r = seeded(1134)
        for _ in range(25):
            kind = r.choice(kinds_of(r.choice([1, 2, 3])))
            one, other = Atlas(kind), Atlas(kind)
            desk = Desk(one)
            for _ in range(20):
                if r.random() < 0.15:
                    word, deed = r.choice(["undo", "redo"]), None
                    line = word
                else:
                    deed = tupled(any_deed(r, one))
                    line = deed_text(deed)
                try:
                    getattr(other, line)() if deed is None else do(other, deed)
                    reply = "done"
                except RoseError:
                    reply = "refused"
                self.assertEqual(desk.say(line), reply)
                self.assertTrue(one == other)
                self.assertEqual(one.log(), other.log())
                for name in one.questions():
                    self.assertEqual(desk.say("answer " + name), other.answer(name))

    def test_long_numbers(self):
        desk = Desk(harbour())
        self.assertEqual(desk.say("told 999999999*mill-port 0 1/999999999"), "done")
        self.assertEqual(desk.say("stretch mill-port"), "0 1/999999998000000001")

    def test_wrong(self):
        atlas = harbour()
        check_refusals(self, Desk, {"atlas": atlas}, [("atlas", [None, 5, "atlas", Atlas, {}, plain_kind(2), Desk(atlas), []], BadAtlas)])
        for bad in NOT_STRINGS:
            fails(self, BadLine, Desk(atlas).say, bad)


def text_of(kind, *lines):
    return "\n".join([atlas_text(Atlas(kind)), *lines])


class AtlasTextsTest(unittest.TestCase):
    def test_by_hand(self):
        atlas = harbour()
        atlas.told(MILLPORT, (5, 1), None)
        atlas.attempt([("fact", PORTINN, [], (9, 2)), ("drop", "gate")])
        text = "\n".join(["begin 2 -1,0,0,-1 1,0,0,1", "place mill 0 0", "place port 3 0", "place inn 0 4", "place gate 3 0", "told mill-port 5 -",
                          "attempt fact 2*port-inn none 9/2 ; drop gate"])
        self.assertEqual(check_pure(self, atlas_text, atlas), text)
        read = check_pure(self, read_atlas, text)
        self.assertTrue(read == atlas)
        self.assertEqual((read.log(), len(read), read.kind), (atlas.log(), 6, mirror_kind(2)))
        fails(self, NothingUndone, read.redo)
        self.assertEqual(atlas_text(Atlas(plain_kind(1))), "begin 1 1")
        self.assertEqual(atlas_text(Atlas(plain_kind(3))), "begin 3 1,0,0,0,1,0,0,0,1")
        # What was taken back is not told, though it may be done again.
        atlas.undo()
        self.assertEqual(atlas_text(atlas=atlas), text.rsplit("\n", 1)[0])
        self.assertTrue(read_atlas(text=atlas_text(atlas)) == atlas)

    def test_both_ways(self):
        r = seeded(1141)
        for _ in range(40):
            kind = r.choice([*kinds_of(r.choice([1, 2, 3])), cube_kind() if r.random() < 0.1 else plain_kind(2)])
            atlas = Atlas(kind)
            for _ in range(20):
                try:
                    atlas.undo() if r.random() < 0.1 else do(atlas, any_deed(r, atlas))
                except RoseError:
                    pass
            text = atlas_text(atlas)
            read = read_atlas(text)
            self.assertTrue(read == atlas)
            self.assertEqual((read.log(), atlas_text(read)), (atlas.log(), text))
            lines = text.split("\n")
            for at in range(1, len(lines)):
                self.assertEqual(read_atlas("\n".join(lines[:at])).log(), atlas.log()[:at - 1])
            at = r.randrange(len(lines))
            for bad in ["", "x", lines[at] + " ", "undo", "forget 6", "close none"]:
                fails(self, (BadText, {"line": at + 1}), read_atlas, "\n".join([*lines[:at], bad, *lines[at + 1:]]))

    def test_first_lines(self):
        for line in ["", " ", "begin", "begin 2", "begin 1 ", "begin 1 1 ", " begin 1 1", "Begin 1 1", "begin  1 1", "begin 1  1", "begin 0 1", "begin 4 1",
                     "begin 01 1", "begin +1 1", "begin 1 2", "begin 1 0", "begin 1 -1", "begin 1 1 -1", "begin 1 1 1", "begin 1 01", "begin 1 x", "begin 1 1,",
                     "begin 1 1,1", "begin 2 1", "begin 2 1,0,0,1 -1,0,0,-1", "begin 2 1,0,0,1,", "begin 2 1,0,0", "begin 2 1 0 0 1", "begin 2 -1,0,0,-1",
                     "begin 2 0,-1,1,0 1,0,0,1", "begin 2 1,0,0,1 1,1,0,1", "begin 2 1,1,0,1", "begin 2 2,0,0,2", "begin 2 0,0,0,0 1,0,0,1",
                     "begin 2 -1,0,0,-1 -1,0,0,-1 1,0,0,1", "begin 2 1,0,0,+1", "begin 1 1,", "begin 1 1\r", "begin 3 1,0,0,1", "place mill 0 0",
                     "begin 2 1,0,0,1000000000", "begin two 1,0,0,1"]:
            fails(self, (BadText, {"line": 1}), read_atlas, line)
            fails(self, (BadText, {"line": 1}), read_atlas, line + "\nplace mill 0 0")
        self.assertEqual(read_atlas("begin 1 -1 1").kind, mirror_kind(1))
        self.assertEqual(read_atlas(text_of(cube_kind())).kind, cube_kind())
        self.assertEqual(read_atlas(text_of(Kind(2, [QUARTER]))).kind, Kind(2, [QUARTER]))

    def test_other_lines(self):
        good = ["place mill 0 0", "place port 3 0", "told mill-port 2 3"]
        for bad in ["", "place mill 0 0", "place inn 0", "place inn 0 0 0", "told mill-inn 2 3", "told mill-port 4 5", "told mill-port 3 2", "fact none none -1",
                    "forget 1", "close mill", "drop mill", "move inn 1 1", "undo", "redo", "changed", "answer q", "attempt drop mill ; place mill 0 0",
                    "begin 2 1,0,0,1", "place inn 1 1 "]:
            fails(self, (BadText, {"line": 5}), read_atlas, text_of(plain_kind(2), *good, bad))
            fails(self, (BadText, {"line": 5}), read_atlas, text_of(plain_kind(2), *good, bad, "x", "begin"))
        self.assertEqual(len(read_atlas(text_of(plain_kind(2), *good, "told port-mill 9 9", "forget 0"))), 5)

    def test_great_numbers(self):
        atlas = Atlas(plain_kind(2))
        atlas.place("mill", (NINE, -NINE))
        self.assertTrue(read_atlas(atlas_text(atlas)) == atlas)
        atlas.place("port", (TALL, 0))
        fails(self, BadDeed, atlas_text, atlas)
        atlas.move("port", (1, 0))
        fails(self, BadDeed, atlas_text, atlas)
        atlas.undo()
        atlas.undo()
        self.assertTrue(read_atlas(atlas_text(atlas)) == atlas)
        for deed in [("told", [("mill", "mill", TALL)], (0, 1), None), ("told", [], (0, 1), (TALL, 1)), ("fact", [], [], (1, TALL)),
                     ("attempt", [("ask", "q", [], [], (-1, 1)), ("move", "mill", (0, TALL))])]:
            do(atlas, deed)
            fails(self, BadDeed, atlas_text, atlas)
            atlas.undo()
        for shear in (NINE, TALL):
            wide = Atlas(Kind(2, [((1, shear), (0, -1))]))
            if shear == NINE:
                self.assertTrue(read_atlas(atlas_text(wide)) == wide)
            else:
                fails(self, BadDeed, atlas_text, wide)

    def test_wrong(self):
        check_refusals(self, atlas_text, {"atlas": harbour()}, [("atlas", [None, 5, "begin", Atlas, {}, Desk(harbour()), mirror_kind(2)], BadAtlas)])
        check_refusals(self, read_atlas, {"text": "begin 1 1"}, [("text", NOT_STRINGS, NO_TEXT)])


if __name__ == "__main__":
    unittest.main()
