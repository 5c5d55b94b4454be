import random
import unittest

from standworth.askings import Hire, Work
from standworth.errors import InvalidText
from standworth.lands import Land
from standworth.weeks import Week
from standworth.weektexts import read_head, read_week, week_text
from tests.samples import odd_values, wide_week

HEAD = ["week 4 50", "yard hill 0 -", "yard quay 1 4"]
ROADS = ["road hill quay 1 2", "road quay hill 8 0"]
ASKINGS = ["work dig ann 0 quay 0 hill 4 3 999", "hire men bob 0 quay 0 2 50", "work aim ann 3 quay 0 quay 1 1 0"]
GIVEN = ["given hill 0 99", "given quay 4 -99"]
FULL = HEAD + ROADS + ASKINGS + GIVEN + ["end"]
BAD_WORDS = ["", " ", "-", "+1", "01", "00", "1.0", "x1", "1x", "A", "a_b", "abcdefg", "1000000000", "\t"]
WORDS = ("form", "many", "order", "double", "unknown", "top", "missing")


def joined_lines(*lines):
    return "".join(f"{line}\n" for line in lines)


class WeekTextTest(unittest.TestCase):
    def wrong(self, text, line, why):
        for read in (read_week, read_head, Week.read):
            with self.assertRaises(InvalidText, msg=repr(text)) as caught:
                read(text)
            self.assertEqual((caught.exception.line, caught.exception.why), (line, why), repr(text))

    def wrong_behind(self, lines, line, why):
        """A wrong line behind good ones, whatever comes after it."""
        for more in ([], ["end"], ["week", ""], [line]):
            self.wrong(joined_lines(*lines, line, *more), len(lines), why)
        self.wrong(joined_lines(*lines) + line, len(lines), "form" if line else "missing")

    def test_text(self):
        land = Land(4, 50, [("quay", 1, 4), ("hill", 0, None)], roads=[("quay", "hill", 8, 0), ("hill", "quay", 1, 2)])
        askings = [
            Work("aim", "ann", ("quay", 0), ("quay", 1), 1, 0, rank=3), Hire("men", "bob", ("quay", 0), 2, 50),
            Work("dig", "ann", ("quay", 0), ("hill", 4), 3, 999),
        ]
        week = Week(land, askings, given=[(("quay", 4), -99), (("hill", 0), 99), (("hill", 1), 0)])
        self.assertEqual(week_text(week), joined_lines(*FULL))
        self.assertEqual(week_text(week=week), week.text())
        self.assertTrue(read_week(text=joined_lines(*FULL)) == week)
        self.assertTrue(read_head(text=joined_lines(*FULL))[0] == week)

    def test_the_least_text(self):
        text = "week 0 1\nyard a 0 -\nend\n"
        self.assertEqual(week_text(Week(Land(0, 1, [("a", 0, None)]))), text)
        self.assertTrue(read_week(text) == Week(Land(0, 1, [("a", 0, None)])))

    def test_wide_weeks(self):
        text = week_text(wide_week())
        self.assertTrue(read_week(text) == wide_week())
        self.assertEqual(text.count("\n"), 1 + 6 + 8 + 24 + 4 + 1)
        self.assertEqual(read_head(text + "more"), (wide_week(), 44))

    def test_no_strings(self):
        for value in odd_values():
            if not isinstance(value, str):
                self.wrong(value, 0, "form")
        self.wrong([joined_lines(*FULL)], 0, "form")

    def test_missing(self):
        self.wrong("", 0, "missing")
        for many in range(len(FULL)):
            self.wrong(joined_lines(*FULL[:many]), many, "missing")

    def test_signs_behind_the_last_line_feed(self):
        for many in range(len(FULL)):
            for rest in ("x", " ", FULL[many], FULL[many][:-1], "end"):
                self.wrong(joined_lines(*FULL[:many]) + rest, many, "form")

    def test_behind_end(self):
        text = joined_lines(*FULL)
        for more in ("\n", "end\n", "x", " ", "end", "given quay 4 3\n", "\n\n", "week 1 1\n"):
            for read in (read_week, Week.read):
                with self.assertRaises(InvalidText) as caught:
                    read(text + more)
                self.assertEqual((caught.exception.line, caught.exception.why), (len(FULL), "form"))
            self.assertEqual(read_head(text + more), (read_week(text), len(FULL)))
        self.assertEqual(read_head(text), (read_week(text), len(FULL)))

    def test_lines_in_a_place_where_they_may_not_stand(self):
        for line in HEAD[1:] + ROADS + ASKINGS + GIVEN + ["end", "", "x"]:
            self.wrong_behind([], line, "form")
        for line in HEAD[:1] + ROADS + ASKINGS + GIVEN + ["end", "", "x"]:
            self.wrong_behind(HEAD[:1], line, "form")
        for line in HEAD[:1] + [""]:
            self.wrong_behind(HEAD, line, "form")
        for line in HEAD + [""]:
            self.wrong_behind(HEAD + ROADS, line, "form")
        for line in HEAD + ROADS + [""]:
            self.wrong_behind(HEAD + ASKINGS, line, "form")
        for line in HEAD + ROADS + ASKINGS + [""]:
            self.wrong_behind(HEAD + GIVEN, line, "form")

    def test_parts_may_be_left_out(self):
        for parts in ([], [ROADS], [ASKINGS], [GIVEN], [ROADS, GIVEN], [ROADS, ASKINGS], [ASKINGS, GIVEN]):
            text = joined_lines(*HEAD, *sum(parts, []), "end")
            self.assertEqual(week_text(read_week(text)), text)

    def check_form(self, ahead, line, choices):
        """Each word of a line in turn is put in another form."""
        words = line.split(" ")
        self.assertEqual(len(words), len(choices) + 1)
        read_week(joined_lines(*ahead, line, *([] if ahead else HEAD[1:]), "end"))
        for at, (good, bad) in enumerate(choices):
            for word in good:
                told = joined_lines(*ahead, " ".join(words[:at + 1] + [word] + words[at + 2:]))
                self.wrong(told, len(ahead) + 1, "missing")
            for word in bad + BAD_WORDS:
                if word not in good:
                    self.wrong_behind(ahead, " ".join(words[:at + 1] + [word] + words[at + 2:]), "form")
        for other in (line + " ", " " + line, line + " 1", line.replace(" ", "  ", 1), line.rsplit(" ", 1)[0],
                      line.upper(), line[1:], words[0], line.replace(" ", "\t"), line + "\r"):
            self.wrong_behind(ahead, other, "form")

    def test_forms(self):
        name = (["quay"], ["quayss0", "1", "-1"])
        fee = (["0", "999"], ["-1", "1000", "a", "-0"])
        hour = (["0", "4"], ["9", "-1", "10", "a"])
        rank = (["0", "99"], ["100", "-1", "a"])
        crews = (["1", "99"], ["0", "100", "-1", "a"])
        self.check_form([], "week 8 1", [(["0", "8"], ["9", "-1", "a"]), (["1", "999"], ["0", "1000", "-1", "a"])])
        self.check_form(HEAD[:1], "yard hill 0 -", [
            name, fee, (["-", "1", "99"], ["0", "100", "-1", "--", "a"]),
        ])
        self.check_form(HEAD, "road hill quay 1 2", [
            (["hill"], ["quay"]), (["quay"], ["hill"]), (["1", "8"], ["0", "9", "-1", "a"]), fee,
        ])
        names = (["dig", "z"], ["quayss0", "1", "-1"])
        self.check_form(HEAD, "work dig ann 0 quay 0 hill 4 3 999", [
            names, names, rank, (["hill", "quay"], ["1"]), (["0", "3"], ["4", "8", "9"]), (["hill", "quay"], ["1"]),
            (["1", "4"], ["0", "9"]), crews, fee,
        ])
        self.check_form(HEAD, "hire men bob 0 quay 0 2 50", [
            names, names, rank, (["hill", "quay"], ["1"]), hour, crews, (["0", "50"], ["-1", "1000", "a", "-0"]),
        ])
        self.check_form(HEAD, "given hill 0 99", [
            (["hill", "quay"], ["1"]), hour,
            (["1", "99", "-1", "-99"], ["0", "-0", "100", "-100", "--1", "-01", "-", "+1", "- 1", "-1-"]),
        ])
        for line in ("end ", " end", "End", "end 1", "end end", "ends", "en", ""):
            self.wrong_behind(HEAD, line, "form")

    def test_many_yards(self):
        yards = [f"yard {letter} 0 -" for letter in "abcdef"]
        read_week(joined_lines("week 1 1", *yards, "end"))
        for line in ("yard g 0 -", "yard a 0 -", "yard f 0 -"):
            self.wrong_behind(["week 1 1", *yards], line, "many")
        self.wrong_behind(["week 1 1", *yards], "yard g 0 0", "form")

    def test_many_roads(self):
        ahead = ["week 1 1", *[f"yard {letter} 0 -" for letter in "abcd"]]
        roads = [f"road {one} {other} 1 1" for one in "abcd" for other in "abcd" if one != other]
        read_week(joined_lines(*ahead, *roads[:8], "end"))
        for line in (roads[8], roads[0], roads[7], "road x y 1 1"):
            self.wrong_behind(ahead + roads[:8], line, "many")
        self.wrong_behind(ahead + roads[:8], "road a a 1 1", "form")

    def test_many_askings(self):
        askings = [f"hire {letter} ann 0 quay 0 1 1" for letter in "abcdefghijklmnopqrstuvwx"]
        read_week(joined_lines(*HEAD, *askings, "end"))
        for line in ("hire y ann 0 quay 0 1 1", askings[0], askings[23], "work a ann 0 far 0 far 1 1 1"):
            self.wrong_behind(HEAD + askings, line, "many")
        self.wrong_behind(HEAD + askings, "hire y ann 0 quay 0 1 1 ", "form")

    def test_order(self):
        for line in ("yard quay 5 9", "yard pier 0 -", "yard hill 0 -"):
            self.wrong_behind(HEAD, line, "order")
        for line in ("road hill quay 2 2", "road far quay 1 1", "road hill far 1 1", "road gap quay 1 1"):
            self.wrong_behind(HEAD + ROADS[:1], line, "order")
        for line in ("work dig bob 0 quay 0 quay 1 1 1", "hire dig bob 0 quay 0 1 1", "work b bob 0 far 7 far 8 1 1"):
            self.wrong_behind(HEAD + ASKINGS[:1], line, "order")
        for line in ("hire men bob 2 quay 0 1 1", "hire aim bob 3 far 8 1 999", "hire z bob 2 far 8 1 999"):
            self.wrong_behind(HEAD + ASKINGS, line, "order")
        for line in ("given hill 0 1", "given gap 8 1", "given far 8 -1"):
            self.wrong_behind(HEAD + GIVEN[:1], line, "order")
        for line in ("given quay 4 1", "given quay 3 1", "given hill 4 1"):
            self.wrong_behind(HEAD + GIVEN, line, "order")
        text = joined_lines(*HEAD, "given hill 0 1", "given hill 2 1", "given hill 4 1", "given quay 0 1", "end")
        self.assertEqual(week_text(read_week(text)), text)

    def test_double(self):
        for line in ("hire dig bob 1 quay 0 1 1", "work dig bob 99 far 0 far 8 1 1", "hire dig bob 1 far 8 1 999"):
            self.wrong_behind(HEAD + ASKINGS[:2], line, "double")
        self.wrong_behind(HEAD + ASKINGS, "hire men bob 4 quay 0 1 999", "double")

    def test_unknown(self):
        for line in ("road hill pier 1 1", "road pier hill 1 1", "road far near 1 1"):
            self.wrong_behind(HEAD, line, "unknown")
        for line in (
            "work dig ann 0 far 0 hill 4 3 999", "work dig ann 0 hill 0 far 4 3 999",
            "work dig ann 0 hill 0 quay 5 3 999", "work dig ann 0 hill 5 quay 6 3 999", "hire men bob 0 far 0 1 1",
            "hire men bob 0 quay 5 1 1", "hire men bob 0 quay 8 1 999",
        ):
            self.wrong_behind(HEAD, line, "unknown")
        for line in ("given far 0 1", "given quay 5 1", "given quay 8 -99"):
            self.wrong_behind(HEAD, line, "unknown")

    def test_top(self):
        for price in (51, 999):
            self.wrong_behind(HEAD, f"hire men bob 0 quay 0 2 {price}", "top")
        self.wrong_behind(HEAD, "hire men bob 0 quay 0 2 1000", "form")
        text = joined_lines(*HEAD, "work dig ann 0 quay 0 hill 4 3 999", "hire men bob 1 quay 0 2 50", "end")
        self.assertEqual(week_text(read_week(text)), text)

    def test_roads_longer_than_the_week(self):
        text = joined_lines("week 0 50", "yard hill 0 -", "yard quay 1 4", "road hill quay 8 2", "end")
        self.assertEqual(read_week(text).land.roads(), [("hill", "quay", 8, 2)])
        self.assertEqual(week_text(read_week(text)), text)

    def test_the_first_wrong_line_counts(self):
        self.wrong(joined_lines("week 4 50", "yard hill 0 -", "yard hill 0 -", "road", "given"), 2, "order")
        self.wrong(joined_lines("week 4 50", "yard hill 0 -", "road", "yard hill 0 -", "given"), 2, "form")

    def test_changed_texts(self):
        luck = random.Random(7)
        text = joined_lines(*FULL)
        wide = week_text(wide_week())
        found = {}
        for _ in range(6000):
            changed = self.changed(luck, luck.choice([text, wide]))
            try:
                week = read_week(changed)
            except InvalidText as error:
                found[error.why] = found.get(error.why, 0) + 1
                self.check_error(changed, error)
            else:
                self.assertEqual(week_text(week), changed)
        self.assertEqual(sorted(found), sorted(WORDS))

    def check_error(self, text, error):
        self.assertIn(error.why, WORDS)
        ahead = "".join(f"{line}\n" for line in text.split("\n")[:error.line])
        if error.why == "missing":
            self.assertEqual((text, text.count("\n")), (ahead, error.line))
        try:
            read_week(ahead)
        except InvalidText as other:
            self.assertEqual((other.line, other.why), (error.line, "missing"))
        else:
            self.assertTrue(ahead.endswith("\nend\n"))
            self.assertEqual(error.why, "form")

    def changed(self, luck, text):
        lines = text.split("\n")
        one, other = luck.randrange(len(lines)), luck.randrange(len(lines))
        words = lines[one].split(" ")
        at, from_at = luck.randrange(len(words)), luck.randrange(len(lines[other].split(" ")))
        kind = luck.randrange(8)
        if kind == 0:
            lines[one], lines[other] = lines[other], lines[one]
        elif kind == 1:
            lines.insert(one, lines[other])
        elif kind == 2:
            del lines[one]
        elif kind == 3:
            words[at] = lines[other].split(" ")[from_at]
            lines[one] = " ".join(words)
        elif kind == 4:
            words[at] = str(luck.randrange(100))
            lines[one] = " ".join(words)
        elif kind == 5:
            words[at] = luck.choice("abcdefghijklmnopqrstuvwxyz") + words[at][1:]
            lines[one] = " ".join(words)
        elif kind == 6:
            lines = lines[:one] + [""]
        else:
            at = luck.randrange(len(text))
            return text[:at] + luck.choice(" \n-0z9") + text[at + luck.randrange(2):]
        return "\n".join(lines)


if __name__ == "__main__":
    unittest.main()
