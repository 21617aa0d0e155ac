"""Points 1, 85 and 86, and the interface's section loopwright/desk.py."""

import inspect
import unittest

from helper import HUGE, closed_plaits, long_plaits, plain_images, plain_steps, small_plaits
from loopwright.desk import Desk
from loopwright.form import form_of
from loopwright.notes import shown
from loopwright.plaits import behind, flipped, mirrored, order_of, shorter, turned
from loopwright.powers import closed_sum

# Names that are none.
NO_NAMES = [
    "", "A", "aB", "Aa", "a1", "1", "a-b", "a_b", "abcdefghi", "abcdefghijklmnop", "a:", ":", "a,", "-", "'a'", "a.b", "{a}",
    "a`", "{", "`", "[", "@", "z~", "z" * 60,
]

# Texts that write no plait.
NO_TEXTS = [
    "", " ", "4", ":", "4 :", " 4:", "4: ", "4:  1", "4: 1 ", "4:1", "4: 1,2", "4: +1", "4: 01", "4: -01", "4: -0", "4: 0",
    "4: 4", "4: -4", "04: 1", "+4: 1", "-4:", "0:", "7:", "1: 1", "4: 1 x", "4: one", "four: 1", "4: 1 2 3 4", "4: 1.0",
    "4: 1_0", "4: - 1", "4: --1", "4;", "4: 1;", "2:" + " 1" * 17, "3:" + " -1" * 40, "(4, (1, 2))", "4: 1 2: 1", "4: 1 4:",
    "1" * 180 + ":", "2: " + "1" * 180, "4: 1 " + "9" * 30, "9" * 30 + ":",
]


def desk_with(**kept):
    """A desk that keeps the plaits which the texts write."""
    desk = Desk()
    for name, text in kept.items():
        assert desk.say(f"keep {name} {text}") == "kept"
    return desk


def places_in(order):
    return "".join(str(place + 1) for place in order)


class InterfaceTest(unittest.TestCase):
    def test_names_and_arguments(self):
        self.assertEqual(list(inspect.signature(Desk).parameters), [])
        self.assertEqual(list(inspect.signature(Desk().say).parameters), ["line"])
        self.assertEqual(list(inspect.signature(Desk().plaits).parameters), [])


class DeskTest(unittest.TestCase):
    def answers(self, desk, line, wanted):
        """Look that a line is answered just so, and that a line that only asks, or can't be done, changes nothing."""
        before = desk.plaits()
        answer = desk.say(line)
        self.assertIs(type(answer), str)
        self.assertEqual(answer, wanted, line)
        if answer not in ("kept", "dropped"):
            self.assertEqual(desk.plaits(), before, line)


class KeepTest(DeskTest):
    """Point 85: what is kept."""

    def test_at_first_none(self):
        desk = Desk()
        self.assertEqual(desk.plaits(), {})
        self.answers(desk, "names", "none")
        for line in ("show a", "drop a", "order a", "form a", "closed a", "same a a", "turned b a", "behind b a a"):
            self.answers(desk, line, "no such name")

    def test_keep_show_and_drop(self):
        desk = Desk()
        self.answers(desk, "keep a 4: 1 -2 3", "kept")
        self.assertEqual(desk.plaits(), {"a": (4, (1, -2, 3))})
        self.answers(desk, "show a", "4: 1 -2 3")
        self.answers(desk, "keep b 1:", "kept")
        self.answers(desk, "show b", "1:")
        self.answers(desk, "drop a", "dropped")
        self.answers(desk, "show a", "no such name")
        self.answers(desk, "drop a", "no such name")
        self.assertEqual(desk.plaits(), {"b": (1, ())})
        self.answers(desk, "drop b", "dropped")
        self.assertEqual(desk.plaits(), {})
        self.answers(desk, "names", "none")

    def test_each_plait_is_shown_as_it_was_kept(self):
        for plait in small_plaits(2) + long_plaits() + closed_plaits():
            desk = Desk()
            self.answers(desk, "keep plait " + shown(plait), "kept")
            self.assertEqual(desk.plaits(), {"plait": plait})
            self.answers(desk, "show plait", shown(plait))

    def test_names(self):
        desk = Desk()
        for name in ("b", "abc", "z", "a", "abcdefgh", "ab", "aa", "none", "keep"):
            self.answers(desk, f"keep {name} 2: 1", "kept")
        self.answers(desk, "names", "a aa ab abc abcdefgh b keep none z")
        self.answers(desk, "drop abc", "dropped")
        self.answers(desk, "names", "a aa ab abcdefgh b keep none z")
        self.answers(desk, "keep abc 1:", "kept")
        self.answers(desk, "keep z 1:", "kept")
        self.answers(desk, "names", "a aa ab abc abcdefgh b keep none z")

    def test_names_of_one_to_eight_letters(self):
        desk = Desk()
        for letters in range(1, 9):
            for name in ("z" * letters, "abcdefgh"[:letters], "qwertyui"[-letters:]):
                self.answers(desk, f"keep {name} 3: -2", "kept")
                self.answers(desk, f"show {name}", "3: -2")
        for letter in "abcdefghijklmnopqrstuvwxyz":
            self.answers(desk, f"turned {letter} abcdefgh", "kept")
            self.answers(desk, f"show {letter}", "3: 2")

    def test_a_name_that_is_kept_anew(self):
        desk = desk_with(a="4: 1 -2 3", b="2: 1")
        self.answers(desk, "keep a 2: -1", "kept")
        self.answers(desk, "show a", "2: -1")
        self.answers(desk, "turned a a", "kept")
        self.answers(desk, "show a", "2: 1")
        self.answers(desk, "behind a a b", "kept")
        self.answers(desk, "show a", "2: 1 1")
        self.answers(desk, "mirrored b a", "kept")
        self.answers(desk, "show b", "2: -1 -1")
        self.answers(desk, "names", "a b")

    def test_what_was_made_of_a_plait_stays_when_that_one_goes(self):
        desk = desk_with(a="3: 1 2")
        self.answers(desk, "flipped b a", "kept")
        self.answers(desk, "keep a 1:", "kept")
        self.answers(desk, "show b", "3: 2 1")
        self.answers(desk, "drop a", "dropped")
        self.answers(desk, "show b", "3: 2 1")

    def test_the_words_of_lines_are_names_too(self):
        desk = Desk()
        for word in ("keep", "drop", "show", "names", "turned", "mirrored", "flipped", "shorter", "behind", "same", "order",
                     "form", "closed", "none", "kept"):
            self.answers(desk, f"keep {word} 2: 1", "kept")
            self.answers(desk, f"show {word}", "2: 1")
            self.answers(desk, f"same {word} {word}", "same")


class MadeTest(DeskTest):
    """Point 85: what is made of plaits."""

    def test_ordinary_lines(self):
        desk = desk_with(a="4: 1 -2 2 3")
        for line, wanted in [
            ("turned b a", "4: -3 -2 2 -1"), ("mirrored b a", "4: -1 2 -2 -3"), ("flipped b a", "4: 3 -2 2 1"),
            ("shorter b a", "4: 1 3"), ("behind b a a", "4: 1 -2 2 3 1 -2 2 3"),
        ]:
            self.answers(desk, line, "kept")
            self.answers(desk, "show b", wanted)
            self.answers(desk, "show a", "4: 1 -2 2 3")

    def test_the_second_one_behind_the_first(self):
        desk = desk_with(a="3: 1", b="3: -2")
        self.answers(desk, "behind c a b", "kept")
        self.answers(desk, "show c", "3: 1 -2")
        self.answers(desk, "behind c b a", "kept")
        self.answers(desk, "show c", "3: -2 1")

    def test_as_told_of_plaits(self):
        for plait in small_plaits(2)[::3] + long_plaits()[::2]:
            desk = desk_with(a=shown(plait))
            for kind, make in (("turned", turned), ("mirrored", mirrored), ("flipped", flipped), ("shorter", shorter)):
                self.answers(desk, f"{kind} b a", "kept")
                self.assertEqual(desk.plaits(), {"a": plait, "b": make(plait)})
            if len(plait[1]) <= 8:
                self.answers(desk, "behind b a a", "kept")
                self.assertEqual(desk.plaits(), {"a": plait, "b": behind(plait, plait)})

    def test_unlike_strands(self):
        desk = desk_with(a="3: 1", b="4: 1", c="1:", d="6:")
        for one, other in [("a", "b"), ("b", "a"), ("c", "d"), ("d", "a")]:
            self.answers(desk, f"behind e {one} {other}", "unlike strands")
            self.answers(desk, f"behind a {one} {other}", "unlike strands")
            self.answers(desk, f"same {one} {other}", "unlike strands")

    def test_too_long(self):
        desk = desk_with(a="3:" + " 1" * 8, b="3:" + " -2" * 9, c="3:" + " 2" * 16, d="3: 1", e="3:")
        self.answers(desk, "behind f a b", "too long")
        self.answers(desk, "behind a b a", "too long")
        self.answers(desk, "behind f c d", "too long")
        self.answers(desk, "behind f d c", "too long")
        self.answers(desk, "behind f c c", "too long")
        self.answers(desk, "behind f a a", "kept")
        self.answers(desk, "show f", "3:" + " 1" * 16)
        self.answers(desk, "behind f c e", "kept")
        self.answers(desk, "behind f e c", "kept")
        self.answers(desk, "show f", "3:" + " 2" * 16)

    def test_unlike_strands_ahead_of_too_long(self):
        desk = desk_with(a="3:" + " 1" * 16, b="4:" + " 1" * 16)
        self.answers(desk, "behind c a b", "unlike strands")
        self.answers(desk, "behind a b a", "unlike strands")


class AskedTest(DeskTest):
    """Point 85: what is asked."""

    def test_same(self):
        desk = desk_with(
            a="3: 1 2 1", b="3: 2 1 2", c="3: 1 2", d="3: 2 1", e="3:", f="3: 2 -2", g="6: 5", h="6:", i="3: 2", j="1:")
        for one, other, wanted in [
            ("a", "b", "same"), ("b", "a", "same"), ("a", "a", "same"), ("e", "f", "same"), ("j", "j", "same"),
            ("c", "d", "unlike at 1"), ("d", "c", "unlike at 1"), ("e", "i", "unlike at 2"), ("g", "h", "unlike at 5"),
            ("h", "g", "unlike at 5"), ("a", "g", "unlike strands"), ("j", "h", "unlike strands"),
        ]:
            self.answers(desk, f"same {one} {other}", wanted)

    def test_same_by_the_least_letter(self):
        plaits = [plait for plait in small_plaits(2) if plait[0] in (3, 4)][::3]
        for one in plaits:
            for other in plaits:
                if one[0] == other[0]:
                    desk = desk_with(a=shown(one), b=shown(other))
                    pairs = zip(plain_images(*one), plain_images(*other))
                    at = [j for j, (first, second) in enumerate(pairs, start=1) if first != second]
                    self.answers(desk, "same a b", f"unlike at {at[0]}" if at else "same")

    def test_same_by_steps(self):
        for strands, word in long_plaits()[::9]:
            for _, led in plain_steps(strands, word, 16)[::3]:
                desk = desk_with(a=shown((strands, word)), b=shown((strands, led)))
                self.answers(desk, "same a b", "same")

    def test_order(self):
        for text, wanted in [
            ("1:", "1"), ("6:", "123456"), ("2: 1", "21"), ("4: 1 -2 3", "4123"), ("4: 3 2 1", "2341"), ("6: 5", "123465"),
        ]:
            self.answers(desk_with(a=text), "order a", wanted)
        for plait in small_plaits(2) + long_plaits():
            self.answers(desk_with(a=shown(plait)), "order a", places_in(order_of(plait)))

    def test_form(self):
        for text, wanted in [
            ("1:", "0"), ("6:", "0"), ("2: 1", "1"), ("2: -1 -1", "-2"), ("3: 1", "0 213"), ("3: 1 2", "0 312"),
            ("3: -1", "-1 312"), ("3: 1 2 1", "1"), ("4: 1 3", "0 2143"), ("3: 1 1", "0 213 213"),
        ]:
            self.answers(desk_with(a=text), "form a", wanted)
        for plait in small_plaits(2) + long_plaits():
            power, orders = form_of(plait)
            wanted = " ".join([str(power)] + [places_in(order) for order in orders])
            self.answers(desk_with(a=shown(plait)), "form a", wanted)

    def test_closed(self):
        for text, wanted in [
            ("1:", "1"), ("2:", "0"), ("6:", "0"), ("2: 1", "1"), ("2: 1 1", "1 -1"), ("2: 1 1 1", "1 -1 1"),
            ("3: 1 -2 1 -2", "1 -3 1"), ("3: 1 2 1 2 1 2", "1 -1 0 -1 1"), ("3: 1 2 1 2 1 2 1 2", "1 -1 0 1 0 -1 1"),
            ("3: 1 1 1 2 -1 2", "2 -3 2"), ("4: 1 3", "0"), ("2:" + " -1" * 16, "1 -1" + " 1 -1" * 7),
        ]:
            self.answers(desk_with(a=text), "closed a", wanted)
        for plait in small_plaits(2) + long_plaits():
            counts = dict(closed_sum(plait))
            wanted = " ".join(str(counts.get(power, 0)) for power in range(max(counts, default=0) + 1))
            self.answers(desk_with(a=shown(plait)), "closed a", wanted)


class BadTest(DeskTest):
    """Point 86."""

    def desk(self):
        return desk_with(a="4: 1 -2 3", b="4: 2", c="3: 1", abcdefgh="4:" + " 3" * 16)

    def test_no_such_line(self):
        desk = self.desk()
        for line in [
            "", " ", "  ", "a", "Names", "NAMES", "name", "names ", " names", "names a", "names none", "show", "show ", " show a",
            "show  a", "show a ", "show a b", "Show a", "shows a", "drop", "drop a b", "drop  a", "drop a ", "keep", "keep ",
            "keep a", "keep a ", "keep  a 1:", " keep a 1:", "Keep a 1:", "keep 1:", "keep 4: 1 2", "keep a b 1:", "turned",
            "turned a", "turned b a ", "turned  b a", "turned b  a", "turned b a a", "mirrored b", "mirrored b a a", "flipped b",
            "flipped b a c", "shorter b", "shorter b a a", "behind", "behind b", "behind b a", "behind b a a a", "behind b  a a",
            "same", "same a", "same a ", "same a  b", "same a b c", "order", "order a b", "order  a", "form", "form a a",
            "form a ", "closed", "closed a a", "closed ", "images a", "exit", "none", "kept",
        ]:
            self.answers(desk, line, "bad line")
        self.assertEqual(desk.plaits(), self.desk().plaits())

    def test_names_that_are_none(self):
        desk = self.desk()
        for name in NO_NAMES:
            for line in [
                f"keep {name} 1:", f"drop {name}", f"show {name}", f"turned {name} a", f"turned a {name}", f"mirrored {name} a",
                f"mirrored a {name}", f"flipped {name} a", f"flipped a {name}", f"shorter {name} a", f"shorter a {name}",
                f"behind {name} a b", f"behind a {name} b", f"behind a b {name}", f"same {name} a", f"same a {name}",
                f"order {name}", f"form {name}", f"closed {name}", f"names {name}",
            ]:
                self.answers(desk, line, "bad line")
        self.assertEqual(desk.plaits(), self.desk().plaits())

    def test_texts_that_write_no_plait(self):
        desk = self.desk()
        for text in NO_TEXTS:
            for name in ("a", "new", "abcdefgh", "NEW"):
                self.answers(desk, f"keep {name} {text}", "bad line")
        self.assertEqual(desk.plaits(), self.desk().plaits())

    def test_names_that_are_not_kept(self):
        desk = self.desk()
        for line in [
            "drop x", "show x", "turned new x", "turned a x", "mirrored new x", "flipped new x", "shorter new x", "turned x x",
            "behind new a x", "behind new x a", "behind new x x", "behind a x b", "behind x x a", "same a x", "same x a",
            "same x x", "order x", "form x", "closed x", "show abcdefg", "show aa", "show names", "drop none",
        ]:
            self.answers(desk, line, "no such name")
        self.assertEqual(desk.plaits(), self.desk().plaits())

    def test_bad_line_comes_ahead_of_no_such_name(self):
        desk = self.desk()
        for line in [
            "show X", "drop x y", "turned NEW x", "turned x", "behind new x Y", "behind New x y", "same x Y", "same x", "same X x",
            "keep NEW 9:", "order x x", "form x ", "closed  x", "behind new x y z", "behind new c X",
        ]:
            self.answers(desk, line, "bad line")

    def test_no_such_name_comes_ahead_of_unlike_strands_and_too_long(self):
        desk = self.desk()
        for line in ["behind new c x", "behind new x c", "behind new abcdefgh x", "behind new x abcdefgh", "same c x"]:
            self.answers(desk, line, "no such name")
        self.answers(desk, "behind new c abcdefgh", "unlike strands")
        self.answers(desk, "behind new abcdefgh c", "unlike strands")
        self.answers(desk, "behind new abcdefgh a", "too long")
        self.answers(desk, "behind a abcdefgh a", "too long")
        self.answers(desk, "same c abcdefgh", "unlike strands")
        self.assertEqual(desk.plaits(), self.desk().plaits())

    def test_lines_of_two_hundred_signs(self):
        desk = self.desk()
        for begin in ("keep a 4:", "keep long 4:", "show a", "show ", "names", "", "behind", "same a b", "keep "):
            for fill in (" ", "a", " 1", " -1", " a", "9", "~", "(", " 4:"):
                for signs in (199, 200, 201):
                    self.answers(desk, (begin + fill * 200)[:signs], "bad line")
        self.assertEqual(desk.plaits(), self.desk().plaits())

    def test_the_longest_lines_that_are_done(self):
        desk = Desk()
        line = "keep abcdefgh 6:" + " -5" * 16
        self.answers(desk, line, "kept")
        self.answers(desk, "show abcdefgh", "6:" + " -5" * 16)
        self.answers(desk, "behind abcdefgh abcdefgh abcdefgh", "too long")
        self.answers(desk, "mirrored abcdefgh abcdefgh", "kept")
        self.answers(desk, "show abcdefgh", "6:" + " 5" * 16)

    def test_numbers_of_many_figures(self):
        desk = self.desk()
        for number in ("9" * 30, "-" + "9" * 30, "1" + "0" * 30, "1" * 150):
            for line in (f"keep a {number}:", f"keep a 4: {number}", f"keep a 4: 1 {number} 2", f"show {number}"):
                self.answers(desk, line, "bad line")
        self.assertGreater(HUGE, 10 ** 5000)
        self.answers(desk, "show a", "4: 1 -2 3")


class ManyLinesTest(DeskTest):
    """Points 85 and 86: rows of lines, held to a dict that is kept beside the desk."""

    def wanted(self, kept, words):
        """What a line of names comes to, and what is kept behind it."""
        kind = words[0]
        old = words[2:] if kind in ("turned", "mirrored", "flipped", "shorter", "behind") else words[1:]
        if any(name not in kept for name in old):
            return "no such name", kept
        given = [kept[name] for name in old]
        if kind == "drop":
            return "dropped", {name: plait for name, plait in kept.items() if name != words[1]}
        if kind == "show":
            return shown(given[0]), kept
        if kind == "behind":
            if given[0][0] != given[1][0]:
                return "unlike strands", kept
            if len(given[0][1]) + len(given[1][1]) > 16:
                return "too long", kept
            return "kept", {**kept, words[1]: (given[0][0], given[0][1] + given[1][1])}
        make = {"turned": turned, "mirrored": mirrored, "flipped": flipped, "shorter": shorter}[kind]
        return "kept", {**kept, words[1]: make(given[0])}

    def test_long_rows(self):
        kinds = ["turned", "mirrored", "flipped", "shorter", "behind", "behind", "show", "drop", "keep", "keep", "bad"]
        plaits = small_plaits(2)[::3] + long_plaits()[::20]
        for seed in range(1, 9):
            desk = Desk()
            kept = {}
            for at in range(300):
                seed = (seed * 1103515245 + 12345) % 2 ** 31
                names = ["abcde"[seed // 2 ** shift % 5] for shift in (8, 12, 16)]
                kind = kinds[seed // 2 ** 20 % len(kinds)]
                if kind == "keep":
                    plait = plaits[seed // 2 ** 9 % len(plaits)]
                    self.answers(desk, f"keep {names[0]} {shown(plait)}", "kept")
                    kept = {**kept, names[0]: plait}
                elif kind == "bad":
                    self.answers(desk, f"show {names[0]} {names[1]}", "bad line")
                else:
                    words = [kind] + names[:{"show": 1, "drop": 1, "behind": 3}.get(kind, 2)]
                    answer, kept = self.wanted(kept, words)
                    self.answers(desk, " ".join(words), answer)
                self.assertEqual(desk.plaits(), kept)
                self.answers(desk, "names", " ".join(sorted(kept)) or "none")


class HandedInTest(DeskTest):
    """Point 1."""

    def test_two_desks_keep_nothing_of_one_another(self):
        one = desk_with(a="2: 1")
        other = Desk()
        self.assertEqual(other.plaits(), {})
        self.answers(other, "show a", "no such name")
        self.answers(other, "keep a 3: -2", "kept")
        self.answers(other, "keep b 1:", "kept")
        self.answers(one, "show a", "2: 1")
        self.answers(one, "show b", "no such name")
        self.answers(one, "drop a", "dropped")
        self.answers(other, "names", "a b")
        self.assertEqual(Desk().plaits(), {})

    def test_the_dict_that_is_told_may_be_changed(self):
        desk = desk_with(a="2: 1", b="3: -2")
        first = desk.plaits()
        self.assertIs(type(first), dict)
        first["c"] = (1, ())
        first["a"] = (6, ())
        first.pop("b")
        self.assertEqual(desk.plaits(), {"a": (2, (1,)), "b": (3, (-2,))})
        self.answers(desk, "names", "a b")
        self.answers(desk, "show a", "2: 1")
        self.answers(desk, "keep d 1:", "kept")
        self.assertNotIn("d", first)
        first.clear()
        self.answers(desk, "names", "a b d")


if __name__ == "__main__":
    unittest.main()
