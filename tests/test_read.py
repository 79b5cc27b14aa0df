"""Reading the texts of boxes and of surroundings, and the place at which they are wrong."""

import unittest
from random import Random

from notesttells.box import Box, read_around, read_box
from notesttells.errors import BadText, TestError
from texts import AROUND, BOX, RESERVED, Drawn, first_wrong, spoiled, written_box

WORDS = [
    "buttons", "answers", "var", "start", "press", "set", "draw", "use", "say", "if", "else", "end", "mod", "+", "-",
    "*", "/", "<", "=", "0", "1", "2", "4", "5", "6", "7", "12", "13", "65535", "65536", "00", "01", "-1", "+1", "x",
    "y", "z", "abcdefgh", "abcdefghi", "X", "x1", "", "\n", "\t", "x\n", ">", "1.5", "~", "!", "presss",
]


def wrong_at(text, around):
    """The `at` of the BadText for a text, or None if it is read."""
    try:
        found = read_around(text) if around else read_box(text)
    except BadText as error:
        return error.at
    assert type(found) is Box
    return None


class Checks(unittest.TestCase):
    def assert_wrong(self, text, at, around=None):
        """The text is wrong at this word, as that of a box, that of a surrounding, or both."""
        for kind in (False, True) if around is None else (around,):
            with self.subTest(text=text, around=kind):
                with self.assertRaises(TestError) as caught:
                    (read_around if kind else read_box)(text)
                self.assertIs(type(caught.exception), BadText)
                self.assertIs(type(caught.exception.at), int)
                self.assertEqual(caught.exception.at, at)

    def assert_read(self, text, around=None):
        for kind in (False, True) if around is None else (around,):
            with self.subTest(text=text, around=kind):
                self.assertIsNone(wrong_at(text, kind))

    def assert_short(self, text):
        """Words are missing at the end of the text."""
        self.assert_wrong(text, len(text.split(" ")))

    def assert_wrong_from(self, ahead, behind, around=None):
        """The text is wrong at the first word of what stands behind."""
        self.assert_wrong(f"{ahead} {behind}", len(ahead.split(" ")), around)


class Frame(Checks):
    def test_the_empty_text(self):
        self.assert_wrong("", 0)

    def test_all_beginnings_of_texts(self):
        for text, kinds in ((BOX, (False, True)), (AROUND, (True,))):
            words = text.split(" ")
            complete = words.index("press")
            for many in range(len(words) + 1):
                beginning = " ".join(words[:many])
                for around in kinds:
                    at = wrong_at(beginning, around)
                    self.assertIn(at, (many, None) if many > complete else (many,))

    def test_buttons_and_answers(self):
        for many in range(1, 5):
            self.assert_read(f"buttons {many} answers {5 - many} start press")
        for word in ("0", "5", "10", "01", "", "x", "-1", "4 ", "one"):
            self.assert_wrong(f"buttons {word} answers 1 start press", 1 if word != "4 " else 2)
            self.assert_wrong(f"buttons 1 answers {word} start press", 3 if word != "4 " else 4)
        self.assert_wrong("answers 1 buttons 1 start press", 0)
        self.assert_wrong("buttons 1 buttons 1 start press", 2)
        self.assert_wrong("buttons 1 start press", 2)
        self.assert_wrong("Buttons 1 answers 1 start press", 0)

    def test_spaces_newlines_and_tabs(self):
        text = "buttons 1 answers 1 start press say 0"
        words = text.split(" ")
        self.assert_read(text)
        self.assert_wrong(" " + text, 0)
        self.assert_wrong(" ", 0)
        self.assert_wrong(text + " ", len(words))
        self.assert_wrong(text + "  ", len(words))
        self.assert_wrong(text + "\n", len(words) - 1)
        for at in range(1, len(words)):
            self.assert_wrong(" ".join(words[:at]) + "  " + " ".join(words[at:]), at)
            self.assert_wrong(" ".join(words[:at]) + "\n" + " ".join(words[at:]), at - 1)
            self.assert_wrong(" ".join(words[:at]) + "\t" + " ".join(words[at:]), at - 1)
            self.assert_wrong(" ".join(words[:at]) + " \n " + " ".join(words[at:]), at)
        self.assert_wrong("\n", 0)

    def test_words_behind_the_end_of_a_block(self):
        text = "buttons 1 answers 1 var x 2 start press set x 1"
        for word in ("end", "else", "press", "start", "buttons", "var", "x", "0", "+", "mod", "", "set1"):
            self.assert_wrong_from(text, word)

    def test_start_and_press_stand_just_once(self):
        self.assert_wrong_from("buttons 1 answers 1", "press")
        self.assert_wrong_from("buttons 1 answers 1 start", "start press")
        self.assert_wrong_from("buttons 1 answers 1 start press", "press")


class Variables(Checks):
    def test_up_to_four(self):
        head = "buttons 1 answers 1"
        for name in "abcd":
            self.assert_read(head + " start press")
            head += f" var {name} 3"
        self.assert_read(head + " start press")
        self.assert_wrong_from(head, "var e 3 start press")
        self.assert_wrong_from(head, "var")

    def test_sizes(self):
        for size in range(1, 13):
            self.assert_read(f"buttons 1 answers 1 var x {size} start press")
        for size in ("0", "13", "01", "012", "65535", "", "x", "-1", "1x"):
            self.assert_wrong(f"buttons 1 answers 1 var x {size} start press", 6)
        self.assert_wrong("buttons 1 answers 1 var x start press", 6)

    def test_names(self):
        for name in ("a", "z", "abcdefgh", "zzzzzzzz", "var" * 2, "ifs", "modmod", "ends", "elsee", "xif"):
            self.assert_read(f"buttons 1 answers 1 var {name} 2 start set {name} {name} press")
        wrong = ["abcdefghi", "X", "xY", "x1", "1", "x_y", "x-y", "", "+", "<", "x.", "x\n", "\tx", "`", "{", "@a"]
        for name in [*RESERVED, *wrong]:
            self.assert_wrong(f"buttons 1 answers 1 var {name} 2 start press", 5)

    def test_doubled_names(self):
        self.assert_wrong("buttons 1 answers 1 var x 2 var x 3 start press", 8)
        self.assert_wrong("buttons 1 answers 1 var x 2 var y 3 var x 2 start press", 11)
        self.assert_read("buttons 1 answers 1 var x 2 var xx 3 var xxx 2 start press")

    def test_names_that_are_not_declared(self):
        head = "buttons 1 answers 1 var x 2 start press"
        for begin in ("set", "draw", "set x", "set x + 1", "if", "say", "say * 3"):
            self.assert_wrong_from(f"{head} {begin}", "y")
            self.assert_wrong_from(f"{head} {begin}", "xx")
        self.assert_wrong_from(f"{head} use", "y", True)
        self.assert_wrong_from(f"{head} use x", "y", True)

    def test_without_variables_nothing_can_be_stored(self):
        for head in ("buttons 1 answers 1 start", "buttons 1 answers 1 start press", "buttons 1 answers 1 start if 1"):
            for word in ("set", "draw", "use", "set x 1", "draw x 2", "use x 0"):
                self.assert_wrong_from(head, word)


class Statements(Checks):
    def test_words_of_one_of_both_blocks(self):
        head = "buttons 1 answers 1 var x 2 start"
        for text in ("say 1", "say", "if 0 say 1 end"):
            at = text.split(" ").index("say")
            self.assert_wrong(f"{head} {text} press", 8 + at)
            if text != "say":
                self.assert_read(f"{head} press {text}")
        for text in ("set x press", "if press end", "set x + 1 press", "if < press 1 end"):
            at = text.split(" ").index("press")
            self.assert_wrong(f"{head} {text} press", 8 + at)
            self.assert_read(f"{head} press {text}")
        self.assert_wrong(f"{head} use x press press", 10, True)

    def test_press_ends_no_if(self):
        self.assert_wrong_from("buttons 1 answers 1 start if 1", "press")
        self.assert_wrong_from("buttons 1 answers 1 start press if 1", "press end")

    def test_use_stands_in_surroundings_only(self):
        for head in ("buttons 1 answers 1 var x 2 start", "buttons 1 answers 1 var x 2 start press if x"):
            self.assert_wrong_from(head, "use x 1", False)
        self.assert_read("buttons 1 answers 1 var x 2 start use x 1 press if x use x x end", True)

    def test_draws(self):
        head = "buttons 1 answers 1 var x 2 start"
        for many in range(1, 7):
            self.assert_read(f"{head} draw x {many} press")
        for word in ("0", "7", "01", "x", "+", "", "press"):
            self.assert_wrong_from(f"{head} draw x", f"{word} press")
            self.assert_wrong_from(f"{head} press draw x", word)

    def test_three_draws_together(self):
        draw = " draw x 2"
        head = "buttons 1 answers 1 var x 2 start"
        for ahead in range(4):
            text = head + draw * ahead + " press" + draw * (3 - ahead)
            self.assert_read(text)
            self.assert_wrong_from(text, "draw x 2")
            self.assert_wrong_from(text, "draw")
        self.assert_wrong_from(head + draw * 3, "draw x 2 press")
        nested = f"{head} if 0{draw} else{draw} end press if x if x{draw} else"
        self.assert_wrong_from(nested, "draw x 2 end end")
        self.assert_read(nested + " set x 1 end end")

    def test_24_uses_together(self):
        use = " use x 0"
        head = "buttons 1 answers 1 var x 2 start"
        for ahead in (0, 1, 12, 23, 24):
            text = head + use * ahead + " press" + use * (24 - ahead)
            self.assert_read(text, True)
            self.assert_wrong_from(text, "use x 0", True)
            self.assert_wrong_from(text, "use", True)
        nested = head + " if 0" + use * 10 + " else" + use * 10 + " end press if 1" + use * 4
        self.assert_wrong_from(nested, "use x 0 end", True)
        self.assert_read(nested + " else draw x 2 end", True)

    def test_draws_and_uses_are_counted_by_themselves(self):
        head = "buttons 1 answers 1 var x 2 start"
        self.assert_read(head + " draw x 2" * 3 + " use x 0" * 24 + " set x 1" * 30 + " press", True)
        self.assert_read(head + " use x 0" * 24 + " draw x 2" * 3 + " press" + " say x" * 30, True)

    def test_depth_of_ifs(self):
        for head in ("buttons 1 answers 1 start", "buttons 1 answers 1 var x 2 start press"):
            text = head
            for _ in range(4):
                text += " if 0"
            self.assert_wrong_from(text, "if 0 end end end end end press")
            self.assert_wrong_from(text + " end end", "press")
            self.assert_short(text)
            self.assert_read("buttons 1 answers 1 start press" + " if 0" * 4 + " end" * 4)
        # An `if` behind another one is no deeper.
        self.assert_read("buttons 1 answers 1 start press" + " if 0 end" * 9)
        self.assert_read("buttons 1 answers 1 start press if 0" + " if 0 end" * 9 + " else" + " if 0 end" * 9 + " end")

    def test_else_is_followed_by_a_statement(self):
        head = "buttons 1 answers 1 start press if 1 say 0 else"
        for word in ("end", "else", "", "press"):
            self.assert_wrong_from(head, word)
        self.assert_read(head + " say 1 end")
        self.assert_wrong_from(head + " say 1", "else say 2 end")
        self.assert_wrong_from("buttons 1 answers 1 start press if 1 end", "else say 0 end")
        self.assert_wrong_from("buttons 1 answers 1 start press", "else say 0 end")

    def test_else_where_no_statement_could_follow(self):
        start = "buttons 1 answers 1 start"
        # Without variables only an `if` can follow at the start, and none below the depth 4.
        self.assert_wrong_from(start + " if 0" * 4, "else")
        self.assert_wrong_from(start + " if 0" * 4, "else if 0 end")
        self.assert_wrong_from(start + " if 0" * 3 + " else if 0", "else")
        self.assert_wrong_from(start + " if 0 else" * 3 + " if 0", "else")
        for many in (1, 2, 3):
            self.assert_short(start + " if 0" * many + " else")
            self.assert_read(start + " if 0" * many + " else if 0 end" + " end" * many + " press")
        self.assert_read(start + " if 0" * 4 + " end else if 0 end end end end press")
        self.assert_wrong_from(start + " if 0" * 4 + " end else", "set")
        # At a press `say` can follow, and with variables `set` can.
        self.assert_read(start + " press" + " if 0" * 4 + " else say 0" + " end" * 4)
        self.assert_wrong_from(start + " press" + " if 0" * 4 + " else", "if 0 end")
        self.assert_read("buttons 1 answers 1 var x 2 start" + " if 0" * 4 + " else set x 0" + " end" * 4 + " press")
        self.assert_wrong_from("buttons 1 answers 1 var x 2 start" + " if 0" * 4 + " else", "end")
        self.assert_read(
            "buttons 1 answers 1 var x 2 start draw x 2 draw x 2 draw x 2" + " if 0" * 4 + " else set x 0" + " end" * 4
            + " press"
        )


class Expressions(Checks):
    HEAD = "buttons 1 answers 1 var x 2 start press say"

    def test_numbers(self):
        for word in ("0", "1", "9", "10", "9999", "12345", "65535", "60000"):
            self.assert_read(f"{self.HEAD} {word}")
        for word in (
            "00", "01", "065535", "65536", "65540", "66000", "70000", "99999", "100000", "1" * 5000, "-1", "-0", "+1",
            "1.", "1x", "0x1", "1_0", " ", "\n1", "1\n",
        ):
            self.assert_wrong_from(self.HEAD, word)

    def test_each_operator(self):
        for word in ("+", "-", "*", "/", "mod", "<", "="):
            self.assert_read(f"{self.HEAD} {word} 1 x")
            self.assert_read(f"{self.HEAD} {word} {word} 1 x {word} press 2")
            self.assert_short(f"{self.HEAD} {word} 1")
            self.assert_short(f"{self.HEAD} {word}")
            self.assert_wrong_from(f"{self.HEAD} {word} 1 2", "3")
        for word in ("%", "//", "**", ">", "<=", "==", "!=", "and", "(", "Mod", "plus", "not"):
            self.assert_wrong_from(self.HEAD, f"{word} 1 x")

    def test_depth(self):
        for word in ("+", "mod"):
            deep = f"{self.HEAD}" + f" {word}" * 4
            self.assert_read(deep + " 1" * 5)
            self.assert_wrong_from(deep, f"{word} 1 1 1 1 1 1")
            self.assert_wrong_from(deep + " 1", f"{word} 1 1 1 1 1")
            right = self.HEAD + f" {word} 1" * 4
            self.assert_read(right + " 1")
            self.assert_wrong_from(right, f"{word} 1 1")
        full = "+ + + + 1 1 + 1 1 + + 1 1 + 1 1 + + + 1 1 + 1 1 + + 1 1 + 1 1"
        self.assert_read(f"{self.HEAD} {full}")

    def test_statements_are_no_expressions(self):
        for word in ("set", "say", "if", "end", "else", "start", "buttons", "var", "answers", "draw", "use"):
            self.assert_wrong_from(self.HEAD, word)


class Spoiled(Checks):
    def assert_as_expected(self, text):
        for around in (False, True):
            expected, found = first_wrong(text, around), wrong_at(text, around)
            if expected != found:
                self.fail(f"{text!r} (around: {around}) is wrong at {expected}, not at {found}")

    def test_each_word_at_each_place(self):
        for text in (BOX, AROUND):
            for words in spoiled(text.split(" "), WORDS):
                self.assert_as_expected(" ".join(words))

    def test_drawn_texts(self):
        random = Random(62)
        for at in range(60):
            text = written_box(*Drawn(random, at % 2 == 0).data())
            self.assertIsNone(first_wrong(text, at % 2 == 0))
            self.assert_as_expected(text)
            for words in spoiled(text.split(" "), random.sample(WORDS, 4)):
                self.assert_as_expected(" ".join(words))

    def test_texts_that_are_full(self):
        """Texts that reach bounds, so that most of what is put in goes beyond one."""
        use, draw = " use x 0" * 24, " draw x 6" * 3
        for text in (
            "buttons 4 answers 4 var x 12 start press" + use + " set x 1",
            "buttons 4 answers 4 var x 12 var y 1 var z 2 var a 3 start" + draw + " press set y x",
            "buttons 1 answers 1 start" + " if 0" * 4 + " end" * 4 + " press" + " if 0" * 4 + " else say 1" + " end" * 4,
            "buttons 1 answers 1 start" + " if 0 end if 0" * 3 + " if 0 end else if 0 end" + " end" * 3 + " press",
            "buttons 1 answers 1 start press say" + " + 1" * 4 + " 1 if" + " +" * 4 + " 1" * 5 + " end",
        ):
            for words in spoiled(text.split(" "), ["if", "else", "end", "+", "0", "use", "draw", "var", "set", "x", "say"]):
                self.assert_as_expected(" ".join(words))


class AllTexts(unittest.TestCase):
    """All texts of a small language, and all words behind each beginning of one of them."""

    def blocks(self, many, depth, others):
        """All blocks of so many statements, also inner ones: `if` of this depth or deeper, and the others."""
        if many == 0:
            return [[]]
        found = [[other, *behind] for other in others for behind in self.blocks(many - 1, depth, others)]
        if depth > 4:
            return found
        for inner in range(many):
            for chosen in range(inner + 1):
                for first in self.blocks(chosen, depth + 1, others):
                    for second in self.blocks(inner - chosen, depth + 1, others):
                        words = ["if 0", *first, *(["else", *second] if second else []), "end"]
                        found += [words + behind for behind in self.blocks(many - 1 - inner, depth, others)]
        return found

    def assert_all(self, head, tail, most, others, words):
        """Behind each beginning of a block, just the words fit with which it is a beginning of such a block."""
        beginnings = {}
        for many in range(most + 1):
            for block in self.blocks(many, 1, others):
                text = " ".join([head, *block, *tail]).split(" ")
                for at in range(len(head.split(" ")), len(text) + 1):
                    beginnings.setdefault(tuple(text[:at]), (many, at > len(text) - len(tail)))
        asked = 0
        for beginning, (many, is_ended) in beginnings.items():
            # With fewer things than the most, whatever may follow is a beginning that was gone through.
            if many < most and not is_ended:
                for word in words:
                    text = beginning + (word,)
                    at = wrong_at(" ".join(text), True)
                    fits = at in (None, len(text)) if text in beginnings else at == len(beginning)
                    self.assertTrue(fits, (text, at))
                    asked += 1
        self.assertGreater(asked, 1000)

    def test_ifs_at_the_start(self):
        words = ["if", "else", "end", "0", "press", "set", "say", "draw", "use", ""]
        self.assert_all("buttons 1 answers 1 start", ["press"], 6, [], words)

    def test_ifs_and_says_at_a_press(self):
        words = ["if", "else", "end", "0", "say", "set", "draw", "use", "start"]
        self.assert_all("buttons 1 answers 1 start press", [], 4, ["say 0"], words)

    def test_ifs_and_sets_at_the_start(self):
        words = ["if", "else", "end", "0", "press", "set", "say", "var"]
        self.assert_all("buttons 1 answers 1 var x 2 start", ["press"], 4, ["set x 0"], words)


if __name__ == "__main__":
    unittest.main()
