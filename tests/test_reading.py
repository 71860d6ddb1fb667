import unittest

from samples import NUM, TRUTH, add, call, case, fun, listed, name, nil, num, one_of_each, to, truth
from test_writing import WRITTEN
from wellkind.checker import fault
from wellkind.errors import KindError, NoLine
from wellkind.reading import pointed, read
from wellkind.writing import shown, span

RESERVED = "num truth list to yes no add less if nil front case fun call".split()

NO_LINES = {
    "of point 20": ["", "(add 1 2", "(add 1  2)", "-0", "(nil 3)", "(fun if num 1)", "(x)"],
    "numbers": [
        "007", "00", "01", "-01", "-00", "+1", "+0", "--1", "-", "- 1", "1.5", "1.", ".5", "1e3", "1_000", "0x1",
        "1,000", "1-", "1-1", "(add 1 -0)", "(add 1 02)", "1a", "a1", "9" * 100 + "x", "0" + "9" * 100, "-x",
    ],
    "words that are no names": [
        "X", "Ab", "aB", "a_b", "_", "a1", "x'", "a-b", "None", "True", "False", "YES", "Yes", "x.y", "x,", "\"x\"",
        "list", "to", "add", "less", "if", "nil", "front", "case", "fun", "call",
    ],
    "kinds alone": ["num", "truth", "(list num)", "(to num num)", "(list (list num))"],
    "brackets": [
        "(", ")", "()", "(())", "((add 1 2))", "(add 1 2))", "((add 1 2)", ")(", "(add 1 2)(", "(add 1 (add 2 3)",
        "(add 1 2)1", "1(add 1 2)", "(add(add 1 2)3)", "(add (add 1 2)3)", "[add 1 2]", "add 1 2", "(add 1 2]",
        "(1)", "(-1)", "(yes)", "(num)", "(nil (num))", "(nil (truth))", "(fun (x) num 1)", "(add (1) 2)",
        "(add 1 (x))", "(if)", "(add)", "(list)", "(to)", "(nil)", "(call)", "() 1", "(1 2)", "(x y)", "(yes 1)",
        "((nil num))", "(add 1 2) (", ") 1 (", "(nil num))(",
    ],
    "blanks": [
        " ", "  ", " 1", "1 ", " x", "x ", "( add 1 2)", "(add 1 2 )", "(add  1 2)", "(add 1 2) ", " (add 1 2)",
        "(add\t1 2)", "(add 1\n2)", "1\n", "\n1", "(add 1 2)\n", "(add 1 (nil  num))", "(nil num )", "( nil num)",
        "(nil(list num))", "(fun x num(add 1 2))", "(add 1\u00a02)", "(add 1 2)\r", "1\x00", "\t", "(add1 2)",
        "(nil (list  num))", "(nil (list num ))", "(nil ( list num))", "(add 1 2)\x0b",
    ],
    "own parts too many or too few": [
        "(add 1)", "(add 1 2 3)", "(less 1)", "(less 1 2 3)", "(if yes 1)", "(if yes 1 2 3)", "(nil num num)",
        "(front 1)", "(front 1 (nil num) 2)", "(case num l 0 h t)", "(case num l 0 h t h 1)", "(case num l 0 h h)",
        "(fun x num)", "(fun x num 1 2)", "(fun x 1)", "(fun num 1)", "(call f)", "(call f 1 2)", "1 2", "x y",
        "(add 1 2) 3", "(nil (list))", "(nil (list num num))", "(nil (to num))", "(nil (to num num num))",
    ],
    "a kind where a part is due": [
        "(add num 1)", "(add 1 num)", "(less truth 1)", "(if truth 1 2)", "(if yes num 2)", "(if yes 1 (list num))",
        "(front num (nil num))", "(front 1 (list num))", "(case num (list num) 0 h t 1)", "(case num l num h t 1)",
        "(case num l 0 h t num)", "(fun x num num)", "(fun x num (to num num))", "(call num 1)", "(call f truth)",
    ],
    "a part where a kind is due": [
        "(nil 3)", "(nil x)", "(nil yes)", "(nil (nil num))", "(nil (add 1 2))", "(fun x x 1)", "(fun x 1 1)",
        "(fun x (nil num) 1)", "(case x l 0 h t 1)", "(case 1 l 0 h t 1)", "(case (nil num) l 0 h t 1)",
        "(nil (list x))", "(nil (list 1))", "(nil (to num x))", "(nil (to x num))", "(nil (list (nil num)))",
    ],
    "something else where a name is due": [
        "(fun 1 num x)", "(fun yes num 1)", "(fun num num 1)", "(fun (add 1 2) num 1)", "(fun -1 num 1)",
        "(fun (nil num) num 1)", "(fun (list num) num 1)", "(fun X num 1)", "(case num l 0 1 t 1)",
        "(case num l 0 h 1 1)", "(case num l 0 yes t 1)", "(case num l 0 h no 1)", "(case num l 0 num t 1)",
        "(case num l 0 h (add 1 2) 1)", "(case num l 0 (fun x num 1) t 1)", "(case num h t l 0 1)",
    ],
    "wrong words in brackets": [
        "(sub 1 2)", "(x 1)", "(x 1 2)", "(num 1)", "(truth yes)", "(name x)", "(yes 1 2)", "(no)", "(Add 1 2)",
        "(ADD 1 2)", "(list 1)", "(add add 1)", "(add 1 add)", "(nil list)", "(nil to)", "(add (add 1 2) to)",
        "(to 1 2)", "((add) 1 2)", "(add (list num) 1)", "(nil (nil))", "(nil (add num num))",
    ],
    "signs beyond a to z": [
        "\u00e4", "na\u00efve", "\uff58", "x\u0301", "\u0430", "\u0661", "\uff11", "\u00b2", "1\u0661", "-\u0661",
        "\u22121", "(add \u0661 1)", "(fun \u03bb num 1)", "(add 1 2\uff09", "\u200b1", "x\u200b", "\ufeff1",
        "\U0001d4b3", "\ud800", "~", "{", "`", "@", "[", "/", ":", "a`", "a{", "1/", "1:", "%", "#", "\\", "'",
    ],
}


class Read(unittest.TestCase):
    def test_what_is_shown_is_read_to_the_same_again(self):
        for expr, line in WRITTEN + [(expr, shown(expr)) for expr, own in one_of_each()]:
            self.assertEqual(read(line), expr)
            self.assertEqual(shown(read(line)), line)

    def test_an_expression_is_made_of_tuples(self):
        def sorts(part):
            found = {type(part), type(part[1]), type(part[2])}
            for own in part[2]:
                found = found | sorts(own)
            return found
        for expr, line in WRITTEN:
            self.assertEqual(sorts(read(line)), {tuple})

    def test_truths_and_numbers(self):
        self.assertIs(read("yes")[1][0], True)
        self.assertIs(read("no")[1][0], False)
        for line in ["0", "1", "-1"]:
            self.assertIs(type(read(line)[1][0]), int)

    def test_numbers_of_many_figures(self):
        for figures in ["1", "9" * 100, "1" + "0" * 99, "1234567890" * 10, "8" * 150]:
            self.assertEqual(read(figures), num(int(figures)))
            self.assertEqual(read("-" + figures), num(-int(figures)))
            self.assertEqual(read(f"(add -{figures} {figures})"), add(num(-int(figures)), num(int(figures))))

    def test_numbers_of_far_too_many_figures(self):
        for figures in ["1" + "0" * 5000, "12345" * 1000]:
            for line in [figures, "-" + figures]:
                self.assertEqual(shown(read(line)), line)
            for text in ["0" + figures, "-0" + figures, figures + "x", "0" * 5000]:
                with self.assertRaises(NoLine):
                    read(text)

    def test_every_short_number(self):
        for number in range(-1100, 1101):
            self.assertEqual(read(str(number)), num(number))

    def test_names(self):
        letters = "abcdefghijklmnopqrstuvwxyz"
        words = [word + "x" for word in RESERVED] + ["x" + word for word in RESERVED] + ["name", "ye", "n", "fu"]
        for text in list(letters) + [letters * 10] + words:
            self.assertEqual(read(text), name(text))
            self.assertEqual(read(f"(fun {text} num {text})"), fun(text, NUM, name(text)))
            self.assertEqual(
                read(f"(case num {text} 1 {text} {text} 2)"), case(NUM, text, text, name(text), num(1), num(2)))

    def test_reserved_words_are_no_names(self):
        for word in RESERVED:
            for line in [f"(fun {word} num 1)", f"(case num l 0 {word} t 1)", f"(case num l 0 h {word} 1)"]:
                with self.assertRaises(NoLine):
                    read(line)
            if word not in ("yes", "no"):
                for line in [word, f"(add {word} 1)", f"(add 1 {word})", f"(call f {word})"]:
                    with self.assertRaises(NoLine):
                        read(line)

    def test_marks_stand_in_their_order(self):
        self.assertEqual(
            read("(case (list truth) a b h t c)"), case(listed(TRUTH), "h", "t", name("a"), name("b"), name("c")))
        self.assertEqual(read("(fun f (to num truth) f)"), fun("f", to(NUM, TRUTH), name("f")))
        self.assertEqual(read("(nil (to (list num) truth))"), nil(to(listed(NUM), TRUTH)))

    def test_faults_are_read_too(self):
        self.assertEqual(read("(add yes (add no 1))"), add(truth(True), add(truth(False), num(1))))
        self.assertEqual(read("(call 1 x)"), call(num(1), name("x")))


class NoLines(unittest.TestCase):
    def test_each_is_refused(self):
        for why, texts in NO_LINES.items():
            for text in texts:
                for work in [read, pointed]:
                    with self.assertRaises(NoLine, msg=(why, text)) as refused:
                        work(text)
                    self.assertIsInstance(refused.exception, KindError)

    def test_a_line_with_one_sign_more_or_fewer(self):
        """Either no line, or the line of just what it is read to."""
        signs = " ()-01ax\n"
        for expr, line in WRITTEN:
            changed = [line[:at] + sign + line[at:] for at in range(len(line) + 1) for sign in signs]
            changed += [line[:at] + line[at + 1:] for at in range(len(line))]
            for text in changed:
                self.assert_line_or_refused(text)

    def test_every_sign(self):
        for code in range(0x2ff):
            sign = chr(code)
            letter = sign in "abcdefghijklmnopqrstuvwxyz"
            figure = sign in "0123456789"
            for text, line in [(sign, letter or figure), ("a" + sign, letter), (sign + "a", letter),
                               ("1" + sign, figure), (sign + "1", figure and sign != "0" or sign == "-")]:
                if line:
                    self.assertEqual(shown(read(text)), text)
                else:
                    with self.assertRaises(NoLine, msg=text):
                        read(text)

    def test_every_short_text(self):
        texts = [""]
        for length in range(5):
            texts = [text + sign for text in texts for sign in "(x 0-1)"]
            for text in texts:
                self.assert_line_or_refused(text)

    def test_every_order_of_few_words(self):
        rows = [[]]
        words = ["(", ")", "nil", "num", "x", "1", "fun"]
        for length in range(5):
            rows = [row + [word] for row in rows for word in words]
            for row in rows:
                self.assert_line_or_refused(" ".join(row).replace("( ", "(").replace(" )", ")"))

    def assert_line_or_refused(self, text):
        try:
            expr = read(text)
        except NoLine:
            return
        self.assertEqual(shown(expr), text)

    def test_long_texts_that_are_no_lines(self):
        many = 20000
        for text in ["(" * many, ")" * many, "(" * many + ")" * many, " " * many, "(add " * many + "1" + ")" * many,
                     "(add 1 " * many, "1 " * many]:
            with self.assertRaises(NoLine):
                read(text)


class Pointed(unittest.TestCase):
    def test_the_example(self):
        self.assertEqual(pointed("(add 1 yes)"), (7, 10))

    def test_without_a_fault(self):
        for line in ["1", "yes", "(nil num)", "(call (fun x num (add x -1)) 5)", "(if yes 1 2)",
                     "(case num (nil num) 0 h t h)", "(fun f (to num truth) (call f 1))"]:
            self.assertIsNone(pointed(line))

    def test_with_a_fault(self):
        for line, stretch in [
            ("x", (0, 1)),
            ("nowhere", (0, 7)),
            ("(add yes 1)", (5, 8)),
            ("(add yes no)", (5, 8)),
            ("(less 1 (nil num))", (8, 17)),
            ("(if 1 2 3)", (4, 5)),
            ("(if yes 2 no)", (10, 12)),
            ("(front 1 (nil truth))", (9, 20)),
            ("(case num 12 0 h t h)", (10, 12)),
            ("(case num (nil num) 0 h t t)", (26, 27)),
            ("(case num (nil num) x h t h)", (20, 21)),
            ("(fun x num y)", (11, 12)),
            ("(call 15 2)", (6, 8)),
            ("(call (fun x num x) yes)", (20, 23)),
            ("(call (fun x num (add x yes)) 1)", (24, 27)),
            ("(add (add 1 no) (add 1 yes))", (12, 14)),
        ]:
            self.assertEqual(pointed(line), stretch, line)
            self.assertIs(type(pointed(line)), tuple)

    def test_it_is_the_stretch_of_the_faults_place(self):
        for expr, line in WRITTEN:
            told = fault(expr, [])
            if told is None:
                self.assertIsNone(pointed(line))
            else:
                self.assertEqual(pointed(line), span(expr, told[0]))


if __name__ == "__main__":
    unittest.main()
