"""Point [13], with the interface's stage 10: texts of cases."""

import unittest

from talkedalike.cases import Case
from talkedalike.errors import BadLine
from talkedalike.texts import format_case, read_case
from tests import by_the_words
from tests.drawn import draw_case, draw_cells, drawer
from tests.helpers import Refusals, cells, seen_of, values_of_all_kinds

TEXT = "worlds c ab b\nweights 10 2 305\nzoe ab b | c\nworlds ab c b\nal ab | b | c"


def a_case():
    return Case(["c", "ab", "b"], [10, 2, 305],
                [("zoe", (("c",), ("b", "ab"))), ("worlds", (("b", "c", "ab"),)), ("al", (("c",), ("b",), ("ab",)))])


def name_of(number):
    """A name of its own for each number below 26 ** 4."""
    return "".join("abcdefghijklmnopqrstuvwxyz"[number // 26 ** place % 26] for place in range(4))


class FormatTest(unittest.TestCase):
    def test_worlds_and_people_as_handed_in_and_cells_ascending(self):
        due = "worlds c ab b\nweights 10 2 305\nzoe ab b | c\nworlds ab b c\nal ab | b | c"
        self.assertEqual(format_case(a_case()), due)
        self.assertEqual(format_case(case=a_case()), due)

    def test_the_least_case(self):
        self.assertEqual(format_case(Case(["a"], [1], [("a", (("a",),))])), "worlds a\nweights 1\na a")

    def test_great_weights(self):
        case = Case(("a", "b"), (10 ** 999, 10 ** 1000 - 1), (("ann", cells("a b")),))
        due = "worlds a b\nweights 1" + "0" * 999 + " " + "9" * 1000 + "\nann a | b"
        self.assertEqual(format_case(case), due)
        self.assertEqual(read_case(due), case)

    def test_the_case_stays(self):
        case = a_case()
        format_case(case)
        self.assertEqual(seen_of(case), seen_of(a_case()))


class ReadTest(unittest.TestCase):
    def test_by_hand(self):
        case = read_case(TEXT)
        self.assertIs(type(case), Case)
        self.assertEqual(case, a_case())
        self.assertEqual(seen_of(case), seen_of(a_case()))
        self.assertEqual(read_case(text=TEXT), a_case())

    def test_cells_and_their_worlds_in_any_order(self):
        for line in ["zoe ab b | c", "zoe b ab | c", "zoe c | b ab", "zoe c | ab b"]:
            self.assertEqual(read_case(TEXT.replace("zoe ab b | c", line)), a_case())
        draw = drawer(13)
        for _ in range(50):
            case = draw_case(draw)
            lines = format_case(case).split("\n")[:2]
            for name in case.names:
                parts = [draw.sample(some, len(some)) for some in case.cells(name)]
                draw.shuffle(parts)
                lines.append(name + " " + " | ".join(" ".join(part) for part in parts))
            self.assertEqual(read_case("\n".join(lines)), case)

    def test_names_that_are_other_words_too(self):
        text = "worlds worlds weights\nweights 1 2\nweights weights | worlds\nworlds worlds weights"
        case = Case(["worlds", "weights"], [1, 2], [("weights", (("worlds",), ("weights",))), ("worlds", (("weights", "worlds"),))])
        self.assertEqual(read_case(text), case)

    def test_written_and_read_back(self):
        draw = drawer(131)
        for _ in range(150):
            case = draw_case(draw, most_worlds=8, most_people=6)
            text = format_case(case)
            self.assertEqual(read_case(text), case)
            self.assertEqual(seen_of(read_case(text)), seen_of(case))
            self.assertEqual(format_case(read_case(text)), text)
            self.assertIsNone(by_the_words.bad_line(text))

    def test_large_cases(self):
        draw = drawer(132)
        worlds = [name_of(number) for number in range(2000)]
        draw.shuffle(worlds)
        weights = [draw.randint(1, 10 ** 40) for _ in worlds]
        names = draw.sample([name_of(number) + "x" for number in range(3000)], 40)
        case = Case(worlds, weights, [(name, draw_cells(draw, worlds)) for name in names])
        self.assertEqual(read_case(format_case(case)), case)
        people = [(name_of(number), cells("b a")) for number in range(5000)]
        case = Case(["b", "a"], [3, 4], people)
        self.assertEqual(read_case(format_case(case)), case)


class BadLineTest(Refusals, unittest.TestCase):
    def check(self, text, line):
        self.assertEqual(by_the_words.bad_line(text), line, text)
        self.refused(BadLine, read_case, text, attributes={"line": line})
        self.refused(BadLine, read_case, text=text, attributes={"line": line})

    def test_what_is_no_string(self):
        for value in [value for value in values_of_all_kinds() if not isinstance(value, str)] + [
                a_case(), [TEXT], TEXT.split("\n"), (TEXT,), None, {TEXT: 1}, BadLine(1)]:
            self.refused(BadLine, read_case, value, attributes={"line": 1})

    def test_strings_of_all_kinds(self):
        for value in [value for value in values_of_all_kinds() if isinstance(value, str)] + ["world", "worlds", "worlds ", "weights 1"]:
            self.check(value, 1)

    def test_the_first_line(self):
        for line in ["worlds", "worlds ", "worlds  a", "worlds a ", " worlds a", "worlds a a", "worlds a b a", "worlds A", "worlds a1",
                     "worlds abcdefghi", "worlds a\tb", "Worlds a", "weights a", "a", "", "worlds a | b", "worlds a, b", "worldsa",
                     "worlds a  b", "world a", "worlds a-b", "worlds 1", "worlds\ta", "worlds a\r"]:
            for rest in ["", "\nweights 1\nann a", "\nweights 0"]:
                self.check(line + rest, 1)

    def test_the_second_line(self):
        for line in ["weights", "weights 1", "weights 1 2 3", "weights 0 1", "weights 1 0", "weights 01 1", "weights 1 -1", "weights 1 +1",
                     "weights 1 1.0", "weights 1 a", "weights  1 1", "weights 1  1", "weights 1 1 ", " weights 1 1", "weight 1 1",
                     "worlds a b", "ann a b", "", "weights 1 1_0", "weights 1 1e3", "weights 1,1", "weights 1 00", "Weights 1 1",
                     "weights 1\t1", "weights 1 1\t", "1 1"]:
            for rest in ["", "\nann a b", "\nann"]:
                self.check("worlds a b\n" + line + rest, 2)

    def test_figures_of_other_writings(self):
        for word in ["\u0663", "\u00b2", "\uff11", "1\u0661"]:
            self.check("worlds a\nweights " + word + "\nann a", 2)

    def test_lines_of_people(self):
        head = "worlds a b c\nweights 1 2 3\nann a | b c\n"
        for line in ["", "bob", "bob ", "bob a b", "bob a b c c", "bob a b c d", "bob a | b", "bob a b c |", "bob | a b c", "bob a | | b c",
                     "bob a |b c", "bob a| b c", "bob a  b c", "bob a b c ", " bob a b c", "ann a b c", "Bob a b c", "abcdefghi a b c",
                     "a b c", "bob a b | a c", "bob a || b c", "bob a, b, c", "| a b c", "bob a b c\t", "bob  a b c", "bob a |  b c", "b1 a b c"]:
            for rest in ["", "\ncas a b c", "\n\n"]:
                self.check(head + line + rest, 4)
        self.check(head + "bob a b c\nbob a b c", 5)
        self.check(head + "bob a b c\ncas a b c\ndora a b c\nann a b c\nbob a", 7)

    def test_lines_that_lack(self):
        self.check("worlds a b", 2)
        self.check("worlds a b\nweights 1 2", 3)
        self.check("worlds a b\n", 2)
        self.check("worlds a b\nweights 1 2\n", 3)

    def test_a_newline_at_the_end(self):
        self.check(TEXT + "\n", 6)
        self.check(TEXT + "\n\n", 6)
        self.check("\n" + TEXT, 1)
        self.check(TEXT.replace("\n", "\n\n"), 2)
        self.check(TEXT.replace("\n", "\r\n"), 1)
        self.check(TEXT.replace("\n", " "), 1)

    def test_signs_and_lines_exchanged(self):
        draw = drawer(133)
        found = set()
        for _ in range(1500):
            text = format_case(draw_case(draw, most_worlds=4))
            other = text
            for _ in range(draw.randint(1, 2)):
                other = self.changed(draw, other)
            due = by_the_words.bad_line(other)
            found.add(due)
            if due is None:
                self.assertIs(type(read_case(other)), Case)
            else:
                self.refused(BadLine, read_case, other, attributes={"line": due})
        self.assertTrue({None, 1, 2, 3, 4, 5} <= found, found)

    def changed(self, draw, text):
        lines = text.split("\n")
        at = draw.randrange(len(lines))
        words = lines[at].split(" ")
        place = draw.randrange(len(words))
        kind = draw.randrange(9)
        if kind == 0:
            del lines[at]
        elif kind == 1:
            lines.insert(at, draw.choice(lines))
        elif kind == 2:
            draw.shuffle(lines)
        elif kind == 3:
            del words[place]
        elif kind == 4:
            words.insert(place, draw.choice(["|", "a", "b", "", "1", "ann", "worlds", words[place]]))
        elif kind == 5:
            words[place] = draw.choice(["|", "a", "e", "0", "7", "07", "A", "eve", "weights", words[place] + "|", words[place][:-1]])
        elif kind == 6:
            words[place:] = draw.sample(words[place:], len(words) - place)
        elif kind == 7:
            lines[at] = lines[at] + draw.choice([" ", "\n", "\t", "a", "0", " |", " a"])
        else:
            sign = draw.randrange(len(text) + 1)
            return text[:sign] + draw.choice([" ", "0", "a", "|", "\n", ".", "-", ""]) + text[sign + draw.randrange(2):]
        if kind in (3, 4, 5, 6):
            lines[at] = " ".join(words)
        return "\n".join(lines)


if __name__ == "__main__":
    unittest.main()
