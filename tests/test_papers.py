import unittest

from oneflip.kept import Falls, Stands
from oneflip.papers import Denial, Paper, fixed
from tests.tools import Case

# A class of the same name as that of the package, and not below it.
Foreign = type("Paper", (), {"word": "a", "parts": ()})


class Fixed(Case):
    def test_tuples_for_lists(self):
        self.same(fixed([]), ())
        self.same(fixed([1, [2, (3, [4, []])], (5,)]), (1, (2, (3, (4, ()))), (5,)))
        self.same(fixed(value=([1],)), ((1,),))
        deep = 7
        for _ in range(30):
            deep = [deep]
        for _ in range(30):
            told = fixed(deep)
            self.assertIs(type(told), tuple)
            deep = deep[0]
        self.same(fixed(deep), 7)

    def test_others_stay(self):
        for value in (None, True, 0, 1.5, "ab", {"a": [1]}, {1, 2}, Stands([1]), b"x", object()):
            self.assertIs(fixed(value), value)
            self.assertIs(fixed([value])[0], value)

    def test_what_is_passed_stays(self):
        value = [1, [2]]
        fixed(value)
        self.same(value, [1, [2]])


class Papers(Case):
    def test_word_and_parts(self):
        for kind in (Paper, Denial):
            paper = kind("note", 1, [2, [3]], None)
            self.same(paper.word, "note")
            self.same(paper.parts, (1, (2, (3,)), None))
            self.same(kind("note").parts, ())
            self.same(kind(word="note").word, "note")
            self.same(kind(["note", [1]]).word, ("note", (1,)))

    def test_truth(self):
        for paper in (Paper("no"), Paper("denial", 0), Stands([]), Stands(None)):
            self.same(bool(paper), True)
        for denial in (Denial("yes"), Denial("yes", 1), Falls([], []), Falls(1, 2)):
            self.same(bool(denial), False)

    def test_classes(self):
        self.assertEqual(Denial.__bases__, (Paper,))
        self.assertEqual(Stands.__bases__, (Paper,))
        self.assertEqual(Falls.__bases__, (Denial,))
        for kind in (Paper, Denial):
            for name in ("__init__", "__eq__", "__bool__"):
                self.assertIn(name, vars(kind))

    def test_equal(self):
        for one, other in ((Paper("a"), Paper("a")), (Paper("a", [1, [2]]), Paper("a", (1, (2,)))),
                           (Denial("a", None), Denial("a", None)), (Paper("a", 1), Paper("a", True)),
                           (Stands([1]), Stands((1,))), (Falls([1], 2), Falls(strikes=(1,), lacks=2))):
            self.same(one == other, True)
            self.same(other == one, True)
            self.same(one != other, False)

    def test_unequal(self):
        for one, other in ((Paper("a"), Paper("b")), (Paper("a", 1), Paper("a", 2)), (Paper("a", 1), Paper("a")),
                           (Paper("a", 1, 2), Paper("a", 2, 1)), (Paper("a", (1, 2)), Paper("a", 1, 2)),
                           (Paper("a"), Denial("a")), (Denial("a"), Denial("b")), (Stands([1]), Stands([2])),
                           (Stands([1]), Paper("stands", [1])), (Falls([1], 2), Denial("falls", [1], 2)),
                           (Falls([1], 2), Falls([1], 3)), (Falls([1], 2), Falls([2], 2)), (Paper("a"), None),
                           (Paper("a"), "a"), (Paper("a"), ("a", ())), (Stands([1]), [1]),
                           (Paper("a"), Foreign())):
            self.same(one == other, False)
            self.same(other == one, False)
            self.same(one != other, True)

    def test_what_is_passed_is_copied(self):
        part = [1, [2]]
        paper, denial, stands = Paper("a", part), Denial("a", part), Stands(part)
        part[1].append(3)
        part.append(4)
        for told in (paper.parts[0], denial.parts[0], stands.pieces, stands.parts[0]):
            self.same(told, (1, (2,)))

    def test_papers_of_layouts(self):
        for paper in (Stands([[0, [1]]]), Stands(pieces=[[0, [1]]])):
            self.same(paper.word, "stands")
            self.same(paper.pieces, ((0, (1,)),))
            self.same(paper.parts, (((0, (1,)),),))
        for denial in (Falls([[1, 2]], [3]), Falls(lacks=[3], strikes=[[1, 2]])):
            self.same(denial.word, "falls")
            self.same(denial.strikes, ((1, 2),))
            self.same(denial.lacks, (3,))
            self.same(denial.parts, (((1, 2),), (3,)))
        value = {"any": [1]}
        self.assertIs(Stands(value).pieces, value)
        self.assertIs(Falls(value, None).strikes, value)
        self.assertIs(Falls(None, value).lacks, value)


if __name__ == "__main__":
    unittest.main()
