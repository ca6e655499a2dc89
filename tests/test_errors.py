import unittest

from onebase import errors

# As the document's interface lists them.
LISTED = """BadAddress, BadBases, BadBranch, BadBundle, BadCard, BadCells, BadCode(at), BadDeed, BadDepth,
BadFile(at), BadGoal, BadGroups, BadImage, BadImages, BadIndex, BadInputs, BadInstance, BadItem, BadKnot,
BadLate, BadLine, BadLot, BadLots, BadMachine, BadMember, BadMost, BadName, BadNaming, BadObject, BadOrder,
BadParting, BadPatch, BadPiece, BadPosition, BadRow, BadRows(at), BadRun, BadSense, BadShelf, BadText,
BadThing, BadTree, BadUnit, BadWeb, BadWord, BadWorld, Far(branch), InUse, Knotted, Missing(names),
NameTaken, NoEntry, NoFit, NoLibrary(name), NoSuch, NotFull, NotKept(knot), NotLet(image name why),
NotLinked, NotPlain(name), NothingDone, NothingUndone, OtherCard(name), OtherName, Rooted(knot),
Split(name lot row), TooGreat(size), TooMany(most), TooShort(unit piece name), TooWide(cells),
TwoSorts(name), TwoStrong(name), WrongSort(unit piece name)"""


def listed():
    found = {}
    for part in LISTED.replace("\n", " ").split(", "):
        name, _, attributes = part.strip().rstrip(")").partition("(")
        found[name] = attributes.split()
    return found


class ErrorsTest(unittest.TestCase):
    def test_link_error(self):
        self.assertEqual(errors.LinkError.__bases__, (ValueError,))

    def test_all_are_there_directly_below(self):
        self.assertEqual(len(listed()), 73)
        classes = {x: c for x, c in vars(errors).items() if isinstance(c, type)}
        self.assertEqual(set(classes), set(listed()) | {"LinkError"})
        for name in listed():
            self.assertEqual(classes[name].__bases__, (errors.LinkError,), name)
            self.assertEqual(classes[name].__module__, "onebase.errors")

    def test_attributes_are_set(self):
        for name, attributes in listed().items():
            made = getattr(errors, name)
            values = [("told", at) for at in range(len(attributes))]
            for e in (made(*values), made(**dict(zip(attributes, values)))):
                self.assertEqual(vars(e), dict(zip(attributes, values)), name)
                self.assertIsInstance(str(e), str)

    def test_attributes_must_be_told(self):
        for name, attributes in listed().items():
            if attributes:
                with self.assertRaises(TypeError):
                    getattr(errors, name)()

    def test_caught_as_their_own(self):
        for name in listed():
            with self.assertRaises(errors.LinkError):
                raise getattr(errors, name)(*listed()[name])
        self.assertFalse(issubclass(errors.BadUnit, errors.BadPiece))


if __name__ == "__main__":
    unittest.main()
