"""All errors of the program. The attributes of an error have the names of its arguments."""


class GalloonError(ValueError):
    """The base class of all errors of the program."""


class UnlikeSchemes(GalloonError):
    """Objects of different schemes are used together."""


class BadScheme(GalloonError):
    """There is no such scheme; part is "rows", "colours" or "size"."""

    def __init__(self, part):
        self.part = part


class BadColumn(GalloonError):
    """The string is not one column of the scheme."""

    def __init__(self, text):
        self.text = text


class BadSpots(GalloonError):
    """The string is not one colour for each row."""

    def __init__(self, text):
        self.text = text


class BadStrip(GalloonError):
    """The string is not a strip of the scheme."""

    def __init__(self, text):
        self.text = text


class BadPicture(GalloonError):
    """The line, counted from 1, cannot stand in a picture."""

    def __init__(self, line):
        self.line = line


class BadRow(GalloonError):
    """There is no such row."""

    def __init__(self, row):
        self.row = row


class BadIndex(GalloonError):
    """There is no such index."""

    def __init__(self, at):
        self.at = at


class BadColour(GalloonError):
    """The string is not a colour."""

    def __init__(self, colour):
        self.colour = colour


class BadCount(GalloonError):
    """The integer is too small or too great."""

    def __init__(self, count):
        self.count = count


class BadPattern(GalloonError):
    """The pattern is wrong at this index."""

    def __init__(self, place):
        self.place = place


class BadTable(GalloonError):
    """The table is wrong at this state, or as a whole if place is -1."""

    def __init__(self, place):
        self.place = place


class BadPair(GalloonError):
    """The two strips of the pair have different lengths."""

    def __init__(self, index):
        self.index = index


class TooMany(GalloonError):
    """There are more than the most that is allowed."""

    def __init__(self, most):
        self.most = most


class UnequalLengths(GalloonError):
    """Two strips have different lengths, these two."""

    def __init__(self, one, other):
        self.one = one
        self.other = other


class BadPaint(GalloonError):
    """The map of this row is wrong, or their number if row is -1."""

    def __init__(self, row):
        self.row = row


class BadMask(GalloonError):
    """A mask is wrong in its "start", its "loop" or as a "text"."""

    def __init__(self, part):
        self.part = part


class BadStamp(GalloonError):
    """A stamp or a border is wrong in "old", "new", "front" or "back"."""

    def __init__(self, part):
        self.part = part


class BadTurn(GalloonError):
    """A deed cannot turn by so many columns."""

    def __init__(self, by):
        self.by = by


class BadClause(GalloonError):
    """This part of the clause at the index is wrong."""

    def __init__(self, index, part):
        self.index = index
        self.part = part


class BadRule(GalloonError):
    """The string is not the written form of a rule."""


class NoDrift(GalloonError):
    """The drift of the rule is mixed."""


class BadFont(GalloonError):
    """A font is wrong in its "gap" or as a "text"."""

    def __init__(self, part):
        self.part = part


class BadLetter(GalloonError):
    """The string is not one letter from A to Z."""

    def __init__(self, letter):
        self.letter = letter


class BadGlyph(GalloonError):
    """The glyph of this letter is wrong."""

    def __init__(self, letter):
        self.letter = letter


class DuplicateLetter(GalloonError):
    """The letter comes twice."""

    def __init__(self, letter):
        self.letter = letter


class UnknownLetter(GalloonError):
    """Nothing has the letter that stands at this index."""

    def __init__(self, letter, place):
        self.letter = letter
        self.place = place


class UnequalFonts(GalloonError):
    """Two fonts differ in this letter, or in their gaps if it is ""."""

    def __init__(self, letter):
        self.letter = letter


class BadEndless(GalloonError):
    """An endless strip is wrong in "left", "middle" or "right"."""

    def __init__(self, part):
        self.part = part


class BadBlock(GalloonError):
    """A block is wrong in its "reach" or its "results"."""

    def __init__(self, part):
        self.part = part


class TooWide(GalloonError):
    """A block would have too many windows."""


class NoFold(GalloonError):
    """A strip of this odd length cannot be folded."""

    def __init__(self, length):
        self.length = length


class UnequalFrames(GalloonError):
    """The deed at this index cuts or flips otherwise than the first one."""

    def __init__(self, index):
        self.index = index


class UnknownWorld(GalloonError):
    """The hall does not have this world."""

    def __init__(self, world):
        self.world = world


class BadName(GalloonError):
    """The string is not the name of a sheet."""

    def __init__(self, name):
        self.name = name


class TakenName(GalloonError):
    """A sheet has this name already."""

    def __init__(self, name):
        self.name = name


class UnknownSheet(GalloonError):
    """No sheet has this name."""

    def __init__(self, name):
        self.name = name


class NoWorld(GalloonError):
    """No world would be left."""


class UnknownFact(GalloonError):
    """There is no fact of this number."""

    def __init__(self, number):
        self.number = number


class NothingToUndo(GalloonError):
    """There is no change to take back."""


class NothingToRedo(GalloonError):
    """There is no change to make again."""


class Refused(GalloonError):
    """The request at this index is refused."""

    def __init__(self, index):
        self.index = index


class BadDeed(GalloonError):
    """The written deed is wrong at the word with this index."""

    def __init__(self, index):
        self.index = index


class BadWorkshop(GalloonError):
    """The written workshop is wrong at the piece with this index."""

    def __init__(self, index):
        self.index = index


class BadSigns(GalloonError):
    """There are fewer signs than colours."""
