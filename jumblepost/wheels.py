"""Wheels: the faces of a stamp's figures, and which of them may be shown."""

from jumblepost.common import Words, are_signs, is_between, is_series
from jumblepost.errors import BadStamp, BadValue

LEAST_FACES = 2
MOST_FACES = 10
MOST_FACE_SIGNS = 4
MOST_SLIP = 10


def is_face(value, ahead):
    """Whether any value can be the face behind these ones."""
    if not isinstance(value, str) or not 1 <= len(value) <= MOST_FACE_SIGNS or not are_signs(value):
        return False
    return len(ahead) == 0 or (len(value) == len(ahead[0]) and value not in ahead)


def read_wheel(words):
    """The faces, the lag and the lead that the next words tell."""
    faces = []
    while len(faces) < LEAST_FACES or words.coming() != "/":
        face = words.coming()
        if len(faces) == MOST_FACES or not is_face(face, faces):
            words.refuse()
        words.skip(face)
        faces.append(face)
    words.skip("/")
    lag = words.integer(0, MOST_SLIP)
    return faces, lag, words.integer(0, MOST_SLIP)


class Wheel:
    """Faces for the figures from 0 on, and for how many figures below it may stand late or early."""

    def __init__(self, faces, lag=0, lead=0):
        if not is_series(faces) or not LEAST_FACES <= len(faces) <= MOST_FACES:
            raise BadStamp("faces", 0)
        for index, face in enumerate(faces):
            if not is_face(face, faces[:index]):
                raise BadStamp("face", index)
        if not is_between(lag, 0, MOST_SLIP):
            raise BadStamp("lag", 0)
        if not is_between(lead, 0, MOST_SLIP):
            raise BadStamp("lead", 0)
        self.faces = tuple(faces)
        self.lag = lag
        self.lead = lead
        self.size = len(faces)
        self.signs = len(faces[0])

    @staticmethod
    def digits(size=10, lag=0, lead=0):
        """The wheel whose faces are the digits of its figures."""
        if not is_between(size, LEAST_FACES, MOST_FACES):
            raise BadValue("size")
        return Wheel([str(figure) for figure in range(size)], lag, lead)

    def may(self, due, band=0):
        """The figures that may be shown if this one is due and the wheel below is in this band."""
        if not is_between(due, 0, self.size - 1):
            raise BadValue("due")
        if not is_between(band, 0, 2):
            raise BadValue("band")
        if band == 0:
            return (due,)
        step = -1 if band == 1 else 1
        return tuple(sorted([due, (due + step) % self.size]))

    def __eq__(self, other):
        return (isinstance(other, Wheel) and self.faces == other.faces
                and self.lag == other.lag and self.lead == other.lead)

    def __str__(self):
        return " ".join([*self.faces, "/", str(self.lag), str(self.lead)])

    @classmethod
    def read(cls, text):
        """The wheel whose text this is."""
        words = Words(text)
        faces, lag, lead = read_wheel(words)
        words.finish()
        return cls(faces, lag, lead)
