"""The errors that the program raises."""


class RoomError(ValueError):
    """The base class of all errors that the program raises."""


class BadBody(RoomError):
    """Something is not the body of a letter that may be written."""


class BadLetter(RoomError):
    """Something is not the value of a letter, or not of the letter that is needed."""


class BadMail(RoomError):
    """Lines or a text are not the mail of letters."""


class BadValue(RoomError):
    """Something that was passed is not of the kind that is needed."""


class Contradiction(RoomError):
    """Two unlike letters have the same ref."""


class Down(RoomError):
    """The desk that is needed is down."""


class Exists(RoomError):
    """What is to be made is there already."""


class NotKeeper(RoomError):
    """The author of an act is not the keeper of the room."""


class NotMember(RoomError):
    """The author of a letter is not a member of the room."""


class Unknown(RoomError):
    """There is nothing and nobody of this name, ref or number."""
