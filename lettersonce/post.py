"""The post: parcels that are under way."""

from lettersonce.errors import BadValue, Unknown
from lettersonce.names import is_name
from lettersonce.parcels import is_parcel


class Post:
    """Parcels by their numbers. Each one stays, however often it is read, until it is lost."""

    def __init__(self):
        self.sent = 0
        # A dict keeps the order of putting, which is that of the numbers.
        self._parcels = {}

    def __len__(self):
        return len(self._parcels)

    def __iter__(self):
        return iter(self._parcels)

    def put(self, sender, receiver, parcel):
        """Put a parcel into the post and return its number. Raises BadValue. Any objects may be passed."""
        if not is_name(sender) or not is_name(receiver):
            raise BadValue("the sender or the receiver is no name")
        if not is_parcel(parcel):
            raise BadValue("this is no parcel")
        self.sent += 1
        self._parcels[self.sent] = (sender, receiver, parcel)
        return self.sent

    def parcel(self, number):
        """Return the tuple of sender, receiver and parcel that has this number. Raises Unknown."""
        self._must_have(number)
        return self._parcels[number]

    def lose(self, number):
        """Take the parcel with this number out of the post. Raises Unknown."""
        self._must_have(number)
        del self._parcels[number]

    def numbers(self):
        """Return the list of the numbers of the parcels in the post, ascending."""
        return list(self._parcels)

    def _must_have(self, number):
        if number not in self._parcels:
            raise Unknown("no parcel in the post has this number")
