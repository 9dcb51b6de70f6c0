"""LettersOnce: rooms of letters with one history."""
