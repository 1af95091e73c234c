"""A puzzle made: from a number, a square with just so many numbers given that reasons fill it."""
