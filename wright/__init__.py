"""Wright: readers made from grammars."""
