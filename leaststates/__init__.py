"""A dictionary's least automaton. The program's function is leaststates.words.answers."""
