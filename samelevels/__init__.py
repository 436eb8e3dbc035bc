"""At the same level: mixtures, the rules between them, and the levels that their speeds tell."""
