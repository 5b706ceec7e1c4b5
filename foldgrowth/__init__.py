"""How fast the folds of a line grow that is put onto itself again and again."""
