"""Roads closed and crossed: the roads that cross the way on which runners pass."""
