"""A room's acoustics: paths. The calls lie in roompaths.paths."""
