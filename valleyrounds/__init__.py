"""Rounds in the valley: see valleyrounds.valley.answers."""
