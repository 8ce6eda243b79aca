"""Held still though the hand shakes: shows the same part of a scene, picture by picture."""
