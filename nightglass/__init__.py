"""Nightglass: plates of the night sky, tied to one another and untied again."""
