"""Covered secrets: what jobs write is shown, secrets in it are covered by stars."""
