"""An office that keeps a program's texts, their translations, packages and releases."""
