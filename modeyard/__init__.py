"""Modeyard: works that turn goods into goods, and all their balanced ways."""
