"""The first bad change in a history that branches."""
