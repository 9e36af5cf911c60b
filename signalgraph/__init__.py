"""Signalgraph: gates of yes and no, settled and stepped."""
