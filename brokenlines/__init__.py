"""Lines: a text broken, laid, and pointed at."""
