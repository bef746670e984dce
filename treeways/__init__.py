"""Trees told in several ways, each led to each other."""
