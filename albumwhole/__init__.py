"""An album, whole: two collectors, their pictures, and what it takes yet."""
