"""A house of students who share rooms, two and two."""
