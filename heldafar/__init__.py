"""heldafar: things held across houses by letters."""
