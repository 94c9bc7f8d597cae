"""Days of works, and the evidence for them. The way in is datedworks.days.answers."""
