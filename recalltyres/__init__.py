"""A warehouse of tyres with marks: what is sent, claimed and recalled."""
