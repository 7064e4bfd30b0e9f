"""cablehall, accounts: charges shared out among companies, booked, paid and settled."""
