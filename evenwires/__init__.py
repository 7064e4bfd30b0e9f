"""cablehall, accounts: charges shared out among companies, booked and paid."""
