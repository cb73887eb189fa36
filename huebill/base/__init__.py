"""What rests on no web: names, integers, fractions and linear programs."""
