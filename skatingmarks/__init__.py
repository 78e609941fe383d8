"""Figure skating judged: elements read, programs told, contests placed."""
