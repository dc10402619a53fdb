"""The box of a railway yard: yardbox.box.answers(calls) answers the calls on one new box."""
