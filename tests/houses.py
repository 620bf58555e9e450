"""Houses that several tests begin with, as the calls that make them."""

from asking import act, begin, lock, turn

# Each self has an act of its own at place 1. At place 0 act 0 pays self 0 a little, and makes it self 1: so it does
# act 0 there only with its last step.
CROSSING = [begin(2, 2), act(0, 1, 0, 0, 1), act(0, 0, 0, 0, 1), turn(0, 0, 2), act(1, 4, 0, 1, 0), act(1, 0, 4, 1, 0)]

# It is turned there at place 0, and back at place 1, whoever it is.
THERE_AND_BACK = [begin(2, 2), act(0, 1, -2, 0, 1), turn(0, 0, 2), act(1, 3, 5, 1, 0), turn(1, 0, 1)]

# From place 0 to place 1 or 2, from place 1 back, and at place 2 there is no act.
ENDING = [begin(3, 1), act(0, 1, 0, 1, 1), act(1, 2, 1, 0, 0)]

# At place 0 self 0 has 1 by act 0, and ends; act 1 makes it self 1, locked, who does nothing for it at place 2. Were it
# not locked, place 1 would make it self 0 again, with 4 by its lights at place 2.
LOCKED_OUT = [begin(4, 2), act(0, 1, 0, 0, 0, 0, 1), act(0, 0, 0, 0, 1, 0, 0), turn(0, 1, 2), lock(0, 1, 1),
              act(1, 0, 0, 0, 0, 1, 0), turn(1, 0, 1), act(2, 4, 0, 0, 0, 0, 1), act(2, 0, 4, 0, 0, 0, 1)]

# At place 1 self 0 has 1 by act 0, and ends; act 1 makes it self 1 at place 0. There self 1 has but act 1 that isn't
# bad for it, and is made self 2, who does nothing for the others at place 2. With a twin of that act it would stay
# self 1, and do there what is worth 5 to self 0 too.
TWINLESS = [begin(4, 3), act(0, 1, -9, 0, 0, 0, 0, 1), act(0, 0, 0, 0, 0, 0, 1, 0), turn(0, 1, 3),
            act(1, 1, 0, 0, 0, 0, 0, 1), act(1, 0, 0, 0, 1, 0, 0, 0), turn(1, 1, 2),
            act(2, 5, 5, 0, 0, 0, 0, 1), act(2, 0, 0, 5, 0, 0, 0, 1)]
