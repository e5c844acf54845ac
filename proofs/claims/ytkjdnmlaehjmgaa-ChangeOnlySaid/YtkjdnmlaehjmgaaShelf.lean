-- nothing of the library is called
import Derived.Test.YtkjdnmlaehjmgaaProg
