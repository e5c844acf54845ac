/-
  Nothing of Go's own library is laid here: this program calls none of it by a contract of the shelf.
-/
import Derived.Test.YtfnjgjehmddkcaaProg
