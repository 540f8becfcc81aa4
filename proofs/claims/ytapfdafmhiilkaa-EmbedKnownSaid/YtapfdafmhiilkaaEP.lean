/-
  The program's functions are the document's.
-/
import Derived.Test.YtapfdafmhiilkaaQ4
