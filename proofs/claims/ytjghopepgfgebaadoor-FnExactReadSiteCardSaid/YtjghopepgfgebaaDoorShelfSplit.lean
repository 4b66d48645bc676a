/-
  The library functions of text Shelf.
-/
import Derived.Test.YtjghopepgfgebaaDoorShelf
