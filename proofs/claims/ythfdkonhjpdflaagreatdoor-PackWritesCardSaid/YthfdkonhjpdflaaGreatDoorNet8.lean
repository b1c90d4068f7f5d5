/-
  GREAT: nothing of its own.
-/
import Derived.Test.YthfdkonhjpdflaaGreatDoorNet11
namespace Go.Proofs.YthfdkonhjpdflaaGreatDoor
end Go.Proofs.YthfdkonhjpdflaaGreatDoor
