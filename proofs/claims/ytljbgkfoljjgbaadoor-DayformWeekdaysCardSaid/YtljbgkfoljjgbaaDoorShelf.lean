/-
  No contract of the library is needed here.
-/
import Derived.Test.YtljbgkfoljjgbaaDoorProg
namespace Go.Proofs
end Go.Proofs
