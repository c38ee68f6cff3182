/-
  No contract of the library is needed here.
-/
import Derived.Test.YtljbgkfoljjgbaaProg
namespace Go.Proofs
end Go.Proofs
