import Derived.Test.YtbdbehdgpmfelaaProg
import Derived.Shelf.Strconv.Itoa0
import Derived.Shelf.Lay
import Derived.Shelf.LaySoft
namespace Go.Proofs
shelf_lay Lays.n129 Nm 129 at Try as Try.lays129
end Go.Proofs
namespace Go.Proofs.Ytbdbehdgpmfelaa
open Go
theorem len64_any (x : Nat) (w : World) (h : x < 18446744073709551616) :
    Calls Try.prog 74 #[.int .u64 (x : Int)] w fun e w' => e = .returned (.int .i64 (Lib.bitLen x)) ∧ w' = w := by
  have h1 : Calls Try.prog 74 #[.int .u64 (x : Int)] w fun e w' => e = .returned (.int .i64 (Lib.bitLen (x : Int).toNat)) ∧ w' = w := Any.bits_Len64 Try.lays129 (x : Int) w (by omega) (by omega)
  simpa using h1
end Go.Proofs.Ytbdbehdgpmfelaa
