import Derived.Test.YtabefajdpefbiaaOza
import Derived.Test.YtabefajdpefbiaaOzb
import Derived.Test.YtabefajdpefbiaaOzd
import Derived.Test.YtabefajdpefbiaaOze
import Derived.Test.YtabefajdpefbiaaOzg
namespace Go.Proofs.Ytabefajdpefbiaa
open Go Go.RowKit
set_option linter.unusedVariables false
set_option linter.unusedSimpArgs false

theorem oxmBack_walk (f : Int) (m : Bool) (a b c d : Nat) (v : Value) (l : List Int) (w : World) (ha : a < 18446744073709551616) (hb : b < 18446744073709551616) (hc : c < 18446744073709551616) (hd : d < 18446744073709551616) (hB : Bytes w v l) :
    Calls Try.prog 5 #[ov f m a b c d, v] w fun e w' => e = .returned (.bool true) ∧ Below w.heap.size w w' := by
  obtain ⟨ao, cap, rfl⟩ := hB.short
  have gm : (if (8 : Int) < (l.length : Int) then (8 : Int) else (l.length : Int)) = ((min l.length 8 : Nat) : Int) := by split <;> omega
  have hn8 : min l.length 8 ≤ l.length := Nat.min_le_left _ _
  have h8 : min l.length 8 ≤ 8 := Nat.min_le_right _ _
  rcases enc_dec hB.isB_ with ⟨k, hk, hv⟩ | ⟨f2, m2, a2, b2, c2, d2, n, hv, hr2, hn, he, ha2, hb2, hc2, hd2⟩
  · cases hr : rgt f m a b c d
    · exact back_no_fault f m a b c d ao cap l w ha hb hc hd hB hr k hv
    · obtain ⟨hl, hi⟩ := encL_ok ha hb hc hd hr
      exact back_yes_fault f m a b c d ao cap l (encL f m a b c d) (min l.length 8) w hB gm hn8 h8 hl hi (enc_yes f m a b c d ha hb hc hd hr) (dec_enc _ ha hb hc hd hr) k hv
  · have p2 := enc_yes f2 m2 a2 b2 c2 d2 ha2 hb2 hc2 hd2 hr2
    rw [he] at p2
    cases hr : rgt f m a b c d
    · exact back_no_ok f m a b c d ao cap l w ha hb hc hd hB hr f2 m2 a2 b2 c2 d2 n hv hn p2
    · obtain ⟨hl, hi⟩ := encL_ok ha hb hc hd hr
      exact back_yes_ok f m a b c d ao cap l (encL f m a b c d) (min l.length 8) w hB gm hn8 h8 hl hi (enc_yes f m a b c d ha hb hc hd hr) (dec_enc _ ha hb hc hd hr) f2 m2 a2 b2 c2 d2 n hv hn p2

end Go.Proofs.Ytabefajdpefbiaa
