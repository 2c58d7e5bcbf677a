import Derived.Test.YthhijfphfcmniaaGreatAge
import Derived.Deep.RegionHeld3
import Derived.Deep.RegionWith
import Derived.Deep.MidRow
import Derived.Deep.Cut
set_option maxRecDepth 100000
set_option maxHeartbeats 8000000
set_option linter.unusedVariables false
set_option linter.unusedSimpArgs false
namespace Go.Proofs.YthhijfphfcmniaaGreat
open Go Go.RowKit
theorem raright_any (k p x q y f : Int) (m : Bool) (a b c d : Nat) (w : World) (ha : a < 18446744073709551616) (hb : b < 18446744073709551616) (hc : c < 18446744073709551616) (hd : d < 18446744073709551616) :
    Calls Tryz.prog 110 #[av k p x q y f m a b c d] w fun e w' => e = .returned (.bool (art k p x q y f m a b c d)) ∧ Below w.heap.size w w' := by
  have cg : ∀ z z' : Bool, z = z' → ∀ w, (Calls Tryz.prog 110 #[av k p x q y f m a b c d] w fun e w' => e = .returned (.bool z) ∧ Below w.heap.size w w') → (Calls Tryz.prog 110 #[av k p x q y f m a b c d] w fun e w' => e = .returned (.bool z') ∧ Below w.heap.size w w') := fun z z' h w k => h ▸ k
  by_cases h0 : k = 0
  · subst h0
    cases hg : goB p
    · exact cg _ _ (by simp [art, achk, hg]) w (rar_0a p x q y f m a b c d w hg)
    · cases hm : tkB p x
      · exact cg _ _ (by simp [art, achk, hg, hm]) w (rar_0b p x q y f m a b c d w hg hm)
      · exact cg _ _ (by simp [art, achk, ownE, oz, sameB, hg, hm]) w (rar_0c p x q y f m a b c d w hg hm)
  by_cases h22 : k = 22
  · subst h22
    by_cases h : 0 ≤ q
    · by_cases h2 : q ≤ 4294967040
      · exact cg _ _ (by simp [art, achk, ownE, oz, sameB, h, h2]) w (rar_22c p x q y f m a b c d w h h2)
      · exact cg _ _ (by simp [art, achk, h, h2]) w (rar_22b p x q y f m a b c d w h h2)
    · exact cg _ _ (by simp [art, achk, h]) w (rar_22a p x q y f m a b c d w h)
  by_cases h17 : k = 17
  · subst h17
    by_cases h : y = 33024
    · exact cg _ _ (by simp [art, achk, ownE, oz, sameB, h]) w (rar_17a p x q y f m a b c d w h)
    · by_cases h2 : y = 34984
      · exact cg _ _ (by simp [art, achk, ownE, oz, sameB, h2]) w (rar_17b p x q y f m a b c d w h2)
      · exact cg _ _ (by simp [art, achk, h, h2]) w (rar_17c p x q y f m a b c d w h h2)
  by_cases h18 : k = 18
  · subst h18
    exact cg _ _ (by simp [art, achk, ownE, oz, sameB]) w (rar_18 p x q y f m a b c d w)
  by_cases h25 : k = 25
  · subst h25
    cases hr : rgt f m a b c d
    · exact cg _ _ (by simp [art, hr]) w (rar_25a p x q y f m a b c d w ha hb hc hd hr)
    · cases hm : m
      · subst hm
        cases hs : setsB f
        · exact cg _ _ (by simp [art, achk, hs]) w (rar_25c p x q y f false a b c d w ha hb hc hd hr rfl hs)
        · exact cg _ _ (by simp [art, achk, ownE, sameB, hs, hr]) w (rar_25d p x q y f false a b c d w ha hb hc hd hr rfl hs)
      · subst hm
        exact cg _ _ (by cases hs : setsB f <;> simp [art, achk, hs]) w (rar_25b p x q y f true a b c d w ha hb hc hd hr rfl)
  · exact cg _ _ (by simp [art, achk, h0, h22, h17, h18, h25]) w (rar_z k p x q y f m a b c d w h0 h22 h17 h18 h25)
end Go.Proofs.YthhijfphfcmniaaGreat
