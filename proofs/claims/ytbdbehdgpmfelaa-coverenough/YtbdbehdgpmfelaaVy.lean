import Derived.Test.YtbdbehdgpmfelaaVw
namespace Go.Proofs.Ytbdbehdgpmfelaa
open Go Go.RowKit
set_option linter.unusedVariables false
set_option linter.unusedSimpArgs false

theorem pickC_len (c : List Q4) : (pickC c).length = 24 := by rw [← pickK_all]; exact pickK_len _ 24 (Nat.le_refl _)
theorem runP_len {f : List Q4 → Int → LR} (hf : ∀ p s, (f p s).1.length = 24) : ∀ (ps : List (List Q4)) (r : LR), r.1.length = 24 → (runP f ps r).1.length = 24
  | [], _, h => h
  | p :: ps, r, h => by
    rw [runP]
    split
    · exact hf _ _
    · exact runP_len hf ps _ (hf _ _)
theorem lookS_len {m : Int} {rec : List (List Q4) → List Q4 → Int → LR} (hr : ∀ L c s, (rec L c s).1.length = 24) (L : List (List Q4)) (c : List Q4) (s : Int) : (lookS m rec L c s).1.length = 24 := by
  unfold lookS
  split
  · rfl
  · rfl
  · exact pickC_len c
  · exact runP_len (fun p s => hr _ p s) _ _ rfl
theorem lookF_len (m : Int) : ∀ (k : Nat) (L : List (List Q4)) (c : List Q4) (s : Int), (lookF m k L c s).1.length = 24
  | 0, L, c, s => lookS_len (fun _ _ _ => rfl) L c s
  | k + 1, L, c, s => lookS_len (lookF_len m k) L c s
theorem look_step (p : Nat) (m s : Int) (c : List Q4) (L : List (List Q4)) (ad : Option Addr) (n cap : Nat) (w : World) (rec : List (List Q4) → List Q4 → Int → LR) (hc : isC c) (hnn : L.length = n) (hvL : CubesAt w (.slice ad n cap) L) (hn : L.length ≤ 100000) (hd : L ≠ [] → ∀ a, ad = some a → a.block ≠ p) (hA : AB w p 51 [.int .i64 m, .int .i64 s])
    (ih : ∀ F, F < n → ∀ (W : World) (c' : List Q4) (s' : Int) (ad' : Option Addr) (n' cap' : Nat), isC c' → (L.drop (F + 1)).length = n' → CubesAt W (.slice ad' n' cap') (L.drop (F + 1)) → (L.drop (F + 1) ≠ [] → ∀ a, ad' = some a → a.block ≠ p) → AB W p 51 [.int .i64 m, .int .i64 s'] →
      Calls Try.prog 21 #[.pointer (some ⟨p, 0, none⟩), cv c', .slice ad' n' cap'] W fun e w' => e = .returned (.tuple #[hv (rec (L.drop (F + 1)) c' s').1, .bool (rec (L.drop (F + 1)) c' s').2.1, .int .i64 (rec (L.drop (F + 1)) c' s').2.2.1]) ∧ AB w' p 51 [.int .i64 m, .int .i64 (rec (L.drop (F + 1)) c' s').2.2.2] ∧ Out (fun k => k = p) W w' ∧ (rec (L.drop (F + 1)) c' s').1.length = 24) :
    Calls Try.prog 21 #[.pointer (some ⟨p, 0, none⟩), cv c, .slice ad n cap] w fun e w' => e = .returned (.tuple #[hv (lookS m rec L c s).1, .bool (lookS m rec L c s).2.1, .int .i64 (lookS m rec L c s).2.2.1]) ∧ AB w' p 51 [.int .i64 m, .int .i64 (lookS m rec L c s).2.2.2] ∧ Out (fun k => k = p) w w' := by
  have hs : IntKind.i64.wrap (s + 1) = inc s := rfl
  cases hp : payB m (inc s)
  · have e : lookS m rec L c s = (z24h, false, 5, inc s) := by unfold lookS; rw [hp]
    rw [e]
    refine lk_no p m s (inc s) c ad n cap w hA hs ?_
    unfold payB at hp
    rw [Bool.or_eq_false_iff, decide_eq_false_iff_not, decide_eq_false_iff_not] at hp
    exact hp
  · cases hcv : covC c L
    · by_cases hat : firK c L L.length L.length = L.length
      · have e : lookS m rec L c s = (pickC c, true, 0, inc s) := by unfold lookS; rw [hp, hcv, decide_eq_true hat]
        rw [e]
        exact lk_free p m s (inc s) c L ad n cap w hc hnn hvL hn hd hA hs hp hcv hat
      · have hle := firK_le c L L.length L.length (Nat.le_refl _)
        have hF : firK c L L.length L.length < n := by omega
        have e : lookS m rec L c s = runP (rec (L.drop (firK c L L.length L.length + 1))) (partsC c (L.getD (firK c L L.length L.length) [])) (z24h, false, 0, inc s) := by unfold lookS; rw [hp, hcv, decide_eq_false hat]
        rw [e]
        exact lk_rec p m s (inc s) c L ad n cap w _ rec hc hnn hvL hn hd hA hs hp hcv rfl hF (ih _ hF)
    · have e : lookS m rec L c s = (z24h, false, 0, inc s) := by unfold lookS; rw [hp, hcv]
      rw [e]
      exact lk_cov p m s (inc s) c L ad n cap w hc hnn hvL hn hd hA hs hp hcv
/-- the contract of (*search).look -/
theorem look_any (p : Nat) (m : Int) : ∀ (k : Nat) (L : List (List Q4)) (s : Int) (c : List Q4) (ad : Option Addr) (n cap : Nat) (w : World), L.length ≤ k → isC c → L.length = n → CubesAt w (.slice ad n cap) L → L.length ≤ 100000 → (L ≠ [] → ∀ a, ad = some a → a.block ≠ p) → AB w p 51 [.int .i64 m, .int .i64 s] →
    Calls Try.prog 21 #[.pointer (some ⟨p, 0, none⟩), cv c, .slice ad n cap] w fun e w' => e = .returned (.tuple #[hv (lookF m k L c s).1, .bool (lookF m k L c s).2.1, .int .i64 (lookF m k L c s).2.2.1]) ∧ AB w' p 51 [.int .i64 m, .int .i64 (lookF m k L c s).2.2.2] ∧ Out (fun k => k = p) w w'
  | 0, L, s, c, ad, n, cap, w, hk, hc, hnn, hvL, hn, hd, hA => look_step p m s c L ad n cap w _ hc hnn hvL hn hd hA (fun F hF => by omega)
  | k + 1, L, s, c, ad, n, cap, w, hk, hc, hnn, hvL, hn, hd, hA => by
    refine look_step p m s c L ad n cap w (lookF m k) hc hnn hvL hn hd hA (fun F hF W c' s' ad' n' cap' hc' hn' hv' hd' hA' => ?_)
    have hl : (L.drop (F + 1)).length ≤ k := by rw [List.length_drop]; omega
    refine (look_any p m k (L.drop (F + 1)) s' c' ad' n' cap' W hl hc' hn' hv' (by rw [List.length_drop]; omega) hd' hA').mono ?_
    rintro e w' ⟨h1, h2, h3⟩
    exact ⟨h1, h2, h3, lookF_len m k _ _ _⟩

end Go.Proofs.Ytbdbehdgpmfelaa
