import Derived.Test.YtcffebkebldjcaaEn
import Derived.Test.YtcffebkebldjcaaOzc
import Derived.Test.YtcffebkebldjcaaOz
import Derived.Test.YtcffebkebldjcaaPb
import Derived.Deep.RegionHeld3
import Derived.Deep.RegionWith
import Derived.Deep.MidRow
import Derived.Deep.Cut
namespace Go.Proofs.Ytcffebkebldjcaa
open Go Go.RowKit
set_option linter.unusedVariables false
set_option linter.unusedSimpArgs false

theorem far3c {w : World} {g h j : Nat} {x y z v : Value} (hc : w.cell? ⟨h, j, none⟩ = some v) (hne : g ≠ h) : (((w.setCell ⟨g, 0, none⟩ x).setCell ⟨g, 1, none⟩ y).setCell ⟨g, 2, none⟩ z).cell? ⟨h, j, none⟩ = some v := by
  rw [World.cell?_setCell_far _ ⟨g, 2, none⟩ _ _ hne, World.cell?_setCell_far _ ⟨g, 1, none⟩ _ _ hne, World.cell?_setCell_far _ ⟨g, 0, none⟩ _ _ hne]; exact hc
theorem cell_ab {w : World} {g : Nat} {ty : TypeId} {cs : List Value} (h : AB w g ty cs) {j : Nat} {v : Value} (hc : w.cell? ⟨g, j, none⟩ = some v) : cs[j]? = some v := by
  unfold AB at h
  unfold World.cell? at hc
  rw [h] at hc
  simpa using hc
theorem ox_far {w : World} {g q off i : Nat} {f : Int} {m : Bool} {x y z : Value} (h : AB w g 30 [x, y, z]) (hx : ∀ k : Int, x ≠ .int .i64 k) (hy : ∀ b : Bool, y ≠ .bool b) (hz : ∀ b : Bool, z ≠ .bool b) (h0 : w.cell? ⟨q, off, none⟩ = some (.int .i64 f)) (h1 : w.cell? ⟨q, off + 1, none⟩ = some (.bool m)) : q ≠ g := by
  rintro rfl
  have e0 := cell_ab h h0
  have e1 := cell_ab h h1
  match off, e0, e1 with
  | 0, e0, e1 => simp at e0; exact hx _ e0
  | 1, e0, e1 => simp at e1; exact hz _ e1
  | 2, e0, e1 => simp at e1
  | k + 3, e0, e1 => simp at e0
theorem oxat_set3 {w : World} {v : Value} {L : List O6} {g : Nat} {b : Bool} {t c : Int} (hL : OxAt w v L) (h : AB w g 30 [.bool b, .int .i64 t, .int .i64 c]) (x y z : Value) : OxAt (((w.setCell ⟨g, 0, none⟩ x).setCell ⟨g, 1, none⟩ y).setCell ⟨g, 2, none⟩ z) v L := by
  obtain ⟨s, cap, rfl, h1, h2, h3, h4⟩ := hL
  refine ⟨s, cap, rfl, h1, h2, h3, fun i f m a b c d hi => ?_⟩
  obtain ⟨q, off, e, c0, c1, c2, c3, c4, c5⟩ := h4 i f m a b c d hi
  have hne : g ≠ q := Ne.symm (ox_far (i := i) h (fun k e => by cases e) (fun b e => by cases e) (fun b e => by cases e) c0 c1)
  exact ⟨q, off, e, far3c c0 hne, far3c c1 hne, far3c c2 hne, far3c c3 hne, far3c c4 hne, far3c c5 hne⟩
set_option maxRecDepth 100000 in
set_option maxHeartbeats 8000000 in
theorem mback_no_fault (s : Option Addr) (sc : Nat) (L : List O6) (ao : Option Addr) (cap : Nat) (l : List Int) (w : World) (g1 : ¬ (60 : Int) < (L.length : Int)) (g2 : ¬ (2000 : Int) < (l.length : Int)) (hB : Bytes w (.slice ao l.length cap) l) (q1 : Calls Try.prog 9 #[.slice s L.length sc] w fun e w' => e = .returned (.tuple #[.slice none 0 0, .int .i64 1]) ∧ Below w.heap.size w w') (cc : Int) (qd : ∀ W, Below w.heap.size w W → Calls Try.prog 20 #[.slice ao l.length cap] W fun e w' => e = .returned (.tuple #[.slice none 0 0, .int .i64 0, .agg #[.bool true, .int .i64 4, .int .i64 cc]]) ∧ Below W.heap.size W w') :
    Calls Try.prog 6 #[.slice s L.length sc, .slice ao l.length cap] w fun e w' => e = .returned (.bool true) ∧ Below w.heap.size w w' := by
  have aw := hide_ (fun w => awake11_any w)
  have q1 := hide_ q1
  have qd := hide_ qd
  clear hB
  go_enter Try.func6, Try.ntmps6
  go_wp2_with (first | (go_at_call_of 9 (Value.slice s L.length sc); refine q1.out.mono ?_; rintro e w1 ⟨rfl, b1⟩) | (go_at_call_of 20 (Value.slice ao l.length cap); refine (qd.out _ b1).mono ?_; rintro e w2 ⟨rfl, bb2⟩; have k2 : Below w.heap.size w (w2.alloc (.cells #[.bool true, .int .i64 4, .int .i64 cc] 30)) := b1.trans ((bb2.trans ((below1 w2 _).mono bb2.size)).mono b1.size); obtain ⟨gg0, gg1, gg2, -⟩ := (AB.at0 w2 30 [.bool true, .int .i64 4, .int .i64 cc]).three) | (go_at_call 8; refine (aw.out _).mono ?_; rintro e w3 ⟨rfl, b3⟩))
  go_ret
  exact ⟨rfl, k2.trans (b3.mono k2.size)⟩

set_option maxRecDepth 100000 in
set_option maxHeartbeats 8000000 in
theorem mback_no_ok (s : Option Addr) (sc : Nat) (L : List O6) (ao : Option Addr) (cap : Nat) (l : List Int) (w : World) (g1 : ¬ (60 : Int) < (L.length : Int)) (g2 : ¬ (2000 : Int) < (l.length : Int)) (hB : Bytes w (.slice ao l.length cap) l) (q1 : Calls Try.prog 9 #[.slice s L.length sc] w fun e w' => e = .returned (.tuple #[.slice none 0 0, .int .i64 1]) ∧ Below w.heap.size w w') (K : List O6) (n : Nat) (hn : n ≤ l.length) (qd : ∀ W, Below w.heap.size w W → Calls Try.prog 20 #[.slice ao l.length cap] W fun e w' => (∃ r, e = .returned (.tuple #[r, .int .i64 (n : Int), .agg #[.bool false, .int .i64 0, .int .i64 0]]) ∧ OxAt w' r K) ∧ Below W.heap.size W w') (p2 : ∀ r W, OxAt W r K → Calls Try.prog 9 #[r] W fun e w' => (∃ r', e = .returned (.tuple #[r', .int .i64 0]) ∧ Bytes w' r' (l.take n)) ∧ Below W.heap.size W w') :
    Calls Try.prog 6 #[.slice s L.length sc, .slice ao l.length cap] w fun e w' => e = .returned (.bool true) ∧ Below w.heap.size w w' := by
  have aw := hide_ (fun w => awake11_any w)
  have q1 := hide_ q1
  have qd := hide_ qd
  obtain ⟨t1, t2, t3⟩ := bytes_take hB n hn
  have T3 := hide_ t3
  have gn : ((n : Nat) : Int) ≤ (l.length : Int) := by omega
  clear t3 hn
  have p2 := hide_ p2
  clear hB
  go_enter Try.func6, Try.ntmps6
  go_wp2_with (first | (go_at_call_of 9 (Value.slice s L.length sc); refine q1.out.mono ?_; rintro e w1 ⟨rfl, b1⟩) | (go_at_call_of 20 (Value.slice ao l.length cap); refine (qd.out _ b1).mono ?_; rintro e w2 ⟨⟨r2, rfl, hr2⟩, bb2⟩; have k2 : Below w.heap.size w (w2.alloc (.cells #[.bool false, .int .i64 0, .int .i64 0] 30)) := b1.trans ((bb2.trans ((below1 w2 _).mono bb2.size)).mono b1.size); obtain ⟨gg0, gg1, gg2, -⟩ := (AB.at0 w2 30 [.bool false, .int .i64 0, .int .i64 0]).three; have HR2 := hide_ (hr2.later (below1 w2 (.cells #[.bool false, .int .i64 0, .int .i64 0] 30))); clear hr2) | (go_at_call_of 9 r2; refine (p2.out _ _ HR2.out).mono ?_; rintro e w3 ⟨⟨r3, rfl, h3⟩, b3⟩; have k3 := k2.trans (b3.mono k2.size); have qe := equal_any r3 _ _ _ w3 h3 (T3.out.later k3); rw [beq_self_eq_true] at qe; have qe := hide_ qe; clear h3) | (go_at_call 11; refine qe.out.mono ?_; rintro e w4 ⟨rfl, b4⟩; have k4 := k3.trans (b4.mono k3.size)) | (go_at_call 8; refine (aw.out _).mono ?_; rintro e w5 ⟨rfl, b5⟩))
  go_ret
  exact ⟨rfl, k4.trans (b5.mono k4.size)⟩


end Go.Proofs.Ytcffebkebldjcaa
