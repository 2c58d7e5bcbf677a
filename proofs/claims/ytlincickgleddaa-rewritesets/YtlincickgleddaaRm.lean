import Derived.Test.YtlincickgleddaaRx
namespace Go.Proofs.Ytlincickgleddaa
open Go Go.RowKit
set_option linter.unusedVariables false
set_option linter.unusedSimpArgs false

theorem ov_lt {a b c d : Nat} (ha : a < 18446744073709551616) (hb : b < 18446744073709551616) : a &&& c ||| b &&& d < 18446744073709551616 := or_lt _ _ (and_lt _ _ ha) (and_lt _ _ hb)
/-- bit by bit: one half of a field -/
theorem hp_then (v m v2 m2 x : Nat) (hm : m < 18446744073709551616) (hm2 : m2 < 18446744073709551616) (hx : x < 18446744073709551616) :
    andn x (andn m m2 ||| m2) ||| (v &&& andn m m2 ||| v2 &&& m2) &&& (andn m m2 ||| m2) = andn (andn x m ||| v &&& m) m2 ||| v2 &&& m2 := by
  apply Nat.eq_of_testBit_eq
  intro i
  have hb := or_lt _ _ (tandn_lt m m2 hm) hm2
  simp only [Nat.testBit_or, Nat.testBit_and, tb_andn _ _ hb, tb_andn _ _ hm2, tb_andn _ _ hm]
  by_cases hi : i < 64
  · cases v.testBit i <;> cases m.testBit i <;> cases v2.testBit i <;> cases m2.testBit i <;> cases x.testBit i <;> simp [hi]
  · rw [tb_high m i hm (by omega), tb_high m2 i hm2 (by omega), tb_high x i hx (by omega)]; simp
theorem hp_assocv (v m v2 m2 v3 m3 : Nat) (hm : m < 18446744073709551616) (hm2 : m2 < 18446744073709551616) (hm3 : m3 < 18446744073709551616) :
    (v &&& andn m m2 ||| v2 &&& m2) &&& andn (andn m m2 ||| m2) m3 ||| v3 &&& m3 = v &&& andn m (andn m2 m3 ||| m3) ||| (v2 &&& andn m2 m3 ||| v3 &&& m3) &&& (andn m2 m3 ||| m3) := by
  apply Nat.eq_of_testBit_eq
  intro i
  have hb := or_lt _ _ (tandn_lt m2 m3 hm2) hm3
  simp only [Nat.testBit_or, Nat.testBit_and, tb_andn _ _ hb, tb_andn _ _ hm2, tb_andn _ _ hm3]
  by_cases hi : i < 64
  · cases v.testBit i <;> cases m.testBit i <;> cases v2.testBit i <;> cases m2.testBit i <;> cases v3.testBit i <;> cases m3.testBit i <;> simp [hi]
  · rw [tb_high m i hm (by omega), tb_high m2 i hm2 (by omega), tb_high m3 i hm3 (by omega)]; simp
theorem hp_assocm (m m2 m3 : Nat) (hm : m < 18446744073709551616) (hm2 : m2 < 18446744073709551616) (hm3 : m3 < 18446744073709551616) :
    andn (andn m m2 ||| m2) m3 ||| m3 = andn m (andn m2 m3 ||| m3) ||| (andn m2 m3 ||| m3) := by
  apply Nat.eq_of_testBit_eq
  intro i
  have hb := or_lt _ _ (tandn_lt m2 m3 hm2) hm3
  simp only [Nat.testBit_or, Nat.testBit_and, tb_andn _ _ hb, tb_andn _ _ hm2, tb_andn _ _ hm3]
  by_cases hi : i < 64
  · cases m.testBit i <;> cases m2.testBit i <;> cases m3.testBit i <;> simp [hi]
  · rw [tb_high m i hm (by omega), tb_high m2 i hm2 (by omega), tb_high m3 i hm3 (by omega)]; simp
theorem hp_twice (v m x : Nat) (hm : m < 18446744073709551616) (hx : x < 18446744073709551616) : andn (andn x m ||| v &&& m) m ||| v &&& m = andn x m ||| v &&& m := by
  apply Nat.eq_of_testBit_eq
  intro i
  simp only [Nat.testBit_or, Nat.testBit_and, tb_andn _ _ hm]
  by_cases hi : i < 64
  · cases v.testBit i <;> cases m.testBit i <;> cases x.testBit i <;> simp [hi]
  · rw [tb_high m i hm (by omega), tb_high x i hx (by omega)]; simp
theorem hp_before (v m rv rm x : Nat) (hm : m < 18446744073709551616) (hrm : rm < 18446744073709551616) (hx : x < 18446744073709551616) :
    ((v ^^^ (andn x rm ||| rv &&& rm)) &&& m = 0) ↔ ((rv ^^^ v) &&& (rm &&& m) = 0 ∧ ((v &&& andn m rm) ^^^ x) &&& andn m rm = 0) := by
  simp only [tb_zero, ← forall_and]
  refine forall_congr' fun i => ?_
  simp only [Nat.testBit_and, Nat.testBit_xor, Nat.testBit_or, tb_andn _ _ hrm]
  by_cases hi : i < 64
  · cases v.testBit i <;> cases m.testBit i <;> cases rv.testBit i <;> cases rm.testBit i <;> cases x.testBit i <;> simp [hi]
  · rw [tb_high m i hm (by omega), tb_high rm i hrm (by omega)]; simp
theorem hp_after (v m rv rm x : Nat) (hm : m < 18446744073709551616) (hrm : rm < 18446744073709551616) (hx : x < 18446744073709551616) (h : (v ^^^ x) &&& m = 0) :
    ((v &&& andn m rm ||| rv &&& rm) ^^^ (andn x rm ||| rv &&& rm)) &&& (andn m rm ||| rm) = 0 := by
  rw [tb_zero] at h ⊢
  intro i
  have h := h i
  simp only [Nat.testBit_and, Nat.testBit_xor, Nat.testBit_or, tb_andn _ _ hrm] at h ⊢
  revert h
  by_cases hi : i < 64
  · cases v.testBit i <;> cases m.testBit i <;> cases rv.testBit i <;> cases rm.testBit i <;> cases x.testBit i <;> simp [hi]
  · rw [tb_high m i hm (by omega), tb_high rm i hrm (by omega)]; simp

theorem cq_map (t : Nat → Q4) (k : Nat) (hk : k < 24) : cq ((List.range 24).map t) k = t k := cq_at (by simp [hk])
theorem wq_map (t : Nat → Nat × Nat) (k : Nat) (hk : k < 24) : wq ((List.range 24).map t) k = t k := wq_at (by simp [hk])
theorem over4_lt (q r : Q4) (h : q.1 < 18446744073709551616 ∧ q.2.1 < 18446744073709551616 ∧ q.2.2.1 < 18446744073709551616 ∧ q.2.2.2 < 18446744073709551616) (k : r.1 < 18446744073709551616 ∧ r.2.1 < 18446744073709551616 ∧ r.2.2.1 < 18446744073709551616 ∧ r.2.2.2 < 18446744073709551616) :
    (over4 q r).1 < 18446744073709551616 ∧ (over4 q r).2.1 < 18446744073709551616 ∧ (over4 q r).2.2.1 < 18446744073709551616 ∧ (over4 q r).2.2.2 < 18446744073709551616 :=
  ⟨ov_lt h.1 k.1, ov_lt h.2.1 k.2.1, or_lt _ _ (tandn_lt _ _ h.2.2.1) k.2.2.1, or_lt _ _ (tandn_lt _ _ h.2.2.2) k.2.2.2⟩
theorem clean4_lt (q : Q4) (h : q.1 < 18446744073709551616 ∧ q.2.1 < 18446744073709551616 ∧ q.2.2.1 < 18446744073709551616 ∧ q.2.2.2 < 18446744073709551616) :
    (clean4 q).1 < 18446744073709551616 ∧ (clean4 q).2.1 < 18446744073709551616 ∧ (clean4 q).2.2.1 < 18446744073709551616 ∧ (clean4 q).2.2.2 < 18446744073709551616 :=
  ⟨and_lt _ _ h.1, and_lt _ _ h.2.1, h.2.2⟩
theorem isC_mapr (t : Nat → Q4) (h : ∀ k, k < 24 → (t k).1 < 18446744073709551616 ∧ (t k).2.1 < 18446744073709551616 ∧ (t k).2.2.1 < 18446744073709551616 ∧ (t k).2.2.2 < 18446744073709551616) : isC ((List.range 24).map t) := by
  refine ⟨by simp, fun p hp => ?_⟩
  obtain ⟨k, hk, rfl⟩ := List.mem_map.1 hp
  exact h k (List.mem_range.1 hk)
theorem thenC_isC {l m : List Q4} (hl : isC l) (hm : isC m) : isC (thenC l m) := isC_mapr _ fun k _ => over4_lt _ _ (hl.cq k) (hm.cq k)
theorem setC_isC {l : List Q4} (hl : isC l) (i : Int) (q : Q4) (hq : q.1 < 18446744073709551616 ∧ q.2.1 < 18446744073709551616 ∧ q.2.2.1 < 18446744073709551616 ∧ q.2.2.2 < 18446744073709551616) : isC (setC l i q) := isC_mapr _ fun k _ => by
  split
  · exact over4_lt _ _ (hl.cq k) hq
  · exact clean4_lt _ (hl.cq k)
theorem woutC_isC {l m : List Q4} (hl : isC l) (hm : isC m) : isC (woutC l m) := isC_mapr _ fun k _ =>
  ⟨and_lt _ _ (hl.cq k).1, and_lt _ _ (hl.cq k).2.1, tandn_lt _ _ (hl.cq k).2.2.1, tandn_lt _ _ (hl.cq k).2.2.2⟩
theorem isH.wq {m : List (Nat × Nat)} (h : isH m) (k : Nat) : (wq m k).1 < 18446744073709551616 ∧ (wq m k).2 < 18446744073709551616 := by
  by_cases hk : k < 24
  · obtain ⟨a, b, e, h1, h2⟩ := h.get hk
    rw [wq_at e]; exact ⟨h1, h2⟩
  · have : m[k]? = none := List.getElem?_eq_none (by rw [h.1]; omega)
    unfold Go.Proofs.Ytlincickgleddaa.wq
    rw [List.getD_eq_getElem?_getD, this]
    simp
theorem applyC_isH {l : List Q4} {m : List (Nat × Nat)} (hl : isC l) (hm : isH m) : isH (applyC l m) := by
  refine ⟨by simp [applyC], fun p hp => ?_⟩
  obtain ⟨k, hk, rfl⟩ := List.mem_map.1 hp
  exact ⟨or_lt _ _ (tandn_lt _ _ (hm.wq k).1) (and_lt _ _ (hl.cq k).1), or_lt _ _ (tandn_lt _ _ (hm.wq k).2) (and_lt _ _ (hl.cq k).2.1)⟩
theorem applyC_then {a b : List Q4} {h : List (Nat × Nat)} (ha : isC a) (hb : isC b) (hh : isH h) : applyC (thenC a b) h = applyC b (applyC a h) := by
  apply List.map_congr_left
  intro k hk
  have hk := List.mem_range.1 hk
  have e1 : cq (thenC a b) k = over4 (cq a k) (cq b k) := cq_map _ k hk
  have e2 : wq (applyC a h) k = apply2 (cq a k) (wq h k) := wq_map _ k hk
  rw [e1, e2]
  unfold apply2 over4
  obtain ⟨-, -, h3, h4⟩ := ha.cq k
  obtain ⟨-, -, k3, k4⟩ := hb.cq k
  obtain ⟨x1, x2⟩ := hh.wq k
  dsimp only
  rw [hp_then _ _ _ _ _ h3 k3 x1, hp_then _ _ _ _ _ h4 k4 x2]
theorem thenC_assoc {a b c : List Q4} (ha : isC a) (hb : isC b) (hc : isC c) : thenC (thenC a b) c = thenC a (thenC b c) := by
  apply List.map_congr_left
  intro k hk
  have hk := List.mem_range.1 hk
  have e1 : cq (thenC a b) k = over4 (cq a k) (cq b k) := cq_map _ k hk
  have e2 : cq (thenC b c) k = over4 (cq b k) (cq c k) := cq_map _ k hk
  rw [e1, e2]
  unfold over4
  obtain ⟨-, -, h3, h4⟩ := ha.cq k
  obtain ⟨-, -, k3, k4⟩ := hb.cq k
  obtain ⟨-, -, i3, i4⟩ := hc.cq k
  dsimp only
  rw [hp_assocv _ _ _ _ _ _ h3 k3 i3, hp_assocv _ _ _ _ _ _ h4 k4 i4, hp_assocm _ _ _ h3 k3 i3, hp_assocm _ _ _ h4 k4 i4]
theorem applyC_twice {r : List Q4} {h : List (Nat × Nat)} (hr : isC r) (hh : isH h) : applyC r (applyC r h) = applyC r h := by
  apply List.map_congr_left
  intro k hk
  have hk := List.mem_range.1 hk
  have e2 : wq (applyC r h) k = apply2 (cq r k) (wq h k) := wq_map _ k hk
  rw [e2]
  unfold apply2
  obtain ⟨-, -, h3, h4⟩ := hr.cq k
  obtain ⟨x1, x2⟩ := hh.wq k
  dsimp only
  rw [hp_twice _ _ _ h3 x1, hp_twice _ _ _ h4 x2]
theorem allB_iff (p : Nat → Bool) (n : Nat) : allB p n = true ↔ ∀ k, k < n → p k = true := by
  unfold allB
  rw [List.all_eq_true]
  exact ⟨fun h k hk => h k (List.mem_range.2 hk), fun h k hk => h k (List.mem_range.1 hk)⟩
theorem before_rel {r c : List Q4} {h : List (Nat × Nat)} (hr : isC r) (hc : isC c) (hh : isH h) : hasC c (applyC r h) = (okC r c && hasC (match okC r c with | true => woutC c r | false => z24q) h) := by
  have key : hasC c (applyC r h) = (okC r c && hasC (woutC c r) h) := by
    rw [Bool.eq_iff_iff, Bool.and_eq_true]
    unfold hasC okC
    rw [allB_iff, allB_iff, allB_iff, ← forall_and]
    refine forall_congr' fun k => ?_
    rw [← imp_and]
    refine imp_congr_right fun hk => ?_
    have e1 : wq (applyC r h) k = apply2 (cq r k) (wq h k) := wq_map _ k hk
    have e2 : cq (woutC c r) k = wout4 (cq c k) (cq r k) := cq_map _ k hk
    rw [e1, e2]
    obtain ⟨-, -, h3, h4⟩ := hr.cq k
    obtain ⟨-, -, k3, k4⟩ := hc.cq k
    obtain ⟨x1, x2⟩ := hh.wq k
    unfold thz4 mok4 apply2 wout4 thz mok
    dsimp only
    simp only [Bool.and_eq_true, beq_iff_eq]
    rw [hp_before _ _ _ _ _ k3 h3 x1, hp_before _ _ _ _ _ k4 h4 x2]
    constructor
    · rintro ⟨⟨a1, a2⟩, b1, b2⟩; exact ⟨⟨a1, b1⟩, a2, b2⟩
    · rintro ⟨⟨a1, b1⟩, a2, b2⟩; exact ⟨⟨a1, a2⟩, b1, b2⟩
  rw [key]
  cases okC r c <;> rfl
theorem after_rel {r c : List Q4} {h : List (Nat × Nat)} (hr : isC r) (hc : isC c) (hh : isH h) (e : hasC c h = true) : hasC (thenC c r) (applyC r h) = true := by
  unfold hasC at e ⊢
  rw [allB_iff] at e ⊢
  intro k hk
  have e := e k hk
  have e1 : wq (applyC r h) k = apply2 (cq r k) (wq h k) := wq_map _ k hk
  have e2 : cq (thenC c r) k = over4 (cq c k) (cq r k) := cq_map _ k hk
  rw [e1, e2]
  obtain ⟨-, -, h3, h4⟩ := hr.cq k
  obtain ⟨-, -, k3, k4⟩ := hc.cq k
  obtain ⟨x1, x2⟩ := hh.wq k
  unfold thz4 thz at e ⊢
  unfold apply2 over4
  dsimp only at e ⊢
  simp only [Bool.and_eq_true, beq_iff_eq] at e ⊢
  exact ⟨hp_after _ _ _ _ _ k3 h3 x1 e.1, hp_after _ _ _ _ _ k4 h4 x2 e.2⟩

end Go.Proofs.Ytlincickgleddaa
