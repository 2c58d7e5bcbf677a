import Derived.Test.YtcfoieaejpdleaaNk
import Derived.Test.YtcfoieaejpdleaaNm
import Derived.Deep.RegionHeld3
import Derived.Deep.RegionWith
import Derived.Deep.MidRow
import Derived.Deep.Cut
import Derived.Laws.AppendOwn
namespace Go.Proofs.Ytcfoieaejpdleaa
open Go Go.RowKit
set_option linter.unusedVariables false
set_option linter.unusedSimpArgs false

theorem below1d (w : World) (o : Obj) : Below w.heap.size w (w.drew.alloc o) := ((Below.refl _ _).drew).alloc (Nat.le_refl _) _
theorem src_of {W : World} {u : Value} {r : List Int} (h : Bytes W u r) : Src Try.prog 1 22 u r.length (u8s r) W := by
  obtain ⟨a, cap, rfl, h1, h2, h3, h4, h5⟩ := h
  cases a with
  | none =>
    have := h4 rfl
    have hr : r = [] := List.eq_nil_of_length_eq_zero (by omega)
    subst hr
    exact Src.ofNil W (e' := 5) Try.underlying22 cap
  | some ad =>
    refine Src.ofSlice W (e' := 5) Try.underlying22 ad r.length cap (u8s r) (by simp [u8s]) (fun j u hj => ?_) (u8s_one r)
    unfold u8s at hj
    rw [List.getElem?_map] at hj
    cases hz : r[j]? with
    | none => rw [hz] at hj; cases hj
    | some z => rw [hz] at hj; cases hj; exact h5 ad rfl j z hz
/-- bytes appended to what was joined -/
theorem app_jb {W : World} {B : Nat} {v u : Value} {l r : List Int} (ty : TypeId) (hB : B ≤ W.heap.size) (h : JB W B v l) (hr : Bytes W u r) (hs : l.length + r.length ≤ 100000000000000) :
    ∃ v' w', (Builtin.append_ #[22, 22] ty #[v, u]).run Try.prog W = .ok v' w' ∧ Bytes w' v' (l ++ r) ∧ Below B W w' := by
  obtain ⟨g, cap, rfl, h1, h2, h3, h4, h5, h6⟩ := h
  obtain ⟨i0, hi0, hz0, hz1, hz2⟩ := info_parts info5
  have hsrc := src_of hr
  have hrl : (u8s r).length = r.length := u8s_length r
  rw [← hz1] at hsrc
  by_cases hroom : l.length + r.length ≤ cap
  · have hrun := run_append_room_src (P := Try.prog) (w := W) 22 22 ty 5 i0 Try.underlying22 hi0 g 0 l.length cap u r.length (u8s r) hsrc hroom (fun j hj => by rw [hz1]; have := (h6 (0 + l.length * 1 + j) (by omega)).1; exact this) (fun j hj => by rw [hz1]; exact (h6 (0 + l.length * 1 + j) (by omega)).2)
    rw [hz1] at hrun
    refine ⟨_, _, hrun, ⟨_, cap, by rw [List.length_append], by rw [List.length_append]; exact hroom, h3, h4.app hr.isB_, (fun e => by cases e), fun ad e j z hz => ?_⟩, Lib.below_setCells (hb := h1) _ _ _ (Below.refl _ _)⟩
    cases e
    have e9 : (⟨g, 0, none⟩ : Addr).add j = ⟨g, j, none⟩ := by rw [Addr.add_lit, Nat.zero_add]
    rw [e9]
    by_cases hj : j < l.length
    · rw [List.getElem?_append_left hj] at hz
      rw [World.cell?_setCells_out g _ _ _ _ (fun _ _ => .inl (by simp; omega))]
      exact h5 j z hz
    · rw [List.getElem?_append_right (by omega)] at hz
      have hjr := (List.getElem?_eq_some_iff.1 hz).1
      have hin := World.cell?_setCells_in g (u8s r) (0 + l.length * 1) W (fun k hk => by exact (h6 (0 + l.length * 1 + k) (by omega)).1) (j - l.length) (by omega)
      rw [show 0 + l.length * 1 + (j - l.length) = j by omega] at hin
      rw [hin]
      have e1 : (u8s r)[j - l.length]? = some (.int .u8 z) := by unfold u8s; rw [List.getElem?_map, hz]; rfl
      rw [List.getElem?_eq_getElem (by omega)] at e1
      exact e1
  · have hold : (Builtin.firstCells i0.size l.length (.slice (some ⟨g, 0, none⟩) l.length cap)).run Try.prog W.drew = .ok (u8s l).toArray W.drew :=
      run_firstCells_some (P := Try.prog) W.drew i0.size l.length ⟨g, 0, none⟩ l.length cap (u8s l) (by rw [hz1]; simp [u8s]) (fun j v hj => by
        unfold u8s at hj
        rw [List.getElem?_map] at hj
        cases hz : l[j]? with
        | none => rw [hz] at hj; cases hj
        | some z =>
          rw [hz] at hj; cases hj
          rw [Addr.add_lit, Nat.zero_add]
          exact h5 j z hz)
    have hrun := run_append_grow_src (P := Try.prog) (w := W) 22 22 ty 5 i0 (.int .u8 0) Try.underlying22 hi0 hz0 (some ⟨g, 0, none⟩) l.length cap (u8s l) hold u r.length (u8s r) hsrc (by omega) (by omega) (growslice_fits (by omega) (by rw [hz2]; omega))
    have hge := grownCap_ge W (l.length + r.length) cap 5
    have hcm : grownCap W (l.length + r.length) cap 5 ≤ maxLen := grownCap_le_maxLen W (l.length + r.length) cap 5 (by unfold maxLen; omega)
    refine ⟨_, _, hrun, ⟨_, _, by rw [List.length_append], by rw [List.length_append]; exact hge, hcm, h4.app hr.isB_, (fun e => by cases e), fun ad e j z hz => ?_⟩, (below1d W _).mono hB⟩
    cases e
    have hj := (List.getElem?_eq_some_iff.1 hz).1
    rw [List.length_append] at hj
    have e0 : W.drew.heap.size = W.heap.size := rfl
    rw [Addr.add_lit, Nat.zero_add, ← e0, World.cell?_alloc_new, Array.getElem?_append_left (by simp [u8s]; omega)]
    rw [← u8s_append]
    simp only [u8s, List.getElem?_toArray]
    rw [List.getElem?_map, hz]
    rfl
theorem rows_nil {W : World} {u : Value} {M : List (List Int)} (h : RowsAt W u M) : M = [] → ∃ c, u = .slice none 0 c ∨ ∃ a, u = .slice (some a) 0 c := by
  rintro rfl
  obtain ⟨vs, o, hl, hp⟩ := h
  rcases o.2 with ⟨rfl, -⟩ | ⟨g, cap, cur, rfl, -⟩
  · exact ⟨0, .inl rfl⟩
  · exact ⟨cap, .inr ⟨_, rfl⟩⟩
set_option maxRecDepth 100000 in
set_option maxHeartbeats 8000000 in
theorem frameAll_walk (v : Value) (b : List Int) (w : World) (hB : Bytes w v b) :
    Calls Try.prog 4 #[v] w fun e w' => e = .returned (.bool true) ∧ Below w.heap.size w w' := by
  have hm := hB.big
  obtain ⟨M, r, hC⟩ := cuts_ex b.length b (Nat.le_refl _)
  obtain ⟨ao, cap, rfl⟩ := hB.short
  by_cases h4 : b.length ≤ 4000
  · have h4' : ¬ (4000 : Int) < (b.length : Int) := by omega
    have hj := hC.join
    have hl := hC.len
    have hlen : M.flatten.length + r.length = b.length := by rw [← hj]; simp
    have hpos : ∀ x ∈ M, 0 < x.length := fun x hx => by have := hC.some8 x hx; omega
    have HB := hide_ hB
    have q1 := hide_ (fun W (hW : Below w.heap.size w W) => list_any (.slice ao b.length cap) b r M W (hB.later hW) (by omega) hC)
    have q2 := hide_ (fun u W (h : RowsAt W u M) h2 => join_any u M W h hpos (by omega) (by omega) h2)
    have q3 := hide_ (fun W (hW : Below w.heap.size w W) => rest_any (.slice ao b.length cap) b r M W (hB.later hW) (by omega) hC)
    have HL := hide_ hlen
    have HJ := hide_ hj
    have H4 := hide_ h4
    clear hB hC hj hl hlen hpos h4
    go_enter Try.func4, Try.ntmps4
    go_wp2_with (first
      | (go_at_call 11; refine (q1.out _ (Below.refl _ _)).mono ?_; rintro e w1 ⟨u1, rfl, R1, g1, b1⟩; have k1 := hide_ b1; have R1 := hide_ R1; clear b1)
      | (go_at_call 16; refine (q2.out _ _ R1.out (rows_nil R1.out)).mono ?_; rintro e w2 ⟨v2, rfl, J2, b2⟩; have k2 := hide_ (k1.out.trans (b2.mono k1.out.size)); have J2 := hide_ J2; have z2 := hide_ b2.size; clear b2)
      | (go_at_call 14; refine (q3.out _ k2.out).mono ?_; rintro e w3 ⟨a3, c3, rfl, h3, b3⟩; have k3 := hide_ (k2.out.trans (b3.mono k2.out.size)); have J3 := hide_ (J2.out.later b3); have h3 := hide_ h3; have z3 := hide_ (Nat.le_trans z2.out b3.size); clear b3)
      | (at_builtin; obtain ⟨v4, w4, hrun, h5, b4⟩ := app_jb 22 z3.out J3.out h3.out (by have := HL.out; have := H4.out; omega); refine Lib.wpList_append_run_sl _ rfl (.tmp 9) (.tmp 11) 22 rfl _ _ (by simp [Act.eval, Act.put]) (by simp [Act.eval, Act.put]) hrun ?_; rw [HJ.out] at h5; obtain ⟨a4, c4, e4⟩ := h5.short; subst e4; have h5 := hide_ h5; have k4 := hide_ (k3.out.trans (b4.mono k1.out.size)); clear b4 hrun)
      | (go_at_call 12; refine (bequal_any _ _ b b _ h5.out (HB.out.later k4.out)).mono ?_; rintro e w5 ⟨rfl, e5⟩; have e5 := e5.symm; subst e5)
      | (go_at_call 7; refine (awake16_any _).mono ?_; rintro e w9 ⟨rfl, b9⟩))
    go_ret
    exact ⟨rfl, k4.out.trans (b9.mono k4.out.size)⟩
  · have h7' : (4000 : Int) < (b.length : Int) := by omega
    clear hB h4 hC
    go_enter Try.func4, Try.ntmps4
    go_wp2_with (go_at_call 7; refine (awake16_any _).mono ?_; rintro e w9 ⟨rfl, b9⟩)
    go_ret
    exact ⟨rfl, b9⟩

end Go.Proofs.Ytcfoieaejpdleaa
