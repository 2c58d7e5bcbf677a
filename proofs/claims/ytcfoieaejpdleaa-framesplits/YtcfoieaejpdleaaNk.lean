import Derived.Test.YtcfoieaejpdleaaNh
import Derived.Test.YtcfoieaejpdleaaNi
import Derived.Test.YtcfoieaejpdleaaNj
import Derived.Deep.RegionHeld3
import Derived.Deep.RegionWith
import Derived.Deep.MidRow
import Derived.Deep.Cut
namespace Go.Proofs.Ytcfoieaejpdleaa
open Go Go.RowKit
set_option linter.unusedVariables false
set_option linter.unusedSimpArgs false
attribute [local go_sem] Oper.semAt_some

theorem Bytes.lit (w : World) (l : List Int) (t : TypeId) (h : isB l) (hl : l.length ≤ 1000) : Bytes (w.alloc (.cells (u8s l).toArray t)) (.slice (some ⟨w.heap.size, 0, none⟩) l.length l.length) l := by
  refine ⟨_, _, rfl, Nat.le_refl _, by unfold maxLen; omega, h, (fun e => by cases e), fun ad e j z hz => ?_⟩
  cases e
  rw [Addr.add_lit, World.cell?_alloc_new]
  simp [u8s, hz]
theorem wp_append_ownB {P : Program} {w : World} {o : Oper} {a : Act} {K : Act → World → Prop} {Q : Exit → Act → World → Prop} (s x : Operand) (t : TypeId)
    (ho : o.op = .call { callee := .builtin .append, args := #[s, x], argTypes := #[t, t] })
    (base : Nat) (e : TypeId) (i : TypeInfo) (ht : P.underlying t = some (.slice e)) (hi : P.info? e = some i) (hz : i.zero = some (.int .u8 0))
    (hsize : i.size = 1) (hby : i.bytes = 1)
    (v : Value) (n : Nat) (xs : List Value) (hs : a.eval s = v) (hown : w.ownsRow base e 1 v n xs)
    (u : Value) (l : List Int) (hx : a.eval x = u) (hB : Bytes w u l)
    (h63 : n + l.length ≤ 140737488355328) (hbase : base ≤ w.heap.size)
    (h : ∀ v' w', w'.ownsRow base e 1 v' (n + l.length) (xs ++ u8s l) → w.grownBy w' v.ownBlock → K (a.put o.dst v') w') : o.wp P a w K Q := by
  obtain ⟨ad, cap, rfl, h1, h2, h3, h4, h5⟩ := hB
  cases ad with
  | none =>
    have hc := h4 rfl
    subst hc
    have hl : l = [] := List.eq_nil_of_length_eq_zero (by omega)
    subst hl
    have hrun := run_append_owned_none (P := P) (w := w) base t o.type e i 1 ht hi v n xs hown
    have hK := h v w (by simpa [u8s] using hown) ⟨rfl, rfl, rfl, Nat.le_refl _, fun _ _ _ => rfl⟩
    unfold Oper.wp
    simp only [List.length_nil] at hx
    simp [execOp, ho, resolve, invoke, builtin, hs, hx, hrun, Result.andThen]
    exact hK
  | some ad =>
    refine wp_append_own w s x t ho base e i (.int .u8 0) 1 1 ht hi hz hsize hby rfl (by decide) v n xs hs hown ad l.length cap (u8s l) hx (by simp [u8s]) ?_ (u8s_one l) (by unfold maxLen; omega) (by omega) hbase (fun v' w' a1 a2 _ => h v' w' a1 a2)
    intro j u hu
    unfold u8s at hu
    rw [List.getElem?_map] at hu
    cases hj : l[j]? with
    | none => rw [hj] at hu; cases hu
    | some z => rw [hj] at hu; cases hu; exact h5 ad rfl j z hj
theorem wpList_append_ownBg {P : Program} {w : World} {ops : Array Oper} {rest : List Oper} {o : Oper} {a : Act} {Q : Exit → Act → World → Prop} (s x : Operand) (t : TypeId)
    (ho : o.op = .call { callee := .builtin .append, args := #[s, x], argTypes := #[t, t] })
    (base : Nat) (e : TypeId) (i : TypeInfo) (ht : P.underlying t = some (.slice e)) (hi : P.info? e = some i) (hz : i.zero = some (.int .u8 0))
    (hsize : i.size = 1) (hby : i.bytes = 1)
    (v : Value) (n : Nat) (xs : List Value) (hs : a.eval s = v) (hown : w.ownsRow base e 1 v n xs)
    (u : Value) (l : List Int) (hx : a.eval x = u) (hB : Bytes w u l) (hw : Region.wanted o (yielded ops a.tmps) = true)
    (h63 : n + l.length ≤ 140737488355328) (hbase : base ≤ w.heap.size)
    (h : ∀ v' w', w'.ownsRow base e 1 v' (n + l.length) (xs ++ u8s l) → w.grownBy w' v.ownBlock → wpList P ops Q rest (a.put o.dst v') w') : wpList P ops Q (o :: rest) a w :=
  wpList_wanted hw fun K hK => wp_append_ownB s x t ho base e i ht hi hz hsize hby v n xs hs hown u l hx hB h63 hbase (fun v' w' h1 h2 => hK _ _ (h v' w' h1 h2))
theorem neq_nilF (gf : Nat) (lb : Array Value) (w : World) : Sem.run Try.prog (binOp BinOp.neq 25 (.func (.func gf) #[] lb) .nilFunc) w = .ok (.bool true) w := by rfl
def B16 : List Int := headF 2 7 [5]
theorem b16_len : B16.length = 9 := rfl
theorem b16_isB : isB B16 := by intro z hz; simp [B16, headF, h3F, h2F, h1F, spl] at hz; omega
theorem b16_cuts : Cuts (B16 ++ [4, 2]) [B16] [4, 2] := by
  have := cuts_msgs [4, 2] (by decide) [B16] (by intro x hx; simp at hx; subst hx; exact ⟨by rw [b16_len]; omega, rfl⟩)
  simpa using this
theorem tail_cuts : isB [4, 2] := by intro z hz; simp at hz; omega
theorem b16_cuts1 : Cuts B16 [B16] [] := by
  have := cuts_msgs [] (by decide) [B16] (by intro x hx; simp at hx; subst hx; exact ⟨by rw [b16_len]; omega, rfl⟩)
  simpa using this
theorem b11_len : (B16 ++ [4, 2]).length = 11 := rfl
theorem Bytes.later1 {w w' : World} {v : Value} {l : List Int} (h : Bytes w v l) (hb : Below w.heap.size w w') : Bytes w' v l := h.later hb
/-- what behind a clone [4, 2] was appended to -/
theorem app16 {wa wb wc : World} {g c : Nat} {v : Value} (o : wb.ownsRow wa.heap.size 5 1 (.slice (some ⟨g, 0, none⟩) 9 c) 9 (u8s B16)) (own : wc.ownsRow wa.heap.size 5 1 v (9 + [4, 2].length) (u8s B16 ++ u8s [4, 2])) (hg : (wb.alloc (.cells (u8s [4, 2]).toArray 5)).grownBy wc (Value.slice (some ⟨g, 0, none⟩) 9 c).ownBlock) {n : Nat} (hn : n ≤ wa.heap.size) (hz : wa.heap.size ≤ wb.heap.size) :
    ∃ g3 c3, v = .slice (some ⟨g3, 0, none⟩) 11 c3 ∧ Bytes wc (.slice (some ⟨g3, 0, none⟩) 11 c3) (B16 ++ [4, 2]) ∧ ∀ k, k ≤ wa.heap.size → Below k wb wc := by
  rw [← u8s_append] at own
  have own : wc.ownsRow wa.heap.size 5 1 v 11 (u8s (B16 ++ [4, 2])) := own
  obtain ⟨g3, c3, rfl, -, -⟩ := own_form own (by decide)
  refine ⟨g3, c3, rfl, Bytes.ofOwn own (b16_isB.app tail_cuts), fun k hk => ?_⟩
  have h1 := (own_block_lt o rfl).1
  refine ((below1 wb (.cells (u8s [4, 2]).toArray 5)).mono (by omega)).trans (below_grown hg k (by simp; omega) (fun j e => ?_))
  cases e
  omega
theorem rows_one {W : World} {u : Value} {x : List Int} (h : RowsAt W u [x]) (hx : 0 < x.length) : ∃ g c a c', u = .slice (some ⟨g, 0, none⟩) 1 c ∧ 1 ≤ c ∧ c ≤ 9223372036854775807 ∧ W.cell? ⟨g, 0, none⟩ = some (.slice a x.length c') ∧ Bytes W (.slice a x.length c') x := by
  obtain ⟨vs, o, hl, hp⟩ := h
  obtain ⟨g, c, rfl, h1, h2⟩ := own_form o (Nat.succ_pos 0)
  match vs, hl with
  | [v0], _ =>
    obtain ⟨hb, a, c', rfl⟩ := hp 0 v0 x rfl rfl
    have := o.cells rfl 0 _ rfl
    rw [Addr.add_lit] at this
    exact ⟨g, c, a, c', rfl, h1, by simpa using h2, this, hb⟩
set_option maxRecDepth 100000 in
set_option maxHeartbeats 8000000 in
theorem awake16_any (w : World) : Calls Try.prog 7 #[] w fun e w' => e = .returned (.bool true) ∧ Below w.heap.size w w' := by
  have L5 := hide_ (Bytes.lit w [5] 5 (by intro z hz; simp at hz; omega) (by decide))
  have B5 := hide_ (below1 w (.cells #[.int .u8 5] 5))
  have qh := hide_ (head_yes 2 7 (.slice (some ⟨w.heap.size, 0, none⟩) 1 1) [5] (w.alloc (.cells #[.int .u8 5] 5)) L5.out (by decide))
  have hnn := fun gf lb w => neq_nilF gf lb w
  have LEN := hide_ b16_len
  have LIT := hide_ (fun (W : World) => Bytes.lit W [4, 2] 5 tail_cuts (by decide))
  have q1 : Hid (∀ (v : Value) (W : World), Bytes W v B16 → Calls Try.prog 21 #[v] W fun e w' => ∃ g c, e = .returned (.slice (some ⟨g, 0, none⟩) 9 c) ∧ w'.ownsRow W.heap.size 5 1 (.slice (some ⟨g, 0, none⟩) 9 c) 9 (u8s B16) ∧ Below W.heap.size W w') := hide_ (fun v W h => (clone_any v B16 W h (by rw [b16_len]; omega)).mono (by
    rintro e w' ⟨r, rfl, o, b⟩
    rw [b16_len] at o
    obtain ⟨g, c, rfl, -, -⟩ := own_form o (by decide)
    exact ⟨g, c, rfl, o, b⟩))
  obtain ⟨i0, hi0, hz0, hz1, hz2⟩ := info_parts info5
  have HN : Hid (Try.prog.info? 5 = some i0 ∧ i0.zero = some (.int .u8 0) ∧ i0.size = 1 ∧ i0.bytes = 1) := ⟨hi0, hz0, hz1, hz2⟩
  clear hi0 hz0 hz1 hz2 L5
  go_enter Try.func7, Try.ntmps7
  go_wp2_with (first
    | (go_at_call 17; refine qh.out.mono ?_; rintro e w1 ⟨r1, rfl, o1, b1⟩; obtain ⟨g1, c1, e1, -, -⟩ := own_form o1 (by decide); subst e1; have H1 : Hid (Bytes w1 (.slice (some ⟨g1, 0, none⟩) 9 c1) B16) := hide_ (Bytes.ofOwn o1 b16_isB); have k1 := hide_ (B5.out.trans (b1.mono B5.out.size)); clear o1 b1)
    | (go_at_call 21; first | (refine (q1.out _ _ H4.out).mono ?_; rintro e w5 ⟨g5, c5, rfl, o5, b5⟩; have o5 := hide_ o5; have k5 := hide_ (k4.out.trans (b5.mono k4.out.size)); have z5 := hide_ b5.size; have y5 := hide_ b5; clear b5) | (refine (q1.out _ _ H1.out).mono ?_; rintro e w2 ⟨g2, c2, rfl, o2, b2⟩; have o2 := hide_ o2; have k2 := hide_ (k1.out.trans (b2.mono k1.out.size)); have z2 := hide_ b2.size; have y2 := hide_ b2; clear b2))
    | (at_builtin; refine wpList_append_ownB rfl (.tmp 10) (.tmp 11) 22 rfl w1.heap.size 5 i0 Try.underlying22 HN.out.1 HN.out.2.1 HN.out.2.2.1 HN.out.2.2.2 (.slice (some ⟨g2, 0, none⟩) 9 c2) 9 (u8s B16) (by simp [Act.eval, Act.put]) (o2.out.alloc _) (.slice (some ⟨w2.heap.size, 0, none⟩) 2 2) [4, 2] (by simp [Act.eval, Act.put]) (LIT.out w2) (by decide) (by have := z2.out; simp; omega) ?_; intro v3 w3 own3 hg3; obtain ⟨g3, c3, e3, H3, bb3⟩ := app16 o2.out own3 hg3 k1.out.size z2.out; subst e3; have H3 := hide_ H3; have k3 := hide_ (k2.out.trans (bb3 w.heap.size k1.out.size)); have H3b := hide_ (y2.out.trans (bb3 w1.heap.size (Nat.le_refl _))))
    | (at_builtin; refine wpList_append_ownBg (.tmp 35) (.tmp 36) 22 rfl w4.heap.size 5 i0 Try.underlying22 HN.out.1 HN.out.2.1 HN.out.2.2.1 HN.out.2.2.2 (.slice (some ⟨g5, 0, none⟩) 9 c5) 9 (u8s B16) (by simp [Act.eval, Act.put]) (o5.out.alloc _) (.slice (some ⟨w5.heap.size, 0, none⟩) 2 2) [4, 2] (by simp [Act.eval, Act.put]) (LIT.out w5) (by rfl) (by decide) (by have := z5.out; simp; omega) ?_; intro v6 w6 own6 hg6; obtain ⟨g6, c6, e6, H6, bb6⟩ := app16 o5.out own6 hg6 k4.out.size z5.out; subst e6; have H6 := hide_ H6; have k6 := hide_ (k5.out.trans (bb6 w.heap.size k4.out.size)); have H6b := hide_ (y5.out.trans (bb6 w4.heap.size (Nat.le_refl _))))
    | (go_at_call 11; refine (list_any _ _ _ _ _ H3.out (by rw [b11_len]; omega) b16_cuts).mono ?_; rintro e w4 ⟨u4, rfl, R4, -, b4⟩; obtain ⟨g4, c4, a4, d4, e4, hc1, hc2, hcell, hx4⟩ := rows_one R4 (by rw [b16_len]; omega); subst e4; rw [b16_len] at hcell hx4; have hx4 := hide_ hx4; have H4 := hide_ ((H1.out.later1 H3b.out).later b4); have k4 := hide_ (k3.out.trans (b4.mono k3.out.size)); clear R4 b4)
    | (go_at_call 12; first | (refine (bequal_any _ _ [4, 2] [4, 2] _ (H7.out.later (below1 _ _)) (LIT.out w7)).mono ?_; rintro e w9 ⟨rfl, e9⟩; have e9 := e9.symm; subst e9; have H9 := 0) | (refine (bequal_any _ _ B16 B16 _ hx4.out H4.out).mono ?_; rintro e w9 ⟨rfl, e9⟩; have e9 := e9.symm; subst e9))
    | (go_at_call 14; refine (rest_any _ _ _ _ _ H6.out (by rw [b11_len]; omega) b16_cuts).mono ?_; rintro e w7 ⟨a7, c7, rfl, H7, b7⟩; have H7 := hide_ H7; have k7 := hide_ (k6.out.trans (b7.mono k6.out.size)); have HB7 := hide_ ((H4.out.later1 H6b.out).later b7); clear b7)
    | (go_at_call 8; refine (split_any _ B16 _ _ _ (HB7.out.later (below1 _ _)) (by rw [b16_len]; omega) b16_cuts1).mono ?_; rintro e w8 ⟨gf, lb, rfl, -, b8⟩; have k8 := hide_ b8))
  go_ret
  have k9 := k7.out.trans ((below1 w7 (.cells (u8s [4, 2]).toArray 5)).mono k7.out.size)
  exact ⟨rfl, k9.trans (k8.out.mono k9.size)⟩

end Go.Proofs.Ytcfoieaejpdleaa
