import Derived.Test.YtfeioclnhnipmaaPb
import Derived.Deep.RegionHeld3
import Derived.Deep.RegionWith
import Derived.Deep.MidRow
import Derived.Deep.Cut
namespace Go.Proofs.Ytfeioclnhnipmaa
open Go Go.RowKit
set_option linter.unusedVariables false
set_option linter.unusedSimpArgs false
attribute [local go_sem] Oper.semAt_some

theorem step_append_ownB {P : Program} {w : World} {ops : Array Oper} {o : Oper} {a : Act} {K : Act → World → Prop} {Q : Exit → Act → World → Prop} {E : Prop} (hgd : o.guard = none) (s x : Operand) (t : TypeId)
    (ho : o.op = .call { callee := .builtin .append, args := #[s, x], argTypes := #[t, t] })
    (base : Nat) (e : TypeId) (i : TypeInfo) (ht : P.underlying t = some (.slice e)) (hi : P.info? e = some i) (hz : i.zero = some (.int .u8 0))
    (hsize : i.size = 1) (hby : i.bytes = 1)
    (v : Value) (n : Nat) (xs : List Value) (hs : a.eval s = v) (hown : w.ownsRow base e 1 v n xs)
    (u : Value) (l : List Int) (hx : a.eval x = u) (hB : Bytes w u l)
    (h63 : n + l.length ≤ 140737488355328) (hbase : base ≤ w.heap.size)
    (h : ∀ v' w', w'.ownsRow base e 1 v' (n + l.length) (xs ++ u8s l) → w.grownBy w' v.ownBlock → K (a.put o.dst v') w') :
    if Region.wanted o (yielded ops a.tmps) = true then Oper.wp P o a w K Q else E := by
  have hw : Region.wanted o (yielded ops a.tmps) = true := by simp [Region.wanted, hgd]
  rw [if_pos hw]
  exact wp_append_ownB s x t ho base e i ht hi hz hsize hby v n xs hs hown u l hx hB h63 hbase h
set_option maxRecDepth 100000 in
set_option maxHeartbeats 8000000 in
theorem rfparse_ok (v : Value) (l : List Int) (w : World) (hB : Bytes w v l) (hl : 4 ≤ l.length) (h5 : l.length ≤ 100000000) :
    Calls Try.prog 15 #[v] w fun e w' => ∃ a c, e = .returned (.tuple #[.agg #[.bool true, .int .i64 (be2 l 0), .int .i64 (be2 l 2)], .slice a (l.length - 4) c, .bool true]) ∧ Bytes w' (.slice a (l.length - 4) c) (l.drop 4) ∧ Below w.heap.size w w' := by
  obtain ⟨ao, cap, rfl⟩ := hB.short
  obtain ⟨a4, sl, h4⟩ := bytes_drop4 hB 4 hl (by omega)
  have sl : ∀ wx, (Instr.slice 24 (.slice ao l.length cap) (some (.int .i64 4)) none none).run Try.prog wx = .ok (.slice a4 (l.length - 4) (cap - 4)) wx := sl
  have B0 := hide_ (below1 w (.cells #[.bool false, .int .i64 0, .int .i64 0] 23))
  have A0 := hide_ (AB.at0 w 23 [.bool false, .int .i64 0, .int .i64 0])
  have q1 : Hid (∀ W, Below w.heap.size w W → Calls Try.prog 22 #[.slice ao l.length cap, .int .i64 0, .int .i64 2] W fun e w' => ∃ er, e = .returned (.tuple #[.int .i64 (be2 l 0), .int .i64 er]) ∧ Below W.heap.size W w') := hide_ (fun W (hW : Below w.heap.size w W) => (rnget2 (.slice ao l.length cap) l 0 W (hB.later hW) (by omega)).mono (by rintro e w' ⟨er, rfl, rfl⟩; exact ⟨er, rfl, Below.refl _ _⟩))
  have q2 : Hid (∀ W, Below w.heap.size w W → Calls Try.prog 22 #[.slice ao l.length cap, .int .i64 2, .int .i64 2] W fun e w' => ∃ er, e = .returned (.tuple #[.int .i64 (be2 l 2), .int .i64 er]) ∧ Below W.heap.size W w') := hide_ (fun W (hW : Below w.heap.size w W) => (rnget2 (.slice ao l.length cap) l 2 W (hB.later hW) (by omega)).mono (by rintro e w' ⟨er, rfl, rfl⟩; exact ⟨er, rfl, Below.refl _ _⟩))
  have hd : (l.drop 4).length = l.length - 4 := by simp
  have hi4 := hide_ (And.intro h4.isB_ hd)
  have h6 : ¬ (l.length : Int) < 4 := by omega
  have H6 := hide_ h5
  have h4 := hide_ h4
  obtain ⟨i0, hi0, hz0, hz1, hz2⟩ := info_parts info5
  have HI : Hid (Try.prog.info? 5 = some i0 ∧ i0.zero = some (.int .u8 0) ∧ i0.size = 1 ∧ i0.bytes = 1) := ⟨hi0, hz0, hz1, hz2⟩
  clear hB hl h5 hd hi0 hz0 hz1 hz2
  go_enter Try.func15, Try.ntmps15
  go_upto_region 5 with (go_at_call 22; first | (refine (q2.out _ k1.out).mono ?_; rintro e w2 ⟨e2, rfl, b2⟩; have k2 := hide_ (k1.out.trans (b2.mono k1.out.size)); have A2 := hide_ (A1.out.later b2); clear b2) | (refine (q1.out _ B0.out).mono ?_; rintro e w1 ⟨e1, rfl, b1⟩; have k1 := hide_ (B0.out.trans (b1.mono B0.out.size)); have A1 := hide_ (A0.out.later b1); clear b1))
  have bA : w.heap.size ≤ w.heap.size := Nat.le_refl _
  have lA0 : w.heap.size ≤ w.heap.size := Nat.le_refl _
  have A0 := hide_ (show AB w2.drew w.heap.size 23 [.bool false, .int .i64 0, .int .i64 0] from A2.out)
  refine wp_region_held_drew (S := (fun w' => Below w.heap.size w w')) (by kernel_rfl) ((k2.out).drew) (fun hHeld => ?_)
  have kb0 : Below w.heap.size w w2.drew := (k2.out).drew
  generalize w2.drew = D0 at *
  refine takeR (i := 0) (v := ?_) rfl (by kernel_rfl) (by kernel_rfl) (by kernel_rfl) (some 23) rfl (Or.inl ⟨by rfl, ?_⟩) (fun _ _ _ h => h) (by assumption) ?_
  rotate_left
  · intro w hSw; (try dsimp only at hSw); go_simp; (try with_reducible rfl)
  simp only [Act.put, List.setIfInBounds_toArray, List.set_cons_zero, List.set_cons_succ]
  refine takeR (i := 1) (v := ?_) rfl (by kernel_rfl) (by kernel_rfl) (by kernel_rfl) (some 24) rfl (Or.inl ⟨by rfl, ?_⟩) (fun _ _ _ h => h) (by assumption) ?_
  rotate_left
  · intro w hSw; (try dsimp only at hSw); go_simp; (try with_reducible rfl)
  simp only [Act.put, List.setIfInBounds_toArray, List.set_cons_zero, List.set_cons_succ]
  refine takeR (i := 4) (v := ?_) rfl (by kernel_rfl) (by kernel_rfl) (by kernel_rfl) (some 27) rfl (Or.inl ⟨by rfl, ?_⟩) (fun _ _ _ h => h) (by assumption) ?_
  rotate_left
  · intro w hSw; (try dsimp only at hSw); go_simp; (try with_reducible rfl)
  simp only [Act.put, List.setIfInBounds_toArray, List.set_cons_zero, List.set_cons_succ]
  refine takeR (i := 5) (v := ?_) rfl (by kernel_rfl) (by kernel_rfl) (by kernel_rfl) (some 28) rfl (Or.inl ⟨by rfl, ?_⟩) (fun _ _ _ h => h) (by assumption) ?_
  rotate_left
  · intro w hSw; (try dsimp only at hSw); go_simp; (try with_reducible rfl)
  simp only [Act.put, List.setIfInBounds_toArray, List.set_cons_zero, List.set_cons_succ]
  refine wpAnyH_ready (rs := [2, 3]) (by kernel_rfl) (by simp) ?_
  refine AllReadyH.cons rfl (fun K hK => ?_) (AllReadyH.cons rfl (fun K hK => ?_) (AllReadyH.nil))
  · go_simp
    go_at_call 11
    refine (rfof_any _ _ _).mono ?_
    rintro e D1 ⟨rfl, bj⟩
    refine hK.out _ _ (kb0.trans (bj.mono kb0.size)) (fun hHeld => ?_)
    clear hK K
    try simp only [Act.put, List.setIfInBounds_toArray, List.set_cons_zero, List.set_cons_succ]
    have kb1 := kb0.trans (bj.mono kb0.size)
    replace A0 := hide_ (A0.out.later bj)
    clear bj
    refine wpAnyH_ready (rs := [3]) (by kernel_rfl) (by simp) ?_
    refine AllReadyH.cons rfl (fun K hK => ?_) (AllReadyH.nil)
    go_simp
    refine hK.out _ _ (kb1.trans ((below1 D1 (.cells (([] : List Value)).toArray 5)).mono kb1.size)) (fun hHeld => ?_)
    clear hK K
    try simp only [Act.put, List.setIfInBounds_toArray, List.set_cons_zero, List.set_cons_succ]
    have bj := below1 D1 (.cells (([] : List Value)).toArray 5)
    have kb2 := kb1.trans (bj.mono kb1.size)
    have nE0A0 : D1.heap.size ≠ w.heap.size := by have := A0.out.lt; omega
    replace A0 := hide_ (A0.out.later bj)
    have E0 : Hid (AB (D1.alloc (.cells (([] : List Value)).toArray 5)) D1.heap.size 5 (([] : List Value))) := hide_ (by exact AB.at0 D1 5 (([] : List Value)))
    have lE0 : w.heap.size ≤ D1.heap.size := kb1.size
    clear bj
    generalize D1.alloc (.cells (([] : List Value)).toArray 5) = D2 at *
    generalize D1.heap.size = gE0 at *
    refine wpAnyH_ready (rs := [6]) (by kernel_rfl) (by simp) ?_
    refine AllReadyH.cons rfl (fun K hK => ?_) (AllReadyH.nil)
    have hE : D2.ownsRow (w.heap.size + 1) 5 1 (.slice (some ⟨gE0, 0, none⟩) 0 0) 0 [] := ⟨rfl, .inr ⟨_, 0, #[], rfl, by omega, E0.out, Nat.le_refl _, by decide, rfl, rfl⟩⟩
    refine step_append_ownB rfl (.tmp 26) (.tmp 28) 24 rfl (w.heap.size + 1) 5 i0 Try.underlying24 HI.out.1 HI.out.2.1 HI.out.2.2.1 HI.out.2.2.2 (.slice (some ⟨gE0, 0, none⟩) 0 0) 0 [] (by first | rfl | simp [Act.eval, Act.put]) hE _ (l.drop 4) (by first | rfl | simp [Act.eval, Act.put]) (h4.out.later (kb2)) (by have := H6.out; simp; omega) (by have := A0.out.lt; omega) ?_
    intro v3 D3 own3 hg3
    have bj := below_grown hg3 (w.heap.size + 1) (by have := A0.out.lt; omega) (fun k e => by cases e; show w.heap.size + 1 ≤ gE0; omega)
    have A9 := hide_ (A0.out.below bj (Nat.lt_succ_self _))
    refine hK.out _ _ (kb2.trans (bj.mono (Nat.le_succ _))) (fun hHeld => ?_)
    clear hK K
    try simp only [Act.put, List.setIfInBounds_toArray, List.set_cons_zero, List.set_cons_succ]
    have kb3 := kb2.trans (bj.mono (Nat.le_succ _))
    simp only [List.getElem_toArray, List.getElem_cons_succ, List.getElem_cons_zero, List.set_cons_succ, List.set_cons_zero]
    replace A0 := A9
    have own3 : D3.ownsRow (w.heap.size + 1) 5 1 v3 (l.drop 4).length (u8s (l.drop 4)) := by have := own3; rw [Nat.zero_add] at this; exact this
    obtain ⟨ac, cc, e3⟩ := (Bytes.ofOwn own3 hi4.out.1).short
    rw [hi4.out.2] at e3
    subst e3
    have hc := hide_ own3
    clear E0 hE bj
    refine wpAnyH_ready (rs := [7]) (by kernel_rfl) (by simp) ?_
    refine AllReadyH.cons rfl (fun K hK => ?_) (AllReadyH.nil)
    refine wp_store_row 23 (.tmp 2) (.tmp 25) rfl w.heap.size (([Value.bool true, Value.int .i64 (be2 l 0), Value.int .i64 (be2 l 2)] : List Value)).toArray rfl rfl 23 (([Value.bool false, Value.int .i64 0, Value.int .i64 0] : List Value)).toArray A0.out (by simpa using szF) (by rfl) (all_oneCell_toArray (by intro v hv; simp at hv; rcases hv with rfl | rfl | rfl <;> rfl)) ?_
    refine hK.out _ _ (kb3.trans (below_row D3 w.heap.size w.heap.size (([Value.bool true, Value.int .i64 (be2 l 0), Value.int .i64 (be2 l 2)] : List Value)).toArray lA0)) (fun hHeld => ?_)
    clear hK K
    try simp only [Act.put, List.setIfInBounds_toArray, List.set_cons_zero, List.set_cons_succ]
    have kb4 := kb3.trans (below_row D3 w.heap.size w.heap.size (([Value.bool true, Value.int .i64 (be2 l 0), Value.int .i64 (be2 l 2)] : List Value)).toArray lA0)
    have hc2 := own_setRow hc.out (([Value.bool true, Value.int .i64 (be2 l 0), Value.int .i64 (be2 l 2)] : List Value)).toArray (Nat.lt_succ_self _)
    replace A0 := hide_ (A0.out.row (cs' := ([Value.bool true, Value.int .i64 (be2 l 0), Value.int .i64 (be2 l 2)] : List Value)))
    generalize D3.setRow w.heap.size (([Value.bool true, Value.int .i64 (be2 l 0), Value.int .i64 (be2 l 2)] : List Value)).toArray = D4 at *
    refine takeR (i := 8) (v := ?_) rfl (by kernel_rfl) (by kernel_rfl) (by kernel_rfl) (some 3) rfl (Or.inl ⟨by rfl, ?_⟩) (fun _ _ _ h => h) (by assumption) ?_
    rotate_left
    · intro w hSw; (try dsimp only at hSw); go_simp; (try with_reducible rfl)
    simp only [Act.put, List.setIfInBounds_toArray, List.set_cons_zero, List.set_cons_succ]
    refine takeR (i := 9) (v := ?_) rfl (by kernel_rfl) (by kernel_rfl) (by kernel_rfl) (some 4) rfl (Or.inl ⟨by rfl, ?_⟩) (fun _ _ _ h => h) (by assumption) ?_
    rotate_left
    · intro w hSw; (try dsimp only at hSw); go_simp; (try with_reducible rfl)
    simp only [Act.put, List.setIfInBounds_toArray, List.set_cons_zero, List.set_cons_succ]
    refine wpAnyH_done (by kernel_rfl) ?_ _
    obtain ⟨u0, u1, u2, -⟩ := A0.out.three
    go_wp2_with fail
    exact bodyPost_ret (v := .tuple #[.agg #[.bool true, .int .i64 (be2 l 0), .int .i64 (be2 l 2)], .slice ac (l.length - 4) cc, .bool true]) (by simp [results, Try.results15, go_sem, u0, u1, u2]) rfl ⟨_, _, rfl, Bytes.ofOwn (l := l.drop 4) (by first | exact hc2 | (rw [hi4.out.2]; exact hc2)) hi4.out.1, kb4⟩
  · go_simp
    refine hK.out _ _ (kb0.trans ((below1 D0 (.cells (([] : List Value)).toArray 5)).mono kb0.size)) (fun hHeld => ?_)
    clear hK K
    try simp only [Act.put, List.setIfInBounds_toArray, List.set_cons_zero, List.set_cons_succ]
    have bj := below1 D0 (.cells (([] : List Value)).toArray 5)
    have kb1 := kb0.trans (bj.mono kb0.size)
    have nE0A0 : D0.heap.size ≠ w.heap.size := by have := A0.out.lt; omega
    replace A0 := hide_ (A0.out.later bj)
    have E0 : Hid (AB (D0.alloc (.cells (([] : List Value)).toArray 5)) D0.heap.size 5 (([] : List Value))) := hide_ (by exact AB.at0 D0 5 (([] : List Value)))
    have lE0 : w.heap.size ≤ D0.heap.size := kb0.size
    clear bj
    generalize D0.alloc (.cells (([] : List Value)).toArray 5) = D1 at *
    generalize D0.heap.size = gE0 at *
    refine wpAnyH_ready (rs := [2]) (by kernel_rfl) (by simp) ?_
    refine AllReadyH.cons rfl (fun K hK => ?_) (AllReadyH.nil)
    go_simp
    go_at_call 11
    refine (rfof_any _ _ _).mono ?_
    rintro e D2 ⟨rfl, bj⟩
    refine hK.out _ _ (kb1.trans (bj.mono kb1.size)) (fun hHeld => ?_)
    clear hK K
    try simp only [Act.put, List.setIfInBounds_toArray, List.set_cons_zero, List.set_cons_succ]
    have kb2 := kb1.trans (bj.mono kb1.size)
    replace A0 := hide_ (A0.out.later bj)
    replace E0 := hide_ (E0.out.later bj)
    clear bj
    refine wpAnyH_ready (rs := [6]) (by kernel_rfl) (by simp) ?_
    refine AllReadyH.cons rfl (fun K hK => ?_) (AllReadyH.nil)
    have hE : D2.ownsRow (w.heap.size + 1) 5 1 (.slice (some ⟨gE0, 0, none⟩) 0 0) 0 [] := ⟨rfl, .inr ⟨_, 0, #[], rfl, by omega, E0.out, Nat.le_refl _, by decide, rfl, rfl⟩⟩
    refine step_append_ownB rfl (.tmp 26) (.tmp 28) 24 rfl (w.heap.size + 1) 5 i0 Try.underlying24 HI.out.1 HI.out.2.1 HI.out.2.2.1 HI.out.2.2.2 (.slice (some ⟨gE0, 0, none⟩) 0 0) 0 [] (by first | rfl | simp [Act.eval, Act.put]) hE _ (l.drop 4) (by first | rfl | simp [Act.eval, Act.put]) (h4.out.later (kb2)) (by have := H6.out; simp; omega) (by have := A0.out.lt; omega) ?_
    intro v3 D3 own3 hg3
    have bj := below_grown hg3 (w.heap.size + 1) (by have := A0.out.lt; omega) (fun k e => by cases e; show w.heap.size + 1 ≤ gE0; omega)
    have A9 := hide_ (A0.out.below bj (Nat.lt_succ_self _))
    refine hK.out _ _ (kb2.trans (bj.mono (Nat.le_succ _))) (fun hHeld => ?_)
    clear hK K
    try simp only [Act.put, List.setIfInBounds_toArray, List.set_cons_zero, List.set_cons_succ]
    have kb3 := kb2.trans (bj.mono (Nat.le_succ _))
    simp only [List.getElem_toArray, List.getElem_cons_succ, List.getElem_cons_zero, List.set_cons_succ, List.set_cons_zero]
    replace A0 := A9
    have own3 : D3.ownsRow (w.heap.size + 1) 5 1 v3 (l.drop 4).length (u8s (l.drop 4)) := by have := own3; rw [Nat.zero_add] at this; exact this
    obtain ⟨ac, cc, e3⟩ := (Bytes.ofOwn own3 hi4.out.1).short
    rw [hi4.out.2] at e3
    subst e3
    have hc := hide_ own3
    clear E0 hE bj
    refine wpAnyH_ready (rs := [7]) (by kernel_rfl) (by simp) ?_
    refine AllReadyH.cons rfl (fun K hK => ?_) (AllReadyH.nil)
    refine wp_store_row 23 (.tmp 2) (.tmp 25) rfl w.heap.size (([Value.bool true, Value.int .i64 (be2 l 0), Value.int .i64 (be2 l 2)] : List Value)).toArray rfl rfl 23 (([Value.bool false, Value.int .i64 0, Value.int .i64 0] : List Value)).toArray A0.out (by simpa using szF) (by rfl) (all_oneCell_toArray (by intro v hv; simp at hv; rcases hv with rfl | rfl | rfl <;> rfl)) ?_
    refine hK.out _ _ (kb3.trans (below_row D3 w.heap.size w.heap.size (([Value.bool true, Value.int .i64 (be2 l 0), Value.int .i64 (be2 l 2)] : List Value)).toArray lA0)) (fun hHeld => ?_)
    clear hK K
    try simp only [Act.put, List.setIfInBounds_toArray, List.set_cons_zero, List.set_cons_succ]
    have kb4 := kb3.trans (below_row D3 w.heap.size w.heap.size (([Value.bool true, Value.int .i64 (be2 l 0), Value.int .i64 (be2 l 2)] : List Value)).toArray lA0)
    have hc2 := own_setRow hc.out (([Value.bool true, Value.int .i64 (be2 l 0), Value.int .i64 (be2 l 2)] : List Value)).toArray (Nat.lt_succ_self _)
    replace A0 := hide_ (A0.out.row (cs' := ([Value.bool true, Value.int .i64 (be2 l 0), Value.int .i64 (be2 l 2)] : List Value)))
    generalize D3.setRow w.heap.size (([Value.bool true, Value.int .i64 (be2 l 0), Value.int .i64 (be2 l 2)] : List Value)).toArray = D4 at *
    refine takeR (i := 8) (v := ?_) rfl (by kernel_rfl) (by kernel_rfl) (by kernel_rfl) (some 3) rfl (Or.inl ⟨by rfl, ?_⟩) (fun _ _ _ h => h) (by assumption) ?_
    rotate_left
    · intro w hSw; (try dsimp only at hSw); go_simp; (try with_reducible rfl)
    simp only [Act.put, List.setIfInBounds_toArray, List.set_cons_zero, List.set_cons_succ]
    refine takeR (i := 9) (v := ?_) rfl (by kernel_rfl) (by kernel_rfl) (by kernel_rfl) (some 4) rfl (Or.inl ⟨by rfl, ?_⟩) (fun _ _ _ h => h) (by assumption) ?_
    rotate_left
    · intro w hSw; (try dsimp only at hSw); go_simp; (try with_reducible rfl)
    simp only [Act.put, List.setIfInBounds_toArray, List.set_cons_zero, List.set_cons_succ]
    refine wpAnyH_done (by kernel_rfl) ?_ _
    obtain ⟨u0, u1, u2, -⟩ := A0.out.three
    go_wp2_with fail
    exact bodyPost_ret (v := .tuple #[.agg #[.bool true, .int .i64 (be2 l 0), .int .i64 (be2 l 2)], .slice ac (l.length - 4) cc, .bool true]) (by simp [results, Try.results15, go_sem, u0, u1, u2]) rfl ⟨_, _, rfl, Bytes.ofOwn (l := l.drop 4) (by first | exact hc2 | (rw [hi4.out.2]; exact hc2)) hi4.out.1, kb4⟩

end Go.Proofs.Ytfeioclnhnipmaa
