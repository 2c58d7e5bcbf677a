import Derived.Test.YtfeioclnhnipmaaPa
import Derived.Deep.RegionHeld3
import Derived.Deep.RegionWith
import Derived.Deep.MidRow
import Derived.Deep.Cut
namespace Go.Proofs.Ytfeioclnhnipmaa
open Go Go.RowKit
set_option linter.unusedVariables false
set_option linter.unusedSimpArgs false
attribute [local go_sem] Oper.semAt_some

theorem own_setRow {w : World} {base n size g : Nat} {e : TypeId} {v : Value} {xs : List Value} (h : w.ownsRow base e size v n xs) (cs : Array Value) (hg : g < base) : (w.setRow g cs).ownsRow base e size v n xs := by
  refine ⟨h.1, ?_⟩
  rcases h.2 with h | ⟨g', cap, cur, h1, h2, h3, r⟩
  · exact .inl h
  · exact .inr ⟨g', cap, cur, h1, h2, by rw [setRow_other w g g' cs (by omega)]; exact h3, r⟩
theorem takeR {P : Program} {ops : Array Oper} {Q : Exit → Act → World → Prop} {S : World → Prop} {md : Region.Mode} {fuel : Nat} {listed : Array Bool} {a : Act} {w : World} {i : Nat} {oi : Oper} {v : Value} (hi : ops[i]? = some oi)
    (hs : Region.noSelect ops = true) (hf : Region.free md ops listed i = true) (hr : (Region.ready md ops listed).contains i = true)
    (d : Option Tmp) (hd : oi.dst = d) (hy : YieldsIf P ops S oi v a) (hQ : ∀ c a w, Q (.panic c) (a.put d v) w → Q (.panic c) a w) (h0 : S w)
    (h : wpAnyH P md ops Q S fuel (listed.setIfInBounds i true) (a.put d v) w) : wpAnyH P md ops Q S (fuel + 1) listed a w := by
  subst hd
  exact wpAnyH_take hi hs hf hr hQ hy h0 h
theorem AB.set3 {w : World} {g : Nat} {ty : TypeId} {a b c : Value} (h : AB w g ty [a, b, c]) (x y z : Value) : AB (((w.setCell ⟨g, 0, none⟩ x).setCell ⟨g, 1, none⟩ y).setCell ⟨g, 2, none⟩ z) g ty [x, y, z] := ((h.set (j := 0) x).set (j := 1) y).set (j := 2) z
theorem below_set3 {w0 w : World} {g n : Nat} (h : Below n w0 w) (hg : n ≤ g) (x y z : Value) : Below n w0 (((w.setCell ⟨g, 0, none⟩ x).setCell ⟨g, 1, none⟩ y).setCell ⟨g, 2, none⟩ z) := ((h.setCell hg x).setCell hg y).setCell hg z
theorem szF : (Try.prog.info? 23).map (·.size) = some 3 := by kernel_rfl
theorem bytes_drop4 {w : World} {ao : Option Addr} {n cap : Nat} {l : List Int} (h : Bytes w (.slice ao n cap) l) (s : Nat) (hs : s ≤ l.length) (h0 : 0 < l.length) :
    ∃ ao', (∀ wx, (Instr.slice 24 (.slice ao n cap) (some (.int .i64 (s : Int))) none none).run Try.prog wx = .ok (.slice ao' (n - s) (cap - s)) wx) ∧ Bytes w (.slice ao' (n - s) (cap - s)) (l.drop s) := by
  obtain ⟨hn, -, -, -⟩ := h.at
  cases ao with
  | none =>
    obtain ⟨-, -, -, hz⟩ := h.bounds
    have := hz rfl
    omega
  | some a =>
    obtain ⟨g, off, x⟩ := a
    have hx : x = none := by
      obtain ⟨-, -, -, hc⟩ := h.at
      obtain ⟨b, off', e, -⟩ := hc 0 _ (List.getElem?_eq_getElem h0)
      cases e; rfl
    subst hx
    obtain ⟨off', r, hb⟩ := bytes_dropx h s hs
    exact ⟨some ⟨g, off', none⟩, r, hb⟩
set_option maxRecDepth 100000 in
set_option maxHeartbeats 8000000 in
theorem fparse_short (v : Value) (l : List Int) (w : World) (hB : Bytes w v l) (hl : l.length < 4) :
    Calls Try.prog 14 #[v] w fun e w' => e = .returned (.tuple #[.agg #[.bool false, .int .i64 0, .int .i64 0], .slice none 0 0, .bool false]) ∧ Below w.heap.size w w' := by
  obtain ⟨ao, cap, rfl⟩ := hB.short
  have B0 := hide_ (below1 w (.cells #[.bool false, .int .i64 0, .int .i64 0] 23))
  have A0 := hide_ (AB.at0 w 23 [.bool false, .int .i64 0, .int .i64 0])
  have h4 : (l.length : Int) < 4 := by omega
  clear hB hl
  go_enter Try.func14, Try.ntmps14
  go_wp2
  exact bodyPost_ret (v := .tuple #[.agg #[.bool false, .int .i64 0, .int .i64 0], .slice none 0 0, .bool false]) (by simp [results, Try.results14, go_sem]) rfl ⟨rfl, B0.out⟩

set_option maxRecDepth 100000 in
set_option maxHeartbeats 8000000 in
theorem fparse_ok (v : Value) (l : List Int) (w : World) (hB : Bytes w v l) (hl : 4 ≤ l.length) (h5 : l.length ≤ 100000000) :
    Calls Try.prog 14 #[v] w fun e w' => ∃ a c, e = .returned (.tuple #[.agg #[.bool true, .int .i64 (be2 l 0), .int .i64 (be2 l 2)], .slice a (l.length - 4) c, .bool true]) ∧ Bytes w' (.slice a (l.length - 4) c) (l.drop 4) ∧ Below w.heap.size w w' := by
  obtain ⟨ao, cap, rfl⟩ := hB.short
  obtain ⟨a4, sl, h4⟩ := bytes_drop4 hB 4 hl (by omega)
  have sl : ∀ wx, (Instr.slice 24 (.slice ao l.length cap) (some (.int .i64 4)) none none).run Try.prog wx = .ok (.slice a4 (l.length - 4) (cap - 4)) wx := sl
  have B0 := hide_ (below1 w (.cells #[.bool false, .int .i64 0, .int .i64 0] 23))
  have A0 := hide_ (AB.at0 w 23 [.bool false, .int .i64 0, .int .i64 0])
  have q1 : Hid (∀ W, Below w.heap.size w W → Calls Try.prog 18 #[.slice ao l.length cap, .int .i64 0, .int .i64 2] W fun e w' => ∃ er, e = .returned (.tuple #[.int .i64 (be2 l 0), .int .i64 er]) ∧ Below W.heap.size W w') := hide_ (fun W (hW : Below w.heap.size w W) => nget2 (.slice ao l.length cap) l 0 W (hB.later hW) (by omega))
  have q2 : Hid (∀ W, Below w.heap.size w W → Calls Try.prog 18 #[.slice ao l.length cap, .int .i64 2, .int .i64 2] W fun e w' => ∃ er, e = .returned (.tuple #[.int .i64 (be2 l 2), .int .i64 er]) ∧ Below W.heap.size W w') := hide_ (fun W (hW : Below w.heap.size w W) => nget2 (.slice ao l.length cap) l 2 W (hB.later hW) (by omega))
  have hd : (l.drop 4).length = l.length - 4 := by simp
  have qc : Hid (∀ W, Below w.heap.size w W → Calls Try.prog 26 #[.slice a4 (l.length - 4) (cap - 4)] W fun e w' => ∃ a c, e = .returned (.slice a (l.length - 4) c) ∧ w'.ownsRow W.heap.size 5 1 (.slice a (l.length - 4) c) (l.length - 4) (u8s (l.drop 4)) ∧ Below W.heap.size W w') := hide_ (fun W hW => (bclone_any (.slice a4 (l.length - 4) (cap - 4)) (l.drop 4) W (h4.later hW) (by omega)).mono (by
    rintro e w' ⟨r, rfl, o, b⟩
    have := Bytes.ofOwn o h4.isB_
    obtain ⟨a, c, e⟩ := this.short
    rw [hd] at e
    subst e
    rw [hd] at o
    exact ⟨a, c, rfl, o, b⟩))
  have hi4 := hide_ (And.intro h4.isB_ hd)
  have h6 : ¬ (l.length : Int) < 4 := by omega
  clear hB hl h4 h5 hd
  go_enter Try.func14, Try.ntmps14
  go_upto_region 5 with (go_at_call 18; first | (refine (q2.out _ k1.out).mono ?_; rintro e w2 ⟨e2, rfl, b2⟩; have k2 := hide_ (k1.out.trans (b2.mono k1.out.size)); have A2 := hide_ (A1.out.later b2); clear b2) | (refine (q1.out _ B0.out).mono ?_; rintro e w1 ⟨e1, rfl, b1⟩; have k1 := hide_ (B0.out.trans (b1.mono B0.out.size)); have A1 := hide_ (A0.out.later b1); clear b1))
  have bA : w.heap.size ≤ w.heap.size := Nat.le_refl _
  have lA0 : w.heap.size ≤ w.heap.size := Nat.le_refl _
  have A0 := hide_ (show AB w2.drew w.heap.size 23 [.bool false, .int .i64 0, .int .i64 0] from A2.out)
  refine wp_region_held_drew (S := (fun w' => Below w.heap.size w w')) (by kernel_rfl) ((k2.out).drew) (fun hHeld => ?_)
  have kb0 : Below w.heap.size w w2.drew := (k2.out).drew
  generalize w2.drew = D0 at *
  refine takeR (i := 0) (v := ?_) rfl (by kernel_rfl) (by kernel_rfl) (by kernel_rfl) (some 23) rfl (Or.inl ⟨by rfl, ?_⟩) (fun _ _ _ h => h) (by assumption) ?_
  rotate_left
  · intro w hSw; (try dsimp only at hSw); go_simp; (try with_reducible rfl)
  simp only [Act.put, List.setIfInBounds_toArray, List.set_cons_zero, List.set_cons_succ]
  refine takeR (i := 1) (v := ?_) rfl (by kernel_rfl) (by kernel_rfl) (by kernel_rfl) (some 24) rfl (Or.inl ⟨by rfl, ?_⟩) (fun _ _ _ h => h) (by assumption) ?_
  rotate_left
  · intro w hSw; (try dsimp only at hSw); go_simp; (try with_reducible rfl)
  simp only [Act.put, List.setIfInBounds_toArray, List.set_cons_zero, List.set_cons_succ]
  refine takeR (i := 3) (v := ?_) rfl (by kernel_rfl) (by kernel_rfl) (by kernel_rfl) (some 26) rfl (Or.inl ⟨by rfl, ?_⟩) (fun _ _ _ h => h) (by assumption) ?_
  rotate_left
  · intro w hSw; (try dsimp only at hSw); go_simp; (try with_reducible rfl)
  simp only [Act.put, List.setIfInBounds_toArray, List.set_cons_zero, List.set_cons_succ]
  refine takeR (i := 4) (v := ?_) rfl (by kernel_rfl) (by kernel_rfl) (by kernel_rfl) (some 27) rfl (Or.inl ⟨by rfl, ?_⟩) (fun _ _ _ h => h) (by assumption) ?_
  rotate_left
  · intro w hSw; (try dsimp only at hSw); go_simp; (try with_reducible rfl)
  simp only [Act.put, List.setIfInBounds_toArray, List.set_cons_zero, List.set_cons_succ]
  refine wpAnyH_ready (rs := [2]) (by kernel_rfl) (by simp) ?_
  refine AllReadyH.cons rfl (fun K hK => ?_) (AllReadyH.nil)
  go_simp
  go_at_call 10
  refine (fof_any _ _ _).mono ?_
  rintro e D1 ⟨rfl, bj⟩
  refine hK.out _ _ (kb0.trans (bj.mono kb0.size)) (fun hHeld => ?_)
  clear hK K
  try simp only [Act.put, List.setIfInBounds_toArray, List.set_cons_zero, List.set_cons_succ]
  have kb1 := kb0.trans (bj.mono kb0.size)
  replace A0 := hide_ (A0.out.later bj)
  clear bj
  refine wpAnyH_ready (rs := [5]) (by kernel_rfl) (by simp) ?_
  refine AllReadyH.cons rfl (fun K hK => ?_) (AllReadyH.nil)
  go_simp
  go_at_call 26
  refine (qc.out _ kb1).mono ?_
  rintro e D2 ⟨ac, cc, rfl, hc, bj⟩
  have hc := hide_ (ownsRow_base hc (Nat.succ_le_of_lt A0.out.lt))
  refine hK.out _ _ (kb1.trans (bj.mono kb1.size)) (fun hHeld => ?_)
  clear hK K
  try simp only [Act.put, List.setIfInBounds_toArray, List.set_cons_zero, List.set_cons_succ]
  have kb2 := kb1.trans (bj.mono kb1.size)
  replace A0 := hide_ (A0.out.later bj)
  clear bj
  refine wpAnyH_ready (rs := [6]) (by kernel_rfl) (by simp) ?_
  refine AllReadyH.cons rfl (fun K hK => ?_) (AllReadyH.nil)
  refine wp_store_row 23 (.tmp 2) (.tmp 25) rfl w.heap.size (([Value.bool true, Value.int .i64 (be2 l 0), Value.int .i64 (be2 l 2)] : List Value)).toArray rfl rfl 23 (([Value.bool false, Value.int .i64 0, Value.int .i64 0] : List Value)).toArray A0.out (by simpa using szF) (by rfl) (all_oneCell_toArray (by intro v hv; simp at hv; rcases hv with rfl | rfl | rfl <;> rfl)) ?_
  refine hK.out _ _ (kb2.trans (below_row D2 w.heap.size w.heap.size (([Value.bool true, Value.int .i64 (be2 l 0), Value.int .i64 (be2 l 2)] : List Value)).toArray lA0)) (fun hHeld => ?_)
  clear hK K
  try simp only [Act.put, List.setIfInBounds_toArray, List.set_cons_zero, List.set_cons_succ]
  have kb3 := kb2.trans (below_row D2 w.heap.size w.heap.size (([Value.bool true, Value.int .i64 (be2 l 0), Value.int .i64 (be2 l 2)] : List Value)).toArray lA0)
  have hc2 := own_setRow hc.out (([Value.bool true, Value.int .i64 (be2 l 0), Value.int .i64 (be2 l 2)] : List Value)).toArray (Nat.lt_succ_self _)
  replace A0 := hide_ (A0.out.row (cs' := ([Value.bool true, Value.int .i64 (be2 l 0), Value.int .i64 (be2 l 2)] : List Value)))
  generalize D2.setRow w.heap.size (([Value.bool true, Value.int .i64 (be2 l 0), Value.int .i64 (be2 l 2)] : List Value)).toArray = D3 at *
  refine takeR (i := 7) (v := ?_) rfl (by kernel_rfl) (by kernel_rfl) (by kernel_rfl) (some 3) rfl (Or.inl ⟨by rfl, ?_⟩) (fun _ _ _ h => h) (by assumption) ?_
  rotate_left
  · intro w hSw; (try dsimp only at hSw); go_simp; (try with_reducible rfl)
  simp only [Act.put, List.setIfInBounds_toArray, List.set_cons_zero, List.set_cons_succ]
  refine takeR (i := 8) (v := ?_) rfl (by kernel_rfl) (by kernel_rfl) (by kernel_rfl) (some 4) rfl (Or.inl ⟨by rfl, ?_⟩) (fun _ _ _ h => h) (by assumption) ?_
  rotate_left
  · intro w hSw; (try dsimp only at hSw); go_simp; (try with_reducible rfl)
  simp only [Act.put, List.setIfInBounds_toArray, List.set_cons_zero, List.set_cons_succ]
  refine wpAnyH_done (by kernel_rfl) ?_ _
  obtain ⟨u0, u1, u2, -⟩ := A0.out.three
  go_wp2_with fail
  exact bodyPost_ret (v := .tuple #[.agg #[.bool true, .int .i64 (be2 l 0), .int .i64 (be2 l 2)], .slice ac (l.length - 4) cc, .bool true]) (by simp [results, Try.results14, go_sem, u0, u1, u2]) rfl ⟨_, _, rfl, Bytes.ofOwn (l := l.drop 4) (by first | exact hc2 | (rw [hi4.out.2]; exact hc2)) hi4.out.1, kb3⟩

set_option maxRecDepth 100000 in
set_option maxHeartbeats 8000000 in
theorem rfparse_short (v : Value) (l : List Int) (w : World) (hB : Bytes w v l) (hl : l.length < 4) :
    Calls Try.prog 15 #[v] w fun e w' => e = .returned (.tuple #[.agg #[.bool false, .int .i64 0, .int .i64 0], .slice none 0 0, .bool false]) ∧ Below w.heap.size w w' := by
  obtain ⟨ao, cap, rfl⟩ := hB.short
  have B0 := hide_ (below1 w (.cells #[.bool false, .int .i64 0, .int .i64 0] 23))
  have A0 := hide_ (AB.at0 w 23 [.bool false, .int .i64 0, .int .i64 0])
  have h4 : (l.length : Int) < 4 := by omega
  clear hB hl
  go_enter Try.func15, Try.ntmps15
  go_wp2
  exact bodyPost_ret (v := .tuple #[.agg #[.bool false, .int .i64 0, .int .i64 0], .slice none 0 0, .bool false]) (by simp [results, Try.results15, go_sem]) rfl ⟨rfl, B0.out⟩

end Go.Proofs.Ytfeioclnhnipmaa
