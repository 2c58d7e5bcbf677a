import Derived.Test.YtmpfpolanndakabHk
import Derived.Test.YtmpfpolanndakabHr
namespace Go.Proofs.Ytmpfpolanndakab
open Go Go.RowKit
set_option linter.unusedVariables false
set_option linter.unusedSimpArgs false

/-- the first header with the second's fields at the first i places that are otherwise -/
def updK (l m : List (Nat × Nat)) (i : Nat) : List (Nat × Nat) := (List.range 24).map fun j => if j ∈ (diffK l m 24).take i then m.getD j (0, 0) else l.getD j (0, 0)
theorem upd_len (l m : List (Nat × Nat)) (i : Nat) : (updK l m i).length = 24 := by simp [updK]
theorem getD_lt {l : List (Nat × Nat)} (h : isH l) (j : Nat) : (l.getD j (0, 0)).1 < 18446744073709551616 ∧ (l.getD j (0, 0)).2 < 18446744073709551616 := by
  rw [List.getD_eq_getElem?_getD]
  cases hj : l[j]? with
  | none => exact ⟨by decide, by decide⟩
  | some p => exact h.at hj
theorem upd_isH {l m : List (Nat × Nat)} (hl : isH l) (hm : isH m) (i : Nat) : isH (updK l m i) := by
  refine ⟨upd_len l m i, fun p hp => ?_⟩
  obtain ⟨j, _, rfl⟩ := List.mem_map.1 hp
  split
  · exact getD_lt hm j
  · exact getD_lt hl j
theorem getD_some {l : List (Nat × Nat)} {j : Nat} (h : j < l.length) : l[j]? = some (l.getD j (0, 0)) := by
  rw [List.getD_eq_getElem?_getD, List.getElem?_eq_getElem h]; rfl
theorem upd_get (l m : List (Nat × Nat)) (i j : Nat) (hj : j < 24) : (updK l m i)[j]? = some (if j ∈ (diffK l m 24).take i then m.getD j (0, 0) else l.getD j (0, 0)) := by
  simp [updK, hj]
theorem upd_zero (l m : List (Nat × Nat)) (hl : l.length = 24) : updK l m 0 = l := by
  apply List.ext_getElem?
  intro j
  by_cases hj : j < 24
  · rw [upd_get l m 0 j hj, getD_some (by omega)]; simp
  · rw [List.getElem?_eq_none (by rw [upd_len]; omega), List.getElem?_eq_none (by omega)]
theorem diff_nodup (l m : List (Nat × Nat)) : (diffK l m 24).Nodup := List.nodup_range.filter _
theorem diffK_le (l m : List (Nat × Nat)) (k : Nat) : (diffK l m k).length ≤ k := by
  have := List.length_filter_le (fun j => decide (¬ l[j]? = m[j]?)) (List.range k)
  simpa [diffK] using this
theorem diff_mem {l m : List (Nat × Nat)} {f : Nat} (h : f ∈ diffK l m 24) : f < 24 ∧ ¬ l[f]? = m[f]? := by
  simpa [diffK] using h
theorem diff_not {l m : List (Nat × Nat)} {f : Nat} (hf : f < 24) (h : ¬ f ∈ diffK l m 24) : l[f]? = m[f]? := by
  by_cases e : l[f]? = m[f]?
  · exact e
  · exact absurd (by simp [diffK, hf, e]) h
theorem not_before {l m : List (Nat × Nat)} {i f : Nat} (h : (diffK l m 24)[i]? = some f) : ¬ f ∈ (diffK l m 24).take i := by
  intro hm
  obtain ⟨j, hj⟩ := List.getElem?_of_mem hm
  rw [List.getElem?_take] at hj
  split at hj
  · rename_i hlt
    have h1 := (List.getElem?_eq_some_iff.1 h)
    have h2 := (List.getElem?_eq_some_iff.1 hj)
    obtain ⟨a1, e1⟩ := h1
    obtain ⟨a2, e2⟩ := h2
    exact List.pairwise_iff_getElem.1 (diff_nodup l m) j i a2 a1 hlt (by rw [e1, e2])
  · cases hj
theorem upd_at {l m : List (Nat × Nat)} (hl : l.length = 24) {i f : Nat} (h : (diffK l m 24)[i]? = some f) : (updK l m i)[f]? = l[f]? := by
  have hf := (diff_mem (List.mem_of_getElem? h)).1
  rw [upd_get l m i f hf, if_neg (not_before h), ← getD_some (by omega)]
theorem upd_step {l m : List (Nat × Nat)} (hm : m.length = 24) {i f : Nat} {q : Nat × Nat} (h : (diffK l m 24)[i]? = some f) (hq : m[f]? = some q) : (updK l m i).set f q = updK l m (i + 1) := by
  have hf := (diff_mem (List.mem_of_getElem? h)).1
  have eq : m.getD f (0, 0) = q := by rw [List.getD_eq_getElem?_getD, hq]; rfl
  apply List.ext_getElem?
  intro j
  rw [List.getElem?_set]
  by_cases e : f = j
  · subst e
    have : f ∈ (diffK l m 24).take (i + 1) := by rw [List.take_add_one, h]; simp
    rw [if_pos rfl, if_pos (by rw [upd_len]; exact hf), upd_get l m (i + 1) f hf, if_pos this, eq]
  · rw [if_neg e]
    by_cases hj : j < 24
    · rw [upd_get l m i j hj, upd_get l m (i + 1) j hj]
      have : j ∈ (diffK l m 24).take (i + 1) ↔ j ∈ (diffK l m 24).take i := by
        rw [List.take_add_one, h]
        simp
        intro e2; exact absurd e2.symm e
      simp only [this]
    · rw [List.getElem?_eq_none (by rw [upd_len]; omega), List.getElem?_eq_none (by rw [upd_len]; omega)]
theorem upd_all {l m : List (Nat × Nat)} (hl : l.length = 24) (hm : m.length = 24) : updK l m (diffK l m 24).length = m := by
  apply List.ext_getElem?
  intro j
  by_cases hj : j < 24
  · rw [upd_get l m _ j hj, List.take_length]
    split
    · rw [← getD_some (by omega)]
    · rename_i h
      rw [← getD_some (by omega)]
      exact diff_not hj h
  · rw [List.getElem?_eq_none (by rw [upd_len]; omega), List.getElem?_eq_none (by omega)]
theorem own_later {w w' : World} {base n size : Nat} {e : TypeId} {v : Value} {xs : List Value} (h : w.ownsRow base e size v n xs) (hb : Below w.heap.size w w') : w'.ownsRow base e size v n xs := by
  refine ⟨h.1, ?_⟩
  rcases h.2 with h | ⟨g, cap, cur, h1, h2, h3, r⟩
  · exact .inl h
  · exact .inr ⟨g, cap, cur, h1, h2, by rw [hb.block g (Array.getElem?_eq_some_iff.1 h3).1]; exact h3, r⟩
theorem own_setRow {w : World} {base n size g : Nat} {e : TypeId} {v : Value} {xs : List Value} (h : w.ownsRow base e size v n xs) (cs : Array Value) (hg : g < base) : (w.setRow g cs).ownsRow base e size v n xs := by
  refine ⟨h.1, ?_⟩
  rcases h.2 with h | ⟨g', cap, cur, h1, h2, h3, r⟩
  · exact .inl h
  · exact .inr ⟨g', cap, cur, h1, h2, by rw [setRow_other w g g' cs (by omega)]; exact h3, r⟩
theorem HB.setRow_other {w : World} {g f : Nat} {l : List (Nat × Nat)} (h : HB w g l) (cs : Array Value) (hne : g ≠ f) : HB (w.setRow f cs) g l := by
  unfold HB at *
  rw [Go.setRow_other w f g cs hne]; exact h
theorem HB.setRow {w : World} {g : Nat} {l l' : List (Nat × Nat)} (h : HB w g l) : HB (w.setRow g (wdc l').toArray) g l' := setRow_heap w g _ _ 26 _ h
theorem keepU {W w' : World} {g g' : Nat} {cs ds : List Value} (h1 : W.rangeAt g 0 cs) (h2 : W.rangeAt g' 0 ds) (hb : Below W.heap.size W w') :
    w'.rangeAt g 0 cs ∧ w'.rangeAt g' 0 ds ∧ Below W.heap.size W w' := ⟨range_later h1 hb, range_later h2 hb, hb⟩

/-- an operation that yields in whatever world may be taken first -/
theorem takeA {P : Program} {ops : Array Oper} {Q : Exit → Act → World → Prop} {md : Region.Mode} {fuel : Nat} {listed : Array Bool} {a : Act} {w : World} {i : Nat} {oi : Oper} {v : Value} (hi : ops[i]? = some oi)
    (hs : Region.noSelect ops = true) (hf : Region.free md ops listed i = true) (hr : (Region.ready md ops listed).contains i = true)
    (d : Option Tmp) (hd : oi.dst = d) (hy : Yields P ops oi v a) (hQ : ∀ c a w, Q (.panic c) (a.put d v) w → Q (.panic c) a w)
    (h : wpAny P md ops Q fuel (listed.setIfInBounds i true) (a.put d v) w) : wpAny P md ops Q (fuel + 1) listed a w := by
  subst hd
  exact wpAny_take hi hs hf hr hQ hy h

set_option maxRecDepth 100000 in
set_option maxHeartbeats 8000000 in
theorem headerDiff_any (l m : List (Nat × Nat)) (hl : isH l) (hm : isH m) (w : World) :
    Calls Try.prog 3 #[hv l, hv m] w fun e w' => e = .returned (.bool true) ∧ Below w.heap.size w w' := by
  have q1 := fun w => diff_any l m hl hm w
  unfold hv at *
  have Q1 := hide_ q1
  clear q1
  have hA : HB ((w.alloc (.cells (wdc l).toArray 26)).alloc (.cells (wdc m).toArray 26)) w.heap.size l := (HB.new w l).later (by go_grown)
  have hC : HB ((w.alloc (.cells (wdc l).toArray 26)).alloc (.cells (wdc m).toArray 26)) (w.heap.size + 1) m := by have := HB.new (w.alloc (.cells (wdc l).toArray 26)) m; simpa using this
  have hB : Below w.heap.size w ((w.alloc (.cells (wdc l).toArray 26)).alloc (.cells (wdc m).toArray 26)) := by go_grown
  go_enter Try.func3, Try.ntmps3
  go_wp2_with (first | (refine wpList_loadHw (by simp [Region.wanted, yielded]) (.tmp 2) rfl w.heap.size (by simp [Act.eval, Act.put]) l hl.1 (by assumption) ?_) | (refine wpList_loadHw (by simp [Region.wanted, yielded]) (.tmp 3) rfl (w.heap.size + 1) (by simp [Act.eval, Act.put]) m hm.1 (by assumption) ?_) | (go_at_call 4; refine (Q1.out _).mono ?_; rintro e w1 ⟨u, rfl, o1, b1⟩; obtain ⟨ua, uc, rfl⟩ := own_slice o1))
  have hA1 := hide_ (hA.later b1)
  have hC1 := hide_ (hC.later b1)
  have hB1 := hide_ (hB.trans (b1.mono hB.size))
  have O1 : Hid (w1.ownsRow (w.heap.size + 2) 3 1 (.slice ua (diffK l m 24).length uc) (diffK l m 24).length (i64s (diffK l m 24))) := hide_ (ownsRow_base o1 (by simp))
  have hn24 : (diffK l m 24).length ≤ 24 := diffK_le l m 24
  obtain ⟨D, hD⟩ : ∃ D, diffK l m 24 = D := ⟨_, rfl⟩
  rw [hD] at O1 hn24 ⊢
  have HD := hide_ hD
  clear hD o1 b1 hA hC hB
  go_loopw [11] (fun i wr => ∃ k : Nat, k ≤ D.length ∧ i = .int .i64 k ∧ Hid (HB wr w.heap.size (updK l m k)) ∧ Hid (HB wr (w.heap.size + 1) m) ∧ Hid (wr.ownsRow (w.heap.size + 2) 3 1 (.slice ua D.length uc) D.length (i64s D)) ∧ Below w.heap.size w wr) (fun i _ => D.length - (intOf i).toNat)
  case atStart => exact ⟨0, Nat.zero_le _, rfl, by rw [upd_zero l m hl.1]; exact hA1, hC1, O1, hB1.out⟩
  case round =>
    obtain ⟨k, hk, rfl, HA, HC, HO, hb⟩ := hrel
    by_cases hlt : k < D.length
    · have hlt' : (k : Int) < (D.length : Int) := by omega
      obtain ⟨f, hf⟩ : ∃ f, D[k]? = some f := ⟨_, List.getElem?_eq_getElem hlt⟩
      obtain ⟨_, _, _, h4⟩ := (Cells.ofOwn HO.out).at
      obtain ⟨b, off, rfl, c1⟩ := h4 k (.int .i64 (f : Int)) (by simp [i64s, hf])
      have hf' : (diffK l m 24)[k]? = some f := by rw [HD.out]; exact hf
      obtain ⟨f24, hne⟩ := diff_mem (List.mem_of_getElem? hf')
      obtain ⟨p1, p2, hp, gp1, gp2⟩ := hl.get f24
      obtain ⟨r1, r2, hq, gr1, gr2⟩ := hm.get f24
      have hLf : (updK l m k)[f]? = some (p1, p2) := by rw [upd_at hl.1 hf']; exact hp
      have HS := hide_ (upd_step hm.1 hf' hq)
      have hH := upd_isH hl hm k
      have q1 := fun w => fright_any (f : Int) w
      rw [fok_in f24] at q1
      have q2 := fun w => hget_any (updK l m k) hH (f : Int) w
      rw [hget_in hLf] at q2
      have q3 := fun w => hget_any m hm (f : Int) w
      rw [hget_in hq] at q3
      have q4 := fun w => hset_any (updK l m k) hH (f : Int) r1 r2 w
      have es : hset (updK l m k) (f : Int) (r1, r2) = (updK l m k).set f (r1, r2) := by simp [hset]
      rw [es, HS.out] at q4
      have hcase : (((p1 : Nat) : Int) == (r1 : Int)) = false ∨ (p1 = r1 ∧ (((p2 : Nat) : Int) == (r2 : Int)) = false) := by
        have hne' : ¬ (p1, p2) = (r1, r2) := fun e => hne (by rw [hp, hq, e])
        by_cases e1 : p1 = r1
        · subst e1; right; refine ⟨rfl, ?_⟩; simp at hne' ⊢; omega
        · left; simp; omega
      have HL1 := hide_ hH.1
      have HL2 := hide_ (upd_isH hl hm (k + 1)).1
      unfold hv wdp wd at *
      clear hf hf' hne hp hq hLf es hH h4
      generalize hL2 : updK l m (k + 1) = L2 at *
      have HE2 := hide_ hL2
      clear hL2
      generalize updK l m k = L at *
      have Q2 := hide_ q1
      have Q3 := hide_ q2
      have Q4 := hide_ q3
      have Q5 := hide_ q4
      clear q1 q2 q3 q4
      have R1 := hide_ HA.out.range
      have R2 := hide_ HC.out.range
      clear HS
      rcases hcase with g1 | ⟨rfl, g2⟩
      · go_wp2_with fail
        refine wp_region_held_drew (S := fun w' => w'.rangeAt w.heap.size 0 (wdc L) ∧ w'.rangeAt (w.heap.size + 1) 0 (wdc m) ∧ Below wr.heap.size wr w') (by kernel_rfl) (keepU R1.out R2.out (Below.refl _ _).drew) (fun hHeld => ?_)
        refine takeR (i := 0) (v := ?_) rfl (by kernel_rfl) (by kernel_rfl) (by kernel_rfl) (some 15) rfl (Or.inl ⟨by rfl, ?_⟩) (fun _ _ _ h => h) (by assumption) ?_
        rotate_left
        · intro w hSw; (try dsimp only at hSw); go_simp; (try with_reducible rfl)
        simp only [Act.put, List.setIfInBounds_toArray, List.set_cons_zero, List.set_cons_succ]
        refine wpAnyH_ready (rs := [1]) (by kernel_rfl) (by simp) (AllReadyH.cons rfl (fun K hK => ?_) AllReadyH.nil)
        go_simp
        refine (Q2.out _).mono ?_
        rintro e w5 ⟨rfl, rfl⟩
        refine hK.out _ _ (hHeld) (fun hHeld => ?_)
        clear hK K
        try simp only [Act.put, List.setIfInBounds_toArray, List.set_cons_zero, List.set_cons_succ]
        refine takeR (i := 2) (v := ?_) rfl (by kernel_rfl) (by kernel_rfl) (by kernel_rfl) (some 17) rfl (Or.inl ⟨by rfl, ?_⟩) (fun _ _ _ h => h) (by assumption) ?_
        rotate_left
        · intro w hSw; (try dsimp only at hSw); go_simp; (try with_reducible rfl)
        simp only [Act.put, List.setIfInBounds_toArray, List.set_cons_zero, List.set_cons_succ]
        refine takeR (i := 3) (v := ?_) rfl (by kernel_rfl) (by kernel_rfl) (by kernel_rfl) (some 18) rfl (Or.inl ⟨by rfl, ?_⟩) (fun _ _ _ h => h) (by assumption) ?_
        rotate_left
        · intro w hSw; (try dsimp only at hSw); go_simp; (try with_reducible rfl)
        simp only [Act.put, List.setIfInBounds_toArray, List.set_cons_zero, List.set_cons_succ]
        refine take42 (i := 4) rfl (by kernel_rfl) (by kernel_rfl) (by kernel_rfl) (some 19) rfl (.tmp 2) rfl (by rfl) w.heap.size rfl L HL1.out (fun w h => h.1) (fun _ _ _ h => h) (by assumption) ?_
        simp only [Act.put, List.setIfInBounds_toArray, List.set_cons_zero, List.set_cons_succ]
        refine takeR (i := 5) (v := ?_) rfl (by kernel_rfl) (by kernel_rfl) (by kernel_rfl) (some 20) rfl (Or.inl ⟨by rfl, ?_⟩) (fun _ _ _ h => h) (by assumption) ?_
        rotate_left
        · intro w hSw; (try dsimp only at hSw); go_simp; (try with_reducible rfl)
        simp only [Act.put, List.setIfInBounds_toArray, List.set_cons_zero, List.set_cons_succ]
        refine take42 (i := 7) rfl (by kernel_rfl) (by kernel_rfl) (by kernel_rfl) (some 22) rfl (.tmp 3) rfl (by rfl) (w.heap.size + 1) rfl m hm.1 (fun w h => h.2.1) (fun _ _ _ h => h) (by assumption) ?_
        simp only [Act.put, List.setIfInBounds_toArray, List.set_cons_zero, List.set_cons_succ]
        refine takeR (i := 8) (v := ?_) rfl (by kernel_rfl) (by kernel_rfl) (by kernel_rfl) (some 23) rfl (Or.inl ⟨by rfl, ?_⟩) (fun _ _ _ h => h) (by assumption) ?_
        rotate_left
        · intro w hSw; (try dsimp only at hSw); go_simp; (try with_reducible rfl)
        simp only [Act.put, List.setIfInBounds_toArray, List.set_cons_zero, List.set_cons_succ]
        refine wpAnyH_ready (rs := [6]) (by kernel_rfl) (by simp) (AllReadyH.cons rfl (fun K hK => ?_) AllReadyH.nil)
        go_simp
        refine (Q3.out _).mono ?_
        rintro e w6 ⟨rfl, c6⟩
        refine hK.out _ _ (keepU R1.out R2.out (hHeld.2.2.trans (c6.mono hHeld.2.2.size))) (fun hHeld => ?_)
        clear hK K
        try simp only [Act.put, List.setIfInBounds_toArray, List.set_cons_zero, List.set_cons_succ]
        refine wpAnyH_ready (rs := [9]) (by kernel_rfl) (by simp) (AllReadyH.cons rfl (fun K hK => ?_) AllReadyH.nil)
        go_simp
        refine (Q4.out _).mono ?_
        rintro e w7 ⟨rfl, c7⟩
        refine hK.out _ _ (keepU R1.out R2.out (hHeld.2.2.trans (c7.mono hHeld.2.2.size))) (fun hHeld => ?_)
        clear hK K
        try simp only [Act.put, List.setIfInBounds_toArray, List.set_cons_zero, List.set_cons_succ]
        refine takeR (i := 10) (v := ?_) rfl (by kernel_rfl) (by kernel_rfl) (by kernel_rfl) (some 25) rfl (Or.inl ⟨by rfl, ?_⟩) (fun _ _ _ h => h) (by assumption) ?_
        rotate_left
        · intro w hSw; (try dsimp only at hSw); go_simp; (try with_reducible rfl)
        simp only [Act.put, List.setIfInBounds_toArray, List.set_cons_zero, List.set_cons_succ]
        refine takeR (i := 11) (v := ?_) rfl (by kernel_rfl) (by kernel_rfl) (by kernel_rfl) (some 26) rfl (Or.inl ⟨by rfl, ?_⟩) (fun _ _ _ h => h) (by assumption) ?_
        rotate_left
        · intro w hSw; (try dsimp only at hSw); go_simp; (try with_reducible rfl)
        simp only [Act.put, List.setIfInBounds_toArray, List.set_cons_zero, List.set_cons_succ]
        refine wpAnyH_done (by kernel_rfl) ?_ _
        go_wp2_with fail
        have HA6 := hide_ (HA.out.later hHeld.2.2)
        have HC6 := hide_ (HC.out.later hHeld.2.2)
        have HO6 := hide_ (own_later HO.out hHeld.2.2)
        have hb6 := hide_ (hb.trans (hHeld.2.2.mono hb.size))
        refine wp_region_any (by kernel_rfl) ?_
        try (change wpAny _ _ _ _ _ _ _ (World.drew _))
        refine takeA (i := 1) (v := ?_) rfl (by kernel_rfl) (by kernel_rfl) (by kernel_rfl) (some 28) rfl (Or.inl ⟨by rfl, ?_⟩) (fun _ _ _ h => h) ?_
        rotate_left
        · intro w; go_simp; (try with_reducible rfl)
        simp only [Act.put, List.setIfInBounds_toArray, List.set_cons_zero, List.set_cons_succ]
        refine takeA (i := 3) (v := ?_) rfl (by kernel_rfl) (by kernel_rfl) (by kernel_rfl) (some 30) rfl (Or.inl ⟨by rfl, ?_⟩) (fun _ _ _ h => h) ?_
        rotate_left
        · intro w; go_simp; (try with_reducible rfl)
        simp only [Act.put, List.setIfInBounds_toArray, List.set_cons_zero, List.set_cons_succ]
        refine wpAny_ready (rs := [0, 2]) (by kernel_rfl) (by simp) ?_
        refine AllReady.cons rfl (fun K hK => ?_) (AllReady.cons rfl (fun K hK => ?_) (AllReady.nil))
        · rw [if_pos (by rfl)]
          refine wp_load_row 26 (.tmp 2) rfl w.heap.size rfl 26 (wdc L).toArray (0, 0) _ (by first | exact HA6.out | exact HA6.out.later ((Below.refl _ _).drew.trans c8)) Try.underlying26 rfl (szH HL1.out) ?_
          refine hK _ _ ?_
          clear hK K
          try simp only [Act.put, List.setIfInBounds_toArray, List.set_cons_zero, List.set_cons_succ]
          refine wpAny_ready (rs := [2]) (by kernel_rfl) (by simp) ?_
          refine AllReady.cons rfl (fun K hK => ?_) (AllReady.nil)
          · rw [if_pos (by rfl)]
            refine wp_load_row 26 (.tmp 3) rfl (w.heap.size + 1) rfl 26 (wdc m).toArray (0, 0) _ HC6.out Try.underlying26 rfl (szH hm.1) ?_
            refine hK _ _ ?_
            clear hK K
            try simp only [Act.put, List.setIfInBounds_toArray, List.set_cons_zero, List.set_cons_succ]
            refine wpAny_ready (rs := [4]) (by kernel_rfl) (by simp) ?_
            refine AllReady.cons rfl (fun K hK => ?_) (AllReady.nil)
            · go_simp
              refine (Q4.out _).mono ?_
              rintro e w8 ⟨rfl, c8⟩
              refine hK _ _ ?_
              clear hK K
              try simp only [Act.put, List.setIfInBounds_toArray, List.set_cons_zero, List.set_cons_succ]
              refine wpAny_ready (rs := [5]) (by kernel_rfl) (by simp) ?_
              refine AllReady.cons rfl (fun K hK => ?_) (AllReady.nil)
              · go_simp
                refine (Q5.out _).mono ?_
                rintro e w9 ⟨rfl, c9⟩
                have b8 := (Below.refl _ _).drew.trans c8
                have b9 := b8.trans (c9.mono b8.size)
                refine hK _ _ ?_
                clear hK K
                try simp only [Act.put, List.setIfInBounds_toArray, List.set_cons_zero, List.set_cons_succ]
                refine wpAny_ready (rs := [6]) (by kernel_rfl) (by simp) ?_
                refine AllReady.cons rfl (fun K hK => ?_) (AllReady.nil)
                · rw [if_pos (by rfl)]
                  refine wp_store_row 26 (.tmp 2) (.tmp 32) rfl w.heap.size (wdc L2).toArray rfl rfl 26 (wdc L).toArray (HA6.out.later b9) (szH HL2.out) (by simp [wdc_length, HL1.out, HL2.out]) (all_oneCell_toArray (wdc_one L2)) ?_
                  refine hK _ _ ?_
                  clear hK K
                  try simp only [Act.put, List.setIfInBounds_toArray, List.set_cons_zero, List.set_cons_succ]
                  refine wpAny_done (by kernel_rfl) ?_ _
                  go_wp2
                  go_roundw
                  case rel => exact ⟨k + 1, by omega, by go_num, by rw [HE2.out]; exact hide_ (HA6.out.later b9).setRow, hide_ ((HC6.out.later b9).setRow_other _ (by omega)), hide_ (own_setRow (own_later HO6.out b9) _ (by omega)), (hb6.out.trans (b9.mono hb6.out.size)).trans (below_setRow _ _ _ _ (Nat.le_refl _))⟩
                  case measure => simp [intOf]; omega
        · rw [if_pos (by rfl)]
          refine wp_load_row 26 (.tmp 3) rfl (w.heap.size + 1) rfl 26 (wdc m).toArray (0, 0) _ HC6.out Try.underlying26 rfl (szH hm.1) ?_
          refine hK _ _ ?_
          clear hK K
          try simp only [Act.put, List.setIfInBounds_toArray, List.set_cons_zero, List.set_cons_succ]
          refine wpAny_ready (rs := [0, 4]) (by kernel_rfl) (by simp) ?_
          refine AllReady.cons rfl (fun K hK => ?_) (AllReady.cons rfl (fun K hK => ?_) (AllReady.nil))
          · rw [if_pos (by rfl)]
            refine wp_load_row 26 (.tmp 2) rfl w.heap.size rfl 26 (wdc L).toArray (0, 0) _ (by first | exact HA6.out | exact HA6.out.later ((Below.refl _ _).drew.trans c8)) Try.underlying26 rfl (szH HL1.out) ?_
            refine hK _ _ ?_
            clear hK K
            try simp only [Act.put, List.setIfInBounds_toArray, List.set_cons_zero, List.set_cons_succ]
            refine wpAny_ready (rs := [4]) (by kernel_rfl) (by simp) ?_
            refine AllReady.cons rfl (fun K hK => ?_) (AllReady.nil)
            · go_simp
              refine (Q4.out _).mono ?_
              rintro e w8 ⟨rfl, c8⟩
              refine hK _ _ ?_
              clear hK K
              try simp only [Act.put, List.setIfInBounds_toArray, List.set_cons_zero, List.set_cons_succ]
              refine wpAny_ready (rs := [5]) (by kernel_rfl) (by simp) ?_
              refine AllReady.cons rfl (fun K hK => ?_) (AllReady.nil)
              · go_simp
                refine (Q5.out _).mono ?_
                rintro e w9 ⟨rfl, c9⟩
                have b8 := (Below.refl _ _).drew.trans c8
                have b9 := b8.trans (c9.mono b8.size)
                refine hK _ _ ?_
                clear hK K
                try simp only [Act.put, List.setIfInBounds_toArray, List.set_cons_zero, List.set_cons_succ]
                refine wpAny_ready (rs := [6]) (by kernel_rfl) (by simp) ?_
                refine AllReady.cons rfl (fun K hK => ?_) (AllReady.nil)
                · rw [if_pos (by rfl)]
                  refine wp_store_row 26 (.tmp 2) (.tmp 32) rfl w.heap.size (wdc L2).toArray rfl rfl 26 (wdc L).toArray (HA6.out.later b9) (szH HL2.out) (by simp [wdc_length, HL1.out, HL2.out]) (all_oneCell_toArray (wdc_one L2)) ?_
                  refine hK _ _ ?_
                  clear hK K
                  try simp only [Act.put, List.setIfInBounds_toArray, List.set_cons_zero, List.set_cons_succ]
                  refine wpAny_done (by kernel_rfl) ?_ _
                  go_wp2
                  go_roundw
                  case rel => exact ⟨k + 1, by omega, by go_num, by rw [HE2.out]; exact hide_ (HA6.out.later b9).setRow, hide_ ((HC6.out.later b9).setRow_other _ (by omega)), hide_ (own_setRow (own_later HO6.out b9) _ (by omega)), (hb6.out.trans (b9.mono hb6.out.size)).trans (below_setRow _ _ _ _ (Nat.le_refl _))⟩
                  case measure => simp [intOf]; omega
          · go_simp
            refine (Q4.out _).mono ?_
            rintro e w8 ⟨rfl, c8⟩
            refine hK _ _ ?_
            clear hK K
            try simp only [Act.put, List.setIfInBounds_toArray, List.set_cons_zero, List.set_cons_succ]
            refine wpAny_ready (rs := [0]) (by kernel_rfl) (by simp) ?_
            refine AllReady.cons rfl (fun K hK => ?_) (AllReady.nil)
            · rw [if_pos (by rfl)]
              refine wp_load_row 26 (.tmp 2) rfl w.heap.size rfl 26 (wdc L).toArray (0, 0) _ (by first | exact HA6.out | exact HA6.out.later ((Below.refl _ _).drew.trans c8)) Try.underlying26 rfl (szH HL1.out) ?_
              refine hK _ _ ?_
              clear hK K
              try simp only [Act.put, List.setIfInBounds_toArray, List.set_cons_zero, List.set_cons_succ]
              refine wpAny_ready (rs := [5]) (by kernel_rfl) (by simp) ?_
              refine AllReady.cons rfl (fun K hK => ?_) (AllReady.nil)
              · go_simp
                refine (Q5.out _).mono ?_
                rintro e w9 ⟨rfl, c9⟩
                have b8 := (Below.refl _ _).drew.trans c8
                have b9 := b8.trans (c9.mono b8.size)
                refine hK _ _ ?_
                clear hK K
                try simp only [Act.put, List.setIfInBounds_toArray, List.set_cons_zero, List.set_cons_succ]
                refine wpAny_ready (rs := [6]) (by kernel_rfl) (by simp) ?_
                refine AllReady.cons rfl (fun K hK => ?_) (AllReady.nil)
                · rw [if_pos (by rfl)]
                  refine wp_store_row 26 (.tmp 2) (.tmp 32) rfl w.heap.size (wdc L2).toArray rfl rfl 26 (wdc L).toArray (HA6.out.later b9) (szH HL2.out) (by simp [wdc_length, HL1.out, HL2.out]) (all_oneCell_toArray (wdc_one L2)) ?_
                  refine hK _ _ ?_
                  clear hK K
                  try simp only [Act.put, List.setIfInBounds_toArray, List.set_cons_zero, List.set_cons_succ]
                  refine wpAny_done (by kernel_rfl) ?_ _
                  go_wp2
                  go_roundw
                  case rel => exact ⟨k + 1, by omega, by go_num, by rw [HE2.out]; exact hide_ (HA6.out.later b9).setRow, hide_ ((HC6.out.later b9).setRow_other _ (by omega)), hide_ (own_setRow (own_later HO6.out b9) _ (by omega)), (hb6.out.trans (b9.mono hb6.out.size)).trans (below_setRow _ _ _ _ (Nat.le_refl _))⟩
                  case measure => simp [intOf]; omega
      · go_wp2_with fail
        refine wp_region_held_drew (S := fun w' => w'.rangeAt w.heap.size 0 (wdc L) ∧ w'.rangeAt (w.heap.size + 1) 0 (wdc m) ∧ Below wr.heap.size wr w') (by kernel_rfl) (keepU R1.out R2.out (Below.refl _ _).drew) (fun hHeld => ?_)
        refine takeR (i := 0) (v := ?_) rfl (by kernel_rfl) (by kernel_rfl) (by kernel_rfl) (some 15) rfl (Or.inl ⟨by rfl, ?_⟩) (fun _ _ _ h => h) (by assumption) ?_
        rotate_left
        · intro w hSw; (try dsimp only at hSw); go_simp; (try with_reducible rfl)
        simp only [Act.put, List.setIfInBounds_toArray, List.set_cons_zero, List.set_cons_succ]
        refine wpAnyH_ready (rs := [1]) (by kernel_rfl) (by simp) (AllReadyH.cons rfl (fun K hK => ?_) AllReadyH.nil)
        go_simp
        refine (Q2.out _).mono ?_
        rintro e w5 ⟨rfl, rfl⟩
        refine hK.out _ _ (hHeld) (fun hHeld => ?_)
        clear hK K
        try simp only [Act.put, List.setIfInBounds_toArray, List.set_cons_zero, List.set_cons_succ]
        refine takeR (i := 2) (v := ?_) rfl (by kernel_rfl) (by kernel_rfl) (by kernel_rfl) (some 17) rfl (Or.inl ⟨by rfl, ?_⟩) (fun _ _ _ h => h) (by assumption) ?_
        rotate_left
        · intro w hSw; (try dsimp only at hSw); go_simp; (try with_reducible rfl)
        simp only [Act.put, List.setIfInBounds_toArray, List.set_cons_zero, List.set_cons_succ]
        refine takeR (i := 3) (v := ?_) rfl (by kernel_rfl) (by kernel_rfl) (by kernel_rfl) (some 18) rfl (Or.inl ⟨by rfl, ?_⟩) (fun _ _ _ h => h) (by assumption) ?_
        rotate_left
        · intro w hSw; (try dsimp only at hSw); go_simp; (try with_reducible rfl)
        simp only [Act.put, List.setIfInBounds_toArray, List.set_cons_zero, List.set_cons_succ]
        refine take42 (i := 4) rfl (by kernel_rfl) (by kernel_rfl) (by kernel_rfl) (some 19) rfl (.tmp 2) rfl (by rfl) w.heap.size rfl L HL1.out (fun w h => h.1) (fun _ _ _ h => h) (by assumption) ?_
        simp only [Act.put, List.setIfInBounds_toArray, List.set_cons_zero, List.set_cons_succ]
        refine takeR (i := 5) (v := ?_) rfl (by kernel_rfl) (by kernel_rfl) (by kernel_rfl) (some 20) rfl (Or.inl ⟨by rfl, ?_⟩) (fun _ _ _ h => h) (by assumption) ?_
        rotate_left
        · intro w hSw; (try dsimp only at hSw); go_simp; (try with_reducible rfl)
        simp only [Act.put, List.setIfInBounds_toArray, List.set_cons_zero, List.set_cons_succ]
        refine take42 (i := 7) rfl (by kernel_rfl) (by kernel_rfl) (by kernel_rfl) (some 22) rfl (.tmp 3) rfl (by rfl) (w.heap.size + 1) rfl m hm.1 (fun w h => h.2.1) (fun _ _ _ h => h) (by assumption) ?_
        simp only [Act.put, List.setIfInBounds_toArray, List.set_cons_zero, List.set_cons_succ]
        refine takeR (i := 8) (v := ?_) rfl (by kernel_rfl) (by kernel_rfl) (by kernel_rfl) (some 23) rfl (Or.inl ⟨by rfl, ?_⟩) (fun _ _ _ h => h) (by assumption) ?_
        rotate_left
        · intro w hSw; (try dsimp only at hSw); go_simp; (try with_reducible rfl)
        simp only [Act.put, List.setIfInBounds_toArray, List.set_cons_zero, List.set_cons_succ]
        refine wpAnyH_ready (rs := [6]) (by kernel_rfl) (by simp) (AllReadyH.cons rfl (fun K hK => ?_) AllReadyH.nil)
        go_simp
        refine (Q3.out _).mono ?_
        rintro e w6 ⟨rfl, c6⟩
        refine hK.out _ _ (keepU R1.out R2.out (hHeld.2.2.trans (c6.mono hHeld.2.2.size))) (fun hHeld => ?_)
        clear hK K
        try simp only [Act.put, List.setIfInBounds_toArray, List.set_cons_zero, List.set_cons_succ]
        refine wpAnyH_ready (rs := [9]) (by kernel_rfl) (by simp) (AllReadyH.cons rfl (fun K hK => ?_) AllReadyH.nil)
        go_simp
        refine (Q4.out _).mono ?_
        rintro e w7 ⟨rfl, c7⟩
        refine hK.out _ _ (keepU R1.out R2.out (hHeld.2.2.trans (c7.mono hHeld.2.2.size))) (fun hHeld => ?_)
        clear hK K
        try simp only [Act.put, List.setIfInBounds_toArray, List.set_cons_zero, List.set_cons_succ]
        refine takeR (i := 10) (v := ?_) rfl (by kernel_rfl) (by kernel_rfl) (by kernel_rfl) (some 25) rfl (Or.inl ⟨by rfl, ?_⟩) (fun _ _ _ h => h) (by assumption) ?_
        rotate_left
        · intro w hSw; (try dsimp only at hSw); go_simp; (try with_reducible rfl)
        simp only [Act.put, List.setIfInBounds_toArray, List.set_cons_zero, List.set_cons_succ]
        refine takeR (i := 11) (v := ?_) rfl (by kernel_rfl) (by kernel_rfl) (by kernel_rfl) (some 26) rfl (Or.inl ⟨by rfl, ?_⟩) (fun _ _ _ h => h) (by assumption) ?_
        rotate_left
        · intro w hSw; (try dsimp only at hSw); go_simp; (try with_reducible rfl)
        simp only [Act.put, List.setIfInBounds_toArray, List.set_cons_zero, List.set_cons_succ]
        refine wpAnyH_done (by kernel_rfl) ?_ _
        go_wp2_with fail
        have HA6 := hide_ (HA.out.later hHeld.2.2)
        have HC6 := hide_ (HC.out.later hHeld.2.2)
        have HO6 := hide_ (own_later HO.out hHeld.2.2)
        have hb6 := hide_ (hb.trans (hHeld.2.2.mono hb.size))
        refine wp_region_any (by kernel_rfl) ?_
        try (change wpAny _ _ _ _ _ _ _ (World.drew _))
        refine takeA (i := 1) (v := ?_) rfl (by kernel_rfl) (by kernel_rfl) (by kernel_rfl) (some 28) rfl (Or.inl ⟨by rfl, ?_⟩) (fun _ _ _ h => h) ?_
        rotate_left
        · intro w; go_simp; (try with_reducible rfl)
        simp only [Act.put, List.setIfInBounds_toArray, List.set_cons_zero, List.set_cons_succ]
        refine takeA (i := 3) (v := ?_) rfl (by kernel_rfl) (by kernel_rfl) (by kernel_rfl) (some 30) rfl (Or.inl ⟨by rfl, ?_⟩) (fun _ _ _ h => h) ?_
        rotate_left
        · intro w; go_simp; (try with_reducible rfl)
        simp only [Act.put, List.setIfInBounds_toArray, List.set_cons_zero, List.set_cons_succ]
        refine wpAny_ready (rs := [0, 2]) (by kernel_rfl) (by simp) ?_
        refine AllReady.cons rfl (fun K hK => ?_) (AllReady.cons rfl (fun K hK => ?_) (AllReady.nil))
        · rw [if_pos (by rfl)]
          refine wp_load_row 26 (.tmp 2) rfl w.heap.size rfl 26 (wdc L).toArray (0, 0) _ (by first | exact HA6.out | exact HA6.out.later ((Below.refl _ _).drew.trans c8)) Try.underlying26 rfl (szH HL1.out) ?_
          refine hK _ _ ?_
          clear hK K
          try simp only [Act.put, List.setIfInBounds_toArray, List.set_cons_zero, List.set_cons_succ]
          refine wpAny_ready (rs := [2]) (by kernel_rfl) (by simp) ?_
          refine AllReady.cons rfl (fun K hK => ?_) (AllReady.nil)
          · rw [if_pos (by rfl)]
            refine wp_load_row 26 (.tmp 3) rfl (w.heap.size + 1) rfl 26 (wdc m).toArray (0, 0) _ HC6.out Try.underlying26 rfl (szH hm.1) ?_
            refine hK _ _ ?_
            clear hK K
            try simp only [Act.put, List.setIfInBounds_toArray, List.set_cons_zero, List.set_cons_succ]
            refine wpAny_ready (rs := [4]) (by kernel_rfl) (by simp) ?_
            refine AllReady.cons rfl (fun K hK => ?_) (AllReady.nil)
            · go_simp
              refine (Q4.out _).mono ?_
              rintro e w8 ⟨rfl, c8⟩
              refine hK _ _ ?_
              clear hK K
              try simp only [Act.put, List.setIfInBounds_toArray, List.set_cons_zero, List.set_cons_succ]
              refine wpAny_ready (rs := [5]) (by kernel_rfl) (by simp) ?_
              refine AllReady.cons rfl (fun K hK => ?_) (AllReady.nil)
              · go_simp
                refine (Q5.out _).mono ?_
                rintro e w9 ⟨rfl, c9⟩
                have b8 := (Below.refl _ _).drew.trans c8
                have b9 := b8.trans (c9.mono b8.size)
                refine hK _ _ ?_
                clear hK K
                try simp only [Act.put, List.setIfInBounds_toArray, List.set_cons_zero, List.set_cons_succ]
                refine wpAny_ready (rs := [6]) (by kernel_rfl) (by simp) ?_
                refine AllReady.cons rfl (fun K hK => ?_) (AllReady.nil)
                · rw [if_pos (by rfl)]
                  refine wp_store_row 26 (.tmp 2) (.tmp 32) rfl w.heap.size (wdc L2).toArray rfl rfl 26 (wdc L).toArray (HA6.out.later b9) (szH HL2.out) (by simp [wdc_length, HL1.out, HL2.out]) (all_oneCell_toArray (wdc_one L2)) ?_
                  refine hK _ _ ?_
                  clear hK K
                  try simp only [Act.put, List.setIfInBounds_toArray, List.set_cons_zero, List.set_cons_succ]
                  refine wpAny_done (by kernel_rfl) ?_ _
                  go_wp2
                  go_roundw
                  case rel => exact ⟨k + 1, by omega, by go_num, by rw [HE2.out]; exact hide_ (HA6.out.later b9).setRow, hide_ ((HC6.out.later b9).setRow_other _ (by omega)), hide_ (own_setRow (own_later HO6.out b9) _ (by omega)), (hb6.out.trans (b9.mono hb6.out.size)).trans (below_setRow _ _ _ _ (Nat.le_refl _))⟩
                  case measure => simp [intOf]; omega
        · rw [if_pos (by rfl)]
          refine wp_load_row 26 (.tmp 3) rfl (w.heap.size + 1) rfl 26 (wdc m).toArray (0, 0) _ HC6.out Try.underlying26 rfl (szH hm.1) ?_
          refine hK _ _ ?_
          clear hK K
          try simp only [Act.put, List.setIfInBounds_toArray, List.set_cons_zero, List.set_cons_succ]
          refine wpAny_ready (rs := [0, 4]) (by kernel_rfl) (by simp) ?_
          refine AllReady.cons rfl (fun K hK => ?_) (AllReady.cons rfl (fun K hK => ?_) (AllReady.nil))
          · rw [if_pos (by rfl)]
            refine wp_load_row 26 (.tmp 2) rfl w.heap.size rfl 26 (wdc L).toArray (0, 0) _ (by first | exact HA6.out | exact HA6.out.later ((Below.refl _ _).drew.trans c8)) Try.underlying26 rfl (szH HL1.out) ?_
            refine hK _ _ ?_
            clear hK K
            try simp only [Act.put, List.setIfInBounds_toArray, List.set_cons_zero, List.set_cons_succ]
            refine wpAny_ready (rs := [4]) (by kernel_rfl) (by simp) ?_
            refine AllReady.cons rfl (fun K hK => ?_) (AllReady.nil)
            · go_simp
              refine (Q4.out _).mono ?_
              rintro e w8 ⟨rfl, c8⟩
              refine hK _ _ ?_
              clear hK K
              try simp only [Act.put, List.setIfInBounds_toArray, List.set_cons_zero, List.set_cons_succ]
              refine wpAny_ready (rs := [5]) (by kernel_rfl) (by simp) ?_
              refine AllReady.cons rfl (fun K hK => ?_) (AllReady.nil)
              · go_simp
                refine (Q5.out _).mono ?_
                rintro e w9 ⟨rfl, c9⟩
                have b8 := (Below.refl _ _).drew.trans c8
                have b9 := b8.trans (c9.mono b8.size)
                refine hK _ _ ?_
                clear hK K
                try simp only [Act.put, List.setIfInBounds_toArray, List.set_cons_zero, List.set_cons_succ]
                refine wpAny_ready (rs := [6]) (by kernel_rfl) (by simp) ?_
                refine AllReady.cons rfl (fun K hK => ?_) (AllReady.nil)
                · rw [if_pos (by rfl)]
                  refine wp_store_row 26 (.tmp 2) (.tmp 32) rfl w.heap.size (wdc L2).toArray rfl rfl 26 (wdc L).toArray (HA6.out.later b9) (szH HL2.out) (by simp [wdc_length, HL1.out, HL2.out]) (all_oneCell_toArray (wdc_one L2)) ?_
                  refine hK _ _ ?_
                  clear hK K
                  try simp only [Act.put, List.setIfInBounds_toArray, List.set_cons_zero, List.set_cons_succ]
                  refine wpAny_done (by kernel_rfl) ?_ _
                  go_wp2
                  go_roundw
                  case rel => exact ⟨k + 1, by omega, by go_num, by rw [HE2.out]; exact hide_ (HA6.out.later b9).setRow, hide_ ((HC6.out.later b9).setRow_other _ (by omega)), hide_ (own_setRow (own_later HO6.out b9) _ (by omega)), (hb6.out.trans (b9.mono hb6.out.size)).trans (below_setRow _ _ _ _ (Nat.le_refl _))⟩
                  case measure => simp [intOf]; omega
          · go_simp
            refine (Q4.out _).mono ?_
            rintro e w8 ⟨rfl, c8⟩
            refine hK _ _ ?_
            clear hK K
            try simp only [Act.put, List.setIfInBounds_toArray, List.set_cons_zero, List.set_cons_succ]
            refine wpAny_ready (rs := [0]) (by kernel_rfl) (by simp) ?_
            refine AllReady.cons rfl (fun K hK => ?_) (AllReady.nil)
            · rw [if_pos (by rfl)]
              refine wp_load_row 26 (.tmp 2) rfl w.heap.size rfl 26 (wdc L).toArray (0, 0) _ (by first | exact HA6.out | exact HA6.out.later ((Below.refl _ _).drew.trans c8)) Try.underlying26 rfl (szH HL1.out) ?_
              refine hK _ _ ?_
              clear hK K
              try simp only [Act.put, List.setIfInBounds_toArray, List.set_cons_zero, List.set_cons_succ]
              refine wpAny_ready (rs := [5]) (by kernel_rfl) (by simp) ?_
              refine AllReady.cons rfl (fun K hK => ?_) (AllReady.nil)
              · go_simp
                refine (Q5.out _).mono ?_
                rintro e w9 ⟨rfl, c9⟩
                have b8 := (Below.refl _ _).drew.trans c8
                have b9 := b8.trans (c9.mono b8.size)
                refine hK _ _ ?_
                clear hK K
                try simp only [Act.put, List.setIfInBounds_toArray, List.set_cons_zero, List.set_cons_succ]
                refine wpAny_ready (rs := [6]) (by kernel_rfl) (by simp) ?_
                refine AllReady.cons rfl (fun K hK => ?_) (AllReady.nil)
                · rw [if_pos (by rfl)]
                  refine wp_store_row 26 (.tmp 2) (.tmp 32) rfl w.heap.size (wdc L2).toArray rfl rfl 26 (wdc L).toArray (HA6.out.later b9) (szH HL2.out) (by simp [wdc_length, HL1.out, HL2.out]) (all_oneCell_toArray (wdc_one L2)) ?_
                  refine hK _ _ ?_
                  clear hK K
                  try simp only [Act.put, List.setIfInBounds_toArray, List.set_cons_zero, List.set_cons_succ]
                  refine wpAny_done (by kernel_rfl) ?_ _
                  go_wp2
                  go_roundw
                  case rel => exact ⟨k + 1, by omega, by go_num, by rw [HE2.out]; exact hide_ (HA6.out.later b9).setRow, hide_ ((HC6.out.later b9).setRow_other _ (by omega)), hide_ (own_setRow (own_later HO6.out b9) _ (by omega)), (hb6.out.trans (b9.mono hb6.out.size)).trans (below_setRow _ _ _ _ (Nat.le_refl _))⟩
                  case measure => simp [intOf]; omega
    · have hlt' : ¬ (k : Int) < (D.length : Int) := by omega
      have e : k = D.length := by omega
      subst e
      have eu : updK l m D.length = m := by have := upd_all (l := l) (m := m) hl.1 hm.1; rw [HD.out] at this; exact this
      rw [eu] at HA
      have k1 : ∀ w, (Op.equalIn 10000 26 (.agg (wdc m).toArray) (.agg (wdc m).toArray)).run Try.prog w = .ok true w := fun w => by have := run_heqIn m m hm.1 hm.1 w; simpa using this
      have hA2 := HA.out
      have hC2 := HC.out
      clear eu
      go_wp2_with (first | (refine wpList_loadHw (by simp [Region.wanted, yielded]) (.tmp 2) rfl w.heap.size (by simp [Act.eval, Act.put]) m hm.1 (by assumption) ?_) | (refine wpList_loadHw (by simp [Region.wanted, yielded]) (.tmp 3) rfl (w.heap.size + 1) (by simp [Act.eval, Act.put]) m hm.1 (by assumption) ?_) | (go_at_call 8; refine (awake4_any _).mono ?_; rintro e w9 ⟨rfl, b9⟩))
      go_ret
      exact ⟨rfl, hb.trans (b9.mono hb.size)⟩

end Go.Proofs.Ytmpfpolanndakab
