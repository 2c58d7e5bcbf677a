import Derived.Test.YtickphnfgaibiaaVf
import Derived.Test.YtickphnfgaibiaaVi
import Derived.Test.YtickphnfgaibiaaVh
namespace Go.Proofs.Ytickphnfgaibiaa
open Go Go.RowKit
set_option linter.unusedVariables false
set_option linter.unusedSimpArgs false

theorem flat_at : ∀ (L : List (List Q4)) (j k : Nat) (x : List Q4), (∀ y ∈ L, (tdc y).length = 96) → L[j]? = some x → k < 96 → (L.flatMap tdc)[j * 96 + k]? = (tdc x)[k]?
  | [], j, k, x, _, h, _ => by simp at h
  | y :: L, 0, k, x, hl, h, hk => by
    have : y = x := by simpa using h
    subst this
    rw [List.flatMap_cons, List.getElem?_append_left (by rw [hl y List.mem_cons_self]; omega)]
    simp
  | y :: L, j + 1, k, x, hl, h, hk => by
    rw [List.flatMap_cons, List.getElem?_append_right (by rw [hl y List.mem_cons_self]; omega), hl y List.mem_cons_self, show (j + 1) * 96 + k - 96 = j * 96 + k by omega]
    exact flat_at L j k x (fun z hz => hl z (List.mem_cons_of_mem _ hz)) (by simpa using h) hk
theorem own_range {w : World} {base : Nat} {e : TypeId} {v : Value} {n j : Nat} {L : List (List Q4)} {x : List Q4} (h : w.ownsRow base e 96 v n (L.flatMap tdc)) (hl : ∀ y ∈ L, isC y) (hj : L[j]? = some x) : ∃ g cap, v = .slice (some ⟨g, 0, none⟩) n cap ∧ base ≤ g ∧ w.rangeAt g (j * 96) (tdc x) := by
  have hx := lenC (hl x (List.mem_of_getElem? hj))
  have hf := fun k (hk : k < 96) => flat_at L j k x (fun y hy => lenC (hl y hy)) hj hk
  have h0 : ((tdc x)[0]?).isSome := by rw [List.getElem?_eq_getElem (by omega)]; rfl
  obtain ⟨v0, hv0⟩ := Option.isSome_iff_exists.1 h0
  obtain ⟨g, cap, rfl, hb, -⟩ := own_at h (by rw [hf 0 (by omega)]; exact hv0)
  refine ⟨g, cap, rfl, hb, fun k u hu => ?_⟩
  have hk : k < 96 := by have := (List.getElem?_eq_some_iff.1 hu).1; omega
  obtain ⟨g', cap', e1, -, hc⟩ := own_at h (by rw [hf k hk]; exact hu)
  cases e1
  exact hc
theorem own_later {w w' : World} {base : Nat} {e : TypeId} {size : Nat} {v : Value} {n : Nat} {xs : List Value} (h : w.ownsRow base e size v n xs) (hb : Below w.heap.size w w') : w'.ownsRow base e size v n xs :=
  own_out (S := fun _ => False) (Out.of_below hb) (fun _ _ h => h) h
theorem cntH_take {L : List (List Q4)} {j : Nat} {x : List Q4} (v : List (Nat × Nat)) (h : L[j]? = some x) : cntH (L.take (j + 1)) v = cntH (L.take j) v + one (hasC x v) := by
  obtain ⟨hj, e⟩ := List.getElem?_eq_some_iff.1 h
  rw [List.take_succ_eq_append_getElem hj, e, cntH_app, cntH_cons]
  unfold one cntH
  cases hasC x v <;> rfl

set_option maxRecDepth 100000 in
set_option maxHeartbeats 4000000 in
theorem carveApart_walk (a b : List Q4) (v : List (Nat × Nat)) (ha : isC a) (hb : isC b) (hv' : isH v) (w : World) :
    Calls Try.prog 8 #[cv a, cv b, hv v] w fun e w' => e = .returned (.bool true) ∧ Below w.heap.size w w' := by
  have q1 := hide_ (fun w => clist_any a b ha hb w)
  have q2 := hide_ (fun w => chas_any a v ha hv' w)
  have q3 := hide_ (fun w => chas_any b v hb hv' w)
  have HLC := hide_ (partsC_isC a b ha)
  have hnL := partsC_len a b
  have HCNT := hide_ (parts_count a b v ha hb hv')
  have HV := hide_ hv'
  have hla := hide_ ha.1
  have hlb := hide_ hb.1
  have hlv := hide_ hv'.1
  generalize partsC a b = L at *
  generalize hasC a v = zA at *
  generalize hasC b v = zB at *
  clear ha hb hv'
  unfold cv at *
  unfold hv at *
  have A0 := hide_ (((AB.at0 w 28 (tdc a)).alloc (.cells (tdc b).toArray 28)).alloc (.cells (wdc v).toArray 30))
  have C0 := hide_ ((AB.at1 w (.cells (tdc a).toArray 28) 28 (tdc b)).alloc (.cells (wdc v).toArray 30))
  have V0 := hide_ (AB.at2 w (.cells (tdc a).toArray 28) (.cells (tdc b).toArray 28) 30 (wdc v))
  have HB := hide_ (below3 w (.cells (tdc a).toArray 28) (.cells (tdc b).toArray 28) (.cells (wdc v).toArray 30))
  obtain ⟨nn, hnn⟩ : ∃ nn, L.length = nn := ⟨_, rfl⟩
  rw [hnn] at q1 hnL
  have HNN := hide_ hnn
  clear hnn
  go_enter Try.func8, Try.ntmps8
  go_wp2_with (first | (refine wpList_loadA Try.underlying28 rfl (.tmp 3) rfl w.heap.size (by simp [Act.eval, Act.put]) (tdc a) (szC hla.out) A0.out ?_) | (refine wpList_loadA Try.underlying28 rfl (.tmp 4) rfl (w.heap.size + 1) (by simp [Act.eval, Act.put]) (tdc b) (szC hlb.out) C0.out ?_) | (go_at_call 33; refine (q1.out _).mono ?_; rintro e w1 ⟨u, rfl, hown, b1⟩; have hcl := Cells.ofOwn hown; have hown := hide_ hown; have b1 := hide_ b1; obtain ⟨-, ad, cap, rfl, -⟩ := hcl))
  have bw : Below w.heap.size w w1 := HB.out.trans (b1.out.mono HB.out.size)
  have A1 := hide_ (A0.out.later b1.out)
  have C1 := hide_ (C0.out.later b1.out)
  have V1 := hide_ (V0.out.later b1.out)
  have O1 := hide_ (ownsRow_mono hown.out (Nat.zero_le _))
  clear A0 C0 V0 HB hown b1
  go_loopw [7, 9, 14] (fun c _ i wr => ∃ j m : Nat, j ≤ nn ∧ m ≤ j ∧ c = .int .i64 (m : Int) ∧ i = .int .i64 (j : Int) ∧ Hid (m = cntH (L.take j) v) ∧ Hid (AB wr w.heap.size 28 (tdc a)) ∧ Hid (AB wr (w.heap.size + 1) 28 (tdc b)) ∧ Hid (AB wr (w.heap.size + 1 + 1) 30 (wdc v)) ∧ Hid (wr.ownsRow 0 28 96 (.slice ad nn cap) nn (L.flatMap tdc)) ∧ Below w.heap.size w wr) (fun _ _ i _ => nn - (intOf i).toNat)
  case atStart => exact ⟨0, 0, by omega, by omega, rfl, rfl, hide_ (by simp [cntH]), A1, C1, V1, O1, bw⟩
  case round =>
    clear A1 C1 V1 O1 bw
    obtain ⟨j, m, hj, hmj, rfl, rfl, HM, HA, HC, HH, HO, hb⟩ := hrel
    by_cases hlt : j < nn
    · have hlt' : (j : Int) < (nn : Int) := by omega
      have hj0 : (0 : Int) ≤ (j : Int) := by omega
      obtain ⟨x, hx⟩ : ∃ x, L[j]? = some x := ⟨_, List.getElem?_eq_getElem (by have := HNN.out; omega)⟩
      have hxC := HLC.out x (List.mem_of_getElem? hx)
      obtain ⟨g, cap', e1, -, hr⟩ := own_range HO.out HLC.out hx
      cases e1
      have HR := hide_ hr
      have q4 := hide_ (fun w => chas_any x v hxC HV.out w)
      have hlx := hide_ hxC.1
      have HM1 : Hid (m + one (hasC x v) = cntH (L.take (j + 1)) v) := hide_ (by rw [cntH_take v hx, ← HM.out])
      have HZ : Hid (AB (wr.alloc (.cells Try.zeroCells28 28)) wr.heap.size 28 (tdc z24q)) := hide_ (by rw [zcC]; exact AB.at0 wr 28 (tdc z24q))
      have hsz := HH.out.lt
      have bW : Below wr.heap.size wr ((wr.alloc (.cells Try.zeroCells28 28)).setRow wr.heap.size (tdc x).toArray) := (below1 wr _).trans (below_row _ _ _ _ (Nat.le_refl _))
      have X1 := hide_ (HZ.out.row (cs' := tdc x))
      have H1 := hide_ (HH.out.later bW)
      have hw2 : IntKind.i64.wrap ((m : Int) + 1) = (m : Int) + 1 := by rw [IntKind.wrap_i64]; omega
      clear hr hx hxC HM
      unfold cv hv at q4
      cases hz : hasC x v
      all_goals
        rw [hz] at q4 HM1
        go_wp2_with (first | (refine wpList_load_mid rfl 28 (.tmp 16) rfl g (j * 96) (by simp [Act.eval, Act.put]) (tdc x) _ HR.out Try.underlying28 rfl (szC hlx.out) ?_) | (refine wpList_storeA rfl (.tmp 9) (.tmp 17) rfl wr.heap.size (by simp [Act.eval, Act.put]) (tdc z24q) (tdc x) (by rw [tdc_length, tdc_length, hlx.out, z24q_len]) (szC hlx.out) (tdc_one _) (by simp [Act.eval, Act.put]) HZ.out ?_) | (refine wpList_loadA Try.underlying28 rfl (.tmp 9) rfl wr.heap.size (by simp [Act.eval, Act.put]) (tdc x) (szC hlx.out) X1.out ?_) | (refine wpList_loadA Try.underlying30 rfl (.tmp 5) rfl (w.heap.size + 1 + 1) (by simp [Act.eval, Act.put]) (wdc v) (szW hlv.out) H1.out ?_) | (go_at_call 11; refine (q4.out _).mono ?_; rintro e w3 ⟨rfl, b3⟩))
        have b4 : Below wr.heap.size wr w3 := bW.trans (b3.mono bW.size)
        go_roundw
        case rel => first | exact ⟨j + 1, m, by omega, by omega, rfl, by go_num, hide_ (by have := HM1.out; simpa [one] using this), hide_ (HA.out.later b4), hide_ (HC.out.later b4), hide_ (HH.out.later b4), hide_ (own_later HO.out b4), hb.trans (b4.mono hb.size)⟩ | exact ⟨j + 1, m + 1, by omega, by omega, by go_num, by go_num, hide_ (by have := HM1.out; simpa [one] using this), hide_ (HA.out.later b4), hide_ (HC.out.later b4), hide_ (HH.out.later b4), hide_ (own_later HO.out b4), hb.trans (b4.mono hb.size)⟩
        case measure => simp [intOf]; omega
    · have hlt' : ¬ (j : Int) < (nn : Int) := by omega
      have e : j = nn := by omega
      subst e
      have hm : m = one (zA && !zB) := by
        have := HM.out
        rw [List.take_of_length_le (by have := HNN.out; omega), HCNT.out] at this
        exact this
      have kk : Below wr.heap.size wr wr := Below.refl _ _
      have hb := hide_ hb
      cases zA <;> cases zB
      all_goals
        have hm' := hm
        simp only [Bool.and_false, Bool.and_true, Bool.false_and, Bool.true_and, Bool.not_false, Bool.not_true, one] at hm'
        subst hm'
        clear hm HM
        go_wp2_with (first | (refine wpList_loadA Try.underlying28 rfl (.tmp 3) rfl w.heap.size (by simp [Act.eval, Act.put]) (tdc a) (szC hla.out) (HA.out.later kk) ?_) | (refine wpList_loadA Try.underlying28 rfl (.tmp 4) rfl (w.heap.size + 1) (by simp [Act.eval, Act.put]) (tdc b) (szC hlb.out) (HC.out.later kk) ?_) | (refine wpList_loadA Try.underlying30 rfl (.tmp 5) rfl (w.heap.size + 1 + 1) (by simp [Act.eval, Act.put]) (wdc v) (szW hlv.out) (HH.out.later kk) ?_) | (go_at_call_of 11 (tdc a); refine (q2.out _).mono ?_; rintro e w9 ⟨rfl, hb9⟩; have kk := kk.trans (hb9.mono kk.size)) | (go_at_call_of 11 (tdc b); refine (q3.out _).mono ?_; rintro e w9 ⟨rfl, hb9⟩; have kk := kk.trans (hb9.mono kk.size)) | (go_at_call 29; refine (awake7_any _).mono ?_; rintro e w9 ⟨rfl, hb9⟩; have kk := kk.trans (hb9.mono kk.size)))
        go_ret
        exact ⟨rfl, hb.out.trans (kk.mono hb.out.size)⟩

end Go.Proofs.Ytickphnfgaibiaa
