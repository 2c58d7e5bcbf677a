import Derived.Test.YtbdbehdgpmfelaaVk
namespace Go.Proofs.Ytbdbehdgpmfelaa
open Go Go.RowKit
set_option linter.unusedVariables false
set_option linter.unusedSimpArgs false

/-- those of a list that meet a cube -/
def meetsC (c : List Q4) (L : List (List Q4)) : List (List Q4) := L.filter (fun x => okC c x)
theorem meetsC_take {c : List Q4} {L : List (List Q4)} {j : Nat} {x : List Q4} (h : L[j]? = some x) : meetsC c (L.take (j + 1)) = meetsC c (L.take j) ++ (match okC c x with | true => [x] | false => []) := by
  obtain ⟨hj, e⟩ := List.getElem?_eq_some_iff.1 h
  unfold meetsC
  rw [List.take_succ_eq_append_getElem hj, e, List.filter_append, List.filter_cons]
  cases okC c x <;> rfl
theorem meetsC_len (c : List Q4) (L : List (List Q4)) : (meetsC c L).length ≤ L.length := List.length_filter_le _ _

set_option maxRecDepth 100000 in
set_option maxHeartbeats 4000000 in
theorem vmeets_any (c : List Q4) (L : List (List Q4)) (v : Value) (hc : isC c) (w : World) (hv : CubesAt w v L) (hn : L.length * 768 ≤ 140737488355328) :
    Calls Try.prog 12 #[cv c, v] w fun e w' => ∃ u, e = .returned u ∧ w'.ownsRow w.heap.size 28 96 u (meetsC c L).length ((meetsC c L).flatMap tdc) ∧ Below w.heap.size w w' := by
  obtain ⟨ad, cap, rfl, h1, h2⟩ := hv.form
  have HC := hide_ hc
  have hlc := hide_ hc.1
  have HV := hide_ hv
  have A0 := hide_ (AB.at0 w 28 (tdc c))
  have B0 := hide_ (below1 w (.cells (tdc c).toArray 28))
  obtain ⟨nn, hnn⟩ : ∃ nn, L.length = nn := ⟨_, rfl⟩
  rw [hnn] at HV hn ⊢
  have HNN := hide_ hnn
  clear hnn hv hc h1 h2
  unfold cv at *
  obtain ⟨hz0, -⟩ := zero_of_info zC'
  go_enter Try.func12, Try.ntmps12
  go_wp2_with fail
  generalize w.alloc (.cells (tdc c).toArray 28) = V at *
  go_loopw [5, 7, 8, 9, 12] (fun u _ _ _ i wr => ∃ j : Nat, j ≤ nn ∧ i = .int .i64 (j : Int) ∧ Hid (wr.ownsRow (w.heap.size + 1) 28 96 u (meetsC c (L.take j)).length ((meetsC c (L.take j)).flatMap tdc)) ∧ Hid (AB wr w.heap.size 28 (tdc c)) ∧ Hid (Below w.heap.size w wr)) (fun _ _ _ _ i _ => nn - (intOf i).toNat)
  case atStart => exact ⟨0, by omega, rfl, hide_ (World.ownsRow_nil _ _ _ _), A0, B0⟩
  case round =>
    clear A0 B0
    obtain ⟨j, hj, rfl, HO, HA, HB⟩ := hrel
    by_cases hlt : j < nn
    · have hlt' : (j : Int) < (nn : Int) := by omega
      have hj0 : (0 : Int) ≤ (j : Int) := by omega
      obtain ⟨x, hx⟩ : ∃ x, L[j]? = some x := ⟨_, List.getElem?_eq_getElem (by have := HNN.out; omega)⟩
      have hxC := HV.out.2 x (List.mem_of_getElem? hx)
      have hlx := hide_ hxC.1
      obtain ⟨g, o, e1, hr⟩ := (HV.out.later HB.out).range hx
      subst e1
      have HR := hide_ hr
      have q := fun w => cmeet_any c x HC.out hxC w
      have hlM := hide_ (meetC_isC c x HC.out hxC).1
      have HT := hide_ (meetsC_take (c := c) hx)
      have hml : (meetsC c (L.take j)).length ≤ j := Nat.le_trans (meetsC_len _ _) (List.length_take_le _ _)
      generalize meetsC c (L.take j) = K at *
      generalize meetC c x = M at *
      have ZA : Hid (AB (wr.alloc (.cells (tdc z24q).toArray 28)) wr.heap.size 28 (tdc z24q)) := hide_ (by exact AB.at0 wr 28 (tdc z24q))
      have bX : Below wr.heap.size wr ((wr.alloc (.cells (tdc z24q).toArray 28)).setRow wr.heap.size (tdc x).toArray) := (below1 wr _).trans (below_row _ _ _ _ (Nat.le_refl _))
      have X1 := hide_ (ZA.out.row (cs' := tdc x))
      have A1 := hide_ (HA.out.later bX)
      have hsA := HA.out.lt
      unfold cv at q
      clear hr hx hxC
      cases hok : okC c x
      all_goals
        rw [hok] at q HT
        have q := hide_ q
        go_upto_region 6 with (first | (refine wpList_load_mid rfl 28 (.tmp 14) rfl g (o + j * 96) (by simp [Act.eval, Act.put]) (tdc x) _ HR.out Try.underlying28 rfl (szC hlx.out) ?_) | (refine wpList_storeA rfl (.tmp 7) (.tmp 15) rfl wr.heap.size (by simp [Act.eval, Act.put]) (tdc z24q) (tdc x) (by rw [tdc_length, tdc_length, hlx.out, z24q_len]) (szC hlx.out) (tdc_one _) (by simp [Act.eval, Act.put]) ZA.out ?_) | (refine wpList_loadA Try.underlying28 rfl (.tmp 2) rfl w.heap.size (by simp [Act.eval, Act.put]) (tdc c) (szC hlc.out) (A1.out) ?_) | (refine wpList_loadA Try.underlying28 rfl (.tmp 7) rfl wr.heap.size (by simp [Act.eval, Act.put]) (tdc x) (szC hlx.out) (X1.out) ?_) | (go_at_call 23; refine (q.out _).mono ?_; rintro e w3 ⟨rfl, b3⟩; have Z3 : Hid (AB (w3.alloc (.cells (tdc z24q).toArray 28)) w3.heap.size 28 (tdc z24q)) := hide_ (by exact AB.at0 w3 28 (tdc z24q))) | (refine wpList_storeA rfl (.tmp 8) (.tmp 20) rfl w3.heap.size (by simp [Act.eval, Act.put]) (tdc z24q) (tdc M) (by rw [tdc_length, tdc_length, hlM.out, z24q_len]) (szC hlM.out) (tdc_one _) (by simp [Act.eval, Act.put]) Z3.out ?_))
        have b4 : Below wr.heap.size wr ((w3.alloc (.cells (tdc z24q).toArray 28)).setRow w3.heap.size (tdc M).toArray) := (bX.trans (b3.mono bX.size)).trans (((below1 w3 _).trans (below_row _ _ _ _ (Nat.le_refl _))).mono (by have := (bX.trans (b3.mono bX.size)).size; omega))
        have X4 := hide_ ((X1.out.later b3).later ((below1 w3 (.cells (tdc z24q).toArray 28)).trans (below_row _ w3.heap.size _ (tdc M).toArray (Nat.le_refl _))))
        have A4 := hide_ (HA.out.later b4)
        have O4 := hide_ (own_later HO.out b4)
        have B4 := hide_ (HB.out.trans (b4.mono HB.out.size))
        have hs4 := b4.size
        generalize (w3.alloc (.cells (tdc z24q).toArray 28)).setRow w3.heap.size (tdc M).toArray = W4 at *
        clear bX b3 b4 X1 A1 ZA Z3 HO HA HB
      · go_wp2_with fail
        go_roundw
        case rel => exact ⟨j + 1, by omega, by go_num, hide_ (by rw [HT.out]; simpa using O4.out), A4, B4⟩
        case measure => simp [intOf]; omega
      · obtain ⟨i0, hi0, hz0, hz1, hz2⟩ := info_parts infoC
        have HII : Hid (Try.prog.info? 28 = some i0 ∧ i0.zero = some (.agg (tdc z24q).toArray) ∧ i0.size = 96 ∧ i0.bytes = 768) := hide_ ⟨hi0, hz0, hz1, hz2⟩
        clear hi0 hz0 hz1 hz2
        go_wp2_with (first | (refine wpList_loadA Try.underlying28 rfl (.tmp 7) rfl wr.heap.size (by simp [Act.eval, Act.put]) (tdc x) (szC hlx.out) (X4.out) ?_) | (refine wpList_build1 rfl 29 28 (.tmp 24) rfl (tdc x) (.agg (tdc z24q).toArray) 96 768 (by simp [Act.eval, Act.put]) Try.underlying29 infoC (by simp [Value.cells, szC0]) (by rw [tdc_length, hlx.out]) (by decide) (by decide) ?_) | (at_builtin; refine wpList_append_own_at _ rfl (.tmp 23) (.tmp 25) 29 rfl (w.heap.size + 1) 28 i0 (.agg (tdc z24q).toArray) 96 768 Try.underlying29 HII.out.1 HII.out.2.1 HII.out.2.2.1 HII.out.2.2.2 (by simp [Value.cells, szC0]) (by decide) u5 K.length (K.flatMap tdc) (by simp [Act.eval, Act.put]) (O4.out.alloc _) ⟨W4.heap.size, 0, none⟩ 1 1 (tdc x) (by simp [Act.eval, Act.put]) (by rw [tdc_length, hlx.out]) (news_alloc _ _ _) (tdc_one _) (by unfold maxLen; omega) (by omega) (by simp; omega) ?_; intro v1 w7 ho1 hgrow hnil hat; have ho1 := hide_ ho1; have hgrow := hide_ hgrow; clear hnil hat))
        have hrow : ∀ k, u5.ownBlock = some k → w.heap.size + 1 ≤ k := fun k hk => (own_lt O4.out hk).1
        go_roundw
        case rel => exact ⟨j + 1, by omega, by go_num, hide_ (by rw [HT.out]; have := ho1.out; simpa using this), hide_ ((hgrow.out.block _ (by have := A4.out.lt; simp; omega) (fun e => by have := hrow _ e.symm; omega)).trans (A4.out.alloc _)), hide_ ((B4.out.alloc B4.out.size _).grown hgrow.out (by have := B4.out.size; simp; omega) (fun k hk => by have := hrow k hk; omega))⟩
        case measure => simp [intOf]; omega
    · have hlt' : ¬ (j : Int) < (nn : Int) := by omega
      have e : j = nn := by omega
      subst e
      have e2 : L.take j = L := List.take_of_length_le (by have := HNN.out; omega)
      rw [e2] at HO
      go_wp2_with fail
      go_ret
      exact ⟨_, rfl, ownsRow_mono HO.out (Nat.le_succ _), HB.out⟩

end Go.Proofs.Ytbdbehdgpmfelaa
