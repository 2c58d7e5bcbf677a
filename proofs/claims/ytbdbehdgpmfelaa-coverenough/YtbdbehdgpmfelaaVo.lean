import Derived.Test.YtbdbehdgpmfelaaVn
namespace Go.Proofs.Ytbdbehdgpmfelaa
open Go Go.RowKit
set_option linter.unusedVariables false
set_option linter.unusedSimpArgs false

/-- the place of the first of the first j that meets a cube; N, if there is none -/
def firK (c : List Q4) (L : List (List Q4)) (N : Nat) : Nat → Nat
  | 0 => N
  | j + 1 => if firK c L N j < N then firK c L N j else (match okC c (L.getD j []) with | true => j | false => N)
theorem firK_le (c : List Q4) (L : List (List Q4)) (N : Nat) : ∀ j, j ≤ N → firK c L N j ≤ N
  | 0, _ => Nat.le_refl _
  | j + 1, h => by
    unfold firK
    split
    · omega
    · split <;> omega
def covC (c : List Q4) (L : List (List Q4)) : Bool := L.any (fun x => inC c x)

set_option maxRecDepth 100000 in
set_option maxHeartbeats 4000000 in
theorem vhold_any (c : List Q4) (L : List (List Q4)) (v : Value) (hc : isC c) (w : World) (hv : CubesAt w v L) (hn : L.length ≤ 100000) :
    Calls Try.prog 32 #[cv c, v] w fun e w' => e = .returned (match covC c L with | true => .tuple #[.int .i64 0, .bool true] | false => .tuple #[.int .i64 (firK c L L.length L.length : Nat), .bool false]) ∧ Below w.heap.size w w' := by
  obtain ⟨ad, cap, rfl, h1, h2⟩ := hv.form
  have HC := hide_ hc
  have hlc := hide_ hc.1
  have HV := hide_ hv
  have A0 := hide_ (AB.at0 w 28 (tdc c))
  have B0 := hide_ (below1 w (.cells (tdc c).toArray 28))
  obtain ⟨nn, hnn⟩ : ∃ nn, L.length = nn := ⟨_, rfl⟩
  obtain ⟨RV, hRV⟩ : ∃ RV, (match covC c L with | true => Value.tuple #[.int .i64 0, .bool true] | false => .tuple #[.int .i64 (firK c L L.length L.length : Nat), .bool false]) = RV := ⟨_, rfl⟩
  have HT : Hid (covC c L = true → Value.tuple #[.int .i64 0, .bool true] = RV) := hide_ (fun h => by rw [← hRV, h])
  have HF : Hid (covC c L = false → Value.tuple #[.int .i64 (firK c L nn nn : Nat), .bool false] = RV) := hide_ (fun h => by rw [← hRV, h, hnn])
  rw [hRV]
  rw [hnn] at HV hn ⊢
  have HNN := hide_ hnn
  clear hnn hv hc h1 h2 hRV
  unfold cv at *
  obtain ⟨hz0, -⟩ := zero_of_info zC'
  go_enter Try.func32, Try.ntmps32
  go_wp2_with fail
  generalize w.alloc (.cells (tdc c).toArray 28) = V at *
  go_loopw [4, 6, 7, 8, 9, 14] (fun t _ _ _ _ i wr => ∃ j : Nat, j ≤ nn ∧ i = .int .i64 (j : Int) ∧ t = .int .i64 (firK c L nn j : Nat) ∧ Hid (∀ x ∈ L.take j, inC c x = false) ∧ Hid (AB wr w.heap.size 28 (tdc c)) ∧ Hid (Below w.heap.size w wr)) (fun _ _ _ _ _ i _ => nn - (intOf i).toNat)
  case atStart => exact ⟨0, by omega, rfl, rfl, hide_ (by simp), A0, B0⟩
  case round =>
    clear A0 B0
    obtain ⟨j, hj, rfl, rfl, HX, HA, HB⟩ := hrel
    by_cases hlt : j < nn
    · have hlt' : (j : Int) < (nn : Int) := by omega
      have hj0 : (0 : Int) ≤ (j : Int) := by omega
      obtain ⟨x, hx⟩ : ∃ x, L[j]? = some x := ⟨_, List.getElem?_eq_getElem (by have := HNN.out; omega)⟩
      have hxC := HV.out.2 x (List.mem_of_getElem? hx)
      have hlx := hide_ hxC.1
      obtain ⟨g, o, e1, hr⟩ := (HV.out.later HB.out).range hx
      subst e1
      have HR := hide_ hr
      have q := fun w => cmeet_any c x HC.out hxC w
      have q2 := fun w => cwithin_any c x HC.out hxC w
      have hlM := hide_ (meetC_isC c x HC.out hxC).1
      have hfl := firK_le c L nn j hj
      have HK1 : Hid (firK c L nn (j + 1) = if firK c L nn j < nn then firK c L nn j else (match okC c x with | true => j | false => nn)) := hide_ (by rw [firK, List.getD_eq_getElem?_getD, hx]; rfl)
      have HX1 : Hid (inC c x = false → ∀ y ∈ L.take (j + 1), inC c y = false) := hide_ (fun h y hy => by
        obtain ⟨hjl, e⟩ := List.getElem?_eq_some_iff.1 hx
        rw [List.take_succ_eq_append_getElem hjl, e, List.mem_append, List.mem_singleton] at hy
        rcases hy with hy | hy
        · exact HX.out y hy
        · rw [hy]; exact h)
      have HC1 : Hid (inC c x = true → covC c L = true) := hide_ (fun h => by unfold covC; rw [List.any_eq_true]; exact ⟨x, List.mem_of_getElem? hx, h⟩)
      generalize meetC c x = M at *
      generalize firK c L nn j = F at *
      have ZA : Hid (AB (wr.alloc (.cells (tdc z24q).toArray 28)) wr.heap.size 28 (tdc z24q)) := hide_ (by exact AB.at0 wr 28 (tdc z24q))
      have bX : Below wr.heap.size wr ((wr.alloc (.cells (tdc z24q).toArray 28)).setRow wr.heap.size (tdc x).toArray) := (below1 wr _).trans (below_row _ _ _ _ (Nat.le_refl _))
      have X1 := hide_ (ZA.out.row (cs' := tdc x))
      have A1 := hide_ (HA.out.later bX)
      unfold cv at q q2
      clear hr hx hxC HX
      cases hin : inC c x
      · have HX2 := hide_ (HX1.out hin)
        rw [hin] at q2
        have q2 := hide_ q2
        clear HC1 HX1
        by_cases hF : F < nn
        · have hF' : (F : Int) < (nn : Int) := by omega
          have HK2 : Hid (F = firK c L nn (j + 1)) := hide_ (by rw [HK1.out, if_pos hF])
          go_wp2_with (first | (refine wpList_load_mid rfl 28 (.tmp 17) rfl g (o + j * 96) (by simp [Act.eval, Act.put]) (tdc x) _ HR.out Try.underlying28 rfl (szC hlx.out) ?_) | (refine wpList_storeA rfl (.tmp 7) (.tmp 18) rfl wr.heap.size (by simp [Act.eval, Act.put]) (tdc z24q) (tdc x) (by rw [tdc_length, tdc_length, hlx.out, z24q_len]) (szC hlx.out) (tdc_one _) (by simp [Act.eval, Act.put]) ZA.out ?_) | (refine wpList_loadA Try.underlying28 rfl (.tmp 2) rfl w.heap.size (by simp [Act.eval, Act.put]) (tdc c) (szC hlc.out) (A1.out) ?_) | (refine wpList_loadA Try.underlying28 rfl (.tmp 7) rfl wr.heap.size (by simp [Act.eval, Act.put]) (tdc x) (szC hlx.out) (X1.out) ?_) | (go_at_call 47; refine (q2.out _).mono ?_; rintro e w3 ⟨rfl, b3⟩))
          have b4 := bX.trans (b3.mono bX.size)
          go_roundw
          case rel => exact ⟨j + 1, by omega, by go_num, by rw [← HK2.out], HX2, hide_ (HA.out.later b4), hide_ (HB.out.trans (b4.mono HB.out.size))⟩
          case measure => simp [intOf]; omega
        · have hF' : ¬ (F : Int) < (nn : Int) := by omega
          cases hok : okC c x
          all_goals
            rw [hok] at q HK1
            have q := hide_ q
            have HK2 := HK1.out
            rw [if_neg hF] at HK2
            have HK2 := hide_ HK2
            go_wp2_with (first | (refine wpList_load_mid rfl 28 (.tmp 17) rfl g (o + j * 96) (by simp [Act.eval, Act.put]) (tdc x) _ HR.out Try.underlying28 rfl (szC hlx.out) ?_) | (refine wpList_storeA rfl (.tmp 7) (.tmp 18) rfl wr.heap.size (by simp [Act.eval, Act.put]) (tdc z24q) (tdc x) (by rw [tdc_length, tdc_length, hlx.out, z24q_len]) (szC hlx.out) (tdc_one _) (by simp [Act.eval, Act.put]) ZA.out ?_) | (go_at_call 47; refine (q2.out _).mono ?_; rintro e w3 ⟨rfl, b3⟩; have A3 := hide_ (A1.out.later b3); have X3 := hide_ (X1.out.later b3)) | (refine wpList_loadA Try.underlying28 rfl (.tmp 2) rfl w.heap.size (by simp [Act.eval, Act.put]) (tdc c) (szC hlc.out) (A3.out) ?_) | (refine wpList_loadA Try.underlying28 rfl (.tmp 7) rfl wr.heap.size (by simp [Act.eval, Act.put]) (tdc x) (szC hlx.out) (X3.out) ?_) | (refine wpList_loadA Try.underlying28 rfl (.tmp 2) rfl w.heap.size (by simp [Act.eval, Act.put]) (tdc c) (szC hlc.out) (A1.out) ?_) | (refine wpList_loadA Try.underlying28 rfl (.tmp 7) rfl wr.heap.size (by simp [Act.eval, Act.put]) (tdc x) (szC hlx.out) (X1.out) ?_) | (go_at_call 23; refine (q.out _).mono ?_; rintro e w5 ⟨rfl, b5⟩; have Z5 : Hid (AB (w5.alloc (.cells (tdc z24q).toArray 28)) w5.heap.size 28 (tdc z24q)) := hide_ (by exact AB.at0 w5 28 (tdc z24q))) | (refine wpList_storeA rfl (.tmp 8) (.tmp 30) rfl w5.heap.size (by simp [Act.eval, Act.put]) (tdc z24q) (tdc M) (by rw [tdc_length, tdc_length, hlM.out, z24q_len]) (szC hlM.out) (tdc_one _) (by simp [Act.eval, Act.put]) Z5.out ?_))
            have b4 := bX.trans (b3.mono bX.size)
            have b6 := b4.trans (b5.mono b4.size)
            have b7 : Below wr.heap.size wr ((w5.alloc (.cells (tdc z24q).toArray 28)).setRow w5.heap.size (tdc M).toArray) := b6.trans (((below1 w5 _).trans (below_row _ _ _ _ (Nat.le_refl _))).mono b6.size)
            go_roundw
            case rel => exact ⟨j + 1, by omega, by go_num, (by rw [HK2.out] <;> (have e : F = nn := (by omega); rw [e])), HX2, hide_ (HA.out.later b7), hide_ (HB.out.trans (b7.mono HB.out.size))⟩
            case measure => simp [intOf]; omega
      · have HE := hide_ (HT.out (HC1.out hin))
        rw [hin] at q2
        have q2 := hide_ q2
        go_wp2_with (first | (refine wpList_load_mid rfl 28 (.tmp 17) rfl g (o + j * 96) (by simp [Act.eval, Act.put]) (tdc x) _ HR.out Try.underlying28 rfl (szC hlx.out) ?_) | (refine wpList_storeA rfl (.tmp 7) (.tmp 18) rfl wr.heap.size (by simp [Act.eval, Act.put]) (tdc z24q) (tdc x) (by rw [tdc_length, tdc_length, hlx.out, z24q_len]) (szC hlx.out) (tdc_one _) (by simp [Act.eval, Act.put]) ZA.out ?_) | (refine wpList_loadA Try.underlying28 rfl (.tmp 2) rfl w.heap.size (by simp [Act.eval, Act.put]) (tdc c) (szC hlc.out) (A1.out) ?_) | (refine wpList_loadA Try.underlying28 rfl (.tmp 7) rfl wr.heap.size (by simp [Act.eval, Act.put]) (tdc x) (szC hlx.out) (X1.out) ?_) | (go_at_call 47; refine (q2.out _).mono ?_; rintro e w3 ⟨rfl, b3⟩))
        go_ret2
        exact ⟨congrArg _ HE.out, HB.out.trans ((bX.trans (b3.mono bX.size)).mono HB.out.size)⟩
    · have hlt' : ¬ (j : Int) < (nn : Int) := by omega
      have e : j = nn := by omega
      subst e
      have hcov : covC c L = false := by
        unfold covC
        rw [List.any_eq_false]
        intro x hx
        rw [HX.out x (by rw [List.take_of_length_le (by have := HNN.out; omega)]; exact hx)]
        simp
      have HE := hide_ (HF.out hcov)
      go_wp2_with fail
      go_ret2
      exact ⟨congrArg _ HE.out, HB.out⟩

end Go.Proofs.Ytbdbehdgpmfelaa
