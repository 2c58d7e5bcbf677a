import Derived.Test.YtbdbehdgpmfelaaVo
import Derived.Test.YtbdbehdgpmfelaaVq
namespace Go.Proofs.Ytbdbehdgpmfelaa
open Go Go.RowKit
set_option linter.unusedVariables false
set_option linter.unusedSimpArgs false

/-- what Bound reckons: each product is cut -/
def bnd (M : List (List Q4)) : Nat → Nat
  | 0 => min (M.length + 1) 1099511627776
  | j + 1 => min (bnd M j * max (sizeK (M.getD j []) 24) 1) 1099511627776
theorem bnd_le (M : List (List Q4)) : ∀ j, bnd M j ≤ 1099511627776
  | 0 => Nat.min_le_right _ _
  | j + 1 => Nat.min_le_right _ _
theorem sizeK_le (l : List Q4) (hl : isC l) : ∀ k, k ≤ 24 → sizeK l k ≤ k * 128
  | 0, _ => Nat.le_refl _
  | k + 1, h => by
    have ih := sizeK_le l hl k (by omega)
    have h1 := pc_le (cq l k).2.2.1 (cq_lt hl (by omega)).2.2.1
    have h2 := pc_le (cq l k).2.2.2 (cq_lt hl (by omega)).2.2.2
    show sizeK l k + (pc (cq l k).2.2.1 + pc (cq l k).2.2.2) ≤ (k + 1) * 128
    omega
theorem cast_max1 (a : Nat) : max (a : Int) 1 = ((max a 1 : Nat) : Int) := by
  rcases Nat.le_total a 1 with h | h
  · rw [Nat.max_eq_right h, Int.max_eq_right (by omega)]; rfl
  · rw [Nat.max_eq_left h, Int.max_eq_left (by omega)]
theorem cast_min40 (a : Nat) : min (a : Int) 1099511627776 = ((min a 1099511627776 : Nat) : Int) := by
  rcases Nat.le_total a 1099511627776 with h | h
  · rw [Nat.min_eq_left h, Int.min_eq_left (by omega)]
  · rw [Nat.min_eq_right h, Int.min_eq_right (by omega)]; rfl
theorem cubes_own {w : World} {base : Nat} {v : Value} {L : List (List Q4)} (h : w.ownsRow base 28 96 v L.length (L.flatMap tdc)) (hl : ∀ x ∈ L, isC x) : CubesAt w v L := ⟨Cells.ofOwn h, hl⟩

set_option maxRecDepth 100000 in
set_option maxHeartbeats 4000000 in
/-- the contract of cover.Bound -/
theorem vbound_any (c : List Q4) (L : List (List Q4)) (v : Value) (hc : isC c) (w : World) (hv : CubesAt w v L) (hn : L.length * 768 ≤ 140737488355328) :
    Calls Try.prog 14 #[cv c, v] w fun e w' => e = .returned (.int .i64 (bnd (meetsC c L) (meetsC c L).length : Nat)) ∧ Below w.heap.size w w' := by
  have hlen : (meetsC c L).length * 768 ≤ 140737488355328 := Nat.le_trans (Nat.mul_le_mul_right 768 (List.length_filter_le _ _)) hn
  have hML : ∀ x ∈ meetsC c L, isC x := fun x hx => hv.2 x (List.mem_filter.1 hx).1
  have q := hide_ (fun W (hb : Below w.heap.size w W) => vmeets_any c L v hc W (hv.later hb) hn)
  obtain ⟨ad, cap, rfl, h1, h2⟩ := hv.form
  have hlc := hide_ hc.1
  generalize meetsC c L = M at *
  have A0 := hide_ (AB.at0 w 28 (tdc c))
  have B0 := hide_ (below1 w (.cells (tdc c).toArray 28))
  have HML := hide_ hML
  obtain ⟨nn, hnn⟩ : ∃ nn, M.length = nn := ⟨_, rfl⟩
  have HNN := hide_ hnn
  have hw0 : IntKind.i64.wrap ((nn : Int) + 1) = (nn : Int) + 1 := by rw [IntKind.wrap_i64]; omega
  have hnb : nn * 768 ≤ 140737488355328 := by omega
  have HB0 : Hid (bnd M 0 = min (nn + 1) 1099511627776) := hide_ (by rw [← hnn]; rfl)
  rw [hnn] at q ⊢
  clear hv hc hn hML h1 h2 hnn
  unfold cv at *
  obtain ⟨hz0, -⟩ := zero_of_info zC'
  go_enter Try.func14, Try.ntmps14
  go_wp2_with (first | (refine wpList_loadA Try.underlying28 rfl (.tmp 2) rfl w.heap.size (by simp [Act.eval, Act.put]) (tdc c) (szC hlc.out) A0.out ?_) | (go_at_call 12; refine (q.out _ B0.out).mono ?_; rintro e w1 ⟨u, rfl, ho, b1⟩; have HV := hide_ (cubes_own (HNN.out ▸ ho) HML.out); obtain ⟨g0, cap0, rfl⟩ : ∃ g0 cap0, u = .slice g0 nn cap0 := (by obtain ⟨a, k, e, -, -⟩ := HV.out.form; exact ⟨a, k, by rw [e, HNN.out]⟩); have b1 := hide_ b1; clear ho))
  have B1 := hide_ (B0.out.trans (b1.out.mono B0.out.size))
  have R1 := hide_ (Below.refl w1.heap.size w1)
  go_loopw [6, 8, 18] (fun t _ i wr => ∃ j : Nat, j ≤ nn ∧ i = .int .i64 (j : Int) ∧ t = .int .i64 (bnd M j : Nat) ∧ Hid (Below w.heap.size w wr) ∧ Hid (Below w1.heap.size w1 wr)) (fun _ _ i _ => nn - (intOf i).toNat)
  case atStart => exact ⟨0, by omega, rfl, congrArg (Value.int IntKind.i64) (by rw [HB0.out, ← cast_min40, Int.natCast_add]; rfl), B1, R1⟩
  case round =>
    clear A0 B0 B1 R1 b1 q
    obtain ⟨j, hj, rfl, rfl, HB, HB1⟩ := hrel
    by_cases hlt : j < nn
    · have hlt' : (j : Int) < (nn : Int) := by omega
      have hj0 : (0 : Int) ≤ (j : Int) := by omega
      obtain ⟨x, hx⟩ : ∃ x, M[j]? = some x := ⟨_, List.getElem?_eq_getElem (by have := HNN.out; omega)⟩
      have hxC := HML.out x (List.mem_of_getElem? hx)
      have hlx := hide_ hxC.1
      obtain ⟨g, o, e1, hr⟩ := (HV.out.later HB1.out).range hx
      subst e1
      have HR := hide_ hr
      have qs := hide_ (fun w => csize_any x hxC w)
      have hsl := sizeK_le x hxC 24 (Nat.le_refl _)
      have HK : Hid (bnd M (j + 1) = min (bnd M j * max (sizeK x 24) 1) 1099511627776) := hide_ (by rw [bnd, List.getD_eq_getElem?_getD, hx]; rfl)
      have hbl := bnd_le M j
      generalize bnd M j = N at *
      generalize sizeK x 24 = sz at *
      have hP : N * max sz 1 ≤ 1099511627776 * 3072 := Nat.mul_le_mul hbl (by omega)
      have hwm : IntKind.i64.wrap ((N : Int) * max (sz : Int) 1) = (N : Int) * max (sz : Int) 1 := by
        have e : (N : Int) * max (sz : Int) 1 = ((N * max sz 1 : Nat) : Int) := by rw [cast_max1, Int.natCast_mul]
        rw [e, IntKind.wrap_i64]
        generalize N * max sz 1 = P at *
        omega
      have HE : Hid (min ((N : Int) * max (sz : Int) 1) 1099511627776 = ((bnd M (j + 1) : Nat) : Int)) := hide_ (by rw [HK.out, ← cast_min40, cast_max1, Int.natCast_mul])
      have ZA : Hid (AB (wr.alloc (.cells (tdc z24q).toArray 28)) wr.heap.size 28 (tdc z24q)) := hide_ (by exact AB.at0 wr 28 (tdc z24q))
      have bX : Below wr.heap.size wr ((wr.alloc (.cells (tdc z24q).toArray 28)).setRow wr.heap.size (tdc x).toArray) := (below1 wr _).trans (below_row _ _ _ _ (Nat.le_refl _))
      have X1 := hide_ (ZA.out.row (cs' := tdc x))
      have bX := hide_ bX
      unfold cv at qs
      clear hr hx hxC hsl hbl hP
      go_wp2_with (first | (refine wpList_load_mid rfl 28 (.tmp 20) rfl g (o + j * 96) (by simp [Act.eval, Act.put]) (tdc x) _ HR.out Try.underlying28 rfl (szC hlx.out) ?_) | (refine wpList_storeA rfl (.tmp 8) (.tmp 21) rfl wr.heap.size (by simp [Act.eval, Act.put]) (tdc z24q) (tdc x) (by rw [tdc_length, tdc_length, hlx.out, z24q_len]) (szC hlx.out) (tdc_one _) (by simp [Act.eval, Act.put]) ZA.out ?_) | (refine wpList_loadA Try.underlying28 rfl (.tmp 8) rfl wr.heap.size (by simp [Act.eval, Act.put]) (tdc x) (szC hlx.out) (X1.out) ?_) | (go_at_call 25; refine (qs.out _).mono ?_; rintro e w3 ⟨rfl, b3⟩))
      have b4 := bX.out.trans (b3.mono bX.out.size)
      go_roundw
      case rel => exact ⟨j + 1, by omega, by go_num, by rw [← HE.out], hide_ (HB.out.trans (b4.mono HB.out.size)), hide_ (HB1.out.trans (b4.mono HB1.out.size))⟩
      case measure => simp [intOf]; omega
    · have hlt' : ¬ (j : Int) < (nn : Int) := by omega
      have e : j = nn := by omega
      subst e
      go_wp2_with fail
      go_ret
      exact ⟨rfl, HB.out⟩

end Go.Proofs.Ytbdbehdgpmfelaa
