import Derived.Test.YtbdbehdgpmfelaaYa
namespace Go.Proofs.Ytbdbehdgpmfelaa
open Go Go.RowKit
set_option linter.unusedVariables false
set_option linter.unusedSimpArgs false

set_option maxRecDepth 100000 in
set_option maxHeartbeats 4000000 in
/-- the contract of the reference's Bound -/
theorem rvbound_any (c : List Q4) (L : List (List Q4)) (v : Value) (hc : isC c) (w : World) (hv : CubesAt w v L) (hn : L.length ≤ 100000) :
    Calls Try.prog 15 #[cv c, v] w fun e w' => e = .returned (.int .i64 (bnd (meetsC c L) (meetsC c L).length : Nat)) ∧ Below w.heap.size w w' := by
  have hlen : (meetsC c L).length ≤ 100000 := Nat.le_trans (List.length_filter_le _ _) hn
  have hML : ∀ x ∈ meetsC c L, isC x := fun x hx => hv.2 x (List.mem_filter.1 hx).1
  have q := hide_ (fun W (hb : Below w.heap.size w W) => rvmeets_any c L v hc W (hv.later hb) hn)
  obtain ⟨ad, cap, rfl, h1, h2⟩ := hv.form
  have hlc := hide_ hc.1
  generalize meetsC c L = M at *
  have A0 := hide_ (AB.at0 w 28 (tdc c))
  have B0 := hide_ (below1 w (.cells (tdc c).toArray 28))
  have HML := hide_ hML
  obtain ⟨nn, hnn⟩ : ∃ nn, M.length = nn := ⟨_, rfl⟩
  have HNN := hide_ hnn
  have hw0 : IntKind.i64.wrap ((nn : Int) + 1) = (nn : Int) + 1 := by rw [IntKind.wrap_i64]; omega
  have hnb : nn ≤ 100000 := by omega
  have HB0 : Hid (bnd M 0 = min (nn + 1) 1099511627776) := hide_ (by rw [← hnn]; rfl)
  rw [hnn] at q ⊢
  clear hv hc hn hML h1 h2 hnn
  unfold cv at *
  go_enter Try.func15, Try.ntmps15
  go_wp2_with (first | (refine wpList_loadA Try.underlying28 rfl (.tmp 2) rfl w.heap.size (by simp [Act.eval, Act.put]) (tdc c) (szC hlc.out) A0.out ?_) | (go_at_call 13; refine (q.out _ B0.out).mono ?_; rintro e w1 ⟨u, rfl, ho, b1⟩; have HV := hide_ (cubes_own (HNN.out ▸ ho) HML.out); obtain ⟨g0, cap0, rfl⟩ : ∃ g0 cap0, u = .slice g0 nn cap0 := (by obtain ⟨a, k, e, -, -⟩ := HV.out.form; exact ⟨a, k, by rw [e, HNN.out]⟩); have b1 := hide_ b1; clear ho))
  have B1 := hide_ (B0.out.trans (b1.out.mono B0.out.size))
  have R1 := hide_ (Below.refl w1.heap.size w1)
  go_loopw [6, 7] (fun t i wr => ∃ j : Nat, j ≤ nn ∧ i = .int .i64 (j : Int) ∧ t = .int .i64 (bnd M j : Nat) ∧ Hid (Below w.heap.size w wr) ∧ Hid (Below w1.heap.size w1 wr)) (fun _ i _ => nn - (intOf i).toNat)
  case atStart => exact ⟨0, by omega, rfl, congrArg (Value.int IntKind.i64) (by rw [HB0.out, ← cast_min40, Int.natCast_add]; rfl), B1, R1⟩
  case round =>
    clear A0 B0 B1 R1 b1 q
    obtain ⟨j, hj, rfl, rfl, HB, HB1⟩ := hrel
    by_cases hlt : j < nn
    · have hlt' : (j : Int) < (nn : Int) := by omega
      have hj0 : (0 : Int) ≤ (j : Int) := by omega
      obtain ⟨x, hx⟩ : ∃ x, M[j]? = some x := ⟨_, List.getElem?_eq_getElem (by have := HNN.out; omega)⟩
      have hxC := HML.out x (List.mem_of_getElem? hx)
      have hlx := hide_ hxC.1
      obtain ⟨g, o, e1, hr⟩ := (HV.out.later HB1.out).range hx
      subst e1
      have HR := hide_ hr
      have qs := hide_ (fun w => rcsize_any x hxC w)
      have hsl := sizeK_le x hxC 24 (Nat.le_refl _)
      have HK : Hid (bnd M (j + 1) = min (bnd M j * max (sizeK x 24) 1) 1099511627776) := hide_ (by rw [bnd, List.getD_eq_getElem?_getD, hx]; rfl)
      have hbl := bnd_le M j
      generalize bnd M j = N at *
      generalize sizeK x 24 = sz at *
      have hP : N * max sz 1 ≤ 1099511627776 * 3072 := Nat.mul_le_mul hbl (by omega)
      have hwm : IntKind.i64.wrap ((N : Int) * max (sz : Int) 1) = (N : Int) * max (sz : Int) 1 := by
        have e : (N : Int) * max (sz : Int) 1 = ((N * max sz 1 : Nat) : Int) := by rw [cast_max1, Int.natCast_mul]
        rw [e, IntKind.wrap_i64]
        generalize N * max sz 1 = P at *
        omega
      have HE : Hid (min ((N : Int) * max (sz : Int) 1) 1099511627776 = ((bnd M (j + 1) : Nat) : Int)) := hide_ (by rw [HK.out, ← cast_min40, cast_max1, Int.natCast_mul])
      unfold cv at qs
      clear hr hx hxC hsl hbl hP
      go_wp2_with (first | (refine wpList_load_mid rfl 28 (.tmp 24) rfl g (o + j * 96) (by simp [Act.eval, Act.put]) (tdc x) _ HR.out Try.underlying28 rfl (szC hlx.out) ?_) | (go_at_call 26; refine (qs.out _).mono ?_; rintro e w3 ⟨rfl, b3⟩))
      go_roundw
      case rel => exact ⟨j + 1, by omega, by go_num, by rw [← HE.out], hide_ (HB.out.trans (b3.mono HB.out.size)), hide_ (HB1.out.trans (b3.mono HB1.out.size))⟩
      case measure => simp [intOf]; omega
    · have hlt' : ¬ (j : Int) < (nn : Int) := by omega
      have e : j = nn := by omega
      subst e
      go_wp2_with fail
      go_ret
      exact ⟨rfl, HB.out⟩

/-- whether a look does not go on for long -/
def lightB (c : List Q4) (L : List (List Q4)) (m : Int) : Bool := decide (L.length ≤ 12) && (decide (m ≤ 16384) || decide (bnd (meetsC c L) (meetsC c L).length ≤ 16384))
set_option maxRecDepth 100000 in
set_option maxHeartbeats 4000000 in
theorem light_any (c : List Q4) (L : List (List Q4)) (v : Value) (m : Int) (hc : isC c) (w : World) (hv : CubesAt w v L) :
    Calls Try.prog 7 #[cv c, v, .int .i64 m] w fun e w' => e = .returned (.bool (lightB c L m)) ∧ Below w.heap.size w w' := by
  have HV := hide_ hv
  have HC := hide_ hc
  have hlc := hide_ hc.1
  obtain ⟨ad, cap, rfl, h1, h2⟩ := hv.form
  have A0 := hide_ (AB.at0 w 28 (tdc c))
  have B0 := hide_ (below1 w (.cells (tdc c).toArray 28))
  obtain ⟨nn, hnn⟩ : ∃ nn, L.length = nn := ⟨_, rfl⟩
  have HNN := hide_ hnn
  rw [hnn] at HV ⊢
  by_cases h12 : nn ≤ 12
  · have g12 : (nn : Int) ≤ 12 := by omega
    have HQ := hide_ (fun W (hb : Below w.heap.size w W) => rvbound_any c L (.slice ad nn cap) hc W (HV.out.later hb) (by omega))
    by_cases hm : m ≤ 16384
    · have e : lightB c L m = true := by unfold lightB; rw [hnn]; simp [h12, hm]
      rw [e]
      clear hv hc hnn h1 h2 e HC
      unfold cv at *
      go_enter Try.func7, Try.ntmps7
      go_wp2_with fail
      go_ret
      exact ⟨rfl, B0.out⟩
    · have g16 : ¬ m ≤ 16384 := hm
      by_cases hb : bnd (meetsC c L) (meetsC c L).length ≤ 16384
      all_goals
        have e : lightB c L m = decide (bnd (meetsC c L) (meetsC c L).length ≤ 16384) := by unfold lightB; rw [hnn]; simp [h12, hm]
        rw [e]
        simp only [hb, decide_true, decide_false]
        generalize bnd (meetsC c L) (meetsC c L).length = N at *
        have hN : decide ((N : Int) ≤ 16384) = decide (N ≤ 16384) := by rw [decide_eq_decide]; omega
        have hN2 := hb
        clear hv hc hnn h1 h2 e HC
        unfold cv at *
        go_enter Try.func7, Try.ntmps7
        go_wp2_with (first | (refine wpList_loadA Try.underlying28 (by first | rfl | (simp [Region.wanted, yielded]; done) | kernel_rfl) (.tmp 3) rfl w.heap.size (by simp [Act.eval, Act.put]) (tdc c) (szC hlc.out) A0.out ?_) | (go_at_call 15; refine (HQ.out _ B0.out).mono ?_; rintro e w1 ⟨rfl, b1⟩; have b1 := hide_ b1))
        go_ret
        exact ⟨by first | (simp; done) | (simp; omega), B0.out.trans (b1.out.mono B0.out.size)⟩
  · have g12 : ¬ (nn : Int) ≤ 12 := by omega
    have e : lightB c L m = false := by unfold lightB; rw [hnn]; simp [h12]
    rw [e]
    clear hv hc hnn h1 h2 e HC
    unfold cv at *
    go_enter Try.func7, Try.ntmps7
    go_wp2_with fail
    go_ret
    exact ⟨rfl, B0.out⟩

end Go.Proofs.Ytbdbehdgpmfelaa
