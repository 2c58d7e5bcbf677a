import Derived.Test.YtbdbehdgpmfelaaQc
import Derived.Test.YtbdbehdgpmfelaaVk
import Derived.Test.YtbdbehdgpmfelaaVs
import Derived.Test.YtbdbehdgpmfelaaXd
import Derived.Test.YtbdbehdgpmfelaaYp
import Derived.Deep.RegionHeld3
import Derived.Deep.MidRow
import Derived.Deep.Cut
namespace Go.Proofs.Ytbdbehdgpmfelaa
open Go Go.RowKit
set_option linter.unusedVariables false
set_option linter.unusedSimpArgs false

set_option maxRecDepth 100000 in
set_option maxHeartbeats 8000000 in
theorem tells1 (x : List Q4) (h : List (Nat × Nat)) (g : Nat) (hx : isC x) (hh : isH h) (w : World) (hA : AB w g 33 (wdc h)) :
    Calls Try.prog 18 #[cv x, .pointer (some ⟨g, 0, none⟩)] w fun e w' => e = .returned (.bool (hasC x h)) ∧ Below w.heap.size w w' := by
  have q := hide_ (fun w => chas_any x h hx hh w)
  have lx := hide_ hx.1
  have lh := hide_ hh.1
  have A0 := hide_ (AB.at0 w 28 (tdc x))
  have H0 := hide_ (hA.alloc (.cells (tdc x).toArray 28))
  have B0 := hide_ (below1 w (.cells (tdc x).toArray 28))
  generalize hasC x h = z at *
  clear hx hh hA
  unfold cv hv at *
  go_enter Try.func18, Try.ntmps18
  go_wp2_with (first | (refine wpList_loadA Try.underlying28 rfl (.tmp 2) rfl w.heap.size (by simp [Act.eval, Act.put]) (tdc x) (szC lx.out) A0.out ?_) | (refine wpList_loadA Try.underlying33 rfl (.tmp 1) rfl g (by simp [Act.eval, Act.put]) (wdc h) (szW lh.out) H0.out ?_) | (go_at_call 16; refine (q.out _).mono ?_; rintro e w1 ⟨rfl, b1⟩))
  go_ret
  exact ⟨rfl, B0.out.trans (b1.mono B0.out.size)⟩

set_option maxRecDepth 100000 in
set_option maxHeartbeats 8000000 in
theorem tells2 (x : List Q4) (h : List (Nat × Nat)) (g : Nat) (hx : isC x) (hh : isH h) (w : World) (hA : AB w g 33 (wdc h)) :
    Calls Try.prog 19 #[cv x, .pointer (some ⟨g, 0, none⟩)] w fun e w' => e = .returned (.bool (hasC x h)) ∧ Below w.heap.size w w' := by
  have q := hide_ (fun w => chas_any x h hx hh w)
  have lx := hide_ hx.1
  have lh := hide_ hh.1
  have A0 := hide_ (AB.at0 w 28 (tdc x))
  have H0 := hide_ (hA.alloc (.cells (tdc x).toArray 28))
  have B0 := hide_ (below1 w (.cells (tdc x).toArray 28))
  generalize hasC x h = z at *
  clear hx hh hA
  unfold cv hv at *
  go_enter Try.func19, Try.ntmps19
  go_wp2_with (first | (refine wpList_loadA Try.underlying28 rfl (.tmp 2) rfl w.heap.size (by simp [Act.eval, Act.put]) (tdc x) (szC lx.out) A0.out ?_) | (refine wpList_loadA Try.underlying33 rfl (.tmp 1) rfl g (by simp [Act.eval, Act.put]) (wdc h) (szW lh.out) H0.out ?_) | (go_at_call 16; refine (q.out _).mono ?_; rintro e w1 ⟨rfl, b1⟩))
  go_ret
  exact ⟨rfl, B0.out.trans (b1.mono B0.out.size)⟩

set_option maxRecDepth 100000 in
set_option maxHeartbeats 8000000 in
theorem cont1i (v : Value) (L : List (List Q4)) (h : List (Nat × Nat)) (g : Nat) (hh : isH h) (w : World) (hv : CubesAt w v L) (hn : L.length ≤ 100000) (hA : AB w g 33 (wdc h)) :
    Calls Try.prog 30 #[v, .func (.func 18) #[] #[.pointer (some ⟨g, 0, none⟩)]] w fun e w' => (∃ i : Int, e = .returned (.int .i64 i) ∧ decide (0 ≤ i) = L.any (fun x => hasC x h)) ∧ Below w.heap.size w w' := by
  have HV := hide_ hv
  have HA := hide_ hA
  have HH := hide_ hh
  obtain ⟨ad, cap, rfl, h1, h2⟩ := hv.form
  obtain ⟨nn, hnn⟩ : ∃ nn, L.length = nn := ⟨_, rfl⟩
  rw [hnn] at HV hn ⊢
  have HNN := hide_ hnn
  clear hnn hv h1 h2 hA hh
  obtain ⟨hz0, -⟩ := zero_of_info zC'
  go_enter Try.func30, Try.ntmps30
  go_wp2_with fail
  go_loopw [5, 8] (fun _ i wr => ∃ j : Nat, j ≤ nn ∧ i = .int .i64 j ∧ Hid ((L.take j).any (fun x => hasC x h) = false) ∧ Hid (Below w.heap.size w wr)) (fun _ i _ => nn - (intOf i).toNat)
  case atStart => exact ⟨0, Nat.zero_le _, rfl, hide_ rfl, hide_ (Below.refl _ _)⟩
  case round =>
    obtain ⟨j, hj, rfl, HT, KB⟩ := hrel
    by_cases hlt : j < nn
    · have hlt' : (j : Int) < (nn : Int) := by omega
      have hj0 : (0 : Int) ≤ (j : Int) := by omega
      obtain ⟨x, hx⟩ : ∃ x, L[j]? = some x := ⟨_, List.getElem?_eq_getElem (by have := HNN.out; omega)⟩
      have hxC := HV.out.2 x (List.mem_of_getElem? hx)
      have lx := hide_ hxC.1
      obtain ⟨b, o, e1, hr⟩ := (HV.out.later KB.out).range hx
      subst e1
      have HR := hide_ hr
      have qc := fun W (hb : Below w.heap.size w W) => tells1 x h g hxC HH.out W (HA.out.later hb)
      have HX := hide_ hx
      unfold cv at qc
      clear hx hr hxC
      cases hz : hasC x h
      · rw [hz] at qc
        have qc := hide_ qc
        have HZ := hide_ hz
        clear hz
        go_wp2_with (first | (refine wpList_load_mid rfl 28 (.tmp 14) rfl b (o + j * 96) (by simp [Act.eval, Act.put]) (tdc x) _ HR.out Try.underlying28 rfl (szC lx.out) ?_) | (go_at_call 18; refine (qc.out _ KB.out).mono ?_; rintro e w1 ⟨rfl, b1⟩))
        go_roundw
        case rel => exact ⟨j + 1, by omega, by go_num, hide_ (by rw [List.take_add_one, HX.out, List.any_append, HT.out]; simp [HZ.out]), hide_ (KB.out.trans (b1.mono KB.out.size))⟩
        case measure => simp [intOf]; omega
      · rw [hz] at qc
        have qc := hide_ qc
        have HZ := hide_ hz
        clear hz
        go_wp2_with (first | (refine wpList_load_mid rfl 28 (.tmp 14) rfl b (o + j * 96) (by simp [Act.eval, Act.put]) (tdc x) _ HR.out Try.underlying28 rfl (szC lx.out) ?_) | (go_at_call 18; refine (qc.out _ KB.out).mono ?_; rintro e w1 ⟨rfl, b1⟩))
        go_ret
        refine ⟨⟨_, rfl, ?_⟩, KB.out.trans (b1.mono KB.out.size)⟩
        have e1 : L.any (fun x => hasC x h) = true := by
          rw [List.any_eq_true]
          exact ⟨_, List.mem_of_getElem? HX.out, HZ.out⟩
        rw [e1]
        simp
    · have hlt' : ¬ (j : Int) < (nn : Int) := by omega
      go_wp2_with fail
      go_ret
      refine ⟨⟨_, rfl, ?_⟩, KB.out⟩
      have e := HT.out
      rw [List.take_of_length_le (by have := HNN.out; omega)] at e
      rw [e]
      rfl

set_option maxRecDepth 100000 in
set_option maxHeartbeats 8000000 in
theorem cont1 (v : Value) (L : List (List Q4)) (h : List (Nat × Nat)) (g : Nat) (hh : isH h) (w : World) (hv : CubesAt w v L) (hn : L.length ≤ 100000) (hA : AB w g 33 (wdc h)) :
    Calls Try.prog 17 #[v, .func (.func 18) #[] #[.pointer (some ⟨g, 0, none⟩)]] w fun e w' => e = .returned (.bool (L.any (fun x => hasC x h))) ∧ Below w.heap.size w w' := by
  have q := hide_ (cont1i v L h g hh w hv hn hA)
  generalize L.any (fun x => hasC x h) = z at *
  obtain ⟨ad, cap, rfl, h1, h2⟩ := hv.form
  clear hv hh hn hA h1 h2
  go_enter Try.func17, Try.ntmps17
  go_wp2_with (go_at_call 30; refine q.out.mono ?_; rintro e w1 ⟨⟨i, rfl, hi⟩, b1⟩)
  go_ret
  exact ⟨by rw [← hi]; rfl, b1⟩

set_option maxRecDepth 100000 in
set_option maxHeartbeats 8000000 in
theorem cont2i (v : Value) (L : List (List Q4)) (h : List (Nat × Nat)) (g : Nat) (hh : isH h) (w : World) (hv : CubesAt w v L) (hn : L.length ≤ 100000) (hA : AB w g 33 (wdc h)) :
    Calls Try.prog 30 #[v, .func (.func 19) #[] #[.pointer (some ⟨g, 0, none⟩)]] w fun e w' => (∃ i : Int, e = .returned (.int .i64 i) ∧ decide (0 ≤ i) = L.any (fun x => hasC x h)) ∧ Below w.heap.size w w' := by
  have HV := hide_ hv
  have HA := hide_ hA
  have HH := hide_ hh
  obtain ⟨ad, cap, rfl, h1, h2⟩ := hv.form
  obtain ⟨nn, hnn⟩ : ∃ nn, L.length = nn := ⟨_, rfl⟩
  rw [hnn] at HV hn ⊢
  have HNN := hide_ hnn
  clear hnn hv h1 h2 hA hh
  obtain ⟨hz0, -⟩ := zero_of_info zC'
  go_enter Try.func30, Try.ntmps30
  go_wp2_with fail
  go_loopw [5, 8] (fun _ i wr => ∃ j : Nat, j ≤ nn ∧ i = .int .i64 j ∧ Hid ((L.take j).any (fun x => hasC x h) = false) ∧ Hid (Below w.heap.size w wr)) (fun _ i _ => nn - (intOf i).toNat)
  case atStart => exact ⟨0, Nat.zero_le _, rfl, hide_ rfl, hide_ (Below.refl _ _)⟩
  case round =>
    obtain ⟨j, hj, rfl, HT, KB⟩ := hrel
    by_cases hlt : j < nn
    · have hlt' : (j : Int) < (nn : Int) := by omega
      have hj0 : (0 : Int) ≤ (j : Int) := by omega
      obtain ⟨x, hx⟩ : ∃ x, L[j]? = some x := ⟨_, List.getElem?_eq_getElem (by have := HNN.out; omega)⟩
      have hxC := HV.out.2 x (List.mem_of_getElem? hx)
      have lx := hide_ hxC.1
      obtain ⟨b, o, e1, hr⟩ := (HV.out.later KB.out).range hx
      subst e1
      have HR := hide_ hr
      have qc := fun W (hb : Below w.heap.size w W) => tells2 x h g hxC HH.out W (HA.out.later hb)
      have HX := hide_ hx
      unfold cv at qc
      clear hx hr hxC
      cases hz : hasC x h
      · rw [hz] at qc
        have qc := hide_ qc
        have HZ := hide_ hz
        clear hz
        go_wp2_with (first | (refine wpList_load_mid rfl 28 (.tmp 14) rfl b (o + j * 96) (by simp [Act.eval, Act.put]) (tdc x) _ HR.out Try.underlying28 rfl (szC lx.out) ?_) | (go_at_call 19; refine (qc.out _ KB.out).mono ?_; rintro e w1 ⟨rfl, b1⟩))
        go_roundw
        case rel => exact ⟨j + 1, by omega, by go_num, hide_ (by rw [List.take_add_one, HX.out, List.any_append, HT.out]; simp [HZ.out]), hide_ (KB.out.trans (b1.mono KB.out.size))⟩
        case measure => simp [intOf]; omega
      · rw [hz] at qc
        have qc := hide_ qc
        have HZ := hide_ hz
        clear hz
        go_wp2_with (first | (refine wpList_load_mid rfl 28 (.tmp 14) rfl b (o + j * 96) (by simp [Act.eval, Act.put]) (tdc x) _ HR.out Try.underlying28 rfl (szC lx.out) ?_) | (go_at_call 19; refine (qc.out _ KB.out).mono ?_; rintro e w1 ⟨rfl, b1⟩))
        go_ret
        refine ⟨⟨_, rfl, ?_⟩, KB.out.trans (b1.mono KB.out.size)⟩
        have e1 : L.any (fun x => hasC x h) = true := by
          rw [List.any_eq_true]
          exact ⟨_, List.mem_of_getElem? HX.out, HZ.out⟩
        rw [e1]
        simp
    · have hlt' : ¬ (j : Int) < (nn : Int) := by omega
      go_wp2_with fail
      go_ret
      refine ⟨⟨_, rfl, ?_⟩, KB.out⟩
      have e := HT.out
      rw [List.take_of_length_le (by have := HNN.out; omega)] at e
      rw [e]
      rfl

set_option maxRecDepth 100000 in
set_option maxHeartbeats 8000000 in
theorem cont2 (v : Value) (L : List (List Q4)) (h : List (Nat × Nat)) (g : Nat) (hh : isH h) (w : World) (hv : CubesAt w v L) (hn : L.length ≤ 100000) (hA : AB w g 33 (wdc h)) :
    Calls Try.prog 17 #[v, .func (.func 19) #[] #[.pointer (some ⟨g, 0, none⟩)]] w fun e w' => e = .returned (.bool (L.any (fun x => hasC x h))) ∧ Below w.heap.size w w' := by
  have q := hide_ (cont2i v L h g hh w hv hn hA)
  generalize L.any (fun x => hasC x h) = z at *
  obtain ⟨ad, cap, rfl, h1, h2⟩ := hv.form
  clear hv hh hn hA h1 h2
  go_enter Try.func17, Try.ntmps17
  go_wp2_with (go_at_call 30; refine q.out.mono ?_; rintro e w1 ⟨⟨i, rfl, hi⟩, b1⟩)
  go_ret
  exact ⟨by rw [← hi]; rfl, b1⟩

end Go.Proofs.Ytbdbehdgpmfelaa
