import Derived.Test.YtbdbehdgpmfelaaYd
import Derived.Test.YtbdbehdgpmfelaaYe
import Derived.Deep.RegionHeld3
import Derived.Deep.MidRow
import Derived.Deep.Cut
namespace Go.Proofs.Ytbdbehdgpmfelaa
section
open Go Go.RowKit
set_option linter.unusedVariables false
set_option linter.unusedSimpArgs false

set_option maxRecDepth 100000 in
set_option maxHeartbeats 8000000 in
theorem ct_dark (c : List Q4) (L : List (List Q4)) (v : Value) (m : Int) (g : List (Nat × Nat)) (hc : isC c) (hg : isH g) (w : World) (hV : CubesAt w v L) (hl : lightB c L m = false) :
    Calls Try.prog 5 #[cv c, v, .int .i64 m, hv g] w fun e w' => e = .returned (.bool true) ∧ Below w.heap.size w w' := by
  have HV := hide_ hV
  have HC := hide_ hc
  have hlc := hide_ hc.1
  have HG := hide_ hg
  have lg := hide_ hg.1
  obtain ⟨ad, cap, rfl, h1, h2⟩ := hV.form
  have A0 := hide_ ((AB.at0 w 28 (tdc c)).alloc (.cells (wdc g).toArray 33))
  have G0 := hide_ (AB.at1 w (.cells (tdc c).toArray 28) 33 (wdc g))
  have B0 := hide_ (below2 w (.cells (tdc c).toArray 28) (.cells (wdc g).toArray 33))
  have aw := hide_ (fun w => awake8_any w)
  have ql := fun W (hb : Below w.heap.size w W) => light_any c L (.slice ad L.length cap) m hc W (hV.later hb)
  rw [hl] at ql
  obtain ⟨nn, hnn⟩ : ∃ nn, L.length = nn := ⟨_, rfl⟩
  rw [hnn] at ql ⊢
  clear hV hc hg h1 h2 hl hnn
  unfold cv hv at *
  have ql := hide_ ql
  go_enter Try.func5, Try.ntmps5
  go_wp2_with (first | (refine wpList_loadA Try.underlying28 (by first | rfl | kernel_rfl | (simp [Region.wanted, yielded]; done)) (.tmp 4) rfl w.heap.size (by simp [Act.eval, Act.put]) (tdc c) (szC hlc.out) A0.out ?_) | (go_at_call 7; refine (ql.out _ B0.out).mono ?_; rintro e w1 ⟨rfl, b1⟩; have b1 := hide_ b1) | (go_at_call 8; refine (aw.out _).mono ?_; rintro e w9 ⟨rfl, b9⟩))
  go_ret
  exact ⟨rfl, B0.out.trans ((b1.out.trans (b9.mono b1.out.size)).mono B0.out.size)⟩

set_option maxRecDepth 100000 in
set_option maxHeartbeats 8000000 in
theorem ct_err (c : List Q4) (L : List (List Q4)) (v : Value) (m : Int) (g : List (Nat × Nat)) (hc : isC c) (hg : isH g) (w : World) (hV : CubesAt w v L) (hl : lightB c L m = true) (he : (lookF m L.length L c 0).2.2.1 ≠ 0) :
    Calls Try.prog 5 #[cv c, v, .int .i64 m, hv g] w fun e w' => e = .returned (.bool true) ∧ Below w.heap.size w w' := by
  have HV := hide_ hV
  have HC := hide_ hc
  have hlc := hide_ hc.1
  have HG := hide_ hg
  have lg := hide_ hg.1
  obtain ⟨ad, cap, rfl, h1, h2⟩ := hV.form
  have A0 := hide_ ((AB.at0 w 28 (tdc c)).alloc (.cells (wdc g).toArray 33))
  have G0 := hide_ (AB.at1 w (.cells (tdc c).toArray 28) 33 (wdc g))
  have B0 := hide_ (below2 w (.cells (tdc c).toArray 28) (.cells (wdc g).toArray 33))
  have aw := hide_ (fun w => awake8_any w)
  have ql := fun W (hb : Below w.heap.size w W) => light_any c L (.slice ad L.length cap) m hc W (hV.later hb)
  have hn : L.length ≤ 12 := by
    unfold lightB at hl
    rw [Bool.and_eq_true, decide_eq_true_eq] at hl
    exact hl.1
  rw [hl] at ql
  have qk := fun W (hb : Below w.heap.size w W) => vlook_any c L (.slice ad L.length cap) m hc W (hV.later hb) (by omega)
  have lh := hide_ (lookF_len m L.length L c 0)
  obtain ⟨nn, hnn⟩ : ∃ nn, L.length = nn := ⟨_, rfl⟩
  have HNN := hide_ hnn
  generalize (lookF m L.length L c 0).1 = hh at *
  generalize (lookF m L.length L c 0).2.1 = ok at *
  generalize (lookF m L.length L c 0).2.2.1 = er at *
  rw [hnn] at ql qk HV ⊢
  have hne : (er != 0) = true := by simpa using he
  clear hV hc hg h1 h2 hl hnn
  unfold cv hv at *
  have ql := hide_ ql
  have qk := hide_ qk
  obtain ⟨hz1, -⟩ := zero_of_info zH'
  have hmf : ∀ (fn : Fn) (first cap : Array Value) (w : World), (Instr.makeFunc fn first cap).run Try.prog w = .ok (.func fn first cap) w := fun _ _ _ _ => rfl
  go_enter Try.func5, Try.ntmps5
  go_wp2_with (first | (refine wpList_loadA Try.underlying28 (by first | rfl | kernel_rfl | (simp [Region.wanted, yielded]; done)) (.tmp 4) rfl w.heap.size (by simp [Act.eval, Act.put]) (tdc c) (szC hlc.out) A0.out ?_) | (go_at_call 7; refine (ql.out _ B0.out).mono ?_; rintro e w1 ⟨rfl, b1⟩; have b1x := hide_ b1; have k1 := hide_ (B0.out.trans (b1.mono B0.out.size)); have A1 := hide_ (A0.out.later b1); clear b1) | (refine wpList_loadA Try.underlying28 (by first | rfl | kernel_rfl | (simp [Region.wanted, yielded]; done)) (.tmp 4) rfl w.heap.size (by simp [Act.eval, Act.put]) (tdc c) (szC hlc.out) A1.out ?_) | (go_at_call 9; refine (qk.out _ k1.out).mono ?_; rintro e w2 ⟨rfl, b2⟩; have k2 := hide_ (k1.out.trans (b2.mono k1.out.size)); have Z2 : Hid (AB (w2.alloc (.cells (wdc z24).toArray 33)) w2.heap.size 33 (wdc z24)) := hide_ (AB.at0 w2 33 (wdc z24)); have s2 : w.heap.size ≤ w2.heap.size := k2.out.size; have bs : Below w2.heap.size w2 ((w2.alloc (.cells (wdc z24).toArray 33)).setRow w2.heap.size (wdc hh).toArray) := (below1 w2 _).trans (below_row _ _ _ _ (Nat.le_refl _)); have k3 := hide_ (k2.out.trans (bs.mono k2.out.size)); have A3 := hide_ (((A0.out.later b1x.out).later b2).later bs); have G3 := hide_ (((G0.out.later b1x.out).later b2).later bs); have H3 := hide_ (Z2.out.row (cs' := wdc hh)); have b2 := hide_ b2; clear bs) | (refine wpList_storeA rfl (.tmp 9) (.tmp 23) rfl w2.heap.size (by simp [Act.eval, Act.put]) (wdc z24) (wdc hh) (by simp only [wdc_length, lh.out, z24_len]) (szW lh.out) (wdc_one _) (by simp [Act.eval, Act.put]) Z2.out ?_) | fail | (go_at_call 8; refine (aw.out _).mono ?_; rintro e w9 ⟨rfl, b9⟩))
  go_ret
  exact ⟨rfl, k3.out.trans (b9.mono k3.out.size)⟩
end

section
open Go Go.RowKit
set_option linter.unusedVariables false
set_option linter.unusedSimpArgs false

set_option maxRecDepth 100000 in
set_option maxHeartbeats 8000000 in
theorem ct_yes (c : List Q4) (L : List (List Q4)) (v : Value) (m : Int) (g : List (Nat × Nat)) (hc : isC c) (hg : isH g) (w : World) (hV : CubesAt w v L) (hl : lightB c L m = true) (he : (lookF m L.length L c 0).2.2.1 = 0) (hk : (lookF m L.length L c 0).2.1 = true) :
    Calls Try.prog 5 #[cv c, v, .int .i64 m, hv g] w fun e w' => e = .returned (.bool true) ∧ Below w.heap.size w w' := by
  have HV := hide_ hV
  have HC := hide_ hc
  have hlc := hide_ hc.1
  have HG := hide_ hg
  have lg := hide_ hg.1
  obtain ⟨ad, cap, rfl, h1, h2⟩ := hV.form
  have A0 := hide_ ((AB.at0 w 28 (tdc c)).alloc (.cells (wdc g).toArray 33))
  have G0 := hide_ (AB.at1 w (.cells (tdc c).toArray 28) 33 (wdc g))
  have B0 := hide_ (below2 w (.cells (tdc c).toArray 28) (.cells (wdc g).toArray 33))
  have aw := hide_ (fun w => awake8_any w)
  have ql := fun W (hb : Below w.heap.size w W) => light_any c L (.slice ad L.length cap) m hc W (hV.later hb)
  have hn : L.length ≤ 12 := by
    unfold lightB at hl
    rw [Bool.and_eq_true, decide_eq_true_eq] at hl
    exact hl.1
  rw [hl] at ql
  have qk := fun W (hb : Below w.heap.size w W) => vlook_any c L (.slice ad L.length cap) m hc W (hV.later hb) (by omega)
  have lh := hide_ (lookF_len m L.length L c 0)
  obtain ⟨t1, t2, t3⟩ := (look_tells m L.length L (Nat.le_refl _) hV.2 c hc 0).1 hk
  have qh := fun w => chas_any c _ hc t3 w
  rw [t1] at qh
  have qh := hide_ qh
  have HH := hide_ t3
  have HF : Hid (L.any (fun x => hasC x (lookF m L.length L c 0).1) = false) := hide_ (by
    rw [List.any_eq_false]
    intro x hx
    rw [t2 x hx]
    simp)
  rw [he, hk] at qk
  clear t1 t2 t3
  obtain ⟨nn, hnn⟩ : ∃ nn, L.length = nn := ⟨_, rfl⟩
  have HNN := hide_ hnn
  generalize (lookF m L.length L c 0).1 = hh at *
  generalize (lookF m L.length L c 0).2.1 = ok at *
  generalize (lookF m L.length L c 0).2.2.1 = er at *
  rw [hnn] at ql qk HV ⊢
  clear hV hc hg h1 h2 hl hnn
  unfold cv hv at *
  have ql := hide_ ql
  have qk := hide_ qk
  obtain ⟨hz1, -⟩ := zero_of_info zH'
  have hmf : ∀ (fn : Fn) (first cap : Array Value) (w : World), (Instr.makeFunc fn first cap).run Try.prog w = .ok (.func fn first cap) w := fun _ _ _ _ => rfl
  go_enter Try.func5, Try.ntmps5
  go_wp2_with (first | (refine wpList_loadA Try.underlying28 (by first | rfl | kernel_rfl | (simp [Region.wanted, yielded]; done)) (.tmp 4) rfl w.heap.size (by simp [Act.eval, Act.put]) (tdc c) (szC hlc.out) A0.out ?_) | (go_at_call 7; refine (ql.out _ B0.out).mono ?_; rintro e w1 ⟨rfl, b1⟩; have b1x := hide_ b1; have k1 := hide_ (B0.out.trans (b1.mono B0.out.size)); have A1 := hide_ (A0.out.later b1); clear b1) | (refine wpList_loadA Try.underlying28 (by first | rfl | kernel_rfl | (simp [Region.wanted, yielded]; done)) (.tmp 4) rfl w.heap.size (by simp [Act.eval, Act.put]) (tdc c) (szC hlc.out) A1.out ?_) | (go_at_call 9; refine (qk.out _ k1.out).mono ?_; rintro e w2 ⟨rfl, b2⟩; have k2 := hide_ (k1.out.trans (b2.mono k1.out.size)); have Z2 : Hid (AB (w2.alloc (.cells (wdc z24).toArray 33)) w2.heap.size 33 (wdc z24)) := hide_ (AB.at0 w2 33 (wdc z24)); have s2 : w.heap.size ≤ w2.heap.size := k2.out.size; have bs : Below w2.heap.size w2 ((w2.alloc (.cells (wdc z24).toArray 33)).setRow w2.heap.size (wdc hh).toArray) := (below1 w2 _).trans (below_row _ _ _ _ (Nat.le_refl _)); have k3 := hide_ (k2.out.trans (bs.mono k2.out.size)); have A3 := hide_ (((A0.out.later b1x.out).later b2).later bs); have G3 := hide_ (((G0.out.later b1x.out).later b2).later bs); have H3 := hide_ (Z2.out.row (cs' := wdc hh)); have b2 := hide_ b2; clear bs) | (refine wpList_storeA rfl (.tmp 9) (.tmp 23) rfl w2.heap.size (by simp [Act.eval, Act.put]) (wdc z24) (wdc hh) (by simp only [wdc_length, lh.out, z24_len]) (szW lh.out) (wdc_one _) (by simp [Act.eval, Act.put]) Z2.out ?_) | (refine wpList_loadA Try.underlying28 (by first | rfl | kernel_rfl | (simp [Region.wanted, yielded]; done)) (.tmp 4) rfl w.heap.size (by simp [Act.eval, Act.put]) (tdc c) (szC hlc.out) A3.out ?_) | (refine wpList_loadA Try.underlying33 (by first | rfl | kernel_rfl | (simp [Region.wanted, yielded]; done)) (.tmp 9) rfl w2.heap.size (by simp [Act.eval, Act.put]) (wdc hh) (szW lh.out) H3.out ?_) | (go_at_call 16; refine (qh.out _).mono ?_; rintro e w4 ⟨rfl, b4⟩; have k4 := hide_ (k3.out.trans (b4.mono k3.out.size)); have H4 := hide_ (H3.out.later b4); have V4 := hide_ (HV.out.later k4.out); clear b4) | (go_at_call 17; refine (cont1 _ L hh w2.heap.size HH.out _ V4.out (by have := HNN.out; omega) H4.out).mono ?_; rintro e w5 ⟨rfl, b5⟩; rw [HF.out]; have k5 := hide_ (k4.out.trans (b5.mono k4.out.size)); clear b5) | (go_at_call 8; refine (aw.out _).mono ?_; rintro e w9 ⟨rfl, b9⟩))
  go_ret
  exact ⟨rfl, k5.out.trans (b9.mono k5.out.size)⟩
end

section
open Go Go.RowKit
set_option linter.unusedVariables false
set_option linter.unusedSimpArgs false

set_option maxRecDepth 100000 in
set_option maxHeartbeats 8000000 in
theorem ct_no (c : List Q4) (L : List (List Q4)) (v : Value) (m : Int) (g : List (Nat × Nat)) (hc : isC c) (hg : isH g) (w : World) (hV : CubesAt w v L) (hl : lightB c L m = true) (he : (lookF m L.length L c 0).2.2.1 = 0) (hk : (lookF m L.length L c 0).2.1 = false) (hcg : hasC c g = true) :
    Calls Try.prog 5 #[cv c, v, .int .i64 m, hv g] w fun e w' => e = .returned (.bool true) ∧ Below w.heap.size w w' := by
  have HV := hide_ hV
  have HC := hide_ hc
  have hlc := hide_ hc.1
  have HG := hide_ hg
  have lg := hide_ hg.1
  obtain ⟨ad, cap, rfl, h1, h2⟩ := hV.form
  have A0 := hide_ ((AB.at0 w 28 (tdc c)).alloc (.cells (wdc g).toArray 33))
  have G0 := hide_ (AB.at1 w (.cells (tdc c).toArray 28) 33 (wdc g))
  have B0 := hide_ (below2 w (.cells (tdc c).toArray 28) (.cells (wdc g).toArray 33))
  have aw := hide_ (fun w => awake8_any w)
  have ql := fun W (hb : Below w.heap.size w W) => light_any c L (.slice ad L.length cap) m hc W (hV.later hb)
  have hn : L.length ≤ 12 := by
    unfold lightB at hl
    rw [Bool.and_eq_true, decide_eq_true_eq] at hl
    exact hl.1
  rw [hl] at ql
  have qk := fun W (hb : Below w.heap.size w W) => vlook_any c L (.slice ad L.length cap) m hc W (hV.later hb) (by omega)
  have lh := hide_ (lookF_len m L.length L c 0)
  have HF : Hid (L.any (fun x => hasC x g) = true) := hide_ (by
    obtain ⟨x, hx, hxg⟩ := (look_tells m L.length L (Nat.le_refl _) hV.2 c hc 0).2 hk he g hg hcg
    rw [List.any_eq_true]
    exact ⟨x, hx, hxg⟩)
  have qh := fun w => chas_any c g hc hg w
  rw [hcg] at qh
  have qh := hide_ qh
  rw [he, hk] at qk
  obtain ⟨nn, hnn⟩ : ∃ nn, L.length = nn := ⟨_, rfl⟩
  have HNN := hide_ hnn
  generalize (lookF m L.length L c 0).1 = hh at *
  generalize (lookF m L.length L c 0).2.1 = ok at *
  generalize (lookF m L.length L c 0).2.2.1 = er at *
  rw [hnn] at ql qk HV ⊢
  clear hV hc hg h1 h2 hl hnn
  unfold cv hv at *
  have ql := hide_ ql
  have qk := hide_ qk
  obtain ⟨hz1, -⟩ := zero_of_info zH'
  have hmf : ∀ (fn : Fn) (first cap : Array Value) (w : World), (Instr.makeFunc fn first cap).run Try.prog w = .ok (.func fn first cap) w := fun _ _ _ _ => rfl
  go_enter Try.func5, Try.ntmps5
  go_wp2_with (first | (refine wpList_loadA Try.underlying28 (by first | rfl | kernel_rfl | (simp [Region.wanted, yielded]; done)) (.tmp 4) rfl w.heap.size (by simp [Act.eval, Act.put]) (tdc c) (szC hlc.out) A0.out ?_) | (go_at_call 7; refine (ql.out _ B0.out).mono ?_; rintro e w1 ⟨rfl, b1⟩; have b1x := hide_ b1; have k1 := hide_ (B0.out.trans (b1.mono B0.out.size)); have A1 := hide_ (A0.out.later b1); clear b1) | (refine wpList_loadA Try.underlying28 (by first | rfl | kernel_rfl | (simp [Region.wanted, yielded]; done)) (.tmp 4) rfl w.heap.size (by simp [Act.eval, Act.put]) (tdc c) (szC hlc.out) A1.out ?_) | (go_at_call 9; refine (qk.out _ k1.out).mono ?_; rintro e w2 ⟨rfl, b2⟩; have k2 := hide_ (k1.out.trans (b2.mono k1.out.size)); have Z2 : Hid (AB (w2.alloc (.cells (wdc z24).toArray 33)) w2.heap.size 33 (wdc z24)) := hide_ (AB.at0 w2 33 (wdc z24)); have s2 : w.heap.size ≤ w2.heap.size := k2.out.size; have bs : Below w2.heap.size w2 ((w2.alloc (.cells (wdc z24).toArray 33)).setRow w2.heap.size (wdc hh).toArray) := (below1 w2 _).trans (below_row _ _ _ _ (Nat.le_refl _)); have k3 := hide_ (k2.out.trans (bs.mono k2.out.size)); have A3 := hide_ (((A0.out.later b1x.out).later b2).later bs); have G3 := hide_ (((G0.out.later b1x.out).later b2).later bs); have H3 := hide_ (Z2.out.row (cs' := wdc hh)); have b2 := hide_ b2; clear bs) | (refine wpList_storeA rfl (.tmp 9) (.tmp 23) rfl w2.heap.size (by simp [Act.eval, Act.put]) (wdc z24) (wdc hh) (by simp only [wdc_length, lh.out, z24_len]) (szW lh.out) (wdc_one _) (by simp [Act.eval, Act.put]) Z2.out ?_) | (refine wpList_loadA Try.underlying28 (by first | rfl | kernel_rfl | (simp [Region.wanted, yielded]; done)) (.tmp 4) rfl w.heap.size (by simp [Act.eval, Act.put]) (tdc c) (szC hlc.out) A3.out ?_) | (refine wpList_loadA Try.underlying33 (by first | rfl | kernel_rfl | (simp [Region.wanted, yielded]; done)) (.tmp 7) rfl (w.heap.size + 1) (by simp [Act.eval, Act.put]) (wdc g) (szW lg.out) G3.out ?_) | (go_at_call 16; refine (qh.out _).mono ?_; rintro e w4 ⟨rfl, b4⟩; have k4 := hide_ (k3.out.trans (b4.mono k3.out.size)); have G4 := hide_ (G3.out.later b4); have V4 := hide_ (HV.out.later k4.out); clear b4) | (go_at_call 17; refine (cont2 _ L g (w.heap.size + 1) HG.out _ V4.out (by have := HNN.out; omega) G4.out).mono ?_; rintro e w5 ⟨rfl, b5⟩; rw [HF.out]; have k5 := hide_ (k4.out.trans (b5.mono k4.out.size)); clear b5) | (go_at_call 8; refine (aw.out _).mono ?_; rintro e w9 ⟨rfl, b9⟩))
  go_ret
  exact ⟨rfl, k5.out.trans (b9.mono k5.out.size)⟩
end

section
open Go Go.RowKit
set_option linter.unusedVariables false
set_option linter.unusedSimpArgs false

set_option maxRecDepth 100000 in
set_option maxHeartbeats 8000000 in
theorem ct_out (c : List Q4) (L : List (List Q4)) (v : Value) (m : Int) (g : List (Nat × Nat)) (hc : isC c) (hg : isH g) (w : World) (hV : CubesAt w v L) (hl : lightB c L m = true) (he : (lookF m L.length L c 0).2.2.1 = 0) (hk : (lookF m L.length L c 0).2.1 = false) (hcg : hasC c g = false) :
    Calls Try.prog 5 #[cv c, v, .int .i64 m, hv g] w fun e w' => e = .returned (.bool true) ∧ Below w.heap.size w w' := by
  have HV := hide_ hV
  have HC := hide_ hc
  have hlc := hide_ hc.1
  have HG := hide_ hg
  have lg := hide_ hg.1
  obtain ⟨ad, cap, rfl, h1, h2⟩ := hV.form
  have A0 := hide_ ((AB.at0 w 28 (tdc c)).alloc (.cells (wdc g).toArray 33))
  have G0 := hide_ (AB.at1 w (.cells (tdc c).toArray 28) 33 (wdc g))
  have B0 := hide_ (below2 w (.cells (tdc c).toArray 28) (.cells (wdc g).toArray 33))
  have aw := hide_ (fun w => awake8_any w)
  have ql := fun W (hb : Below w.heap.size w W) => light_any c L (.slice ad L.length cap) m hc W (hV.later hb)
  have hn : L.length ≤ 12 := by
    unfold lightB at hl
    rw [Bool.and_eq_true, decide_eq_true_eq] at hl
    exact hl.1
  rw [hl] at ql
  have qk := fun W (hb : Below w.heap.size w W) => vlook_any c L (.slice ad L.length cap) m hc W (hV.later hb) (by omega)
  have lh := hide_ (lookF_len m L.length L c 0)
  have qh := fun w => chas_any c g hc hg w
  rw [hcg] at qh
  have qh := hide_ qh
  rw [he, hk] at qk
  obtain ⟨nn, hnn⟩ : ∃ nn, L.length = nn := ⟨_, rfl⟩
  have HNN := hide_ hnn
  generalize (lookF m L.length L c 0).1 = hh at *
  generalize (lookF m L.length L c 0).2.1 = ok at *
  generalize (lookF m L.length L c 0).2.2.1 = er at *
  rw [hnn] at ql qk HV ⊢
  clear hV hc hg h1 h2 hl hnn
  unfold cv hv at *
  have ql := hide_ ql
  have qk := hide_ qk
  obtain ⟨hz1, -⟩ := zero_of_info zH'
  have hmf : ∀ (fn : Fn) (first cap : Array Value) (w : World), (Instr.makeFunc fn first cap).run Try.prog w = .ok (.func fn first cap) w := fun _ _ _ _ => rfl
  go_enter Try.func5, Try.ntmps5
  go_wp2_with (first | (refine wpList_loadA Try.underlying28 (by first | rfl | kernel_rfl | (simp [Region.wanted, yielded]; done)) (.tmp 4) rfl w.heap.size (by simp [Act.eval, Act.put]) (tdc c) (szC hlc.out) A0.out ?_) | (go_at_call 7; refine (ql.out _ B0.out).mono ?_; rintro e w1 ⟨rfl, b1⟩; have b1x := hide_ b1; have k1 := hide_ (B0.out.trans (b1.mono B0.out.size)); have A1 := hide_ (A0.out.later b1); clear b1) | (refine wpList_loadA Try.underlying28 (by first | rfl | kernel_rfl | (simp [Region.wanted, yielded]; done)) (.tmp 4) rfl w.heap.size (by simp [Act.eval, Act.put]) (tdc c) (szC hlc.out) A1.out ?_) | (go_at_call 9; refine (qk.out _ k1.out).mono ?_; rintro e w2 ⟨rfl, b2⟩; have k2 := hide_ (k1.out.trans (b2.mono k1.out.size)); have Z2 : Hid (AB (w2.alloc (.cells (wdc z24).toArray 33)) w2.heap.size 33 (wdc z24)) := hide_ (AB.at0 w2 33 (wdc z24)); have s2 : w.heap.size ≤ w2.heap.size := k2.out.size; have bs : Below w2.heap.size w2 ((w2.alloc (.cells (wdc z24).toArray 33)).setRow w2.heap.size (wdc hh).toArray) := (below1 w2 _).trans (below_row _ _ _ _ (Nat.le_refl _)); have k3 := hide_ (k2.out.trans (bs.mono k2.out.size)); have A3 := hide_ (((A0.out.later b1x.out).later b2).later bs); have G3 := hide_ (((G0.out.later b1x.out).later b2).later bs); have H3 := hide_ (Z2.out.row (cs' := wdc hh)); have b2 := hide_ b2; clear bs) | (refine wpList_storeA rfl (.tmp 9) (.tmp 23) rfl w2.heap.size (by simp [Act.eval, Act.put]) (wdc z24) (wdc hh) (by simp only [wdc_length, lh.out, z24_len]) (szW lh.out) (wdc_one _) (by simp [Act.eval, Act.put]) Z2.out ?_) | (refine wpList_loadA Try.underlying28 (by first | rfl | kernel_rfl | (simp [Region.wanted, yielded]; done)) (.tmp 4) rfl w.heap.size (by simp [Act.eval, Act.put]) (tdc c) (szC hlc.out) A3.out ?_) | (refine wpList_loadA Try.underlying33 (by first | rfl | kernel_rfl | (simp [Region.wanted, yielded]; done)) (.tmp 7) rfl (w.heap.size + 1) (by simp [Act.eval, Act.put]) (wdc g) (szW lg.out) G3.out ?_) | (go_at_call 16; refine (qh.out _).mono ?_; rintro e w4 ⟨rfl, b4⟩; have k4 := hide_ (k3.out.trans (b4.mono k3.out.size)); have G4 := hide_ (G3.out.later b4); have V4 := hide_ (HV.out.later k4.out); clear b4) | (go_at_call 8; refine (aw.out _).mono ?_; rintro e w9 ⟨rfl, b9⟩))
  go_ret
  exact ⟨rfl, k4.out.trans (b9.mono k4.out.size)⟩
end

section
open Go Go.RowKit
set_option linter.unusedVariables false
set_option linter.unusedSimpArgs false

theorem coverTells_walk (c : List Q4) (L : List (List Q4)) (v : Value) (m : Int) (g : List (Nat × Nat)) (hc : isC c) (hg : isH g) (w : World) (hV : CubesAt w v L) :
    Calls Try.prog 5 #[cv c, v, .int .i64 m, hv g] w fun e w' => e = .returned (.bool true) ∧ Below w.heap.size w w' := by
  cases hl : lightB c L m
  · exact ct_dark c L v m g hc hg w hV hl
  · by_cases he : (lookF m L.length L c 0).2.2.1 = 0
    · cases hk : (lookF m L.length L c 0).2.1
      · cases hcg : hasC c g
        · exact ct_out c L v m g hc hg w hV hl he hk hcg
        · exact ct_no c L v m g hc hg w hV hl he hk hcg
      · exact ct_yes c L v m g hc hg w hV hl he hk
    · exact ct_err c L v m g hc hg w hV hl he
end

end Go.Proofs.Ytbdbehdgpmfelaa
