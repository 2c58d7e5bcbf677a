import Derived.Test.YtbdbehdgpmfelaaYd
import Derived.Test.YtbdbehdgpmfelaaYe
import Derived.Deep.RegionHeld3
import Derived.Deep.MidRow
import Derived.Deep.Cut
namespace Go.Proofs.Ytbdbehdgpmfelaa
open Go Go.RowKit
set_option linter.unusedVariables false
set_option linter.unusedSimpArgs false

set_option maxRecDepth 100000 in
set_option maxHeartbeats 8000000 in
theorem ce_dark (c : List Q4) (L : List (List Q4)) (v : Value) (x : Nat) (hx : x < 4294967296) (hc : isC c) (w : World) (hV : CubesAt w v L) (hn : L.length * 768 ≤ 140737488355328) (hd : 12 < L.length ∨ (L.length ≤ 12 ∧ 16384 < bnd (meetsC c L) (meetsC c L).length)) :
    Calls Try.prog 6 #[cv c, v, .int .u32 (x : Int)] w fun e w' => e = .returned (.bool true) ∧ Below w.heap.size w w' := by
  have HV := hide_ hV
  have hlc := hide_ hc.1
  obtain ⟨ad, cap, rfl, h1, h2⟩ := hV.form
  have A0 := hide_ (AB.at0 w 28 (tdc c))
  have B0 := hide_ (below1 w (.cells (tdc c).toArray 28))
  have aw := hide_ (fun w => awake8_any w)
  have qb := fun W (hb : Below w.heap.size w W) => vbound_any c L (.slice ad L.length cap) hc W (hV.later hb) hn
  generalize bnd (meetsC c L) (meetsC c L).length = N at *
  obtain ⟨nn, hnn⟩ : ∃ nn, L.length = nn := ⟨_, rfl⟩
  rw [hnn] at qb hd ⊢
  clear hV hc h1 h2 hnn hn
  unfold cv at *
  have qb := hide_ qb
  rcases hd with hd | ⟨hd, hd2⟩
  · have g1 : (12 : Int) < (nn : Int) := by omega
    go_enter Try.func6, Try.ntmps6
    go_wp2_with (first | (refine wpList_loadA Try.underlying28 (by first | rfl | kernel_rfl | (simp [Region.wanted, yielded]; done)) (.tmp 3) rfl w.heap.size (by simp [Act.eval, Act.put]) (tdc c) (szC hlc.out) A0.out ?_) | (go_at_call 14; refine (qb.out _ B0.out).mono ?_; rintro e w1 ⟨rfl, b1⟩; have k1 := hide_ (B0.out.trans (b1.mono B0.out.size)); have A1 := hide_ (A0.out.later b1); clear b1) | (go_at_call 8; refine (aw.out _).mono ?_; rintro e w9 ⟨rfl, b9⟩))
    go_ret
    exact ⟨rfl, k1.out.trans (b9.mono k1.out.size)⟩
  · have g1 : ¬ (12 : Int) < (nn : Int) := by omega
    have g2 : (16384 : Int) < (N : Int) := by omega
    go_enter Try.func6, Try.ntmps6
    go_wp2_with (first | (refine wpList_loadA Try.underlying28 (by first | rfl | kernel_rfl | (simp [Region.wanted, yielded]; done)) (.tmp 3) rfl w.heap.size (by simp [Act.eval, Act.put]) (tdc c) (szC hlc.out) A0.out ?_) | (go_at_call 14; refine (qb.out _ B0.out).mono ?_; rintro e w1 ⟨rfl, b1⟩; have k1 := hide_ (B0.out.trans (b1.mono B0.out.size)); have A1 := hide_ (A0.out.later b1); clear b1) | (go_at_call 8; refine (aw.out _).mono ?_; rintro e w9 ⟨rfl, b9⟩))
    go_ret
    exact ⟨rfl, k1.out.trans (b9.mono k1.out.size)⟩

set_option maxRecDepth 100000 in
set_option maxHeartbeats 8000000 in
theorem ce_light (c : List Q4) (L : List (List Q4)) (v : Value) (x : Nat) (hx : x < 4294967296) (hc : isC c) (w : World) (hV : CubesAt w v L) (hn : L.length * 768 ≤ 140737488355328) (h12 : L.length ≤ 12) (h14 : bnd (meetsC c L) (meetsC c L).length ≤ 16384) :
    Calls Try.prog 6 #[cv c, v, .int .u32 (x : Int)] w fun e w' => e = .returned (.bool true) ∧ Below w.heap.size w w' := by
  have HV := hide_ hV
  have hlc := hide_ hc.1
  obtain ⟨ad, cap, rfl, h1, h2⟩ := hV.form
  have A0 := hide_ (AB.at0 w 28 (tdc c))
  have B0 := hide_ (below1 w (.cells (tdc c).toArray 28))
  have aw := hide_ (fun w => awake8_any w)
  have qb := fun W (hb : Below w.heap.size w W) => vbound_any c L (.slice ad L.length cap) hc W (hV.later hb) hn
  have hb := bnd_bound c L
  have hst := stp_bound L.length L (Nat.le_refl _) hV.2 c hc
  have hlen := lookF_len (bnd (meetsC c L) (meetsC c L).length : Nat) L.length L c 0
  have q1 := fun W (hb : Below w.heap.size w W) => vlook_any c L (.slice ad L.length cap) (bnd (meetsC c L) (meetsC c L).length : Nat) hc W (hV.later hb) (by omega)
  have q2 := fun W (hb : Below w.heap.size w W) => vlook_any c L (.slice ad L.length cap) ((bnd (meetsC c L) (meetsC c L).length : Nat) + (x : Int)) hc W (hV.later hb) (by omega)
  generalize bnd (meetsC c L) (meetsC c L).length = N at *
  have hs : (stp L.length L c : Nat) ≤ N := by omega
  obtain ⟨a1, a2, a3, -, -⟩ := look_enough (m := (N : Int)) (by omega) L.length L (Nat.le_refl _) c 0 (by omega) (by omega)
  obtain ⟨c1, c2, c3, -, -⟩ := look_enough (m := (N : Int) + (x : Int)) (by omega) L.length L (Nat.le_refl _) c 0 (by omega) (by omega)
  rw [a1] at hlen
  rw [a1, a2, a3] at q1
  rw [c1, c2, c3] at q2
  generalize (looU L.length L c).1 = hh at *
  generalize (looU L.length L c).2 = ok at *
  have lh := hide_ hlen
  have heq := fun w => run_heqIn hh hh hlen hlen w
  rw [decide_eq_true rfl] at heq
  have eO : (ok == ok) = true := by simp
  have hwx : IntKind.i64.wrap (x : Int) = (x : Int) := by rw [IntKind.wrap_i64]; omega
  have hwn : IntKind.i64.wrap ((N : Int) + (x : Int)) = (N : Int) + (x : Int) := by rw [IntKind.wrap_i64]; omega
  obtain ⟨nn, hnn⟩ : ∃ nn, L.length = nn := ⟨_, rfl⟩
  rw [hnn] at qb q1 q2 h12 ⊢
  have g1 : ¬ (12 : Int) < (nn : Int) := by omega
  have g2 : ¬ (16384 : Int) < (N : Int) := by omega
  clear hV hc h1 h2 hnn hn hb hst hs a1 a2 a3 c1 c2 c3 hlen h12
  unfold cv hv at *
  have qb := hide_ qb
  have q1 := hide_ q1
  have q2 := hide_ q2
  obtain ⟨hz1, -⟩ := zero_of_info zH'
  go_enter Try.func6, Try.ntmps6
  go_wp2_with (first | (refine wpList_loadA Try.underlying28 (by first | rfl | kernel_rfl | (simp [Region.wanted, yielded]; done)) (.tmp 3) rfl w.heap.size (by simp [Act.eval, Act.put]) (tdc c) (szC hlc.out) A0.out ?_) | (go_at_call 14; refine (qb.out _ B0.out).mono ?_; rintro e w1 ⟨rfl, b1⟩; have k1 := hide_ (B0.out.trans (b1.mono B0.out.size)); have A1 := hide_ (A0.out.later b1); clear b1) | (refine wpList_loadA Try.underlying28 (by first | rfl | kernel_rfl | (simp [Region.wanted, yielded]; done)) (.tmp 3) rfl w.heap.size (by simp [Act.eval, Act.put]) (tdc c) (szC hlc.out) A1.out ?_) | (go_at_call 9; refine (q2.out _ kk2.out).mono ?_; rintro e w4 ⟨rfl, b4⟩; have k4 := hide_ (kk2.out.trans (b4.mono kk2.out.size)); have Z4 : Hid (AB (w4.alloc (.cells (wdc z24).toArray 33)) w4.heap.size 33 (wdc z24)) := hide_ (AB.at0 w4 33 (wdc z24)); have s4 : w.heap.size ≤ w4.heap.size := k4.out.size; have bs : Below w4.heap.size w4 ((w4.alloc (.cells (wdc z24).toArray 33)).setRow w4.heap.size (wdc hh).toArray) := (below1 w4 _).trans (below_row _ _ _ _ (Nat.le_refl _)); have kk4 := hide_ (k4.out.trans (bs.mono k4.out.size)); have AA4 := hide_ ((AA2.out.later b4).later bs); have HH4 := hide_ (Z4.out.row (cs' := wdc hh)); have HG4 := hide_ ((HH2.out.later b4).later bs); clear bs) | (go_at_call 9; refine (q1.out _ k1.out).mono ?_; rintro e w2 ⟨rfl, b2⟩; have k2 := hide_ (k1.out.trans (b2.mono k1.out.size)); have Z2 : Hid (AB (w2.alloc (.cells (wdc z24).toArray 33)) w2.heap.size 33 (wdc z24)) := hide_ (AB.at0 w2 33 (wdc z24)); have s2 : w.heap.size ≤ w2.heap.size := k2.out.size; have bs : Below w2.heap.size w2 ((w2.alloc (.cells (wdc z24).toArray 33)).setRow w2.heap.size (wdc hh).toArray) := (below1 w2 _).trans (below_row _ _ _ _ (Nat.le_refl _)); have kk2 := hide_ (k2.out.trans (bs.mono k2.out.size)); have AA2 := hide_ ((A1.out.later b2).later bs); have HH2 := hide_ (Z2.out.row (cs' := wdc hh)); clear bs) | (refine wpList_storeA rfl (.tmp 11) (.tmp 41) rfl w4.heap.size (by simp [Act.eval, Act.put]) (wdc z24) (wdc hh) (by simp only [wdc_length, lh.out, z24_len]) (szW lh.out) (wdc_one _) (by simp [Act.eval, Act.put]) Z4.out ?_) | (refine wpList_storeA rfl (.tmp 8) (.tmp 30) rfl w2.heap.size (by simp [Act.eval, Act.put]) (wdc z24) (wdc hh) (by simp only [wdc_length, lh.out, z24_len]) (szW lh.out) (wdc_one _) (by simp [Act.eval, Act.put]) Z2.out ?_) | (refine wpList_loadA Try.underlying28 (by first | rfl | kernel_rfl | (simp [Region.wanted, yielded]; done)) (.tmp 3) rfl w.heap.size (by simp [Act.eval, Act.put]) (tdc c) (szC hlc.out) AA2.out ?_) | (refine wpList_loadA Try.underlying33 (by first | rfl | kernel_rfl | (simp [Region.wanted, yielded]; done)) (.tmp 8) rfl w2.heap.size (by simp [Act.eval, Act.put]) (wdc hh) (szW lh.out) HG4.out ?_) | (refine wpList_loadA Try.underlying33 (by first | rfl | kernel_rfl | (simp [Region.wanted, yielded]; done)) (.tmp 11) rfl w4.heap.size (by simp [Act.eval, Act.put]) (wdc hh) (szW lh.out) HH4.out ?_) | (go_at_call 8; refine (aw.out _).mono ?_; rintro e w9 ⟨rfl, b9⟩))
  go_ret
  exact ⟨rfl, kk4.out.trans (b9.mono kk4.out.size)⟩

theorem coverEnough_walk (c : List Q4) (L : List (List Q4)) (v : Value) (x : Nat) (hx : x < 4294967296) (hc : isC c) (w : World) (hV : CubesAt w v L) (hn : L.length * 768 ≤ 140737488355328) :
    Calls Try.prog 6 #[cv c, v, .int .u32 (x : Int)] w fun e w' => e = .returned (.bool true) ∧ Below w.heap.size w w' := by
  by_cases h12 : L.length ≤ 12
  · by_cases h14 : bnd (meetsC c L) (meetsC c L).length ≤ 16384
    · exact ce_light c L v x hx hc w hV hn h12 h14
    · exact ce_dark c L v x hx hc w hV hn (.inr ⟨h12, by omega⟩)
  · exact ce_dark c L v x hx hc w hV hn (.inl (by omega))

end Go.Proofs.Ytbdbehdgpmfelaa
