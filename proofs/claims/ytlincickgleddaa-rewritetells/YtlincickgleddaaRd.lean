import Derived.Test.YtlincickgleddaaRc
import Derived.Test.YtlincickgleddaaRx
import Derived.Deep.RegionHeld3
import Derived.Deep.RegionWith
import Derived.Deep.MidRow
import Derived.Deep.Cut
namespace Go.Proofs.Ytlincickgleddaa
open Go Go.RowKit
set_option linter.unusedVariables false
set_option linter.unusedSimpArgs false

set_option maxRecDepth 100000 in
set_option maxHeartbeats 2000000 in
theorem rwthen_any (l m : List Q4) (hl : isC l) (hm : isC m) (w : World) :
    Calls Try.prog 12 #[cv l, cv m] w fun e w' => e = .returned (cv (thenC l m)) ∧ Below w.heap.size w w' := by
  have A0 := ((AB.at0 w 28 (tdc l)).alloc (.cells (tdc m).toArray 28)).alloc (.cells (tdc z24q).toArray 28)
  have H0 := (AB.at1 w (.cells (tdc l).toArray 28) 28 (tdc m)).alloc (.cells (tdc z24q).toArray 28)
  have Z0 := AB.at2 w (.cells (tdc l).toArray 28) (.cells (tdc m).toArray 28) 28 (tdc z24q)
  have B0 := hide_ (below3 w (.cells (tdc l).toArray 28) (.cells (tdc m).toArray 28) (.cells (tdc z24q).toArray 28))
  have q := bthen (.pointer (some ⟨w.heap.size, 0, none⟩)) (.pointer (some ⟨(w.heap.size + 1), 0, none⟩)) (fun k => over4 (cq l k) (cq m k)) (((w.alloc (.cells (tdc l).toArray 28)).alloc (.cells (tdc m).toArray 28)).alloc (.cells (tdc z24q).toArray 28)) (fun k hk W' hb => by
    obtain ⟨a, b, c, d, e1, h1, h2, h3, h4⟩ := hl.get hk
    obtain ⟨a2, b2, c2, d2, e2, k1, k2, k3, k4⟩ := hm.get hk
    have := rthen_fn l m w.heap.size (w.heap.size + 1) k a b c d a2 b2 c2 d2 W' hk e1 e2 h1 h2 h3 h4 k1 k2 k3 k4 (A0.later hb) (H0.later hb)
    show Calls Try.prog 37 #[.int .i64 (k : Int), _, _] W' fun e W'' => e = .returned (td4 (over4 (cq l k) (cq m k))) ∧ _
    rw [cq_at e1, cq_at e2]
    exact this)
  have hlen : (thenC l m).length = 24 := map_len _
  change Calls Try.prog 36 _ _ fun e w' => e = .returned (cv (thenC l m)) ∧ _ at q
  generalize thenC l m = r at *
  have q := hide_ q
  have HZ := hide_ Z0
  have HL := hide_ hlen
  clear A0 H0 Z0 hlen
  unfold cv at *
  obtain ⟨hz0, -⟩ := zero_of_info zR'
  have hmf : ∀ (fn : Fn) (first cap : Array Value) (w : World), (Instr.makeFunc fn first cap).run Try.prog w = .ok (.func fn first cap) w := fun _ _ _ _ => rfl
  go_enter Try.func12, Try.ntmps12
  go_wp2_with (first | (go_at_call 36; refine q.out.mono ?_; rintro e w1 ⟨rfl, b1⟩; have HZ1 := hide_ (HZ.out.later b1)) | (refine wpList_storeA rfl (.tmp 4) (.tmp 6) rfl (w.heap.size + 1 + 1) (by simp [Act.eval, Act.put]) (tdc z24q) (tdc r) (by rw [tdc_length, tdc_length, HL.out, z24q_len]) (szR HL.out) (tdc_one _) (by simp [Act.eval, Act.put]) HZ1.out ?_))
  exact bodyPost_ret (results_A Try.underlying28 Try.results12 _ _ (w.heap.size + 1 + 1) (tdc r) (szR HL.out) rfl HZ1.out.row) rfl ⟨rfl, (B0.out.trans (b1.mono B0.out.size)).trans (below_row _ _ _ _ (by omega))⟩

set_option maxRecDepth 100000 in
set_option maxHeartbeats 2000000 in
theorem rwafter_any (l m : List Q4) (hl : isC l) (hm : isC m) (w : World) :
    Calls Try.prog 14 #[cv l, cv m] w fun e w' => e = .returned (cv (thenC m l)) ∧ Below w.heap.size w w' := by
  have A0 := ((AB.at0 w 28 (tdc l)).alloc (.cells (tdc m).toArray 29)).alloc (.cells (tdc z24q).toArray 29)
  have H0 := (AB.at1 w (.cells (tdc l).toArray 28) 29 (tdc m)).alloc (.cells (tdc z24q).toArray 29)
  have Z0 := AB.at2 w (.cells (tdc l).toArray 28) (.cells (tdc m).toArray 29) 29 (tdc z24q)
  have B0 := hide_ (below3 w (.cells (tdc l).toArray 28) (.cells (tdc m).toArray 29) (.cells (tdc z24q).toArray 29))
  have q := bafter (.pointer (some ⟨(w.heap.size + 1), 0, none⟩)) (.pointer (some ⟨w.heap.size, 0, none⟩)) (fun k => over4 (cq m k) (cq l k)) (((w.alloc (.cells (tdc l).toArray 28)).alloc (.cells (tdc m).toArray 29)).alloc (.cells (tdc z24q).toArray 29)) (fun k hk W' hb => by
    obtain ⟨a, b, c, d, e1, h1, h2, h3, h4⟩ := hl.get hk
    obtain ⟨a2, b2, c2, d2, e2, k1, k2, k3, k4⟩ := hm.get hk
    have := rafter_fn m l (w.heap.size + 1) w.heap.size k a2 b2 c2 d2 a b c d W' hk e2 e1 k1 k2 k3 k4 h1 h2 h3 h4 (H0.later hb) (A0.later hb)
    show Calls Try.prog 39 #[.int .i64 (k : Int), _, _] W' fun e W'' => e = .returned (td4 (over4 (cq m k) (cq l k))) ∧ _
    rw [cq_at e2, cq_at e1]
    exact this)
  have hlen : (thenC m l).length = 24 := map_len _
  change Calls Try.prog 25 _ _ fun e w' => e = .returned (cv (thenC m l)) ∧ _ at q
  generalize thenC m l = r at *
  have q := hide_ q
  have HZ := hide_ Z0
  have HL := hide_ hlen
  clear A0 H0 Z0 hlen
  unfold cv at *
  obtain ⟨hz0, -⟩ := zero_of_info zC'
  have hmf : ∀ (fn : Fn) (first cap : Array Value) (w : World), (Instr.makeFunc fn first cap).run Try.prog w = .ok (.func fn first cap) w := fun _ _ _ _ => rfl
  go_enter Try.func14, Try.ntmps14
  go_wp2_with (first | (go_at_call 25; refine q.out.mono ?_; rintro e w1 ⟨rfl, b1⟩; have HZ1 := hide_ (HZ.out.later b1)) | (refine wpList_storeA rfl (.tmp 4) (.tmp 6) rfl (w.heap.size + 1 + 1) (by simp [Act.eval, Act.put]) (tdc z24q) (tdc r) (by rw [tdc_length, tdc_length, HL.out, z24q_len]) (szC HL.out) (tdc_one _) (by simp [Act.eval, Act.put]) HZ1.out ?_))
  exact bodyPost_ret (results_A Try.underlying29 Try.results14 _ _ (w.heap.size + 1 + 1) (tdc r) (szC HL.out) rfl HZ1.out.row) rfl ⟨rfl, (B0.out.trans (b1.mono B0.out.size)).trans (below_row _ _ _ _ (by omega))⟩

set_option maxRecDepth 100000 in
set_option maxHeartbeats 2000000 in
theorem rwclean_any (l : List Q4) (hl : isC l) (w : World) :
    Calls Try.prog 16 #[cv l] w fun e w' => e = .returned (cv (cleanC l)) ∧ Below w.heap.size w w' := by
  have A0 := (AB.at0 w 28 (tdc l)).alloc (.cells (tdc z24q).toArray 28)
  have Z0 := AB.at1 w (.cells (tdc l).toArray 28) 28 (tdc z24q)
  have B0 := hide_ (below2 w (.cells (tdc l).toArray 28) (.cells (tdc z24q).toArray 28))
  have q := bclean (.pointer (some ⟨w.heap.size, 0, none⟩)) (fun k => clean4 (cq l k)) ((w.alloc (.cells (tdc l).toArray 28)).alloc (.cells (tdc z24q).toArray 28)) (fun k hk W' hb => by
    obtain ⟨a, b, c, d, e1, h1, h2, h3, h4⟩ := hl.get hk
    have := rclean_fn l w.heap.size k a b c d W' hk e1 h1 h2 h3 h4 (A0.later hb)
    show Calls Try.prog 40 #[.int .i64 (k : Int), _] W' fun e W'' => e = .returned (td4 (clean4 (cq l k))) ∧ _
    rw [cq_at e1]
    exact this)
  have hlen : (cleanC l).length = 24 := map_len _
  change Calls Try.prog 36 _ _ fun e w' => e = .returned (cv (cleanC l)) ∧ _ at q
  generalize cleanC l = r at *
  have q := hide_ q
  have HZ := hide_ Z0
  have HL := hide_ hlen
  clear A0 Z0 hlen
  unfold cv at *
  obtain ⟨hz0, -⟩ := zero_of_info zR'
  have hmf : ∀ (fn : Fn) (first cap : Array Value) (w : World), (Instr.makeFunc fn first cap).run Try.prog w = .ok (.func fn first cap) w := fun _ _ _ _ => rfl
  go_enter Try.func16, Try.ntmps16
  go_wp2_with (first | (go_at_call 36; refine q.out.mono ?_; rintro e w1 ⟨rfl, b1⟩; have HZ1 := hide_ (HZ.out.later b1)) | (refine wpList_storeA rfl (.tmp 2) (.tmp 4) rfl (w.heap.size + 1) (by simp [Act.eval, Act.put]) (tdc z24q) (tdc r) (by rw [tdc_length, tdc_length, HL.out, z24q_len]) (szR HL.out) (tdc_one _) (by simp [Act.eval, Act.put]) HZ1.out ?_))
  exact bodyPost_ret (results_A Try.underlying28 Try.results16 _ _ (w.heap.size + 1) (tdc r) (szR HL.out) rfl HZ1.out.row) rfl ⟨rfl, (B0.out.trans (b1.mono B0.out.size)).trans (below_row _ _ _ _ (by omega))⟩

set_option maxRecDepth 100000 in
set_option maxHeartbeats 2000000 in
theorem rwset_any (l : List Q4) (i : Int) (x y z t : Nat) (hl : isC l) (w : World) (hx : x < 18446744073709551616) (hy : y < 18446744073709551616) (hz : z < 18446744073709551616) (ht : t < 18446744073709551616) :
    Calls Try.prog 21 #[cv l, .int .i64 i, wd x y, wd z t] w fun e w' => e = .returned (cv (setC l i (x, y, z, t))) ∧ Below w.heap.size w w' := by
  have A0 := ((((AB.at0 w 28 (tdc l)).alloc (.cells #[.int .i64 i] 3)).alloc (.cells #[.int .u64 (x : Int), .int .u64 (y : Int)] 24)).alloc (.cells #[.int .u64 (z : Int), .int .u64 (t : Int)] 24)).alloc (.cells (tdc z24q).toArray 28)
  have I0 := (((AB.at1 w (.cells (tdc l).toArray 28) 3 [.int .i64 i]).alloc (.cells #[.int .u64 (x : Int), .int .u64 (y : Int)] 24)).alloc (.cells #[.int .u64 (z : Int), .int .u64 (t : Int)] 24)).alloc (.cells (tdc z24q).toArray 28)
  have X0 := ((AB.at2 w (.cells (tdc l).toArray 28) (.cells #[.int .i64 i] 3) 24 [.int .u64 (x : Int), .int .u64 (y : Int)]).alloc (.cells #[.int .u64 (z : Int), .int .u64 (t : Int)] 24)).alloc (.cells (tdc z24q).toArray 28)
  have Y0 := (AB.at3 w (.cells (tdc l).toArray 28) (.cells #[.int .i64 i] 3) (.cells #[.int .u64 (x : Int), .int .u64 (y : Int)] 24) 24 [.int .u64 (z : Int), .int .u64 (t : Int)]).alloc (.cells (tdc z24q).toArray 28)
  have Z0 := AB.at4 w (.cells (tdc l).toArray 28) (.cells #[.int .i64 i] 3) (.cells #[.int .u64 (x : Int), .int .u64 (y : Int)] 24) (.cells #[.int .u64 (z : Int), .int .u64 (t : Int)] 24) 28 (tdc z24q)
  have B0 := hide_ (below5 w (.cells (tdc l).toArray 28) (.cells #[.int .i64 i] 3) (.cells #[.int .u64 (x : Int), .int .u64 (y : Int)] 24) (.cells #[.int .u64 (z : Int), .int .u64 (t : Int)] 24) (.cells (tdc z24q).toArray 28))
  have q := bset (.pointer (some ⟨(w.heap.size + 1), 0, none⟩)) (.pointer (some ⟨w.heap.size, 0, none⟩)) (.pointer (some ⟨(w.heap.size + 1 + 1), 0, none⟩)) (.pointer (some ⟨(w.heap.size + 1 + 1 + 1), 0, none⟩)) (fun k => if (k : Int) = i then over4 (cq l k) (x, y, z, t) else clean4 (cq l k)) (((((w.alloc (.cells (tdc l).toArray 28)).alloc (.cells #[.int .i64 i] 3)).alloc (.cells #[.int .u64 (x : Int), .int .u64 (y : Int)] 24)).alloc (.cells #[.int .u64 (z : Int), .int .u64 (t : Int)] 24)).alloc (.cells (tdc z24q).toArray 28)) (fun k hk W' hb => by
    obtain ⟨a, b, c, d, e1, h1, h2, h3, h4⟩ := hl.get hk
    show Calls Try.prog 42 #[.int .i64 (k : Int), _, _, _, _] W' fun e W'' => e = .returned (td4 (if (k : Int) = i then over4 (cq l k) (x, y, z, t) else clean4 (cq l k))) ∧ _
    rw [cq_at e1]
    by_cases hi : (k : Int) = i
    · rw [if_pos hi]
      exact rset_fn l w.heap.size (w.heap.size + 1) (w.heap.size + 1 + 1) (w.heap.size + 1 + 1 + 1) k a b c d x y z t i W' hk e1 h1 h2 h3 h4 hx hy hz ht (I0.later hb) (A0.later hb) (X0.later hb) (Y0.later hb) hi
    · rw [if_neg hi]
      exact rset_fn2 l w.heap.size (w.heap.size + 1) (w.heap.size + 1 + 1) (w.heap.size + 1 + 1 + 1) k a b c d x y z t i W' hk e1 h1 h2 h3 h4 hx hy hz ht (I0.later hb) (A0.later hb) (X0.later hb) (Y0.later hb) hi)
  have hlen : (setC l i (x, y, z, t)).length = 24 := map_len _
  change Calls Try.prog 36 _ _ fun e w' => e = .returned (cv (setC l i (x, y, z, t))) ∧ _ at q
  generalize setC l i (x, y, z, t) = r at *
  have q := hide_ q
  have HZ := hide_ Z0
  have HL := hide_ hlen
  clear A0 I0 X0 Y0 Z0 hlen hx hy hz ht
  unfold cv at *
  unfold wd at *
  obtain ⟨hz0, -⟩ := zero_of_info zR'
  have hmf : ∀ (fn : Fn) (first cap : Array Value) (w : World), (Instr.makeFunc fn first cap).run Try.prog w = .ok (.func fn first cap) w := fun _ _ _ _ => rfl
  go_enter Try.func21, Try.ntmps21
  go_wp2_with (first | (go_at_call 36; refine q.out.mono ?_; rintro e w1 ⟨rfl, b1⟩; have HZ1 := hide_ (HZ.out.later b1)) | (refine wpList_storeA rfl (.tmp 8) (.tmp 10) rfl (w.heap.size + 1 + 1 + 1 + 1) (by simp [Act.eval, Act.put]) (tdc z24q) (tdc r) (by rw [tdc_length, tdc_length, HL.out, z24q_len]) (szR HL.out) (tdc_one _) (by simp [Act.eval, Act.put]) HZ1.out ?_))
  exact bodyPost_ret (results_A Try.underlying28 Try.results21 _ _ (w.heap.size + 1 + 1 + 1 + 1) (tdc r) (szR HL.out) rfl HZ1.out.row) rfl ⟨rfl, (B0.out.trans (b1.mono B0.out.size)).trans (below_row _ _ _ _ (by omega))⟩

set_option maxRecDepth 100000 in
set_option maxHeartbeats 2000000 in
theorem rwbefore_any (l m : List Q4) (hl : isC l) (hm : isC m) (w : World) :
    Calls Try.prog 8 #[cv l, cv m] w fun e w' => e = .returned (.tuple #[cv (match okC l m with | true => woutC m l | false => z24q), .bool (okC l m)]) ∧ Below w.heap.size w w' := by
  have A0 := hide_ (((AB.at0 w 28 (tdc l)).alloc (.cells (tdc m).toArray 29)).alloc (.cells (tdc z24q).toArray 29))
  have H0 := hide_ ((AB.at1 w (.cells (tdc l).toArray 28) 29 (tdc m)).alloc (.cells (tdc z24q).toArray 29))
  have Z0 := hide_ (AB.at2 w (.cells (tdc l).toArray 28) (.cells (tdc m).toArray 29) 29 (tdc z24q))
  have B0 := hide_ (below3 w (.cells (tdc l).toArray 28) (.cells (tdc m).toArray 29) (.cells (tdc z24q).toArray 29))
  have q0 := hide_ (fun w => cmeet_any l m hl hm w)
  have hL := hide_ hl.1
  have hM := hide_ hm.1
  have hMM := hide_ (meetC_isC l m hl hm).1
  have hlen := hide_ (show (woutC m l).length = 24 from map_len _)
  have q : Hid (∀ W, AB W w.heap.size 28 (tdc l) → AB W (w.heap.size + 1) 29 (tdc m) → Calls Try.prog 25 #[.func (.func 26) #[] #[.pointer (some ⟨(w.heap.size + 1), 0, none⟩), .pointer (some ⟨w.heap.size, 0, none⟩)]] W fun e w' => e = .returned (cv (woutC m l)) ∧ Below W.heap.size W w') := hide_ (fun W A0 H0 => bbefore (.pointer (some ⟨(w.heap.size + 1), 0, none⟩)) (.pointer (some ⟨w.heap.size, 0, none⟩)) (fun k => wout4 (cq m k) (cq l k)) W (fun k hk W' hb => by
    obtain ⟨a, b, c, d, e1, h1, h2, h3, h4⟩ := hl.get hk
    obtain ⟨a2, b2, c2, d2, e2, k1, k2, k3, k4⟩ := hm.get hk
    have := rbefore_fn m l (w.heap.size + 1) w.heap.size k a2 b2 c2 d2 a b c d W' hk e2 e1 k1 k2 k3 k4 h1 h2 h3 h4 (H0.later hb) (A0.later hb)
    show Calls Try.prog 26 #[.int .i64 (k : Int), _, _] W' fun e W'' => e = .returned (td4 (wout4 (cq m k) (cq l k))) ∧ _
    rw [cq_at e2, cq_at e1]
    exact this))
  generalize woutC m l = r at *
  generalize meetC l m = M at *
  generalize okC l m = z at *
  clear hl hm
  unfold cv at *
  obtain ⟨hz0, -⟩ := zero_of_info zC'
  have hmf : ∀ (fn : Fn) (first cap : Array Value) (w : World), (Instr.makeFunc fn first cap).run Try.prog w = .ok (.func fn first cap) w := fun _ _ _ _ => rfl
  go_enter Try.func8, Try.ntmps8
  go_upto_region 2 with (first | (go_at_call 24; refine (q0.out _).mono ?_; rintro e w1 ⟨rfl, b1⟩; have ZM := hide_ (AB.at0 w1 29 (tdc z24q))) | (refine wpList_loadA Try.underlying28 rfl (.tmp 2) rfl w.heap.size (by simp [Act.eval, Act.put]) (tdc l) (szR hL.out) A0.out ?_) | (refine wpList_loadA Try.underlying29 rfl (.tmp 3) rfl (w.heap.size + 1) (by simp [Act.eval, Act.put]) (tdc m) (szC hM.out) H0.out ?_) | (refine wpList_storeA rfl (.tmp 6) (.tmp 12) rfl w1.heap.size (by simp [Act.eval, Act.put]) (tdc z24q) (tdc M) (by rw [tdc_length, tdc_length, hMM.out, z24q_len]) (szC hMM.out) (tdc_one _) (by simp [Act.eval, Act.put]) ZM.out ?_))
  have bW : Below w1.heap.size w1 ((w1.alloc (.cells (tdc z24q).toArray 29)).setRow w1.heap.size (tdc M).toArray) := (below1 w1 _).trans (below_row _ _ _ _ (Nat.le_refl _))
  have HB2 := hide_ ((B0.out.trans (b1.mono B0.out.size)).trans (bW.mono (B0.out.trans (b1.mono B0.out.size)).size))
  have A2 := hide_ ((A0.out.later b1).later bW)
  have H2 := hide_ ((H0.out.later b1).later bW)
  have Z2 := hide_ ((Z0.out.later b1).later bW)
  clear bW ZM A0 H0 Z0 B0
  generalize ((w1.alloc (.cells (tdc z24q).toArray 29)).setRow w1.heap.size (tdc M).toArray) = V at *
  cases z
  · go_wp2_with (refine wpList_storeA rfl (.tmp 4) (.tmp 16) rfl (w.heap.size + 1 + 1) (by simp [Act.eval, Act.put]) (tdc z24q) (tdc z24q) rfl (szC z24q_len) (tdc_one _) (by simp [Act.eval, Act.put]) Z2.out ?_)
    exact bodyPost_ret (results_A2 Try.underlying29 Try.results8 _ _ (w.heap.size + 1 + 1) (tdc z24q) (.bool false) (szC z24q_len) rfl rfl Z2.out.row) rfl ⟨rfl, HB2.out.trans (below_row _ _ _ _ (by omega))⟩
  · go_wp2_with (first | (go_at_call 25; refine (q.out _ A2.out H2.out).mono ?_; rintro e w3 ⟨rfl, b3⟩; have Z3 := hide_ (Z2.out.later b3)) | (refine wpList_storeA rfl (.tmp 4) (.tmp 18) rfl (w.heap.size + 1 + 1) (by simp [Act.eval, Act.put]) (tdc z24q) (tdc r) (by rw [tdc_length, tdc_length, hlen.out, z24q_len]) (szC hlen.out) (tdc_one _) (by simp [Act.eval, Act.put]) Z3.out ?_))
    exact bodyPost_ret (results_A2 Try.underlying29 Try.results8 _ _ (w.heap.size + 1 + 1) (tdc r) (.bool true) (szC hlen.out) rfl rfl Z3.out.row) rfl ⟨rfl, (HB2.out.trans (b3.mono HB2.out.size)).trans (below_row _ _ _ _ (by omega))⟩

set_option maxRecDepth 100000 in
set_option maxHeartbeats 2000000 in
theorem rwnone_any (w : World) :
    Calls Try.prog 18 #[] w fun e w' => e = .returned (cv z24q) ∧ Below w.heap.size w w' := by
  have Z0 := hide_ (AB.at0 w 28 (tdc z24q))
  have B0 := hide_ (below1 w (.cells (tdc z24q).toArray 28))
  unfold cv
  obtain ⟨hz0, -⟩ := zero_of_info zR'
  go_enter Try.func18, Try.ntmps18
  go_wp2_with (refine wpList_storeA rfl (.tmp 0) (.tmp 1) rfl w.heap.size (by simp [Act.eval, Act.put]) (tdc z24q) (tdc z24q) rfl (szR z24q_len) (tdc_one _) (by simp [Act.eval, Act.put]) Z0.out ?_)
  exact bodyPost_ret (results_A Try.underlying28 Try.results18 _ _ w.heap.size (tdc z24q) (szR z24q_len) rfl Z0.out.row) rfl ⟨rfl, B0.out.trans (below_row _ _ _ _ (Nat.le_refl _))⟩

set_option maxRecDepth 100000 in
set_option maxHeartbeats 2000000 in
theorem rrwnone_any (w : World) :
    Calls Try.prog 19 #[] w fun e w' => e = .returned (cv z24q) ∧ Below w.heap.size w w' := by
  have Z0 := hide_ (AB.at0 w 28 (tdc z24q))
  have B0 := hide_ (below1 w (.cells (tdc z24q).toArray 28))
  unfold cv
  obtain ⟨hz0, -⟩ := zero_of_info zR'
  go_enter Try.func19, Try.ntmps19
  go_wp2_with (refine wpList_storeA rfl (.tmp 0) (.tmp 1) rfl w.heap.size (by simp [Act.eval, Act.put]) (tdc z24q) (tdc z24q) rfl (szR z24q_len) (tdc_one _) (by simp [Act.eval, Act.put]) Z0.out ?_)
  exact bodyPost_ret (results_A Try.underlying28 Try.results19 _ _ w.heap.size (tdc z24q) (szR z24q_len) rfl Z0.out.row) rfl ⟨rfl, B0.out.trans (below_row _ _ _ _ (Nat.le_refl _))⟩


end Go.Proofs.Ytlincickgleddaa
