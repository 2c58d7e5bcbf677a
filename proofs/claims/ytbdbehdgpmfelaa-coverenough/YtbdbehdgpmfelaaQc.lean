import Derived.Test.YtbdbehdgpmfelaaProg
import Derived.Test.YtbdbehdgpmfelaaXa
import Derived.Test.YtbdbehdgpmfelaaXc
import Derived.Test.YtbdbehdgpmfelaaXd
import Derived.Test.YtbdbehdgpmfelaaXe
import Derived.Test.YtbdbehdgpmfelaaXf
import Derived.Test.YtbdbehdgpmfelaaXh
import Derived.Test.YtbdbehdgpmfelaaXi
import Derived.Below
import Derived.BigQuiet
import Derived.BigRegion
import Derived.ChangeAlike
import Derived.ChangeKeysEq
import Derived.ChangeSame
import Derived.DataElems
import Derived.Deep.MidRow
import Derived.Deep.QuietTactic
import Derived.Deep.RegionHeld
import Derived.Deep.RegionHeld3
import Derived.Deep.RegionLaw
import Derived.Deep.RegionLawGrows
import Derived.Deep.RegionWith
import Derived.Deep.WholeRow
import Derived.Great.BuildSlice
import Derived.Handy
import Derived.Laws.AppendOwn
import Derived.Laws.AppendOwnNone
import Derived.Laws.BitsAllLaws
import Derived.Laws.BitsLemmas
import Derived.Laws.CopyOwn
import Derived.Laws.OwnMore
import Derived.Laws.Rows
import Derived.Laws.StructEq
import Derived.Laws.Tables
import Derived.Lib.BitFns
import Derived.Lib.SmallJoins
import Derived.OpenShut
import Derived.ProofKit
import Derived.RegionTactic
import Derived.WalkKit
import Derived.WalkLawsBesides
import Derived.WalkSmall
import Derived.WalkSpells
import Derived.WideShapes
namespace Go.Proofs.Ytbdbehdgpmfelaa
open Go Go.RowKit
set_option linter.unusedVariables false
set_option linter.unusedSimpArgs false

/-- the tern of a field -/
def cq (l : List Q4) (k : Nat) : Q4 := l.getD k (0, 0, 0, 0)

def wq (m : List (Nat × Nat)) (k : Nat) : Nat × Nat := m.getD k (0, 0)

theorem cq_at {l : List Q4} {k : Nat} {q : Q4} (h : l[k]? = some q) : cq l k = q := by simp [cq, h]

theorem wq_at {m : List (Nat × Nat)} {k : Nat} {q : Nat × Nat} (h : m[k]? = some q) : wq m k = q := by simp [wq, h]

def thz4 (q : Q4) (v : Nat × Nat) : Bool := thz q.1 q.2.1 q.2.2.1 q.2.2.2 v.1 v.2

def twz4 (q r : Q4) : Bool := twz q.1 q.2.1 q.2.2.1 q.2.2.2 r.1 r.2.1 r.2.2.1 r.2.2.2

def mok4 (q r : Q4) : Bool := mok q.1 q.2.1 q.2.2.1 q.2.2.2 r.1 r.2.1 r.2.2.1 r.2.2.2

def meet4 (q r : Q4) : Q4 := (mz (mok4 q r) (q.1 &&& q.2.2.1 ||| r.1 &&& r.2.2.1), mz (mok4 q r) (q.2.1 &&& q.2.2.2 ||| r.2.1 &&& r.2.2.2), mz (mok4 q r) (q.2.2.1 ||| r.2.2.1), mz (mok4 q r) (q.2.2.2 ||| r.2.2.2))

def clean4 (q : Q4) : Q4 := (q.1 &&& q.2.2.1, q.2.1 &&& q.2.2.2, q.2.2.1, q.2.2.2)

/-- what cubes answer -/
def hasC (l : List Q4) (m : List (Nat × Nat)) : Bool := allB (fun k => thz4 (cq l k) (wq m k)) 24

def inC (l m : List Q4) : Bool := allB (fun k => twz4 (cq l k) (cq m k)) 24

def okC (l m : List Q4) : Bool := allB (fun k => mok4 (cq l k) (cq m k)) 24

def meetC (l m : List Q4) : List Q4 := mapB (fun k => meet4 (cq l k) (cq m k)) (fun k => mok4 (cq l k) (cq m k))

def cleanC (l : List Q4) : List Q4 := (List.range 24).map fun k => clean4 (cq l k)

theorem allB_true (n : Nat) : allB (fun _ => true) n = true := by unfold allB; simp

theorem mapB_all (t : Nat → Q4) : mapB t (fun _ => true) = (List.range 24).map t := by rw [mapB_true (allB_true 24), mapK_all]

theorem mapB_len (t : Nat → Q4) (p : Nat → Bool) : (mapB t p).length = 24 := by
  unfold mapB; split <;> simp [z24q]

set_option maxRecDepth 100000 in
set_option maxHeartbeats 1000000 in
theorem chas_any (l : List Q4) (m : List (Nat × Nat)) (hl : isC l) (hm : isH m) (w : World) :
    Calls Try.prog 16 #[cv l, hv m] w fun e w' => e = .returned (.bool (hasC l m)) ∧ Below w.heap.size w w' := by
  have A0 := (AB.at0 w 28 (tdc l)).alloc (.cells (wdc m).toArray 33)
  have H0 := AB.at1 w (.cells (tdc l).toArray 28) 33 (wdc m)
  have B0 := hide_ (below2 w (.cells (tdc l).toArray 28) (.cells (wdc m).toArray 33))
  have q := hide_ (every_has (.pointer (some ⟨w.heap.size, 0, none⟩)) (.pointer (some ⟨(w.heap.size + 1), 0, none⟩)) (fun k => thz4 (cq l k) (wq m k)) ((w.alloc (.cells (tdc l).toArray 28)).alloc (.cells (wdc m).toArray 33)) (fun k hk W' hb => by
    obtain ⟨a, b, c, d, e1, h1, h2, h3, h4⟩ := hl.get hk
    obtain ⟨x, y, e2, h5, h6⟩ := hm.get hk
    have := chas_fn l m w.heap.size (w.heap.size + 1) k a b c d x y W' hk e1 e2 h1 h2 h3 h4 h5 h6 (A0.later hb) (H0.later hb)
    show Calls Try.prog 28 #[.int .i64 (k : Int), _, _] W' fun e W'' => e = .returned (.bool (thz4 (cq l k) (wq m k))) ∧ _
    rw [cq_at e1, wq_at e2]
    exact this))
  unfold hasC cv hv
  generalize allB (fun k => thz4 (cq l k) (wq m k)) 24 = z at *
  clear A0 H0
  have hmf : ∀ (fn : Fn) (first cap : Array Value) (w : World), (Instr.makeFunc fn first cap).run Try.prog w = .ok (.func fn first cap) w := fun _ _ _ _ => rfl
  go_enter Try.func16, Try.ntmps16
  go_wp2_with (go_at_call 27; refine q.out.mono ?_; rintro e w1 ⟨rfl, b1⟩)
  go_ret
  exact ⟨rfl, B0.out.trans (b1.mono B0.out.size)⟩

set_option maxRecDepth 100000 in
set_option maxHeartbeats 1000000 in
theorem cwithin_any (l m : List Q4) (hl : isC l) (hm : isC m) (w : World) :
    Calls Try.prog 47 #[cv l, cv m] w fun e w' => e = .returned (.bool (inC l m)) ∧ Below w.heap.size w w' := by
  have A0 := (AB.at0 w 28 (tdc l)).alloc (.cells (tdc m).toArray 28)
  have H0 := AB.at1 w (.cells (tdc l).toArray 28) 28 (tdc m)
  have B0 := hide_ (below2 w (.cells (tdc l).toArray 28) (.cells (tdc m).toArray 28))
  have q := hide_ (every_within (.pointer (some ⟨w.heap.size, 0, none⟩)) (.pointer (some ⟨(w.heap.size + 1), 0, none⟩)) (fun k => twz4 (cq l k) (cq m k)) ((w.alloc (.cells (tdc l).toArray 28)).alloc (.cells (tdc m).toArray 28)) (fun k hk W' hb => by
    obtain ⟨a, b, c, d, e1, h1, h2, h3, h4⟩ := hl.get hk
    obtain ⟨a2, b2, c2, d2, e2, k1, k2, k3, k4⟩ := hm.get hk
    have := cwithin_fn l m w.heap.size (w.heap.size + 1) k a b c d a2 b2 c2 d2 W' hk e1 e2 h1 h2 h3 h4 k1 k2 k3 k4 (A0.later hb) (H0.later hb)
    show Calls Try.prog 66 #[.int .i64 (k : Int), _, _] W' fun e W'' => e = .returned (.bool (twz4 (cq l k) (cq m k))) ∧ _
    rw [cq_at e1, cq_at e2]
    exact this))
  unfold inC cv
  generalize allB (fun k => twz4 (cq l k) (cq m k)) 24 = z at *
  clear A0 H0
  have hmf : ∀ (fn : Fn) (first cap : Array Value) (w : World), (Instr.makeFunc fn first cap).run Try.prog w = .ok (.func fn first cap) w := fun _ _ _ _ => rfl
  go_enter Try.func47, Try.ntmps47
  go_wp2_with (go_at_call 27; refine q.out.mono ?_; rintro e w1 ⟨rfl, b1⟩)
  go_ret
  exact ⟨rfl, B0.out.trans (b1.mono B0.out.size)⟩

set_option maxRecDepth 100000 in
set_option maxHeartbeats 1000000 in
theorem cmeet_any (l m : List Q4) (hl : isC l) (hm : isC m) (w : World) :
    Calls Try.prog 23 #[cv l, cv m] w fun e w' => e = .returned (.tuple #[cv (meetC l m), .bool (okC l m)]) ∧ Below w.heap.size w w' := by
  have A0 := ((AB.at0 w 28 (tdc l)).alloc (.cells (tdc m).toArray 28)).alloc (.cells (tdc z24q).toArray 28)
  have H0 := (AB.at1 w (.cells (tdc l).toArray 28) 28 (tdc m)).alloc (.cells (tdc z24q).toArray 28)
  have Z0 : AB (((w.alloc (.cells (tdc l).toArray 28)).alloc (.cells (tdc m).toArray 28)).alloc (.cells (tdc z24q).toArray 28)) (w.heap.size + 1 + 1) 28 (tdc z24q) := by rw [zcC]; exact AB.at2 w (.cells (tdc l).toArray 28) (.cells (tdc m).toArray 28) 28 (tdc z24q)
  have B0 := hide_ (below3 w (.cells (tdc l).toArray 28) (.cells (tdc m).toArray 28) (.cells (tdc z24q).toArray 28))
  have q := hide_ (build_meet (.pointer (some ⟨w.heap.size, 0, none⟩)) (.pointer (some ⟨(w.heap.size + 1), 0, none⟩)) (fun k => meet4 (cq l k) (cq m k)) (fun k => mok4 (cq l k) (cq m k)) (((w.alloc (.cells (tdc l).toArray 28)).alloc (.cells (tdc m).toArray 28)).alloc (.cells (tdc z24q).toArray 28)) (fun k hk W' hb => by
    obtain ⟨a, b, c, d, e1, h1, h2, h3, h4⟩ := hl.get hk
    obtain ⟨a2, b2, c2, d2, e2, k1, k2, k3, k4⟩ := hm.get hk
    have := cmeet_fn l m w.heap.size (w.heap.size + 1) k a b c d a2 b2 c2 d2 W' hk e1 e2 h1 h2 h3 h4 k1 k2 k3 k4 (A0.later hb) (H0.later hb)
    show Calls Try.prog 39 #[.int .i64 (k : Int), _, _] W' fun e W'' => e = .returned (.tuple #[td4 (meet4 (cq l k) (cq m k)), .bool (mok4 (cq l k) (cq m k))]) ∧ _
    rw [cq_at e1, cq_at e2]
    exact this))
  unfold meetC okC
  have hlen := mapB_len (fun k => meet4 (cq l k) (cq m k)) (fun k => mok4 (cq l k) (cq m k))
  generalize mapB (fun k => meet4 (cq l k) (cq m k)) (fun k => mok4 (cq l k) (cq m k)) = r at *
  generalize allB (fun k => mok4 (cq l k) (cq m k)) 24 = z at *
  have HZ := hide_ Z0
  have HL := hide_ hlen
  clear A0 H0 Z0 hlen
  unfold cv at *
  have hmf : ∀ (fn : Fn) (first cap : Array Value) (w : World), (Instr.makeFunc fn first cap).run Try.prog w = .ok (.func fn first cap) w := fun _ _ _ _ => rfl
  obtain ⟨hz0, -⟩ := zero_of_info zC'
  go_enter Try.func23, Try.ntmps23
  go_wp2_with (first | (go_at_call 38; refine q.out.mono ?_; rintro e w1 ⟨rfl, b1⟩; have HZ1 := hide_ (HZ.out.later b1)) | (refine wpList_storeA rfl (.tmp 4) (.tmp 8) rfl (w.heap.size + 1 + 1) (by simp [Act.eval, Act.put]) (tdc z24q) (tdc r) (by rw [tdc_length, tdc_length, HL.out, z24q_len]) (szC HL.out) (tdc_one _) (by simp [Act.eval, Act.put]) HZ1.out ?_))
  exact bodyPost_ret (results_A2 Try.underlying28 Try.results23 _ _ (w.heap.size + 1 + 1) (tdc r) (.bool z) (szC HL.out) rfl rfl HZ1.out.row) rfl ⟨rfl, (B0.out.trans (b1.mono B0.out.size)).trans (below_row _ _ _ _ (by omega))⟩

set_option maxRecDepth 100000 in
set_option maxHeartbeats 1000000 in
theorem cclean_any (l : List Q4) (hl : isC l) (w : World) :
    Calls Try.prog 48 #[cv l] w fun e w' => e = .returned (cv (cleanC l)) ∧ Below w.heap.size w w' := by
  have A0 := (AB.at0 w 28 (tdc l)).alloc (.cells (tdc z24q).toArray 28)
  have Z0 : AB ((w.alloc (.cells (tdc l).toArray 28)).alloc (.cells (tdc z24q).toArray 28)) (w.heap.size + 1) 28 (tdc z24q) := zero_at1 w (.cells (tdc l).toArray 28)
  have B0 := hide_ (below2 w (.cells (tdc l).toArray 28) (.cells (tdc z24q).toArray 28))
  have q := build_clean (.pointer (some ⟨w.heap.size, 0, none⟩)) (fun k => clean4 (cq l k)) (fun k => true) ((w.alloc (.cells (tdc l).toArray 28)).alloc (.cells (tdc z24q).toArray 28)) (fun k hk W' hb => by
    obtain ⟨a, b, c, d, e1, h1, h2, h3, h4⟩ := hl.get hk
    have := cclean_fn l w.heap.size k a b c d W' hk e1 h1 h2 h3 h4 (A0.later hb)
    show Calls Try.prog 68 #[.int .i64 (k : Int), _] W' fun e W'' => e = .returned (.tuple #[td4 (clean4 (cq l k)), .bool true]) ∧ _
    rw [cq_at e1]
    exact this)
  have hlen : (cleanC l).length = 24 := by simp [cleanC]
  rw [mapB_all, allB_true] at q
  change Calls Try.prog 38 _ _ fun e w' => e = .returned (.tuple #[cv (cleanC l), .bool true]) ∧ _ at q
  generalize cleanC l = r at *
  have q := hide_ q
  have HZ := hide_ Z0
  have HL := hide_ hlen
  clear A0 Z0 hlen
  unfold cv at *
  have hmf : ∀ (fn : Fn) (first cap : Array Value) (w : World), (Instr.makeFunc fn first cap).run Try.prog w = .ok (.func fn first cap) w := fun _ _ _ _ => rfl
  obtain ⟨hz0, -⟩ := zero_of_info zC'
  go_enter Try.func48, Try.ntmps48
  go_wp2_with (first | (go_at_call 38; refine q.out.mono ?_; rintro e w1 ⟨rfl, b1⟩; have HZ1 := hide_ ((HZ.out.later b1).alloc (.cells (tdc z24q).toArray 28)); have HR1 : Hid (AB (w1.alloc (.cells (tdc z24q).toArray 28)) w1.heap.size 28 (tdc z24q)) := hide_ (by rw [zcC]; exact AB.at0 w1 28 (tdc z24q)); have hne : w.heap.size + 1 < w1.heap.size := Nat.lt_of_lt_of_le HZ.out.lt b1.size) | (refine wpList_storeA rfl (.tmp 3) (.tmp 8) rfl w1.heap.size (by simp [Act.eval, Act.put]) (tdc z24q) (tdc r) (by rw [tdc_length, tdc_length, HL.out, z24q_len]) (szC HL.out) (tdc_one _) (by simp [Act.eval, Act.put]) HR1.out ?_) | (refine wpList_loadA Try.underlying28 rfl (.tmp 3) rfl w1.heap.size (by simp [Act.eval, Act.put]) (tdc r) (szC HL.out) HR1.out.row ?_) | (refine wpList_storeA rfl (.tmp 2) (.tmp 10) rfl (w.heap.size + 1) (by simp [Act.eval, Act.put]) (tdc z24q) (tdc r) (by rw [tdc_length, tdc_length, HL.out, z24q_len]) (szC HL.out) (tdc_one _) (by simp [Act.eval, Act.put]) (HZ1.out.row_far _ (by omega)) ?_))
  have BB := B0.out.trans (b1.mono B0.out.size)
  exact bodyPost_ret (results_A Try.underlying28 Try.results48 _ _ (w.heap.size + 1) (tdc r) (szC HL.out) rfl (HZ1.out.row_far _ (by omega)).row) rfl ⟨rfl, ((BB.alloc BB.size _).trans (below_row _ _ _ _ (by omega))).trans (below_row _ _ _ _ (by omega))⟩

end Go.Proofs.Ytbdbehdgpmfelaa
