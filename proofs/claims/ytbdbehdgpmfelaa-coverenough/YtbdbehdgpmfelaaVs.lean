import Derived.Test.YtbdbehdgpmfelaaVr
import Derived.Test.YtbdbehdgpmfelaaVd
import Derived.Test.YtbdbehdgpmfelaaQd
import Derived.WalkMore
namespace Go.Proofs.Ytbdbehdgpmfelaa
open Go Go.RowKit
set_option linter.unusedVariables false
set_option linter.unusedSimpArgs false

theorem AB.outs {S : Nat → Prop} {w w' : World} {g : Nat} {ty : TypeId} {cs : List Value} (h : AB w g ty cs) (o : Out S w w') (hg : ¬ S g) : AB w' g ty cs := (o.block g h.lt hg).trans h
theorem zH' : (Try.prog.info? 33).map (fun i => (i.zero, i.size)) = some (some (.agg (wdc z24).toArray), 48) := by kernel_rfl
/-- the six boxes of a look -/
def box6 (w : World) (p : Nat) (c : List Q4) (v : Value) : World := (((((w.alloc (.cells #[.pointer (some ⟨p, 0, none⟩)] 62)).alloc (.cells (tdc c).toArray 28)).alloc (.cells #[v] 29)).alloc (.cells (wdc z24).toArray 33)).alloc (.cells #[.bool false] 4)).alloc (.cells #[.int .i64 0] 34)
theorem box6_facts (w : World) (p : Nat) (c : List Q4) (v : Value) : Below w.heap.size w (box6 w p c v) ∧ AB (box6 w p c v) (w.heap.size) 62 [.pointer (some ⟨p, 0, none⟩)] ∧ AB (box6 w p c v) (w.heap.size + 1) 28 (tdc c) ∧ AB (box6 w p c v) (w.heap.size + 1 + 1) 29 [v] ∧ AB (box6 w p c v) (w.heap.size + 1 + 1 + 1) 33 (wdc z24) ∧ AB (box6 w p c v) (w.heap.size + 1 + 1 + 1 + 1) 4 [.bool false] ∧ AB (box6 w p c v) (w.heap.size + 1 + 1 + 1 + 1 + 1) 34 [.int .i64 0] ∧ (box6 w p c v).heap.size = w.heap.size + 1 + 1 + 1 + 1 + 1 + 1 := by
  refine ⟨?_, ?_, ?_, ?_, ?_, ?_, ?_, ?_⟩
  · exact ((((((Below.refl _ w).alloc (Nat.le_refl _) _).alloc (by simp) _).alloc (by simp; omega) _).alloc (by simp; omega) _).alloc (by simp; omega) _).alloc (by simp; omega) _
  · exact (((((AB.new w 62 [.pointer (some ⟨p, 0, none⟩)]).alloc _).alloc _).alloc _).alloc _).alloc _
  · exact ((((AB.at1 w _ 28 (tdc c)).alloc _).alloc _).alloc _).alloc _
  · exact (((AB.at2 w _ _ 29 [v]).alloc _).alloc _).alloc _
  · exact ((by simpa using AB.new (((w.alloc _).alloc _).alloc _) 33 (wdc z24) : AB ((((w.alloc (.cells #[.pointer (some ⟨p, 0, none⟩)] 62)).alloc (.cells (tdc c).toArray 28)).alloc (.cells #[v] 29)).alloc (.cells (wdc z24).toArray 33)) (w.heap.size + 1 + 1 + 1) 33 (wdc z24)).alloc _).alloc _
  · exact (by simpa using AB.new ((((w.alloc _).alloc _).alloc _).alloc _) 4 [.bool false] : AB (((((w.alloc (.cells #[.pointer (some ⟨p, 0, none⟩)] 62)).alloc (.cells (tdc c).toArray 28)).alloc (.cells #[v] 29)).alloc (.cells (wdc z24).toArray 33)).alloc (.cells #[.bool false] 4)) (w.heap.size + 1 + 1 + 1 + 1) 4 [.bool false]).alloc _
  · exact (by simpa using AB.new (((((w.alloc _).alloc _).alloc _).alloc _).alloc _) 34 [.int .i64 0] : AB ((((((w.alloc (.cells #[.pointer (some ⟨p, 0, none⟩)] 62)).alloc (.cells (tdc c).toArray 28)).alloc (.cells #[v] 29)).alloc (.cells (wdc z24).toArray 33)).alloc (.cells #[.bool false] 4)).alloc (.cells #[.int .i64 0] 34)) (w.heap.size + 1 + 1 + 1 + 1 + 1) 34 [.int .i64 0])
  · simp [box6]
theorem box6_def (w : World) (p : Nat) (c : List Q4) (v : Value) : (((((w.alloc (.cells #[.pointer (some ⟨p, 0, none⟩)] 62)).alloc (.cells (tdc c).toArray 28)).alloc (.cells #[v] 29)).alloc (.cells (wdc z24).toArray 33)).alloc (.cells #[.bool false] 4)).alloc (.cells #[.int .i64 0] 34) = box6 w p c v := rfl

theorem Out.below_then {S : Nat → Prop} {a b c : World} (h : Out S a b) (k : Below a.heap.size b c) : Out S a c :=
  ⟨k.os.trans h.os, k.tape.trans h.tape, k.output.trans h.output, Nat.le_trans h.size k.size, fun j hj hn => (k.block j hj).trans (h.block j hj hn)⟩
theorem results_L (tmps : Array Value) (w : World) (g3 g4 g5 : Nat) (h : List (Nat × Nat)) (b : Bool) (e : Int) (hl : h.length = 24) (h6 : tmps.getD 6 undef = .pointer (some ⟨g3, 0, none⟩)) (h7 : tmps.getD 7 undef = .pointer (some ⟨g4, 0, none⟩)) (h8 : tmps.getD 8 undef = .pointer (some ⟨g5, 0, none⟩)) (A3 : AB w g3 33 (wdc h)) (A4 : AB w g4 4 [.bool b]) (A5 : AB w g5 34 [.int .i64 e]) :
    (results Try.f21 tmps).run Try.prog w = .ok (.tuple #[.agg (wdc h).toArray, .bool b, .int .i64 e]) w := by
  have h6' : tmps[6]?.getD undef = .pointer (some ⟨g3, 0, none⟩) := by simpa using h6
  have h7' : tmps[7]?.getD undef = .pointer (some ⟨g4, 0, none⟩) := by simpa using h7
  have h8' : tmps[8]?.getD undef = .pointer (some ⟨g5, 0, none⟩) := by simpa using h8
  have c4 := (A4.cell (j := 0) rfl).1
  have c5 := (A5.cell (j := 0) rfl).1
  have t := run_loadVar_row (P := Try.prog) w g3 33 33 (wdc h).toArray (0, 0) _ A3 Try.underlying33 rfl (by simpa using szW hl)
  have t4 : (loadVar 4 ⟨g4, 0, none⟩).run Try.prog w = .ok (.bool b) w := by simp [go_sem, c4]
  have t5 : (loadVar 34 ⟨g5, 0, none⟩).run Try.prog w = .ok (.int .i64 e) w := by simp [go_sem, c5]
  simp [results, Try.results21, h6', h7', h8', asAddr, t, t4, t5]

set_option maxRecDepth 100000 in
set_option maxHeartbeats 4000000 in
theorem lk_no (p : Nat) (m s s1 : Int) (c : List Q4) (ad : Option Addr) (n cap : Nat) (w : World) (hA : AB w p 51 [.int .i64 m, .int .i64 s]) (hs : IntKind.i64.wrap (s + 1) = s1) (hm : ¬ (1099511627776 : Int) ≤ m ∧ ¬ s1 ≤ m) :
    Calls Try.prog 21 #[.pointer (some ⟨p, 0, none⟩), cv c, .slice ad n cap] w fun e w' => e = .returned (.tuple #[hv z24, .bool false, .int .i64 5]) ∧ AB w' p 51 [.int .i64 m, .int .i64 s1] ∧ Out (fun k => k = p) w w' := by
  obtain ⟨b0, a0, a1, a2, a3, a4, a5, hsz⟩ := box6_facts w p c (.slice ad n cap)
  have AP := hA.later b0
  have hp := hA.lt
  have q := hide_ (pay_no p m s s1 (box6 w p c (.slice ad n cap)) AP hs hm)
  have b0 := hide_ b0
  have c0 := (a0.cell (j := 0) rfl).1
  have a3 := hide_ a3
  have a4 := hide_ a4
  have a5 := hide_ a5
  clear hA hs hm AP a1 a2 hsz
  unfold cv at *
  unfold hv at *
  obtain ⟨hz0, -⟩ := zero_of_info zC'
  obtain ⟨hz1, -⟩ := zero_of_info zH'
  have hd := box6_def w p c (.slice ad n cap)
  go_enter Try.func21, Try.ntmps21
  go_wp2_with fail
  clear hd
  go_step3
  go_wp2_with (first | (go_at_call 31; refine q.out.mono ?_; rintro e w1 ⟨rfl, k1, o1⟩; have A3 : Hid (AB w1 (w.heap.size + 1 + 1 + 1) 33 (wdc z24)) := hide_ (a3.out.outs o1 (by show ¬ (_ = p); omega)); have A4 : Hid (AB (w1.setRow (w.heap.size + 1 + 1 + 1) (wdc z24).toArray) (w.heap.size + 1 + 1 + 1 + 1) 4 [.bool false]) := hide_ ((a4.out.outs o1 (by show ¬ (_ = p); omega)).row_far _ (by omega)); have A5 : Hid (AB ((w1.setRow (w.heap.size + 1 + 1 + 1) (wdc z24).toArray).setCell ⟨w.heap.size + 1 + 1 + 1 + 1, 0, none⟩ (.bool false)) (w.heap.size + 1 + 1 + 1 + 1 + 1) 34 [.int .i64 0]) := hide_ (((a5.out.outs o1 (by show ¬ (_ = p); omega)).row_far _ (by omega)).far _ (by omega)); obtain ⟨c4, f4⟩ := A4.out.cell (j := 0) rfl; obtain ⟨c5, f5⟩ := A5.out.cell (j := 0) rfl; have k1 := hide_ k1; have o1 := hide_ o1) | (refine wpList_storeA rfl (.tmp 6) (.tmp 17) rfl (w.heap.size + 1 + 1 + 1) (by simp [Act.eval, Act.put]) (wdc z24) (wdc z24) rfl (szW z24_len) (wdc_one _) (by simp [Act.eval, Act.put]) A3.out ?_))
  rw [Exit.noGoto_ret]
  refine bodyPost_ret (results_L _ _ (w.heap.size + 1 + 1 + 1) (w.heap.size + 1 + 1 + 1 + 1) (w.heap.size + 1 + 1 + 1 + 1 + 1) z24 false 5 z24_len rfl rfl rfl ?_ ?_ ?_) rfl ⟨rfl, ?_, ?_⟩
  · exact ((A3.out.row (cs' := wdc z24)).far _ (by omega)).far _ (by omega)
  · exact (A4.out.set (j := 0) _).far _ (by omega)
  · exact A5.out.set (j := 0) _
  · exact ((k1.out.row_far _ (by omega)).far _ (by omega)).far _ (by omega)
  · exact (((Out.of_below (S := fun k => k = p) b0.out).trans o1.out).below_then (((below_row w1 (w.heap.size + 1 + 1 + 1) w.heap.size _ (by omega)).setCell (p := ⟨w.heap.size + 1 + 1 + 1 + 1, 0, none⟩) (by dsimp only; omega) _).setCell (p := ⟨w.heap.size + 1 + 1 + 1 + 1 + 1, 0, none⟩) (by dsimp only; omega) _))
end Go.Proofs.Ytbdbehdgpmfelaa
