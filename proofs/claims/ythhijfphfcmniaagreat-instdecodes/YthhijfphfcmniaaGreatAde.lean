import Derived.Test.YthhijfphfcmniaaGreatAae
import Derived.Test.YthhijfphfcmniaaGreatOce
import Derived.Deep.RegionHeld3
import Derived.Deep.RegionWith
import Derived.Deep.MidRow
import Derived.Deep.Cut
set_option maxRecDepth 100000
set_option maxHeartbeats 8000000
set_option linter.unusedVariables false
set_option linter.unusedSimpArgs false
namespace Go.Proofs.YthhijfphfcmniaaGreat
open Go Go.RowKit
theorem kN11 {p0 p1 p2 p3 p4 p5 p6 p7 p8 p9 p10 : Addr} {x0 x1 x2 x3 x4 x5 x6 x7 x8 x9 x10 : Value} {w0 wa wb : World} (k : Below wa.heap.size wa wb) (h : wa.cell? p0 = some x0 ∧ wa.cell? p1 = some x1 ∧ wa.cell? p2 = some x2 ∧ wa.cell? p3 = some x3 ∧ wa.cell? p4 = some x4 ∧ wa.cell? p5 = some x5 ∧ wa.cell? p6 = some x6 ∧ wa.cell? p7 = some x7 ∧ wa.cell? p8 = some x8 ∧ wa.cell? p9 = some x9 ∧ wa.cell? p10 = some x10 ∧ Below w0.heap.size w0 wa) : wb.cell? p0 = some x0 ∧ wb.cell? p1 = some x1 ∧ wb.cell? p2 = some x2 ∧ wb.cell? p3 = some x3 ∧ wb.cell? p4 = some x4 ∧ wb.cell? p5 = some x5 ∧ wb.cell? p6 = some x6 ∧ wb.cell? p7 = some x7 ∧ wb.cell? p8 = some x8 ∧ wb.cell? p9 = some x9 ∧ wb.cell? p10 = some x10 ∧ Below w0.heap.size w0 wb := by
  obtain ⟨h0, h1, h2, h3, h4, h5, h6, h7, h8, h9, h10, hb⟩ := h
  exact ⟨cell_later k h0, cell_later k h1, cell_later k h2, cell_later k h3, cell_later k h4, cell_later k h5, cell_later k h6, cell_later k h7, cell_later k h8, cell_later k h9, cell_later k h10, hb.trans (k.mono hb.size)⟩
theorem arightN (k p x q y f : Int) (m : Bool) (a b c d : Nat) (O : Array Value) (RB : Bool) (tt cc : Int) (w : World)
    (heq : ∀ w, (Op.equalIn 10000 61 (.agg #[.int .i64 k, .int .i64 p, .int .i64 x, .int .i64 q, .int .i64 y, .int .i64 f, .bool m, .int .u64 (a : Int), .int .u64 (b : Int), .int .u64 (c : Int), .int .u64 (d : Int)]) (.agg O)).run Tryz.prog w = .ok false w)
    (qo : ∀ w, Calls Tryz.prog 137 #[.agg #[.int .i64 k, .int .i64 p, .int .i64 x, .int .i64 q, .int .i64 y, .int .i64 f, .bool m, .int .u64 (a : Int), .int .u64 (b : Int), .int .u64 (c : Int), .int .u64 (d : Int)]] w fun e w' => e = .returned (.agg O) ∧ Below w.heap.size w w')
    (qc : ∀ w, Calls Tryz.prog 138 #[.agg #[.int .i64 k, .int .i64 p, .int .i64 x, .int .i64 q, .int .i64 y, .int .i64 f, .bool m, .int .u64 (a : Int), .int .u64 (b : Int), .int .u64 (c : Int), .int .u64 (d : Int)]] w fun e w' => e = .returned (.agg #[.bool true, .int .i64 tt, .int .i64 cc]) ∧ Below w.heap.size w w')
    (qr : ∀ w, Calls Tryz.prog 139 #[ov f m a b c d] w fun e w' => e = .returned (.bool RB) ∧ Below w.heap.size w w') :
    Calls Tryz.prog 115 #[.agg #[.int .i64 k, .int .i64 p, .int .i64 x, .int .i64 q, .int .i64 y, .int .i64 f, .bool m, .int .u64 (a : Int), .int .u64 (b : Int), .int .u64 (c : Int), .int .u64 (d : Int)]] w fun e w' => e = .returned (.bool (false)) ∧ Below w.heap.size w w' := by
  have A0 := AB.at0 w 61 [.int .i64 k, .int .i64 p, .int .i64 x, .int .i64 q, .int .i64 y, .int .i64 f, .bool m, .int .u64 (a : Int), .int .u64 (b : Int), .int .u64 (c : Int), .int .u64 (d : Int)]
  have B0 := h_ (below1 w (.cells #[.int .i64 k, .int .i64 p, .int .i64 x, .int .i64 q, .int .i64 y, .int .i64 f, .bool m, .int .u64 (a : Int), .int .u64 (b : Int), .int .u64 (c : Int), .int .u64 (d : Int)] 61))
  obtain ⟨c0, c1, c2, c3, c4, c5, c6, c7, c8, c9, c10, -⟩ := A0.eleven
  clear A0
  have qo := h_ qo
  have qc := h_ qc
  have qr := h_ qr
  unfold ov at qr
  have hf := fun x y z w => fldF x y z w
  go_enter Tryz.func115, Tryz.ntmps115
  go_wp2_with fail
  generalize w.alloc (.cells #[.int .i64 k, .int .i64 p, .int .i64 x, .int .i64 q, .int .i64 y, .int .i64 f, .bool m, .int .u64 (a : Int), .int .u64 (b : Int), .int .u64 (c : Int), .int .u64 (d : Int)] 61) = W at *
  refine wp_region_held_drew (S := (fun w' => w'.cell? ⟨w.heap.size, 0, none⟩ = some (.int .i64 k) ∧ w'.cell? ⟨w.heap.size, 1, none⟩ = some (.int .i64 p) ∧ w'.cell? ⟨w.heap.size, 2, none⟩ = some (.int .i64 x) ∧ w'.cell? ⟨w.heap.size, 3, none⟩ = some (.int .i64 q) ∧ w'.cell? ⟨w.heap.size, 4, none⟩ = some (.int .i64 y) ∧ w'.cell? ⟨w.heap.size, 5, none⟩ = some (.int .i64 f) ∧ w'.cell? ⟨w.heap.size, 6, none⟩ = some (.bool m) ∧ w'.cell? ⟨w.heap.size, 7, none⟩ = some (.int .u64 (a : Int)) ∧ w'.cell? ⟨w.heap.size, 8, none⟩ = some (.int .u64 (b : Int)) ∧ w'.cell? ⟨w.heap.size, 9, none⟩ = some (.int .u64 (c : Int)) ∧ w'.cell? ⟨w.heap.size, 10, none⟩ = some (.int .u64 (d : Int)) ∧ Below w.heap.size w w')) (by kernel_rfl) (⟨c0, c1, c2, c3, c4, c5, c6, c7, c8, c9, c10, B0.out.drew⟩) (fun hHeld => ?_)
  refine tR 0 ?_ (some 3) rfl (by kernel_rfl) rfl (by rfl) ?_ (fun _ _ _ h => h) (by assumption) ?_
  rotate_left
  · intro w hSw; (try dsimp only at hSw); go_simp; (try with_reducible rfl)
  simp only [Act.put, sIb, sCz, sCs]
  refine tR 1 ?_ (some 4) rfl (by kernel_rfl) rfl (by rfl) ?_ (fun _ _ _ h => h) (by assumption) ?_
  rotate_left
  · intro w hSw; (try dsimp only at hSw); go_simp; (try with_reducible rfl)
  simp only [Act.put, sIb, sCz, sCs]
  refine wpAnyH_ready (rs := [2]) (by kernel_rfl) (by simp) ?_
  refine AllReadyH.cons rfl (fun K hK => ?_) (AllReadyH.nil)
  go_simp
  refine (qo.out _).mono ?_
  rintro e w1 ⟨rfl, b1⟩
  refine hK.out _ _ (kN11 b1 hHeld) (fun hHeld => ?_)
  clear hK K
  try simp only [Act.put, sIb, sCz, sCs]
  refine tR 3 ?_ (some 6) rfl (by kernel_rfl) rfl (by rfl) ?_ (fun _ _ _ h => h) (by assumption) ?_
  rotate_left
  · intro w hSw; (try dsimp only at hSw); go_simp; (try with_reducible rfl)
  simp only [Act.put, sIb, sCz, sCs]
  refine tR 4 ?_ (some 7) rfl (by kernel_rfl) rfl (by rfl) ?_ (fun _ _ _ h => h) (by assumption) ?_
  rotate_left
  · intro w hSw; (try dsimp only at hSw); go_simp; (try with_reducible rfl)
  simp only [Act.put, sIb, sCz, sCs]
  refine takeR (i := 5) (v := undef) rfl (by kernel_rfl) (by kernel_rfl) (by kernel_rfl) (some 8) rfl (Or.inr ⟨by rfl, rfl⟩) (fun _ _ _ h => h) (by assumption) ?_
  simp only [Act.put, sIb, sCz, sCs]
  refine takeR (i := 6) (v := undef) rfl (by kernel_rfl) (by kernel_rfl) (by kernel_rfl) (some 9) rfl (Or.inr ⟨by rfl, rfl⟩) (fun _ _ _ h => h) (by assumption) ?_
  simp only [Act.put, sIb, sCz, sCs]
  refine takeR (i := 7) (v := undef) rfl (by kernel_rfl) (by kernel_rfl) (by kernel_rfl) (some 10) rfl (Or.inr ⟨by rfl, rfl⟩) (fun _ _ _ h => h) (by assumption) ?_
  simp only [Act.put, sIb, sCz, sCs]
  refine tR 8 ?_ (some 11) rfl (by kernel_rfl) rfl (by rfl) ?_ (fun _ _ _ h => h) (by assumption) ?_
  rotate_left
  · intro w hSw; (try dsimp only at hSw); go_simp; (try with_reducible rfl)
  simp only [Act.put, sIb, sCz, sCs]
  refine wpAnyH_done (by kernel_rfl) ?_ _
  have bel := hHeld.2.2.2.2.2.2.2.2.2.2.2
  obtain ⟨y0, y1, y2, y3, y4, y5, y6, y7, y8, y9, y10, -⟩ := hHeld
  go_wp2_with fail
  go_ret
  exact ⟨by rfl, bel⟩
theorem arightN0 (k p x q y f : Int) (m : Bool) (a b c d : Nat) (O : Array Value) (RB : Bool) (tt cc : Int) (w : World)
    (heq : ∀ w, (Op.equalIn 10000 61 (.agg #[.int .i64 k, .int .i64 p, .int .i64 x, .int .i64 q, .int .i64 y, .int .i64 f, .bool m, .int .u64 (a : Int), .int .u64 (b : Int), .int .u64 (c : Int), .int .u64 (d : Int)]) (.agg O)).run Tryz.prog w = .ok false w)
    (qo : ∀ w, Calls Tryz.prog 137 #[.agg #[.int .i64 k, .int .i64 p, .int .i64 x, .int .i64 q, .int .i64 y, .int .i64 f, .bool m, .int .u64 (a : Int), .int .u64 (b : Int), .int .u64 (c : Int), .int .u64 (d : Int)]] w fun e w' => e = .returned (.agg O) ∧ Below w.heap.size w w')
    (qc : ∀ w, Calls Tryz.prog 138 #[.agg #[.int .i64 k, .int .i64 p, .int .i64 x, .int .i64 q, .int .i64 y, .int .i64 f, .bool m, .int .u64 (a : Int), .int .u64 (b : Int), .int .u64 (c : Int), .int .u64 (d : Int)]] w fun e w' => e = .returned (.agg #[.bool false, .int .i64 tt, .int .i64 cc]) ∧ Below w.heap.size w w')
    (qr : ∀ w, Calls Tryz.prog 139 #[ov f m a b c d] w fun e w' => e = .returned (.bool RB) ∧ Below w.heap.size w w') :
    Calls Tryz.prog 115 #[.agg #[.int .i64 k, .int .i64 p, .int .i64 x, .int .i64 q, .int .i64 y, .int .i64 f, .bool m, .int .u64 (a : Int), .int .u64 (b : Int), .int .u64 (c : Int), .int .u64 (d : Int)]] w fun e w' => e = .returned (.bool (false)) ∧ Below w.heap.size w w' := by
  have A0 := AB.at0 w 61 [.int .i64 k, .int .i64 p, .int .i64 x, .int .i64 q, .int .i64 y, .int .i64 f, .bool m, .int .u64 (a : Int), .int .u64 (b : Int), .int .u64 (c : Int), .int .u64 (d : Int)]
  have B0 := h_ (below1 w (.cells #[.int .i64 k, .int .i64 p, .int .i64 x, .int .i64 q, .int .i64 y, .int .i64 f, .bool m, .int .u64 (a : Int), .int .u64 (b : Int), .int .u64 (c : Int), .int .u64 (d : Int)] 61))
  obtain ⟨c0, c1, c2, c3, c4, c5, c6, c7, c8, c9, c10, -⟩ := A0.eleven
  clear A0
  have qo := h_ qo
  have qc := h_ qc
  have qr := h_ qr
  unfold ov at qr
  have hf := fun x y z w => fldF x y z w
  go_enter Tryz.func115, Tryz.ntmps115
  go_wp2_with fail
  generalize w.alloc (.cells #[.int .i64 k, .int .i64 p, .int .i64 x, .int .i64 q, .int .i64 y, .int .i64 f, .bool m, .int .u64 (a : Int), .int .u64 (b : Int), .int .u64 (c : Int), .int .u64 (d : Int)] 61) = W at *
  refine wp_region_held_drew (S := (fun w' => w'.cell? ⟨w.heap.size, 0, none⟩ = some (.int .i64 k) ∧ w'.cell? ⟨w.heap.size, 1, none⟩ = some (.int .i64 p) ∧ w'.cell? ⟨w.heap.size, 2, none⟩ = some (.int .i64 x) ∧ w'.cell? ⟨w.heap.size, 3, none⟩ = some (.int .i64 q) ∧ w'.cell? ⟨w.heap.size, 4, none⟩ = some (.int .i64 y) ∧ w'.cell? ⟨w.heap.size, 5, none⟩ = some (.int .i64 f) ∧ w'.cell? ⟨w.heap.size, 6, none⟩ = some (.bool m) ∧ w'.cell? ⟨w.heap.size, 7, none⟩ = some (.int .u64 (a : Int)) ∧ w'.cell? ⟨w.heap.size, 8, none⟩ = some (.int .u64 (b : Int)) ∧ w'.cell? ⟨w.heap.size, 9, none⟩ = some (.int .u64 (c : Int)) ∧ w'.cell? ⟨w.heap.size, 10, none⟩ = some (.int .u64 (d : Int)) ∧ Below w.heap.size w w')) (by kernel_rfl) (⟨c0, c1, c2, c3, c4, c5, c6, c7, c8, c9, c10, B0.out.drew⟩) (fun hHeld => ?_)
  refine tR 0 ?_ (some 3) rfl (by kernel_rfl) rfl (by rfl) ?_ (fun _ _ _ h => h) (by assumption) ?_
  rotate_left
  · intro w hSw; (try dsimp only at hSw); go_simp; (try with_reducible rfl)
  simp only [Act.put, sIb, sCz, sCs]
  refine tR 1 ?_ (some 4) rfl (by kernel_rfl) rfl (by rfl) ?_ (fun _ _ _ h => h) (by assumption) ?_
  rotate_left
  · intro w hSw; (try dsimp only at hSw); go_simp; (try with_reducible rfl)
  simp only [Act.put, sIb, sCz, sCs]
  refine wpAnyH_ready (rs := [2]) (by kernel_rfl) (by simp) ?_
  refine AllReadyH.cons rfl (fun K hK => ?_) (AllReadyH.nil)
  go_simp
  refine (qo.out _).mono ?_
  rintro e w1 ⟨rfl, b1⟩
  refine hK.out _ _ (kN11 b1 hHeld) (fun hHeld => ?_)
  clear hK K
  try simp only [Act.put, sIb, sCz, sCs]
  refine tR 3 ?_ (some 6) rfl (by kernel_rfl) rfl (by rfl) ?_ (fun _ _ _ h => h) (by assumption) ?_
  rotate_left
  · intro w hSw; (try dsimp only at hSw); go_simp; (try with_reducible rfl)
  simp only [Act.put, sIb, sCz, sCs]
  refine tR 4 ?_ (some 7) rfl (by kernel_rfl) rfl (by rfl) ?_ (fun _ _ _ h => h) (by assumption) ?_
  rotate_left
  · intro w hSw; (try dsimp only at hSw); go_simp; (try with_reducible rfl)
  simp only [Act.put, sIb, sCz, sCs]
  refine takeR (i := 5) (v := undef) rfl (by kernel_rfl) (by kernel_rfl) (by kernel_rfl) (some 8) rfl (Or.inr ⟨by rfl, rfl⟩) (fun _ _ _ h => h) (by assumption) ?_
  simp only [Act.put, sIb, sCz, sCs]
  refine takeR (i := 6) (v := undef) rfl (by kernel_rfl) (by kernel_rfl) (by kernel_rfl) (some 9) rfl (Or.inr ⟨by rfl, rfl⟩) (fun _ _ _ h => h) (by assumption) ?_
  simp only [Act.put, sIb, sCz, sCs]
  refine takeR (i := 7) (v := undef) rfl (by kernel_rfl) (by kernel_rfl) (by kernel_rfl) (some 10) rfl (Or.inr ⟨by rfl, rfl⟩) (fun _ _ _ h => h) (by assumption) ?_
  simp only [Act.put, sIb, sCz, sCs]
  refine tR 8 ?_ (some 11) rfl (by kernel_rfl) rfl (by rfl) ?_ (fun _ _ _ h => h) (by assumption) ?_
  rotate_left
  · intro w hSw; (try dsimp only at hSw); go_simp; (try with_reducible rfl)
  simp only [Act.put, sIb, sCz, sCs]
  refine wpAnyH_done (by kernel_rfl) ?_ _
  have bel := hHeld.2.2.2.2.2.2.2.2.2.2.2
  obtain ⟨y0, y1, y2, y3, y4, y5, y6, y7, y8, y9, y10, -⟩ := hHeld
  go_wp2_with fail
  go_ret
  exact ⟨by rfl, bel⟩
theorem arightC (k p x q y f : Int) (m : Bool) (a b c d : Nat) (O : Array Value) (RB : Bool) (tt cc : Int) (w : World)
    (heq : ∀ w, (Op.equalIn 10000 61 (.agg #[.int .i64 k, .int .i64 p, .int .i64 x, .int .i64 q, .int .i64 y, .int .i64 f, .bool m, .int .u64 (a : Int), .int .u64 (b : Int), .int .u64 (c : Int), .int .u64 (d : Int)]) (.agg O)).run Tryz.prog w = .ok true w)
    (qo : ∀ w, Calls Tryz.prog 137 #[.agg #[.int .i64 k, .int .i64 p, .int .i64 x, .int .i64 q, .int .i64 y, .int .i64 f, .bool m, .int .u64 (a : Int), .int .u64 (b : Int), .int .u64 (c : Int), .int .u64 (d : Int)]] w fun e w' => e = .returned (.agg O) ∧ Below w.heap.size w w')
    (qc : ∀ w, Calls Tryz.prog 138 #[.agg #[.int .i64 k, .int .i64 p, .int .i64 x, .int .i64 q, .int .i64 y, .int .i64 f, .bool m, .int .u64 (a : Int), .int .u64 (b : Int), .int .u64 (c : Int), .int .u64 (d : Int)]] w fun e w' => e = .returned (.agg #[.bool true, .int .i64 tt, .int .i64 cc]) ∧ Below w.heap.size w w')
    (qr : ∀ w, Calls Tryz.prog 139 #[ov f m a b c d] w fun e w' => e = .returned (.bool RB) ∧ Below w.heap.size w w') :
    Calls Tryz.prog 115 #[.agg #[.int .i64 k, .int .i64 p, .int .i64 x, .int .i64 q, .int .i64 y, .int .i64 f, .bool m, .int .u64 (a : Int), .int .u64 (b : Int), .int .u64 (c : Int), .int .u64 (d : Int)]] w fun e w' => e = .returned (.bool (false)) ∧ Below w.heap.size w w' := by
  have A0 := AB.at0 w 61 [.int .i64 k, .int .i64 p, .int .i64 x, .int .i64 q, .int .i64 y, .int .i64 f, .bool m, .int .u64 (a : Int), .int .u64 (b : Int), .int .u64 (c : Int), .int .u64 (d : Int)]
  have B0 := h_ (below1 w (.cells #[.int .i64 k, .int .i64 p, .int .i64 x, .int .i64 q, .int .i64 y, .int .i64 f, .bool m, .int .u64 (a : Int), .int .u64 (b : Int), .int .u64 (c : Int), .int .u64 (d : Int)] 61))
  obtain ⟨c0, c1, c2, c3, c4, c5, c6, c7, c8, c9, c10, -⟩ := A0.eleven
  clear A0
  have qo := h_ qo
  have qc := h_ qc
  have qr := h_ qr
  unfold ov at qr
  have hf := fun x y z w => fldF x y z w
  go_enter Tryz.func115, Tryz.ntmps115
  go_wp2_with fail
  generalize w.alloc (.cells #[.int .i64 k, .int .i64 p, .int .i64 x, .int .i64 q, .int .i64 y, .int .i64 f, .bool m, .int .u64 (a : Int), .int .u64 (b : Int), .int .u64 (c : Int), .int .u64 (d : Int)] 61) = W at *
  refine wp_region_held_drew (S := (fun w' => w'.cell? ⟨w.heap.size, 0, none⟩ = some (.int .i64 k) ∧ w'.cell? ⟨w.heap.size, 1, none⟩ = some (.int .i64 p) ∧ w'.cell? ⟨w.heap.size, 2, none⟩ = some (.int .i64 x) ∧ w'.cell? ⟨w.heap.size, 3, none⟩ = some (.int .i64 q) ∧ w'.cell? ⟨w.heap.size, 4, none⟩ = some (.int .i64 y) ∧ w'.cell? ⟨w.heap.size, 5, none⟩ = some (.int .i64 f) ∧ w'.cell? ⟨w.heap.size, 6, none⟩ = some (.bool m) ∧ w'.cell? ⟨w.heap.size, 7, none⟩ = some (.int .u64 (a : Int)) ∧ w'.cell? ⟨w.heap.size, 8, none⟩ = some (.int .u64 (b : Int)) ∧ w'.cell? ⟨w.heap.size, 9, none⟩ = some (.int .u64 (c : Int)) ∧ w'.cell? ⟨w.heap.size, 10, none⟩ = some (.int .u64 (d : Int)) ∧ Below w.heap.size w w')) (by kernel_rfl) (⟨c0, c1, c2, c3, c4, c5, c6, c7, c8, c9, c10, B0.out.drew⟩) (fun hHeld => ?_)
  refine tR 0 ?_ (some 3) rfl (by kernel_rfl) rfl (by rfl) ?_ (fun _ _ _ h => h) (by assumption) ?_
  rotate_left
  · intro w hSw; (try dsimp only at hSw); go_simp; (try with_reducible rfl)
  simp only [Act.put, sIb, sCz, sCs]
  refine tR 1 ?_ (some 4) rfl (by kernel_rfl) rfl (by rfl) ?_ (fun _ _ _ h => h) (by assumption) ?_
  rotate_left
  · intro w hSw; (try dsimp only at hSw); go_simp; (try with_reducible rfl)
  simp only [Act.put, sIb, sCz, sCs]
  refine wpAnyH_ready (rs := [2]) (by kernel_rfl) (by simp) ?_
  refine AllReadyH.cons rfl (fun K hK => ?_) (AllReadyH.nil)
  go_simp
  refine (qo.out _).mono ?_
  rintro e w1 ⟨rfl, b1⟩
  refine hK.out _ _ (kN11 b1 hHeld) (fun hHeld => ?_)
  clear hK K
  try simp only [Act.put, sIb, sCz, sCs]
  refine tR 3 ?_ (some 6) rfl (by kernel_rfl) rfl (by rfl) ?_ (fun _ _ _ h => h) (by assumption) ?_
  rotate_left
  · intro w hSw; (try dsimp only at hSw); go_simp; (try with_reducible rfl)
  simp only [Act.put, sIb, sCz, sCs]
  refine tR 4 ?_ (some 7) rfl (by kernel_rfl) rfl (by rfl) ?_ (fun _ _ _ h => h) (by assumption) ?_
  rotate_left
  · intro w hSw; (try dsimp only at hSw); go_simp; (try with_reducible rfl)
  simp only [Act.put, sIb, sCz, sCs]
  refine tR 5 ?_ (some 8) rfl (by kernel_rfl) rfl (by rfl) ?_ (fun _ _ _ h => h) (by assumption) ?_
  rotate_left
  · intro w hSw; (try dsimp only at hSw); go_simp; (try with_reducible rfl)
  simp only [Act.put, sIb, sCz, sCs]
  refine wpAnyH_ready (rs := [6]) (by kernel_rfl) (by simp) ?_
  refine AllReadyH.cons rfl (fun K hK => ?_) (AllReadyH.nil)
  go_simp
  refine (qc.out _).mono ?_
  rintro e w2 ⟨rfl, b2⟩
  refine hK.out _ _ (kN11 b2 hHeld) (fun hHeld => ?_)
  clear hK K
  try simp only [Act.put, sIb, sCz, sCs]
  refine tR 7 ?_ (some 10) rfl (by kernel_rfl) rfl (by rfl) ?_ (fun _ _ _ h => h) (by assumption) ?_
  rotate_left
  · intro w hSw; (try dsimp only at hSw); go_simp; (try with_reducible rfl)
  simp only [Act.put, sIb, sCz, sCs]
  refine tR 8 ?_ (some 11) rfl (by kernel_rfl) rfl (by rfl) ?_ (fun _ _ _ h => h) (by assumption) ?_
  rotate_left
  · intro w hSw; (try dsimp only at hSw); go_simp; (try with_reducible rfl)
  simp only [Act.put, sIb, sCz, sCs]
  refine wpAnyH_done (by kernel_rfl) ?_ _
  have bel := hHeld.2.2.2.2.2.2.2.2.2.2.2
  obtain ⟨y0, y1, y2, y3, y4, y5, y6, y7, y8, y9, y10, -⟩ := hHeld
  go_wp2_with fail
  go_ret
  exact ⟨by rfl, bel⟩
theorem arightK (k p x q y f : Int) (m : Bool) (a b c d : Nat) (O : Array Value) (RB : Bool) (tt cc : Int) (w : World) (h25 : k ≠ 25)
    (heq : ∀ w, (Op.equalIn 10000 61 (.agg #[.int .i64 k, .int .i64 p, .int .i64 x, .int .i64 q, .int .i64 y, .int .i64 f, .bool m, .int .u64 (a : Int), .int .u64 (b : Int), .int .u64 (c : Int), .int .u64 (d : Int)]) (.agg O)).run Tryz.prog w = .ok true w)
    (qo : ∀ w, Calls Tryz.prog 137 #[.agg #[.int .i64 k, .int .i64 p, .int .i64 x, .int .i64 q, .int .i64 y, .int .i64 f, .bool m, .int .u64 (a : Int), .int .u64 (b : Int), .int .u64 (c : Int), .int .u64 (d : Int)]] w fun e w' => e = .returned (.agg O) ∧ Below w.heap.size w w')
    (qc : ∀ w, Calls Tryz.prog 138 #[.agg #[.int .i64 k, .int .i64 p, .int .i64 x, .int .i64 q, .int .i64 y, .int .i64 f, .bool m, .int .u64 (a : Int), .int .u64 (b : Int), .int .u64 (c : Int), .int .u64 (d : Int)]] w fun e w' => e = .returned (.agg #[.bool false, .int .i64 tt, .int .i64 cc]) ∧ Below w.heap.size w w')
    (qr : ∀ w, Calls Tryz.prog 139 #[ov f m a b c d] w fun e w' => e = .returned (.bool RB) ∧ Below w.heap.size w w') :
    Calls Tryz.prog 115 #[.agg #[.int .i64 k, .int .i64 p, .int .i64 x, .int .i64 q, .int .i64 y, .int .i64 f, .bool m, .int .u64 (a : Int), .int .u64 (b : Int), .int .u64 (c : Int), .int .u64 (d : Int)]] w fun e w' => e = .returned (.bool (true)) ∧ Below w.heap.size w w' := by
  have A0 := AB.at0 w 61 [.int .i64 k, .int .i64 p, .int .i64 x, .int .i64 q, .int .i64 y, .int .i64 f, .bool m, .int .u64 (a : Int), .int .u64 (b : Int), .int .u64 (c : Int), .int .u64 (d : Int)]
  have B0 := h_ (below1 w (.cells #[.int .i64 k, .int .i64 p, .int .i64 x, .int .i64 q, .int .i64 y, .int .i64 f, .bool m, .int .u64 (a : Int), .int .u64 (b : Int), .int .u64 (c : Int), .int .u64 (d : Int)] 61))
  obtain ⟨c0, c1, c2, c3, c4, c5, c6, c7, c8, c9, c10, -⟩ := A0.eleven
  clear A0
  have qo := h_ qo
  have qc := h_ qc
  have qr := h_ qr
  unfold ov at qr
  have hf := fun x y z w => fldF x y z w
  go_enter Tryz.func115, Tryz.ntmps115
  go_wp2_with fail
  generalize w.alloc (.cells #[.int .i64 k, .int .i64 p, .int .i64 x, .int .i64 q, .int .i64 y, .int .i64 f, .bool m, .int .u64 (a : Int), .int .u64 (b : Int), .int .u64 (c : Int), .int .u64 (d : Int)] 61) = W at *
  refine wp_region_held_drew (S := (fun w' => w'.cell? ⟨w.heap.size, 0, none⟩ = some (.int .i64 k) ∧ w'.cell? ⟨w.heap.size, 1, none⟩ = some (.int .i64 p) ∧ w'.cell? ⟨w.heap.size, 2, none⟩ = some (.int .i64 x) ∧ w'.cell? ⟨w.heap.size, 3, none⟩ = some (.int .i64 q) ∧ w'.cell? ⟨w.heap.size, 4, none⟩ = some (.int .i64 y) ∧ w'.cell? ⟨w.heap.size, 5, none⟩ = some (.int .i64 f) ∧ w'.cell? ⟨w.heap.size, 6, none⟩ = some (.bool m) ∧ w'.cell? ⟨w.heap.size, 7, none⟩ = some (.int .u64 (a : Int)) ∧ w'.cell? ⟨w.heap.size, 8, none⟩ = some (.int .u64 (b : Int)) ∧ w'.cell? ⟨w.heap.size, 9, none⟩ = some (.int .u64 (c : Int)) ∧ w'.cell? ⟨w.heap.size, 10, none⟩ = some (.int .u64 (d : Int)) ∧ Below w.heap.size w w')) (by kernel_rfl) (⟨c0, c1, c2, c3, c4, c5, c6, c7, c8, c9, c10, B0.out.drew⟩) (fun hHeld => ?_)
  refine tR 0 ?_ (some 3) rfl (by kernel_rfl) rfl (by rfl) ?_ (fun _ _ _ h => h) (by assumption) ?_
  rotate_left
  · intro w hSw; (try dsimp only at hSw); go_simp; (try with_reducible rfl)
  simp only [Act.put, sIb, sCz, sCs]
  refine tR 1 ?_ (some 4) rfl (by kernel_rfl) rfl (by rfl) ?_ (fun _ _ _ h => h) (by assumption) ?_
  rotate_left
  · intro w hSw; (try dsimp only at hSw); go_simp; (try with_reducible rfl)
  simp only [Act.put, sIb, sCz, sCs]
  refine wpAnyH_ready (rs := [2]) (by kernel_rfl) (by simp) ?_
  refine AllReadyH.cons rfl (fun K hK => ?_) (AllReadyH.nil)
  go_simp
  refine (qo.out _).mono ?_
  rintro e w1 ⟨rfl, b1⟩
  refine hK.out _ _ (kN11 b1 hHeld) (fun hHeld => ?_)
  clear hK K
  try simp only [Act.put, sIb, sCz, sCs]
  refine tR 3 ?_ (some 6) rfl (by kernel_rfl) rfl (by rfl) ?_ (fun _ _ _ h => h) (by assumption) ?_
  rotate_left
  · intro w hSw; (try dsimp only at hSw); go_simp; (try with_reducible rfl)
  simp only [Act.put, sIb, sCz, sCs]
  refine tR 4 ?_ (some 7) rfl (by kernel_rfl) rfl (by rfl) ?_ (fun _ _ _ h => h) (by assumption) ?_
  rotate_left
  · intro w hSw; (try dsimp only at hSw); go_simp; (try with_reducible rfl)
  simp only [Act.put, sIb, sCz, sCs]
  refine tR 5 ?_ (some 8) rfl (by kernel_rfl) rfl (by rfl) ?_ (fun _ _ _ h => h) (by assumption) ?_
  rotate_left
  · intro w hSw; (try dsimp only at hSw); go_simp; (try with_reducible rfl)
  simp only [Act.put, sIb, sCz, sCs]
  refine wpAnyH_ready (rs := [6]) (by kernel_rfl) (by simp) ?_
  refine AllReadyH.cons rfl (fun K hK => ?_) (AllReadyH.nil)
  go_simp
  refine (qc.out _).mono ?_
  rintro e w2 ⟨rfl, b2⟩
  refine hK.out _ _ (kN11 b2 hHeld) (fun hHeld => ?_)
  clear hK K
  try simp only [Act.put, sIb, sCz, sCs]
  refine tR 7 ?_ (some 10) rfl (by kernel_rfl) rfl (by rfl) ?_ (fun _ _ _ h => h) (by assumption) ?_
  rotate_left
  · intro w hSw; (try dsimp only at hSw); go_simp; (try with_reducible rfl)
  simp only [Act.put, sIb, sCz, sCs]
  refine tR 8 ?_ (some 11) rfl (by kernel_rfl) rfl (by rfl) ?_ (fun _ _ _ h => h) (by assumption) ?_
  rotate_left
  · intro w hSw; (try dsimp only at hSw); go_simp; (try with_reducible rfl)
  simp only [Act.put, sIb, sCz, sCs]
  refine wpAnyH_done (by kernel_rfl) ?_ _
  have bel := hHeld.2.2.2.2.2.2.2.2.2.2.2
  obtain ⟨y0, y1, y2, y3, y4, y5, y6, y7, y8, y9, y10, -⟩ := hHeld
  go_wp2_with fail
  go_ret
  exact ⟨by simp [h25], bel⟩
theorem arightR (k p x q y f : Int) (m : Bool) (a b c d : Nat) (O : Array Value) (RB : Bool) (tt cc : Int) (w : World) (h25 : k = 25)
    (heq : ∀ w, (Op.equalIn 10000 61 (.agg #[.int .i64 k, .int .i64 p, .int .i64 x, .int .i64 q, .int .i64 y, .int .i64 f, .bool m, .int .u64 (a : Int), .int .u64 (b : Int), .int .u64 (c : Int), .int .u64 (d : Int)]) (.agg O)).run Tryz.prog w = .ok true w)
    (qo : ∀ w, Calls Tryz.prog 137 #[.agg #[.int .i64 k, .int .i64 p, .int .i64 x, .int .i64 q, .int .i64 y, .int .i64 f, .bool m, .int .u64 (a : Int), .int .u64 (b : Int), .int .u64 (c : Int), .int .u64 (d : Int)]] w fun e w' => e = .returned (.agg O) ∧ Below w.heap.size w w')
    (qc : ∀ w, Calls Tryz.prog 138 #[.agg #[.int .i64 k, .int .i64 p, .int .i64 x, .int .i64 q, .int .i64 y, .int .i64 f, .bool m, .int .u64 (a : Int), .int .u64 (b : Int), .int .u64 (c : Int), .int .u64 (d : Int)]] w fun e w' => e = .returned (.agg #[.bool false, .int .i64 tt, .int .i64 cc]) ∧ Below w.heap.size w w')
    (qr : ∀ w, Calls Tryz.prog 139 #[ov f m a b c d] w fun e w' => e = .returned (.bool RB) ∧ Below w.heap.size w w') :
    Calls Tryz.prog 115 #[.agg #[.int .i64 k, .int .i64 p, .int .i64 x, .int .i64 q, .int .i64 y, .int .i64 f, .bool m, .int .u64 (a : Int), .int .u64 (b : Int), .int .u64 (c : Int), .int .u64 (d : Int)]] w fun e w' => e = .returned (.bool (RB)) ∧ Below w.heap.size w w' := by
  have A0 := AB.at0 w 61 [.int .i64 k, .int .i64 p, .int .i64 x, .int .i64 q, .int .i64 y, .int .i64 f, .bool m, .int .u64 (a : Int), .int .u64 (b : Int), .int .u64 (c : Int), .int .u64 (d : Int)]
  have B0 := h_ (below1 w (.cells #[.int .i64 k, .int .i64 p, .int .i64 x, .int .i64 q, .int .i64 y, .int .i64 f, .bool m, .int .u64 (a : Int), .int .u64 (b : Int), .int .u64 (c : Int), .int .u64 (d : Int)] 61))
  obtain ⟨c0, c1, c2, c3, c4, c5, c6, c7, c8, c9, c10, -⟩ := A0.eleven
  clear A0
  have qo := h_ qo
  have qc := h_ qc
  have qr := h_ qr
  unfold ov at qr
  have hf := fun x y z w => fldF x y z w
  have H25 := h_ h25
  clear h25
  go_enter Tryz.func115, Tryz.ntmps115
  go_wp2_with fail
  generalize w.alloc (.cells #[.int .i64 k, .int .i64 p, .int .i64 x, .int .i64 q, .int .i64 y, .int .i64 f, .bool m, .int .u64 (a : Int), .int .u64 (b : Int), .int .u64 (c : Int), .int .u64 (d : Int)] 61) = W at *
  refine wp_region_held_drew (S := (fun w' => w'.cell? ⟨w.heap.size, 0, none⟩ = some (.int .i64 k) ∧ w'.cell? ⟨w.heap.size, 1, none⟩ = some (.int .i64 p) ∧ w'.cell? ⟨w.heap.size, 2, none⟩ = some (.int .i64 x) ∧ w'.cell? ⟨w.heap.size, 3, none⟩ = some (.int .i64 q) ∧ w'.cell? ⟨w.heap.size, 4, none⟩ = some (.int .i64 y) ∧ w'.cell? ⟨w.heap.size, 5, none⟩ = some (.int .i64 f) ∧ w'.cell? ⟨w.heap.size, 6, none⟩ = some (.bool m) ∧ w'.cell? ⟨w.heap.size, 7, none⟩ = some (.int .u64 (a : Int)) ∧ w'.cell? ⟨w.heap.size, 8, none⟩ = some (.int .u64 (b : Int)) ∧ w'.cell? ⟨w.heap.size, 9, none⟩ = some (.int .u64 (c : Int)) ∧ w'.cell? ⟨w.heap.size, 10, none⟩ = some (.int .u64 (d : Int)) ∧ Below w.heap.size w w')) (by kernel_rfl) (⟨c0, c1, c2, c3, c4, c5, c6, c7, c8, c9, c10, B0.out.drew⟩) (fun hHeld => ?_)
  refine tR 0 ?_ (some 3) rfl (by kernel_rfl) rfl (by rfl) ?_ (fun _ _ _ h => h) (by assumption) ?_
  rotate_left
  · intro w hSw; (try dsimp only at hSw); go_simp; (try with_reducible rfl)
  simp only [Act.put, sIb, sCz, sCs]
  refine tR 1 ?_ (some 4) rfl (by kernel_rfl) rfl (by rfl) ?_ (fun _ _ _ h => h) (by assumption) ?_
  rotate_left
  · intro w hSw; (try dsimp only at hSw); go_simp; (try with_reducible rfl)
  simp only [Act.put, sIb, sCz, sCs]
  refine wpAnyH_ready (rs := [2]) (by kernel_rfl) (by simp) ?_
  refine AllReadyH.cons rfl (fun K hK => ?_) (AllReadyH.nil)
  go_simp
  refine (qo.out _).mono ?_
  rintro e w1 ⟨rfl, b1⟩
  refine hK.out _ _ (kN11 b1 hHeld) (fun hHeld => ?_)
  clear hK K
  try simp only [Act.put, sIb, sCz, sCs]
  refine tR 3 ?_ (some 6) rfl (by kernel_rfl) rfl (by rfl) ?_ (fun _ _ _ h => h) (by assumption) ?_
  rotate_left
  · intro w hSw; (try dsimp only at hSw); go_simp; (try with_reducible rfl)
  simp only [Act.put, sIb, sCz, sCs]
  refine tR 4 ?_ (some 7) rfl (by kernel_rfl) rfl (by rfl) ?_ (fun _ _ _ h => h) (by assumption) ?_
  rotate_left
  · intro w hSw; (try dsimp only at hSw); go_simp; (try with_reducible rfl)
  simp only [Act.put, sIb, sCz, sCs]
  refine tR 5 ?_ (some 8) rfl (by kernel_rfl) rfl (by rfl) ?_ (fun _ _ _ h => h) (by assumption) ?_
  rotate_left
  · intro w hSw; (try dsimp only at hSw); go_simp; (try with_reducible rfl)
  simp only [Act.put, sIb, sCz, sCs]
  refine wpAnyH_ready (rs := [6]) (by kernel_rfl) (by simp) ?_
  refine AllReadyH.cons rfl (fun K hK => ?_) (AllReadyH.nil)
  go_simp
  refine (qc.out _).mono ?_
  rintro e w2 ⟨rfl, b2⟩
  refine hK.out _ _ (kN11 b2 hHeld) (fun hHeld => ?_)
  clear hK K
  try simp only [Act.put, sIb, sCz, sCs]
  refine tR 7 ?_ (some 10) rfl (by kernel_rfl) rfl (by rfl) ?_ (fun _ _ _ h => h) (by assumption) ?_
  rotate_left
  · intro w hSw; (try dsimp only at hSw); go_simp; (try with_reducible rfl)
  simp only [Act.put, sIb, sCz, sCs]
  refine tR 8 ?_ (some 11) rfl (by kernel_rfl) rfl (by rfl) ?_ (fun _ _ _ h => h) (by assumption) ?_
  rotate_left
  · intro w hSw; (try dsimp only at hSw); go_simp; (try with_reducible rfl)
  simp only [Act.put, sIb, sCz, sCs]
  refine wpAnyH_done (by kernel_rfl) ?_ _
  have bel := hHeld.2.2.2.2.2.2.2.2.2.2.2
  obtain ⟨y0, y1, y2, y3, y4, y5, y6, y7, y8, y9, y10, -⟩ := hHeld
  have h25 := H25.out
  clear H25
  subst h25
  go_wp2_with (go_at_call 139; refine (qr.out _).mono ?_; rintro e w3 ⟨rfl, b3⟩)
  go_ret
  exact ⟨by rfl, bel.trans (b3.mono bel.size)⟩
end Go.Proofs.YthhijfphfcmniaaGreat
