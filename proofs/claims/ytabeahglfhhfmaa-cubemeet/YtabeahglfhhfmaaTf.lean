import Derived.Test.YtabeahglfhhfmaaTe
namespace Go.Proofs.Ytabeahglfhhfmaa
open Go Go.RowKit
set_option linter.unusedVariables false
set_option linter.unusedSimpArgs false

theorem aw5a (w : World) : Calls Try.prog 9 #[.agg #[.int .u64 0, .int .u64 1, .int .u64 0, .int .u64 1], .agg #[.int .u64 0, .int .u64 0, .int .u64 0, .int .u64 1]] w fun e w' => e = .returned (.tuple #[.agg #[.int .u64 0, .int .u64 0, .int .u64 0, .int .u64 0], .bool false]) ∧ Below w.heap.size w w' := tmeet_any 0 1 0 1 0 0 0 1 w (by decide) (by decide) (by decide) (by decide) (by decide) (by decide) (by decide) (by decide)
theorem aw5b (w : World) : Calls Try.prog 9 #[.agg #[.int .u64 0, .int .u64 1, .int .u64 0, .int .u64 1], .agg #[.int .u64 0, .int .u64 3, .int .u64 0, .int .u64 2]] w fun e w' => e = .returned (.tuple #[.agg #[.int .u64 0, .int .u64 3, .int .u64 0, .int .u64 3], .bool true]) ∧ Below w.heap.size w w' := tmeet_any 0 1 0 1 0 3 0 2 w (by decide) (by decide) (by decide) (by decide) (by decide) (by decide) (by decide) (by decide)
theorem aw5c (w : World) : Calls Try.prog 11 #[.agg #[.int .u64 0, .int .u64 1, .int .u64 0, .int .u64 1], .agg #[.int .u64 0, .int .u64 5]] w fun e w' => e = .returned (.bool true) ∧ Below w.heap.size w w' := thas_any 0 1 0 1 0 5 w (by decide) (by decide) (by decide) (by decide) (by decide) (by decide)
theorem aw5d (w : World) : Calls Try.prog 13 #[.agg #[.int .u64 0, .int .u64 3, .int .u64 0, .int .u64 3], .agg #[.int .u64 0, .int .u64 1, .int .u64 0, .int .u64 1]] w fun e w' => e = .returned (.bool true) ∧ Below w.heap.size w w' := twithin_any 0 3 0 3 0 1 0 1 w (by decide) (by decide) (by decide) (by decide) (by decide) (by decide) (by decide) (by decide)
theorem fall12 : fall (hasb (andn 0 0) (andn 3 1)) 128 = [1] := by decide +kernel
theorem aw5e (w : World) : Calls Try.prog 16 #[.agg #[.int .u64 0, .int .u64 1, .int .u64 0, .int .u64 1], .agg #[.int .u64 0, .int .u64 3, .int .u64 0, .int .u64 3]] w fun e w' => ∃ u, e = .returned u ∧ Cells w' u 1 1 [.int .i64 1] ∧ Below w.heap.size w w' := by
  have := tbits_any 0 1 0 1 0 3 0 3 w (by decide) (by decide) (by decide) (by decide) (by decide) (by decide) (by decide) (by decide)
  rw [fall12] at this
  exact this
theorem aw5f (w : World) : Calls Try.prog 20 #[.agg #[.int .u64 0, .int .u64 1, .int .u64 0, .int .u64 1], .int .i64 0, .bool false] w fun e w' => e = .returned (.agg #[.int .u64 0, .int .u64 0, .int .u64 0, .int .u64 1]) ∧ Below w.heap.size w w' := tfix_any 0 1 0 1 0 false w (by decide) (by decide) (by decide) (by decide)
theorem aw5g (w : World) : Calls Try.prog 18 #[.agg #[.int .u64 0, .int .u64 7, .int .u64 0, .int .u64 1]] w fun e w' => e = .returned (.agg #[.int .u64 0, .int .u64 1, .int .u64 0, .int .u64 1]) ∧ Below w.heap.size w w' := tclean_any 0 7 0 1 w (by decide) (by decide) (by decide) (by decide)
theorem iequal_one (v : Value) (g : Nat) (w w0 : World) (h : Cells w v 1 1 [.int .i64 1]) (k : Cells w (.slice (some ⟨g, 0, none⟩) 1 1) 1 1 [.int .i64 1]) :
    Calls Try.prog 15 #[v, .slice (some ⟨g, 0, none⟩) 1 1] w fun e w' => e = .returned (.bool true) ∧ Below w.heap.size w w' :=
  iequal_any v _ [1] [1] w h k
theorem iequal_lit (v : Value) (w : World) (h : Cells w v 1 1 [.int .i64 1]) :
    Calls Try.prog 15 #[v, .slice (some ⟨w.heap.size, 0, none⟩) 1 1] (w.alloc (.cells #[.int .i64 1] 3)) fun e w' => e = .returned (.bool true) ∧ Below (w.alloc (.cells #[.int .i64 1] 3)).heap.size (w.alloc (.cells #[.int .i64 1] 3)) w' :=
  iequal_one v w.heap.size (w.alloc (.cells #[.int .i64 1] 3)) w (h.later (below1 _ _)) (Cells.fresh w [.int .i64 1] 3 w.heap.size 1 1 rfl rfl (by unfold maxLen; omega))
theorem iequal_lit' (v : Value) (w0 w : World) (hb : Below (w0.alloc (.cells #[.int .i64 1] 3)).heap.size (w0.alloc (.cells #[.int .i64 1] 3)) w) (h : Cells w v 1 1 [.int .i64 1]) :
    Calls Try.prog 15 #[v, .slice (some ⟨w0.heap.size, 0, none⟩) 1 1] w fun e w' => e = .returned (.bool true) ∧ Below w.heap.size w w' :=
  iequal_one v w0.heap.size w w h ((Cells.fresh w0 [.int .i64 1] 3 w0.heap.size 1 1 rfl rfl (by unfold maxLen; omega)).later hb)
theorem fld1 (x y c d : Value) (w : World) : Sem.run Try.prog (Instr.field 26 (.agg #[x, y, c, d]) 1) w = .ok (.agg #[c, d]) w := by rfl
theorem fldw (x y : Value) (w : World) : Sem.run Try.prog (Instr.field 24 (.agg #[x, y]) 1) w = .ok y w := by rfl

set_option maxRecDepth 100000 in
set_option maxHeartbeats 4000000 in
theorem awake5_any (w : World) :
    Calls Try.prog 22 #[] w fun e w' => e = .returned (.bool true) ∧ Below w.heap.size w w' := by
  have hf1 := fun x y c d w => fld1 x y c d w
  have hf2 := fun x y w => fldw x y w
  have HA := hide_ (AB.at0 w 26 [.int .u64 0, .int .u64 1, .int .u64 0, .int .u64 1])
  have HB := hide_ (below1 w (.cells #[.int .u64 0, .int .u64 1, .int .u64 0, .int .u64 1] 26))
  go_enter Try.func22, Try.ntmps22
  go_wp2_with (first | (go_at_call_of 9 (Value.int IntKind.u64 3); refine (aw5b _).mono ?_; rintro e w2 ⟨rfl, b2⟩; have k2 := b1.trans ((below1 w1 (.cells #[.int .u64 0, .int .u64 0, .int .u64 0, .int .u64 0] 26)).trans (b2.mono (by simp)) |>.mono b1.size); have HA2 := hide_ ((HA.out.later k2).alloc (.cells #[.int .u64 0, .int .u64 3, .int .u64 0, .int .u64 3] 26)); have HC2 := hide_ (AB.at0 w2 26 [.int .u64 0, .int .u64 3, .int .u64 0, .int .u64 3]); have HB2 := hide_ (HB.out.trans (k2.mono HB.out.size))) | (go_at_call 9; refine (aw5a _).mono ?_; rintro e w1 ⟨rfl, b1⟩; obtain ⟨n0, n1, n2, n3, -⟩ := ((HA.out.later b1).alloc (.cells #[.int .u64 0, .int .u64 0, .int .u64 0, .int .u64 0] 26)).four))
  have HB3 := hide_ (HB2.out.alloc HB2.out.size (.cells #[.int .u64 0, .int .u64 3, .int .u64 0, .int .u64 3] 26))
  obtain ⟨o0, o1, o2, o3, -⟩ := HA2.out.four
  obtain ⟨i0, i1, i2, i3, -⟩ := HC2.out.four
  clear HA2 HC2 HB2 HA HB k2 b2 n0 n1 n2 n3 b1
  generalize w2.alloc (.cells #[.int .u64 0, .int .u64 3, .int .u64 0, .int .u64 3] 26) = W at *
  generalize w2.heap.size = n at *

  go_region_held3 (fun w' => w'.cell? ⟨w.heap.size, 0, none⟩ = some (.int .u64 0) ∧ w'.cell? ⟨w.heap.size, 1, none⟩ = some (.int .u64 1) ∧ w'.cell? ⟨w.heap.size, 2, none⟩ = some (.int .u64 0) ∧ w'.cell? ⟨w.heap.size, 3, none⟩ = some (.int .u64 1) ∧ w'.cell? ⟨n, 0, none⟩ = some (.int .u64 0) ∧ w'.cell? ⟨n, 1, none⟩ = some (.int .u64 3) ∧ w'.cell? ⟨n, 2, none⟩ = some (.int .u64 0) ∧ w'.cell? ⟨n, 3, none⟩ = some (.int .u64 3) ∧ Below w.heap.size w w')
    (first | (with_reducible exact keepA8 (by assumption) (by assumption)) | (with_reducible exact keepA8 (below1 _ _) (by assumption)) | (exact ⟨o0, o1, o2, o3, i0, i1, i2, i3, HB3.out.drew⟩) | (exact ⟨o0, o1, o2, o3, i0, i1, i2, i3, HB3.out⟩))
    (first | (go_at_call 11; refine (aw5c _).mono ?_; rintro e w3 ⟨rfl, b3⟩) | (go_at_call 13; refine (aw5d _).mono ?_; rintro e w4 ⟨rfl, b4⟩) | (go_at_call 16; refine (aw5e _).mono ?_; rintro e w5 ⟨u5, rfl, c5, b5⟩) | (go_at_call 15; first | (with_reducible refine (iequal_lit u5 w5 c5).mono ?_; rintro e w6 ⟨rfl, b6⟩) | (with_reducible refine (iequal_lit' u5 w4 w5 b5 c5).mono ?_; rintro e w6 ⟨rfl, b6⟩)) | (go_at_call 20; refine (aw5f _).mono ?_; rintro e w7 ⟨rfl, b7⟩) | (go_at_call 18; refine (aw5g _).mono ?_; rintro e w8 ⟨rfl, b8⟩))
  all_goals
    rename_i hH
    have bel := hH.2.2.2.2.2.2.2.2
    clear hH
    go_wp2_with fail
    go_ret
    exact ⟨rfl, bel⟩


end Go.Proofs.Ytabeahglfhhfmaa
