import Derived.Test.YthhijfphfcmniaaGreatAhe
import Derived.Test.YthhijfphfcmniaaGreatJPe
import Derived.Test.YthhijfphfcmniaaGreatAae
import Derived.Deep.RegionHeld3
import Derived.Deep.RegionWith
import Derived.Deep.MidRow
import Derived.Deep.Cut
set_option maxRecDepth 100000
set_option maxHeartbeats 8000000
set_option linter.unusedVariables false
set_option linter.unusedSimpArgs false
set_option linter.defProp false
namespace Go.Proofs.YthhijfphfcmniaaGreat
section
open Go Go.RowKit
def pase0 (w : World) := h_ ((AB.at0 w 61 [.int .i64 0, .int .i64 0, .int .i64 0, .int .i64 0, .int .i64 0, .int .i64 0, .bool false, .int .u64 0, .int .u64 0, .int .u64 0, .int .u64 0]).alloc (.cells #[.bool false, .int .i64 0, .int .i64 0] 44))
def pase1 (w : World) := h_ (AB.at1 w (.cells #[.int .i64 0, .int .i64 0, .int .i64 0, .int .i64 0, .int .i64 0, .int .i64 0, .bool false, .int .u64 0, .int .u64 0, .int .u64 0, .int .u64 0] 61) 44 [.bool false, .int .i64 0, .int .i64 0])
def pase2 (w : World) := h_ (below2 w (.cells #[.int .i64 0, .int .i64 0, .int .i64 0, .int .i64 0, .int .i64 0, .int .i64 0, .bool false, .int .u64 0, .int .u64 0, .int .u64 0, .int .u64 0] 61) (.cells #[.bool false, .int .i64 0, .int .i64 0] 44))
theorem pase3 (w : World) : Below ((w.alloc (.cells #[.int .i64 0, .int .i64 0, .int .i64 0, .int .i64 0, .int .i64 0, .int .i64 0, .bool false, .int .u64 0, .int .u64 0, .int .u64 0, .int .u64 0] 61)).alloc (.cells #[.bool false, .int .i64 0, .int .i64 0] 44)).heap.size ((w.alloc (.cells #[.int .i64 0, .int .i64 0, .int .i64 0, .int .i64 0, .int .i64 0, .int .i64 0, .bool false, .int .u64 0, .int .u64 0, .int .u64 0, .int .u64 0] 61)).alloc (.cells #[.bool false, .int .i64 0, .int .i64 0] 44)) (((w.alloc (.cells #[.int .i64 0, .int .i64 0, .int .i64 0, .int .i64 0, .int .i64 0, .int .i64 0, .bool false, .int .u64 0, .int .u64 0, .int .u64 0, .int .u64 0] 61)).alloc (.cells #[.bool false, .int .i64 0, .int .i64 0] 44)).alloc (.cells #[.int .i64 0, .int .i64 0, .int .i64 0, .int .i64 0, .int .i64 0, .int .i64 0, .bool false, .int .u64 0, .int .u64 0, .int .u64 0, .int .u64 0] 61)) := below1 ((w.alloc (.cells #[.int .i64 0, .int .i64 0, .int .i64 0, .int .i64 0, .int .i64 0, .int .i64 0, .bool false, .int .u64 0, .int .u64 0, .int .u64 0, .int .u64 0] 61)).alloc (.cells #[.bool false, .int .i64 0, .int .i64 0] 44)) _
def pase4 (w : World) := h_ (AB.at2 w (.cells #[.int .i64 0, .int .i64 0, .int .i64 0, .int .i64 0, .int .i64 0, .int .i64 0, .bool false, .int .u64 0, .int .u64 0, .int .u64 0, .int .u64 0] 61) (.cells #[.bool false, .int .i64 0, .int .i64 0] 44) 61 [.int .i64 0, .int .i64 0, .int .i64 0, .int .i64 0, .int .i64 0, .int .i64 0, .bool false, .int .u64 0, .int .u64 0, .int .u64 0, .int .u64 0])
theorem pase5 (w : World) : Below ((w.alloc (.cells #[.int .i64 0, .int .i64 0, .int .i64 0, .int .i64 0, .int .i64 0, .int .i64 0, .bool false, .int .u64 0, .int .u64 0, .int .u64 0, .int .u64 0] 61)).alloc (.cells #[.bool false, .int .i64 0, .int .i64 0] 44)).heap.size ((w.alloc (.cells #[.int .i64 0, .int .i64 0, .int .i64 0, .int .i64 0, .int .i64 0, .int .i64 0, .bool false, .int .u64 0, .int .u64 0, .int .u64 0, .int .u64 0] 61)).alloc (.cells #[.bool false, .int .i64 0, .int .i64 0] 44)) (((w.alloc (.cells #[.int .i64 0, .int .i64 0, .int .i64 0, .int .i64 0, .int .i64 0, .int .i64 0, .bool false, .int .u64 0, .int .u64 0, .int .u64 0, .int .u64 0] 61)).alloc (.cells #[.bool false, .int .i64 0, .int .i64 0] 44)).alloc (.cells #[.int .i64 17, .int .i64 0, .int .i64 0, .int .i64 0, .int .i64 0, .int .i64 0, .bool false, .int .u64 0, .int .u64 0, .int .u64 0, .int .u64 0] 61)) := below1 ((w.alloc (.cells #[.int .i64 0, .int .i64 0, .int .i64 0, .int .i64 0, .int .i64 0, .int .i64 0, .bool false, .int .u64 0, .int .u64 0, .int .u64 0, .int .u64 0] 61)).alloc (.cells #[.bool false, .int .i64 0, .int .i64 0] 44)) _
def pase6 (w : World) := h_ (AB.at2 w (.cells #[.int .i64 0, .int .i64 0, .int .i64 0, .int .i64 0, .int .i64 0, .int .i64 0, .bool false, .int .u64 0, .int .u64 0, .int .u64 0, .int .u64 0] 61) (.cells #[.bool false, .int .i64 0, .int .i64 0] 44) 61 [.int .i64 17, .int .i64 0, .int .i64 0, .int .i64 0, .int .i64 0, .int .i64 0, .bool false, .int .u64 0, .int .u64 0, .int .u64 0, .int .u64 0])
theorem pase7 (w : World) : Below ((w.alloc (.cells #[.int .i64 0, .int .i64 0, .int .i64 0, .int .i64 0, .int .i64 0, .int .i64 0, .bool false, .int .u64 0, .int .u64 0, .int .u64 0, .int .u64 0] 61)).alloc (.cells #[.bool false, .int .i64 0, .int .i64 0] 44)).heap.size ((w.alloc (.cells #[.int .i64 0, .int .i64 0, .int .i64 0, .int .i64 0, .int .i64 0, .int .i64 0, .bool false, .int .u64 0, .int .u64 0, .int .u64 0, .int .u64 0] 61)).alloc (.cells #[.bool false, .int .i64 0, .int .i64 0] 44)) (((w.alloc (.cells #[.int .i64 0, .int .i64 0, .int .i64 0, .int .i64 0, .int .i64 0, .int .i64 0, .bool false, .int .u64 0, .int .u64 0, .int .u64 0, .int .u64 0] 61)).alloc (.cells #[.bool false, .int .i64 0, .int .i64 0] 44)).alloc (.cells #[.int .i64 18, .int .i64 0, .int .i64 0, .int .i64 0, .int .i64 0, .int .i64 0, .bool false, .int .u64 0, .int .u64 0, .int .u64 0, .int .u64 0] 61)) := below1 ((w.alloc (.cells #[.int .i64 0, .int .i64 0, .int .i64 0, .int .i64 0, .int .i64 0, .int .i64 0, .bool false, .int .u64 0, .int .u64 0, .int .u64 0, .int .u64 0] 61)).alloc (.cells #[.bool false, .int .i64 0, .int .i64 0] 44)) _
def pase8 (w : World) := h_ (AB.at2 w (.cells #[.int .i64 0, .int .i64 0, .int .i64 0, .int .i64 0, .int .i64 0, .int .i64 0, .bool false, .int .u64 0, .int .u64 0, .int .u64 0, .int .u64 0] 61) (.cells #[.bool false, .int .i64 0, .int .i64 0] 44) 61 [.int .i64 18, .int .i64 0, .int .i64 0, .int .i64 0, .int .i64 0, .int .i64 0, .bool false, .int .u64 0, .int .u64 0, .int .u64 0, .int .u64 0])
theorem pase9 (w : World) : Below ((w.alloc (.cells #[.int .i64 0, .int .i64 0, .int .i64 0, .int .i64 0, .int .i64 0, .int .i64 0, .bool false, .int .u64 0, .int .u64 0, .int .u64 0, .int .u64 0] 61)).alloc (.cells #[.bool false, .int .i64 0, .int .i64 0] 44)).heap.size ((w.alloc (.cells #[.int .i64 0, .int .i64 0, .int .i64 0, .int .i64 0, .int .i64 0, .int .i64 0, .bool false, .int .u64 0, .int .u64 0, .int .u64 0, .int .u64 0] 61)).alloc (.cells #[.bool false, .int .i64 0, .int .i64 0] 44)) (((w.alloc (.cells #[.int .i64 0, .int .i64 0, .int .i64 0, .int .i64 0, .int .i64 0, .int .i64 0, .bool false, .int .u64 0, .int .u64 0, .int .u64 0, .int .u64 0] 61)).alloc (.cells #[.bool false, .int .i64 0, .int .i64 0] 44)).alloc (.cells #[.int .i64 22, .int .i64 0, .int .i64 0, .int .i64 0, .int .i64 0, .int .i64 0, .bool false, .int .u64 0, .int .u64 0, .int .u64 0, .int .u64 0] 61)) := below1 ((w.alloc (.cells #[.int .i64 0, .int .i64 0, .int .i64 0, .int .i64 0, .int .i64 0, .int .i64 0, .bool false, .int .u64 0, .int .u64 0, .int .u64 0, .int .u64 0] 61)).alloc (.cells #[.bool false, .int .i64 0, .int .i64 0] 44)) _
def pase10 (w : World) := h_ (AB.at2 w (.cells #[.int .i64 0, .int .i64 0, .int .i64 0, .int .i64 0, .int .i64 0, .int .i64 0, .bool false, .int .u64 0, .int .u64 0, .int .u64 0, .int .u64 0] 61) (.cells #[.bool false, .int .i64 0, .int .i64 0] 44) 61 [.int .i64 22, .int .i64 0, .int .i64 0, .int .i64 0, .int .i64 0, .int .i64 0, .bool false, .int .u64 0, .int .u64 0, .int .u64 0, .int .u64 0])
end
open Go Go.RowKit
theorem rd_short (ao : Option Addr) (ln cap : Nat) (l : List Int) (w : World) (hB : Bytes w (.slice ao ln cap) l) (h : ln < 8) :
    Calls Tryz.prog 125 #[.slice ao ln cap] w fun e w' => e = .returned (.tuple #[.agg #[.int .i64 0, .int .i64 0, .int .i64 0, .int .i64 0, .int .i64 0, .int .i64 0, .bool false, .int .u64 0, .int .u64 0, .int .u64 0, .int .u64 0], .int .i64 0, .agg #[.bool true, .int .i64 2, .int .i64 1]]) ∧ Below w.heap.size w w' := by
  have R0 := pase0 w
  have F0 := pase1 w
  have B0 := pase2 w
  have hm := hmB hB
  have qb := h_ (fun k w => rbad2_any k w)
  unfold fv at qb
  have h' : (ln : Int) < 8 := by omega
  clear hB
  go_enter Tryz.func125, Tryz.ntmps125
  go_wp2_with (first  | (go_at_call 146; refine (qb.out _ _).mono ?_; rintro e w9 ⟨rfl, b9⟩; have K9 : Below ((w.alloc (.cells #[.int .i64 0, .int .i64 0, .int .i64 0, .int .i64 0, .int .i64 0, .int .i64 0, .bool false, .int .u64 0, .int .u64 0, .int .u64 0, .int .u64 0] 61)).alloc (.cells #[.bool false, .int .i64 0, .int .i64 0] 44)).heap.size ((w.alloc (.cells #[.int .i64 0, .int .i64 0, .int .i64 0, .int .i64 0, .int .i64 0, .int .i64 0, .bool false, .int .u64 0, .int .u64 0, .int .u64 0, .int .u64 0] 61)).alloc (.cells #[.bool false, .int .i64 0, .int .i64 0] 44)) w9 := b9; have hgw : w.heap.size + 1 < w9.heap.size := Nat.lt_of_lt_of_le (by simp) K9.size; obtain ⟨s0, s1, s2, s3, s4, s5, s6, s7, s8, s9, s10, s11, s12, s13, s14, s15, s16, s17, s18, s19, s20, s21⟩ := (R0.out.later K9).eleven; obtain ⟨t0, t1, t2, t3, t4, t5⟩ := ((F0.out.later K9).far11 (h := w.heap.size) (by omega) (.int .i64 0) (.int .i64 0) (.int .i64 0) (.int .i64 0) (.int .i64 0) (.int .i64 0) (.bool false) (.int .u64 0) (.int .u64 0) (.int .u64 0) (.int .u64 0)).three; obtain ⟨h0, h1, h2, h3, h4, h5, h6, h7, h8, h9, h10, -⟩ := (((R0.out.later K9).set11 (.int .i64 0) (.int .i64 0) (.int .i64 0) (.int .i64 0) (.int .i64 0) (.int .i64 0) (.bool false) (.int .u64 0) (.int .u64 0) (.int .u64 0) (.int .u64 0)).far3 (h := (w.heap.size + 1)) (by omega) (.bool true) (.int .i64 2) (.int .i64 1)).eleven; obtain ⟨h11, h12, h13, -⟩ := (((F0.out.later K9).far11 (h := w.heap.size) (by omega) (.int .i64 0) (.int .i64 0) (.int .i64 0) (.int .i64 0) (.int .i64 0) (.int .i64 0) (.bool false) (.int .u64 0) (.int .u64 0) (.int .u64 0) (.int .u64 0)).set3 (.bool true) (.int .i64 2) (.int .i64 1)).three; have bb := below_set3 (g := (w.heap.size + 1)) (below_set11 (g := w.heap.size) (B0.out.trans (K9.mono B0.out.size)) (by omega) (.int .i64 0) (.int .i64 0) (.int .i64 0) (.int .i64 0) (.int .i64 0) (.int .i64 0) (.bool false) (.int .u64 0) (.int .u64 0) (.int .u64 0) (.int .u64 0)) (by omega) (.bool true) (.int .i64 2) (.int .i64 1)))
  exact bodyPost_ret (v := .tuple #[.agg #[.int .i64 0, .int .i64 0, .int .i64 0, .int .i64 0, .int .i64 0, .int .i64 0, .bool false, .int .u64 0, .int .u64 0, .int .u64 0, .int .u64 0], .int .i64 0, .agg #[.bool true, .int .i64 2, .int .i64 1]]) (by simp [results, Tryz.results125, go_sem, h0, h1, h2, h3, h4, h5, h6, h7, h8, h9, h10, h11, h12, h13]) rfl ⟨rfl, bb⟩
theorem rd_n1 (ao : Option Addr) (ln cap : Nat) (l : List Int) (N : Nat) (w : World) (hB : Bytes w (.slice ao ln cap) l) (h : ¬ ln < 8) (hN : be2 l 2 = (N : Int)) (h2 : N < 8) :
    Calls Tryz.prog 125 #[.slice ao ln cap] w fun e w' => e = .returned (.tuple #[.agg #[.int .i64 0, .int .i64 0, .int .i64 0, .int .i64 0, .int .i64 0, .int .i64 0, .bool false, .int .u64 0, .int .u64 0, .int .u64 0, .int .u64 0], .int .i64 0, .agg #[.bool true, .int .i64 2, .int .i64 1]]) ∧ Below w.heap.size w w' := by
  have R0 := pase0 w
  have F0 := pase1 w
  have B0 := pase2 w
  have hm := hmB hB
  have qb := h_ (fun k w => rbad2_any k w)
  unfold fv at qb
  have qn0 := fun W hW => rnum2 _ l 0 W (hB.later (w' := W) hW) (by omega)
  have qn2 := fun W hW => rnum2 _ l 2 W (hB.later (w' := W) hW) (by omega)
  rw [hN] at qn2
  have qn0 := h_ qn0
  have qn2 := h_ qn2
  have h' : ¬ (ln : Int) < 8 := by omega
  have h2' : (N : Int) < 8 := by omega
  generalize be2 l 0 = z0 at *
  clear hB hN
  go_enter Tryz.func125, Tryz.ntmps125
  go_wp2_with (first | (go_at_call_of 147 (Value.int IntKind.i64 0); refine (qn0.out _ B0.out).mono ?_; rintro e w' ⟨rfl, rfl⟩) | (go_at_call_of 147 (Value.int IntKind.i64 2); refine (qn2.out _ B0.out).mono ?_; rintro e w' ⟨rfl, rfl⟩) | (go_at_call 146; refine (qb.out _ _).mono ?_; rintro e w9 ⟨rfl, b9⟩; have K9 : Below ((w.alloc (.cells #[.int .i64 0, .int .i64 0, .int .i64 0, .int .i64 0, .int .i64 0, .int .i64 0, .bool false, .int .u64 0, .int .u64 0, .int .u64 0, .int .u64 0] 61)).alloc (.cells #[.bool false, .int .i64 0, .int .i64 0] 44)).heap.size ((w.alloc (.cells #[.int .i64 0, .int .i64 0, .int .i64 0, .int .i64 0, .int .i64 0, .int .i64 0, .bool false, .int .u64 0, .int .u64 0, .int .u64 0, .int .u64 0] 61)).alloc (.cells #[.bool false, .int .i64 0, .int .i64 0] 44)) w9 := b9; have hgw : w.heap.size + 1 < w9.heap.size := Nat.lt_of_lt_of_le (by simp) K9.size; obtain ⟨s0, s1, s2, s3, s4, s5, s6, s7, s8, s9, s10, s11, s12, s13, s14, s15, s16, s17, s18, s19, s20, s21⟩ := (R0.out.later K9).eleven; obtain ⟨t0, t1, t2, t3, t4, t5⟩ := ((F0.out.later K9).far11 (h := w.heap.size) (by omega) (.int .i64 0) (.int .i64 0) (.int .i64 0) (.int .i64 0) (.int .i64 0) (.int .i64 0) (.bool false) (.int .u64 0) (.int .u64 0) (.int .u64 0) (.int .u64 0)).three; obtain ⟨h0, h1, h2, h3, h4, h5, h6, h7, h8, h9, h10, -⟩ := (((R0.out.later K9).set11 (.int .i64 0) (.int .i64 0) (.int .i64 0) (.int .i64 0) (.int .i64 0) (.int .i64 0) (.bool false) (.int .u64 0) (.int .u64 0) (.int .u64 0) (.int .u64 0)).far3 (h := (w.heap.size + 1)) (by omega) (.bool true) (.int .i64 2) (.int .i64 1)).eleven; obtain ⟨h11, h12, h13, -⟩ := (((F0.out.later K9).far11 (h := w.heap.size) (by omega) (.int .i64 0) (.int .i64 0) (.int .i64 0) (.int .i64 0) (.int .i64 0) (.int .i64 0) (.bool false) (.int .u64 0) (.int .u64 0) (.int .u64 0) (.int .u64 0)).set3 (.bool true) (.int .i64 2) (.int .i64 1)).three; have bb := below_set3 (g := (w.heap.size + 1)) (below_set11 (g := w.heap.size) (B0.out.trans (K9.mono B0.out.size)) (by omega) (.int .i64 0) (.int .i64 0) (.int .i64 0) (.int .i64 0) (.int .i64 0) (.int .i64 0) (.bool false) (.int .u64 0) (.int .u64 0) (.int .u64 0) (.int .u64 0)) (by omega) (.bool true) (.int .i64 2) (.int .i64 1)))
  exact bodyPost_ret (v := .tuple #[.agg #[.int .i64 0, .int .i64 0, .int .i64 0, .int .i64 0, .int .i64 0, .int .i64 0, .bool false, .int .u64 0, .int .u64 0, .int .u64 0, .int .u64 0], .int .i64 0, .agg #[.bool true, .int .i64 2, .int .i64 1]]) (by simp [results, Tryz.results125, go_sem, h0, h1, h2, h3, h4, h5, h6, h7, h8, h9, h10, h11, h12, h13]) rfl ⟨rfl, bb⟩
theorem rd_n2 (ao : Option Addr) (ln cap : Nat) (l : List Int) (N : Nat) (w : World) (hB : Bytes w (.slice ao ln cap) l) (h : ¬ ln < 8) (hN : be2 l 2 = (N : Int)) (h2 : ¬ N < 8) (h3 : ¬ N % 8 = 0) :
    Calls Tryz.prog 125 #[.slice ao ln cap] w fun e w' => e = .returned (.tuple #[.agg #[.int .i64 0, .int .i64 0, .int .i64 0, .int .i64 0, .int .i64 0, .int .i64 0, .bool false, .int .u64 0, .int .u64 0, .int .u64 0, .int .u64 0], .int .i64 0, .agg #[.bool true, .int .i64 2, .int .i64 1]]) ∧ Below w.heap.size w w' := by
  have R0 := pase0 w
  have F0 := pase1 w
  have B0 := pase2 w
  have hm := hmB hB
  have qb := h_ (fun k w => rbad2_any k w)
  unfold fv at qb
  have qn0 := fun W hW => rnum2 _ l 0 W (hB.later (w' := W) hW) (by omega)
  have qn2 := fun W hW => rnum2 _ l 2 W (hB.later (w' := W) hW) (by omega)
  rw [hN] at qn2
  have qn0 := h_ qn0
  have qn2 := h_ qn2
  have h' : ¬ (ln : Int) < 8 := by omega
  have h2' : ¬ (N : Int) < 8 := by omega
  have hm1 : Int.tmod (N : Int) 8 = ((N % 8 : Nat) : Int) := by rw [Int.tmod_eq_emod_of_nonneg (by omega)]; omega
  have hm2 : (Int.tmod (N : Int) 8 == 0) = false := by rw [hm1]; simp; omega
  have hm3 : ¬ Int.tmod (N : Int) 8 = 0 := by rw [hm1]; omega
  generalize be2 l 0 = z0 at *
  clear hB hN
  go_enter Tryz.func125, Tryz.ntmps125
  go_wp2_with (first | (go_at_call_of 147 (Value.int IntKind.i64 0); refine (qn0.out _ B0.out).mono ?_; rintro e w' ⟨rfl, rfl⟩) | (go_at_call_of 147 (Value.int IntKind.i64 2); refine (qn2.out _ B0.out).mono ?_; rintro e w' ⟨rfl, rfl⟩) | (go_at_call 146; refine (qb.out _ _).mono ?_; rintro e w9 ⟨rfl, b9⟩; have K9 : Below ((w.alloc (.cells #[.int .i64 0, .int .i64 0, .int .i64 0, .int .i64 0, .int .i64 0, .int .i64 0, .bool false, .int .u64 0, .int .u64 0, .int .u64 0, .int .u64 0] 61)).alloc (.cells #[.bool false, .int .i64 0, .int .i64 0] 44)).heap.size ((w.alloc (.cells #[.int .i64 0, .int .i64 0, .int .i64 0, .int .i64 0, .int .i64 0, .int .i64 0, .bool false, .int .u64 0, .int .u64 0, .int .u64 0, .int .u64 0] 61)).alloc (.cells #[.bool false, .int .i64 0, .int .i64 0] 44)) w9 := b9; have hgw : w.heap.size + 1 < w9.heap.size := Nat.lt_of_lt_of_le (by simp) K9.size; obtain ⟨s0, s1, s2, s3, s4, s5, s6, s7, s8, s9, s10, s11, s12, s13, s14, s15, s16, s17, s18, s19, s20, s21⟩ := (R0.out.later K9).eleven; obtain ⟨t0, t1, t2, t3, t4, t5⟩ := ((F0.out.later K9).far11 (h := w.heap.size) (by omega) (.int .i64 0) (.int .i64 0) (.int .i64 0) (.int .i64 0) (.int .i64 0) (.int .i64 0) (.bool false) (.int .u64 0) (.int .u64 0) (.int .u64 0) (.int .u64 0)).three; obtain ⟨h0, h1, h2, h3, h4, h5, h6, h7, h8, h9, h10, -⟩ := (((R0.out.later K9).set11 (.int .i64 0) (.int .i64 0) (.int .i64 0) (.int .i64 0) (.int .i64 0) (.int .i64 0) (.bool false) (.int .u64 0) (.int .u64 0) (.int .u64 0) (.int .u64 0)).far3 (h := (w.heap.size + 1)) (by omega) (.bool true) (.int .i64 2) (.int .i64 1)).eleven; obtain ⟨h11, h12, h13, -⟩ := (((F0.out.later K9).far11 (h := w.heap.size) (by omega) (.int .i64 0) (.int .i64 0) (.int .i64 0) (.int .i64 0) (.int .i64 0) (.int .i64 0) (.bool false) (.int .u64 0) (.int .u64 0) (.int .u64 0) (.int .u64 0)).set3 (.bool true) (.int .i64 2) (.int .i64 1)).three; have bb := below_set3 (g := (w.heap.size + 1)) (below_set11 (g := w.heap.size) (B0.out.trans (K9.mono B0.out.size)) (by omega) (.int .i64 0) (.int .i64 0) (.int .i64 0) (.int .i64 0) (.int .i64 0) (.int .i64 0) (.bool false) (.int .u64 0) (.int .u64 0) (.int .u64 0) (.int .u64 0)) (by omega) (.bool true) (.int .i64 2) (.int .i64 1)))
  exact bodyPost_ret (v := .tuple #[.agg #[.int .i64 0, .int .i64 0, .int .i64 0, .int .i64 0, .int .i64 0, .int .i64 0, .bool false, .int .u64 0, .int .u64 0, .int .u64 0, .int .u64 0], .int .i64 0, .agg #[.bool true, .int .i64 2, .int .i64 1]]) (by simp [results, Tryz.results125, go_sem, h0, h1, h2, h3, h4, h5, h6, h7, h8, h9, h10, h11, h12, h13]) rfl ⟨rfl, bb⟩
theorem rd_n3 (ao : Option Addr) (ln cap : Nat) (l : List Int) (N : Nat) (w : World) (hB : Bytes w (.slice ao ln cap) l) (h : ¬ ln < 8) (hN : be2 l 2 = (N : Int)) (h2 : ¬ N < 8) (h3 : N % 8 = 0) (h4 : ln < N) :
    Calls Tryz.prog 125 #[.slice ao ln cap] w fun e w' => e = .returned (.tuple #[.agg #[.int .i64 0, .int .i64 0, .int .i64 0, .int .i64 0, .int .i64 0, .int .i64 0, .bool false, .int .u64 0, .int .u64 0, .int .u64 0, .int .u64 0], .int .i64 0, .agg #[.bool true, .int .i64 2, .int .i64 1]]) ∧ Below w.heap.size w w' := by
  have R0 := pase0 w
  have F0 := pase1 w
  have B0 := pase2 w
  have hm := hmB hB
  have qb := h_ (fun k w => rbad2_any k w)
  unfold fv at qb
  have qn0 := fun W hW => rnum2 _ l 0 W (hB.later (w' := W) hW) (by omega)
  have qn2 := fun W hW => rnum2 _ l 2 W (hB.later (w' := W) hW) (by omega)
  rw [hN] at qn2
  have qn0 := h_ qn0
  have qn2 := h_ qn2
  have h' : ¬ (ln : Int) < 8 := by omega
  have h2' : ¬ (N : Int) < 8 := by omega
  have hm1 : Int.tmod (N : Int) 8 = ((N % 8 : Nat) : Int) := by rw [Int.tmod_eq_emod_of_nonneg (by omega)]; omega
  have hm2 : Int.tmod (N : Int) 8 = 0 := by rw [hm1, h3]; rfl
  clear hm1
  have h4' : (ln : Int) < (N : Int) := by omega
  generalize be2 l 0 = z0 at *
  clear hB hN
  go_enter Tryz.func125, Tryz.ntmps125
  go_wp2_with (first | (go_at_call_of 147 (Value.int IntKind.i64 0); refine (qn0.out _ B0.out).mono ?_; rintro e w' ⟨rfl, rfl⟩) | (go_at_call_of 147 (Value.int IntKind.i64 2); refine (qn2.out _ B0.out).mono ?_; rintro e w' ⟨rfl, rfl⟩) | (go_at_call 146; refine (qb.out _ _).mono ?_; rintro e w9 ⟨rfl, b9⟩; have K9 : Below ((w.alloc (.cells #[.int .i64 0, .int .i64 0, .int .i64 0, .int .i64 0, .int .i64 0, .int .i64 0, .bool false, .int .u64 0, .int .u64 0, .int .u64 0, .int .u64 0] 61)).alloc (.cells #[.bool false, .int .i64 0, .int .i64 0] 44)).heap.size ((w.alloc (.cells #[.int .i64 0, .int .i64 0, .int .i64 0, .int .i64 0, .int .i64 0, .int .i64 0, .bool false, .int .u64 0, .int .u64 0, .int .u64 0, .int .u64 0] 61)).alloc (.cells #[.bool false, .int .i64 0, .int .i64 0] 44)) w9 := b9; have hgw : w.heap.size + 1 < w9.heap.size := Nat.lt_of_lt_of_le (by simp) K9.size; obtain ⟨s0, s1, s2, s3, s4, s5, s6, s7, s8, s9, s10, s11, s12, s13, s14, s15, s16, s17, s18, s19, s20, s21⟩ := (R0.out.later K9).eleven; obtain ⟨t0, t1, t2, t3, t4, t5⟩ := ((F0.out.later K9).far11 (h := w.heap.size) (by omega) (.int .i64 0) (.int .i64 0) (.int .i64 0) (.int .i64 0) (.int .i64 0) (.int .i64 0) (.bool false) (.int .u64 0) (.int .u64 0) (.int .u64 0) (.int .u64 0)).three; obtain ⟨h0, h1, h2, h3, h4, h5, h6, h7, h8, h9, h10, -⟩ := (((R0.out.later K9).set11 (.int .i64 0) (.int .i64 0) (.int .i64 0) (.int .i64 0) (.int .i64 0) (.int .i64 0) (.bool false) (.int .u64 0) (.int .u64 0) (.int .u64 0) (.int .u64 0)).far3 (h := (w.heap.size + 1)) (by omega) (.bool true) (.int .i64 2) (.int .i64 1)).eleven; obtain ⟨h11, h12, h13, -⟩ := (((F0.out.later K9).far11 (h := w.heap.size) (by omega) (.int .i64 0) (.int .i64 0) (.int .i64 0) (.int .i64 0) (.int .i64 0) (.int .i64 0) (.bool false) (.int .u64 0) (.int .u64 0) (.int .u64 0) (.int .u64 0)).set3 (.bool true) (.int .i64 2) (.int .i64 1)).three; have bb := below_set3 (g := (w.heap.size + 1)) (below_set11 (g := w.heap.size) (B0.out.trans (K9.mono B0.out.size)) (by omega) (.int .i64 0) (.int .i64 0) (.int .i64 0) (.int .i64 0) (.int .i64 0) (.int .i64 0) (.bool false) (.int .u64 0) (.int .u64 0) (.int .u64 0) (.int .u64 0)) (by omega) (.bool true) (.int .i64 2) (.int .i64 1)))
  exact bodyPost_ret (v := .tuple #[.agg #[.int .i64 0, .int .i64 0, .int .i64 0, .int .i64 0, .int .i64 0, .int .i64 0, .bool false, .int .u64 0, .int .u64 0, .int .u64 0, .int .u64 0], .int .i64 0, .agg #[.bool true, .int .i64 2, .int .i64 1]]) (by simp [results, Tryz.results125, go_sem, h0, h1, h2, h3, h4, h5, h6, h7, h8, h9, h10, h11, h12, h13]) rfl ⟨rfl, bb⟩
theorem rd_unk (ao : Option Addr) (ln cap : Nat) (l : List Int) (N : Nat) (k : Int) (w : World) (hB : Bytes w (.slice ao ln cap) l) (h : ¬ ln < 8) (hN : be2 l 2 = (N : Int)) (hk : be2 l 0 = k) (h2 : ¬ N < 8) (h3 : N % 8 = 0) (h4 : N ≤ ln) (h0 : k ≠ 0) (h22 : k ≠ 22) (h17 : k ≠ 17) (h18 : k ≠ 18) (h25 : k ≠ 25) :
    Calls Tryz.prog 125 #[.slice ao ln cap] w fun e w' => e = .returned (.tuple #[.agg #[.int .i64 0, .int .i64 0, .int .i64 0, .int .i64 0, .int .i64 0, .int .i64 0, .bool false, .int .u64 0, .int .u64 0, .int .u64 0, .int .u64 0], .int .i64 0, .agg #[.bool true, .int .i64 2, .int .i64 0]]) ∧ Below w.heap.size w w' := by
  have R0 := pase0 w
  have F0 := pase1 w
  have B0 := pase2 w
  have hm := hmB hB
  have qb := h_ (fun k w => rbad2_any k w)
  unfold fv at qb
  have qn0 := fun W hW => rnum2 _ l 0 W (hB.later (w' := W) hW) (by omega)
  have qn2 := fun W hW => rnum2 _ l 2 W (hB.later (w' := W) hW) (by omega)
  rw [hN] at qn2
  rw [hk] at qn0
  have qn0 := h_ qn0
  have qn2 := h_ qn2
  have h2' : ¬ (N : Int) < 8 := by omega
  have hm1 : Int.tmod (N : Int) 8 = ((N % 8 : Nat) : Int) := by rw [Int.tmod_eq_emod_of_nonneg (by omega)]; omega
  have hm2 : Int.tmod (N : Int) 8 = 0 := by rw [hm1, h3]; rfl
  clear hm1
  have h4' : ¬ (ln : Int) < (N : Int) := by omega
  have h' : ¬ (ln : Int) < 8 := by omega
  have qk : Hid (∀ w, Calls Tryz.prog 148 #[.int .i64 k] w fun e w' => e = .returned (.bool false) ∧ w' = w) := h_ (fun w => by have := known_any k w; simpa [h0, h22, h17, h18, h25] using this)
  clear hB hN hk
  go_enter Tryz.func125, Tryz.ntmps125
  go_wp2_with (first | (go_at_call_of 147 (Value.int IntKind.i64 0); refine (qn0.out _ B0.out).mono ?_; rintro e w' ⟨rfl, rfl⟩) | (go_at_call_of 147 (Value.int IntKind.i64 2); refine (qn2.out _ B0.out).mono ?_; rintro e w' ⟨rfl, rfl⟩) | (go_at_call 148; refine (qk.out _).mono ?_; rintro e w' ⟨rfl, rfl⟩) | (go_at_call 146; refine (qb.out _ _).mono ?_; rintro e w9 ⟨rfl, b9⟩; have K9 : Below ((w.alloc (.cells #[.int .i64 0, .int .i64 0, .int .i64 0, .int .i64 0, .int .i64 0, .int .i64 0, .bool false, .int .u64 0, .int .u64 0, .int .u64 0, .int .u64 0] 61)).alloc (.cells #[.bool false, .int .i64 0, .int .i64 0] 44)).heap.size ((w.alloc (.cells #[.int .i64 0, .int .i64 0, .int .i64 0, .int .i64 0, .int .i64 0, .int .i64 0, .bool false, .int .u64 0, .int .u64 0, .int .u64 0, .int .u64 0] 61)).alloc (.cells #[.bool false, .int .i64 0, .int .i64 0] 44)) w9 := b9; have hgw : w.heap.size + 1 < w9.heap.size := Nat.lt_of_lt_of_le (by simp) K9.size; obtain ⟨s0, s1, s2, s3, s4, s5, s6, s7, s8, s9, s10, s11, s12, s13, s14, s15, s16, s17, s18, s19, s20, s21⟩ := (R0.out.later K9).eleven; obtain ⟨t0, t1, t2, t3, t4, t5⟩ := ((F0.out.later K9).far11 (h := w.heap.size) (by omega) (.int .i64 0) (.int .i64 0) (.int .i64 0) (.int .i64 0) (.int .i64 0) (.int .i64 0) (.bool false) (.int .u64 0) (.int .u64 0) (.int .u64 0) (.int .u64 0)).three; obtain ⟨h0, h1, h2, h3, h4, h5, h6, h7, h8, h9, h10, -⟩ := (((R0.out.later K9).set11 (.int .i64 0) (.int .i64 0) (.int .i64 0) (.int .i64 0) (.int .i64 0) (.int .i64 0) (.bool false) (.int .u64 0) (.int .u64 0) (.int .u64 0) (.int .u64 0)).far3 (h := (w.heap.size + 1)) (by omega) (.bool true) (.int .i64 2) (.int .i64 0)).eleven; obtain ⟨h11, h12, h13, -⟩ := (((F0.out.later K9).far11 (h := w.heap.size) (by omega) (.int .i64 0) (.int .i64 0) (.int .i64 0) (.int .i64 0) (.int .i64 0) (.int .i64 0) (.bool false) (.int .u64 0) (.int .u64 0) (.int .u64 0) (.int .u64 0)).set3 (.bool true) (.int .i64 2) (.int .i64 0)).three; have bb := below_set3 (g := (w.heap.size + 1)) (below_set11 (g := w.heap.size) (B0.out.trans (K9.mono B0.out.size)) (by omega) (.int .i64 0) (.int .i64 0) (.int .i64 0) (.int .i64 0) (.int .i64 0) (.int .i64 0) (.bool false) (.int .u64 0) (.int .u64 0) (.int .u64 0) (.int .u64 0)) (by omega) (.bool true) (.int .i64 2) (.int .i64 0)))
  exact bodyPost_ret (v := .tuple #[.agg #[.int .i64 0, .int .i64 0, .int .i64 0, .int .i64 0, .int .i64 0, .int .i64 0, .bool false, .int .u64 0, .int .u64 0, .int .u64 0, .int .u64 0], .int .i64 0, .agg #[.bool true, .int .i64 2, .int .i64 0]]) (by simp [results, Tryz.results125, go_sem, h0, h1, h2, h3, h4, h5, h6, h7, h8, h9, h10, h11, h12, h13]) rfl ⟨rfl, bb⟩
theorem rd_set (ao : Option Addr) (ln cap : Nat) (l : List Int) (N : Nat) (v1 : Value) (k p x q y f : Int) (m : Bool) (a b c d : Nat) (nn tt cc : Int) (i : Bool) (w : World) (hB : Bytes w (.slice ao ln cap) l) (h : ¬ ln < 8) (hN : be2 l 2 = (N : Int)) (hk : be2 l 0 = 25) (h2 : ¬ N < 8) (h3 : N % 8 = 0) (h4 : N ≤ ln) (hs1 : ∀ wx, (Instr.slice 25 (.slice ao ln cap) none (some (.int .i64 (N : Int))) none).run Tryz.prog wx = .ok v1 wx) (qS : ∀ W, Below w.heap.size w W → Calls Tryz.prog 149 #[v1] W fun e w' => e = .returned (.tuple #[.agg #[.int .i64 k, .int .i64 p, .int .i64 x, .int .i64 q, .int .i64 y, .int .i64 f, .bool m, .int .u64 (a : Int), .int .u64 (b : Int), .int .u64 (c : Int), .int .u64 (d : Int)], .int .i64 nn, .agg #[.bool i, .int .i64 tt, .int .i64 cc]]) ∧ Below W.heap.size W w') :
    Calls Tryz.prog 125 #[.slice ao ln cap] w fun e w' => e = .returned (.tuple #[.agg #[.int .i64 k, .int .i64 p, .int .i64 x, .int .i64 q, .int .i64 y, .int .i64 f, .bool m, .int .u64 (a : Int), .int .u64 (b : Int), .int .u64 (c : Int), .int .u64 (d : Int)], .int .i64 nn, .agg #[.bool i, .int .i64 tt, .int .i64 cc]]) ∧ Below w.heap.size w w' := by
  have R0 := pase0 w
  have F0 := pase1 w
  have B0 := pase2 w
  have hm := hmB hB
  have qb := h_ (fun k w => rbad2_any k w)
  unfold fv at qb
  have qn0 := fun W hW => rnum2 _ l 0 W (hB.later (w' := W) hW) (by omega)
  have qn2 := fun W hW => rnum2 _ l 2 W (hB.later (w' := W) hW) (by omega)
  rw [hN] at qn2
  rw [hk] at qn0
  have qn0 := h_ qn0
  have qn2 := h_ qn2
  have h2' : ¬ (N : Int) < 8 := by omega
  have hm1 : Int.tmod (N : Int) 8 = ((N % 8 : Nat) : Int) := by rw [Int.tmod_eq_emod_of_nonneg (by omega)]; omega
  have hm2 : Int.tmod (N : Int) 8 = 0 := by rw [hm1, h3]; rfl
  clear hm1
  have h4' : ¬ (ln : Int) < (N : Int) := by omega
  have h' : ¬ (ln : Int) < 8 := by omega
  have qk : Hid (∀ w, Calls Tryz.prog 148 #[.int .i64 25] w fun e w' => e = .returned (.bool true) ∧ w' = w) := h_ (fun w => by have := known_any 25 w; simpa using this)
  have qS := h_ qS
  clear hB hN hk
  go_enter Tryz.func125, Tryz.ntmps125
  go_wp2_with (first | (go_at_call_of 147 (Value.int IntKind.i64 0); refine (qn0.out _ B0.out).mono ?_; rintro e w' ⟨rfl, rfl⟩) | (go_at_call_of 147 (Value.int IntKind.i64 2); refine (qn2.out _ B0.out).mono ?_; rintro e w' ⟨rfl, rfl⟩) | (go_at_call 148; refine (qk.out _).mono ?_; rintro e w' ⟨rfl, rfl⟩) | (go_at_call 149; refine (qS.out _ B0.out).mono ?_; rintro e w3 ⟨rfl, b3⟩; have K9 : Below ((w.alloc (.cells #[.int .i64 0, .int .i64 0, .int .i64 0, .int .i64 0, .int .i64 0, .int .i64 0, .bool false, .int .u64 0, .int .u64 0, .int .u64 0, .int .u64 0] 61)).alloc (.cells #[.bool false, .int .i64 0, .int .i64 0] 44)).heap.size ((w.alloc (.cells #[.int .i64 0, .int .i64 0, .int .i64 0, .int .i64 0, .int .i64 0, .int .i64 0, .bool false, .int .u64 0, .int .u64 0, .int .u64 0, .int .u64 0] 61)).alloc (.cells #[.bool false, .int .i64 0, .int .i64 0] 44)) w3 := b3; have hgw : w.heap.size + 1 < w3.heap.size := Nat.lt_of_lt_of_le (by simp) K9.size; obtain ⟨s0, s1, s2, s3, s4, s5, s6, s7, s8, s9, s10, s11, s12, s13, s14, s15, s16, s17, s18, s19, s20, s21⟩ := (R0.out.later K9).eleven; obtain ⟨t0, t1, t2, t3, t4, t5⟩ := ((F0.out.later K9).far11 (h := w.heap.size) (by omega) (.int .i64 k) (.int .i64 p) (.int .i64 x) (.int .i64 q) (.int .i64 y) (.int .i64 f) (.bool m) (.int .u64 (a : Int)) (.int .u64 (b : Int)) (.int .u64 (c : Int)) (.int .u64 (d : Int))).three; obtain ⟨h0, h1, h2, h3, h4, h5, h6, h7, h8, h9, h10, -⟩ := (((R0.out.later K9).set11 (.int .i64 k) (.int .i64 p) (.int .i64 x) (.int .i64 q) (.int .i64 y) (.int .i64 f) (.bool m) (.int .u64 (a : Int)) (.int .u64 (b : Int)) (.int .u64 (c : Int)) (.int .u64 (d : Int))).far3 (h := (w.heap.size + 1)) (by omega) (.bool i) (.int .i64 tt) (.int .i64 cc)).eleven; obtain ⟨h11, h12, h13, -⟩ := (((F0.out.later K9).far11 (h := w.heap.size) (by omega) (.int .i64 k) (.int .i64 p) (.int .i64 x) (.int .i64 q) (.int .i64 y) (.int .i64 f) (.bool m) (.int .u64 (a : Int)) (.int .u64 (b : Int)) (.int .u64 (c : Int)) (.int .u64 (d : Int))).set3 (.bool i) (.int .i64 tt) (.int .i64 cc)).three; have bb := below_set3 (g := (w.heap.size + 1)) (below_set11 (g := w.heap.size) (B0.out.trans (K9.mono B0.out.size)) (by omega) (.int .i64 k) (.int .i64 p) (.int .i64 x) (.int .i64 q) (.int .i64 y) (.int .i64 f) (.bool m) (.int .u64 (a : Int)) (.int .u64 (b : Int)) (.int .u64 (c : Int)) (.int .u64 (d : Int))) (by omega) (.bool i) (.int .i64 tt) (.int .i64 cc)))
  exact bodyPost_ret (v := .tuple #[.agg #[.int .i64 k, .int .i64 p, .int .i64 x, .int .i64 q, .int .i64 y, .int .i64 f, .bool m, .int .u64 (a : Int), .int .u64 (b : Int), .int .u64 (c : Int), .int .u64 (d : Int)], .int .i64 nn, .agg #[.bool i, .int .i64 tt, .int .i64 cc]]) (by simp [results, Tryz.results125, go_sem, h0, h1, h2, h3, h4, h5, h6, h7, h8, h9, h10, h11, h12, h13]) rfl ⟨rfl, bb⟩
theorem rd_0n (ao : Option Addr) (ln cap : Nat) (l : List Int) (N : Nat) (w : World) (hB : Bytes w (.slice ao ln cap) l) (h : ¬ ln < 8) (hN : be2 l 2 = (N : Int)) (hk : be2 l 0 = 0) (h2 : ¬ N < 8) (h3 : N % 8 = 0) (h4 : N ≤ ln) (hn : N ≠ 16) :
    Calls Tryz.prog 125 #[.slice ao ln cap] w fun e w' => e = .returned (.tuple #[.agg #[.int .i64 0, .int .i64 0, .int .i64 0, .int .i64 0, .int .i64 0, .int .i64 0, .bool false, .int .u64 0, .int .u64 0, .int .u64 0, .int .u64 0], .int .i64 0, .agg #[.bool true, .int .i64 2, .int .i64 1]]) ∧ Below w.heap.size w w' := by
  have R0 := pase0 w
  have F0 := pase1 w
  have B0 := pase2 w
  have hm := hmB hB
  have qb := h_ (fun k w => rbad2_any k w)
  unfold fv at qb
  have qn0 := fun W hW => rnum2 _ l 0 W (hB.later (w' := W) hW) (by omega)
  have qn2 := fun W hW => rnum2 _ l 2 W (hB.later (w' := W) hW) (by omega)
  rw [hN] at qn2
  rw [hk] at qn0
  have qn0 := h_ qn0
  have qn2 := h_ qn2
  have h2' : ¬ (N : Int) < 8 := by omega
  have hm1 : Int.tmod (N : Int) 8 = ((N % 8 : Nat) : Int) := by rw [Int.tmod_eq_emod_of_nonneg (by omega)]; omega
  have hm2 : Int.tmod (N : Int) 8 = 0 := by rw [hm1, h3]; rfl
  clear hm1
  have h4' : ¬ (ln : Int) < (N : Int) := by omega
  have h' : ¬ (ln : Int) < 8 := by omega
  have qk : Hid (∀ w, Calls Tryz.prog 148 #[.int .i64 0] w fun e w' => e = .returned (.bool true) ∧ w' = w) := h_ (fun w => by have := known_any 0 w; simpa using this)
  have hn' : ((N : Int) != 16) = true := by simp; omega
  have hn2 : ((N : Int) == 16) = false := by simp; omega
  have hn3 : ¬ (N : Int) = 16 := by omega
  clear hB hN hk
  go_enter Tryz.func125, Tryz.ntmps125
  go_wp2_with (first | (go_at_call_of 147 (Value.int IntKind.i64 0); refine (qn0.out _ B0.out).mono ?_; rintro e w' ⟨rfl, rfl⟩) | (go_at_call_of 147 (Value.int IntKind.i64 2); refine (qn2.out _ B0.out).mono ?_; rintro e w' ⟨rfl, rfl⟩) | (go_at_call 148; refine (qk.out _).mono ?_; rintro e w' ⟨rfl, rfl⟩) | (go_at_call 146; refine (qb.out _ _).mono ?_; rintro e w9 ⟨rfl, b9⟩; have K9 : Below ((w.alloc (.cells #[.int .i64 0, .int .i64 0, .int .i64 0, .int .i64 0, .int .i64 0, .int .i64 0, .bool false, .int .u64 0, .int .u64 0, .int .u64 0, .int .u64 0] 61)).alloc (.cells #[.bool false, .int .i64 0, .int .i64 0] 44)).heap.size ((w.alloc (.cells #[.int .i64 0, .int .i64 0, .int .i64 0, .int .i64 0, .int .i64 0, .int .i64 0, .bool false, .int .u64 0, .int .u64 0, .int .u64 0, .int .u64 0] 61)).alloc (.cells #[.bool false, .int .i64 0, .int .i64 0] 44)) w9 := b9; have hgw : w.heap.size + 1 < w9.heap.size := Nat.lt_of_lt_of_le (by simp) K9.size; obtain ⟨s0, s1, s2, s3, s4, s5, s6, s7, s8, s9, s10, s11, s12, s13, s14, s15, s16, s17, s18, s19, s20, s21⟩ := (R0.out.later K9).eleven; obtain ⟨t0, t1, t2, t3, t4, t5⟩ := ((F0.out.later K9).far11 (h := w.heap.size) (by omega) (.int .i64 0) (.int .i64 0) (.int .i64 0) (.int .i64 0) (.int .i64 0) (.int .i64 0) (.bool false) (.int .u64 0) (.int .u64 0) (.int .u64 0) (.int .u64 0)).three; obtain ⟨h0, h1, h2, h3, h4, h5, h6, h7, h8, h9, h10, -⟩ := (((R0.out.later K9).set11 (.int .i64 0) (.int .i64 0) (.int .i64 0) (.int .i64 0) (.int .i64 0) (.int .i64 0) (.bool false) (.int .u64 0) (.int .u64 0) (.int .u64 0) (.int .u64 0)).far3 (h := (w.heap.size + 1)) (by omega) (.bool true) (.int .i64 2) (.int .i64 1)).eleven; obtain ⟨h11, h12, h13, -⟩ := (((F0.out.later K9).far11 (h := w.heap.size) (by omega) (.int .i64 0) (.int .i64 0) (.int .i64 0) (.int .i64 0) (.int .i64 0) (.int .i64 0) (.bool false) (.int .u64 0) (.int .u64 0) (.int .u64 0) (.int .u64 0)).set3 (.bool true) (.int .i64 2) (.int .i64 1)).three; have bb := below_set3 (g := (w.heap.size + 1)) (below_set11 (g := w.heap.size) (B0.out.trans (K9.mono B0.out.size)) (by omega) (.int .i64 0) (.int .i64 0) (.int .i64 0) (.int .i64 0) (.int .i64 0) (.int .i64 0) (.bool false) (.int .u64 0) (.int .u64 0) (.int .u64 0) (.int .u64 0)) (by omega) (.bool true) (.int .i64 2) (.int .i64 1)))
  exact bodyPost_ret (v := .tuple #[.agg #[.int .i64 0, .int .i64 0, .int .i64 0, .int .i64 0, .int .i64 0, .int .i64 0, .bool false, .int .u64 0, .int .u64 0, .int .u64 0, .int .u64 0], .int .i64 0, .agg #[.bool true, .int .i64 2, .int .i64 1]]) (by simp [results, Tryz.results125, go_sem, h0, h1, h2, h3, h4, h5, h6, h7, h8, h9, h10, h11, h12, h13]) rfl ⟨rfl, bb⟩
theorem rd_22n (ao : Option Addr) (ln cap : Nat) (l : List Int) (N : Nat) (w : World) (hB : Bytes w (.slice ao ln cap) l) (h : ¬ ln < 8) (hN : be2 l 2 = (N : Int)) (hk : be2 l 0 = 22) (h2 : ¬ N < 8) (h3 : N % 8 = 0) (h4 : N ≤ ln) (hn : N ≠ 8) :
    Calls Tryz.prog 125 #[.slice ao ln cap] w fun e w' => e = .returned (.tuple #[.agg #[.int .i64 0, .int .i64 0, .int .i64 0, .int .i64 0, .int .i64 0, .int .i64 0, .bool false, .int .u64 0, .int .u64 0, .int .u64 0, .int .u64 0], .int .i64 0, .agg #[.bool true, .int .i64 2, .int .i64 1]]) ∧ Below w.heap.size w w' := by
  have R0 := pase0 w
  have F0 := pase1 w
  have B0 := pase2 w
  have hm := hmB hB
  have qb := h_ (fun k w => rbad2_any k w)
  unfold fv at qb
  have qn0 := fun W hW => rnum2 _ l 0 W (hB.later (w' := W) hW) (by omega)
  have qn2 := fun W hW => rnum2 _ l 2 W (hB.later (w' := W) hW) (by omega)
  rw [hN] at qn2
  rw [hk] at qn0
  have qn0 := h_ qn0
  have qn2 := h_ qn2
  have h2' : ¬ (N : Int) < 8 := by omega
  have hm1 : Int.tmod (N : Int) 8 = ((N % 8 : Nat) : Int) := by rw [Int.tmod_eq_emod_of_nonneg (by omega)]; omega
  have hm2 : Int.tmod (N : Int) 8 = 0 := by rw [hm1, h3]; rfl
  clear hm1
  have h4' : ¬ (ln : Int) < (N : Int) := by omega
  have h' : ¬ (ln : Int) < 8 := by omega
  have qk : Hid (∀ w, Calls Tryz.prog 148 #[.int .i64 22] w fun e w' => e = .returned (.bool true) ∧ w' = w) := h_ (fun w => by have := known_any 22 w; simpa using this)
  have hn' : ((N : Int) != 8) = true := by simp; omega
  have hn2 : ((N : Int) == 8) = false := by simp; omega
  have hn3 : ¬ (N : Int) = 8 := by omega
  clear hB hN hk
  go_enter Tryz.func125, Tryz.ntmps125
  go_wp2_with (first | (go_at_call_of 147 (Value.int IntKind.i64 0); refine (qn0.out _ B0.out).mono ?_; rintro e w' ⟨rfl, rfl⟩) | (go_at_call_of 147 (Value.int IntKind.i64 2); refine (qn2.out _ B0.out).mono ?_; rintro e w' ⟨rfl, rfl⟩) | (go_at_call 148; refine (qk.out _).mono ?_; rintro e w' ⟨rfl, rfl⟩) | (go_at_call 146; refine (qb.out _ _).mono ?_; rintro e w9 ⟨rfl, b9⟩; have K9 : Below ((w.alloc (.cells #[.int .i64 0, .int .i64 0, .int .i64 0, .int .i64 0, .int .i64 0, .int .i64 0, .bool false, .int .u64 0, .int .u64 0, .int .u64 0, .int .u64 0] 61)).alloc (.cells #[.bool false, .int .i64 0, .int .i64 0] 44)).heap.size ((w.alloc (.cells #[.int .i64 0, .int .i64 0, .int .i64 0, .int .i64 0, .int .i64 0, .int .i64 0, .bool false, .int .u64 0, .int .u64 0, .int .u64 0, .int .u64 0] 61)).alloc (.cells #[.bool false, .int .i64 0, .int .i64 0] 44)) w9 := b9; have hgw : w.heap.size + 1 < w9.heap.size := Nat.lt_of_lt_of_le (by simp) K9.size; obtain ⟨s0, s1, s2, s3, s4, s5, s6, s7, s8, s9, s10, s11, s12, s13, s14, s15, s16, s17, s18, s19, s20, s21⟩ := (R0.out.later K9).eleven; obtain ⟨t0, t1, t2, t3, t4, t5⟩ := ((F0.out.later K9).far11 (h := w.heap.size) (by omega) (.int .i64 0) (.int .i64 0) (.int .i64 0) (.int .i64 0) (.int .i64 0) (.int .i64 0) (.bool false) (.int .u64 0) (.int .u64 0) (.int .u64 0) (.int .u64 0)).three; obtain ⟨h0, h1, h2, h3, h4, h5, h6, h7, h8, h9, h10, -⟩ := (((R0.out.later K9).set11 (.int .i64 0) (.int .i64 0) (.int .i64 0) (.int .i64 0) (.int .i64 0) (.int .i64 0) (.bool false) (.int .u64 0) (.int .u64 0) (.int .u64 0) (.int .u64 0)).far3 (h := (w.heap.size + 1)) (by omega) (.bool true) (.int .i64 2) (.int .i64 1)).eleven; obtain ⟨h11, h12, h13, -⟩ := (((F0.out.later K9).far11 (h := w.heap.size) (by omega) (.int .i64 0) (.int .i64 0) (.int .i64 0) (.int .i64 0) (.int .i64 0) (.int .i64 0) (.bool false) (.int .u64 0) (.int .u64 0) (.int .u64 0) (.int .u64 0)).set3 (.bool true) (.int .i64 2) (.int .i64 1)).three; have bb := below_set3 (g := (w.heap.size + 1)) (below_set11 (g := w.heap.size) (B0.out.trans (K9.mono B0.out.size)) (by omega) (.int .i64 0) (.int .i64 0) (.int .i64 0) (.int .i64 0) (.int .i64 0) (.int .i64 0) (.bool false) (.int .u64 0) (.int .u64 0) (.int .u64 0) (.int .u64 0)) (by omega) (.bool true) (.int .i64 2) (.int .i64 1)))
  exact bodyPost_ret (v := .tuple #[.agg #[.int .i64 0, .int .i64 0, .int .i64 0, .int .i64 0, .int .i64 0, .int .i64 0, .bool false, .int .u64 0, .int .u64 0, .int .u64 0, .int .u64 0], .int .i64 0, .agg #[.bool true, .int .i64 2, .int .i64 1]]) (by simp [results, Tryz.results125, go_sem, h0, h1, h2, h3, h4, h5, h6, h7, h8, h9, h10, h11, h12, h13]) rfl ⟨rfl, bb⟩
theorem rd_17n (ao : Option Addr) (ln cap : Nat) (l : List Int) (N : Nat) (w : World) (hB : Bytes w (.slice ao ln cap) l) (h : ¬ ln < 8) (hN : be2 l 2 = (N : Int)) (hk : be2 l 0 = 17) (h2 : ¬ N < 8) (h3 : N % 8 = 0) (h4 : N ≤ ln) (hn : N ≠ 8) :
    Calls Tryz.prog 125 #[.slice ao ln cap] w fun e w' => e = .returned (.tuple #[.agg #[.int .i64 0, .int .i64 0, .int .i64 0, .int .i64 0, .int .i64 0, .int .i64 0, .bool false, .int .u64 0, .int .u64 0, .int .u64 0, .int .u64 0], .int .i64 0, .agg #[.bool true, .int .i64 2, .int .i64 1]]) ∧ Below w.heap.size w w' := by
  have R0 := pase0 w
  have F0 := pase1 w
  have B0 := pase2 w
  have hm := hmB hB
  have qb := h_ (fun k w => rbad2_any k w)
  unfold fv at qb
  have qn0 := fun W hW => rnum2 _ l 0 W (hB.later (w' := W) hW) (by omega)
  have qn2 := fun W hW => rnum2 _ l 2 W (hB.later (w' := W) hW) (by omega)
  rw [hN] at qn2
  rw [hk] at qn0
  have qn0 := h_ qn0
  have qn2 := h_ qn2
  have h2' : ¬ (N : Int) < 8 := by omega
  have hm1 : Int.tmod (N : Int) 8 = ((N % 8 : Nat) : Int) := by rw [Int.tmod_eq_emod_of_nonneg (by omega)]; omega
  have hm2 : Int.tmod (N : Int) 8 = 0 := by rw [hm1, h3]; rfl
  clear hm1
  have h4' : ¬ (ln : Int) < (N : Int) := by omega
  have h' : ¬ (ln : Int) < 8 := by omega
  have qk : Hid (∀ w, Calls Tryz.prog 148 #[.int .i64 17] w fun e w' => e = .returned (.bool true) ∧ w' = w) := h_ (fun w => by have := known_any 17 w; simpa using this)
  have hn' : ((N : Int) != 8) = true := by simp; omega
  have hn2 : ((N : Int) == 8) = false := by simp; omega
  have hn3 : ¬ (N : Int) = 8 := by omega
  clear hB hN hk
  go_enter Tryz.func125, Tryz.ntmps125
  go_wp2_with (first | (go_at_call_of 147 (Value.int IntKind.i64 0); refine (qn0.out _ B0.out).mono ?_; rintro e w' ⟨rfl, rfl⟩) | (go_at_call_of 147 (Value.int IntKind.i64 2); refine (qn2.out _ B0.out).mono ?_; rintro e w' ⟨rfl, rfl⟩) | (go_at_call 148; refine (qk.out _).mono ?_; rintro e w' ⟨rfl, rfl⟩) | (go_at_call 146; refine (qb.out _ _).mono ?_; rintro e w9 ⟨rfl, b9⟩; have K9 : Below ((w.alloc (.cells #[.int .i64 0, .int .i64 0, .int .i64 0, .int .i64 0, .int .i64 0, .int .i64 0, .bool false, .int .u64 0, .int .u64 0, .int .u64 0, .int .u64 0] 61)).alloc (.cells #[.bool false, .int .i64 0, .int .i64 0] 44)).heap.size ((w.alloc (.cells #[.int .i64 0, .int .i64 0, .int .i64 0, .int .i64 0, .int .i64 0, .int .i64 0, .bool false, .int .u64 0, .int .u64 0, .int .u64 0, .int .u64 0] 61)).alloc (.cells #[.bool false, .int .i64 0, .int .i64 0] 44)) w9 := b9; have hgw : w.heap.size + 1 < w9.heap.size := Nat.lt_of_lt_of_le (by simp) K9.size; obtain ⟨s0, s1, s2, s3, s4, s5, s6, s7, s8, s9, s10, s11, s12, s13, s14, s15, s16, s17, s18, s19, s20, s21⟩ := (R0.out.later K9).eleven; obtain ⟨t0, t1, t2, t3, t4, t5⟩ := ((F0.out.later K9).far11 (h := w.heap.size) (by omega) (.int .i64 0) (.int .i64 0) (.int .i64 0) (.int .i64 0) (.int .i64 0) (.int .i64 0) (.bool false) (.int .u64 0) (.int .u64 0) (.int .u64 0) (.int .u64 0)).three; obtain ⟨h0, h1, h2, h3, h4, h5, h6, h7, h8, h9, h10, -⟩ := (((R0.out.later K9).set11 (.int .i64 0) (.int .i64 0) (.int .i64 0) (.int .i64 0) (.int .i64 0) (.int .i64 0) (.bool false) (.int .u64 0) (.int .u64 0) (.int .u64 0) (.int .u64 0)).far3 (h := (w.heap.size + 1)) (by omega) (.bool true) (.int .i64 2) (.int .i64 1)).eleven; obtain ⟨h11, h12, h13, -⟩ := (((F0.out.later K9).far11 (h := w.heap.size) (by omega) (.int .i64 0) (.int .i64 0) (.int .i64 0) (.int .i64 0) (.int .i64 0) (.int .i64 0) (.bool false) (.int .u64 0) (.int .u64 0) (.int .u64 0) (.int .u64 0)).set3 (.bool true) (.int .i64 2) (.int .i64 1)).three; have bb := below_set3 (g := (w.heap.size + 1)) (below_set11 (g := w.heap.size) (B0.out.trans (K9.mono B0.out.size)) (by omega) (.int .i64 0) (.int .i64 0) (.int .i64 0) (.int .i64 0) (.int .i64 0) (.int .i64 0) (.bool false) (.int .u64 0) (.int .u64 0) (.int .u64 0) (.int .u64 0)) (by omega) (.bool true) (.int .i64 2) (.int .i64 1)))
  exact bodyPost_ret (v := .tuple #[.agg #[.int .i64 0, .int .i64 0, .int .i64 0, .int .i64 0, .int .i64 0, .int .i64 0, .bool false, .int .u64 0, .int .u64 0, .int .u64 0, .int .u64 0], .int .i64 0, .agg #[.bool true, .int .i64 2, .int .i64 1]]) (by simp [results, Tryz.results125, go_sem, h0, h1, h2, h3, h4, h5, h6, h7, h8, h9, h10, h11, h12, h13]) rfl ⟨rfl, bb⟩
theorem rd_18n (ao : Option Addr) (ln cap : Nat) (l : List Int) (N : Nat) (w : World) (hB : Bytes w (.slice ao ln cap) l) (h : ¬ ln < 8) (hN : be2 l 2 = (N : Int)) (hk : be2 l 0 = 18) (h2 : ¬ N < 8) (h3 : N % 8 = 0) (h4 : N ≤ ln) (hn : N ≠ 8) :
    Calls Tryz.prog 125 #[.slice ao ln cap] w fun e w' => e = .returned (.tuple #[.agg #[.int .i64 0, .int .i64 0, .int .i64 0, .int .i64 0, .int .i64 0, .int .i64 0, .bool false, .int .u64 0, .int .u64 0, .int .u64 0, .int .u64 0], .int .i64 0, .agg #[.bool true, .int .i64 2, .int .i64 1]]) ∧ Below w.heap.size w w' := by
  have R0 := pase0 w
  have F0 := pase1 w
  have B0 := pase2 w
  have hm := hmB hB
  have qb := h_ (fun k w => rbad2_any k w)
  unfold fv at qb
  have qn0 := fun W hW => rnum2 _ l 0 W (hB.later (w' := W) hW) (by omega)
  have qn2 := fun W hW => rnum2 _ l 2 W (hB.later (w' := W) hW) (by omega)
  rw [hN] at qn2
  rw [hk] at qn0
  have qn0 := h_ qn0
  have qn2 := h_ qn2
  have h2' : ¬ (N : Int) < 8 := by omega
  have hm1 : Int.tmod (N : Int) 8 = ((N % 8 : Nat) : Int) := by rw [Int.tmod_eq_emod_of_nonneg (by omega)]; omega
  have hm2 : Int.tmod (N : Int) 8 = 0 := by rw [hm1, h3]; rfl
  clear hm1
  have h4' : ¬ (ln : Int) < (N : Int) := by omega
  have h' : ¬ (ln : Int) < 8 := by omega
  have qk : Hid (∀ w, Calls Tryz.prog 148 #[.int .i64 18] w fun e w' => e = .returned (.bool true) ∧ w' = w) := h_ (fun w => by have := known_any 18 w; simpa using this)
  have hn' : ((N : Int) != 8) = true := by simp; omega
  have hn2 : ((N : Int) == 8) = false := by simp; omega
  have hn3 : ¬ (N : Int) = 8 := by omega
  clear hB hN hk
  go_enter Tryz.func125, Tryz.ntmps125
  go_wp2_with (first | (go_at_call_of 147 (Value.int IntKind.i64 0); refine (qn0.out _ B0.out).mono ?_; rintro e w' ⟨rfl, rfl⟩) | (go_at_call_of 147 (Value.int IntKind.i64 2); refine (qn2.out _ B0.out).mono ?_; rintro e w' ⟨rfl, rfl⟩) | (go_at_call 148; refine (qk.out _).mono ?_; rintro e w' ⟨rfl, rfl⟩) | (go_at_call 146; refine (qb.out _ _).mono ?_; rintro e w9 ⟨rfl, b9⟩; have K9 : Below ((w.alloc (.cells #[.int .i64 0, .int .i64 0, .int .i64 0, .int .i64 0, .int .i64 0, .int .i64 0, .bool false, .int .u64 0, .int .u64 0, .int .u64 0, .int .u64 0] 61)).alloc (.cells #[.bool false, .int .i64 0, .int .i64 0] 44)).heap.size ((w.alloc (.cells #[.int .i64 0, .int .i64 0, .int .i64 0, .int .i64 0, .int .i64 0, .int .i64 0, .bool false, .int .u64 0, .int .u64 0, .int .u64 0, .int .u64 0] 61)).alloc (.cells #[.bool false, .int .i64 0, .int .i64 0] 44)) w9 := b9; have hgw : w.heap.size + 1 < w9.heap.size := Nat.lt_of_lt_of_le (by simp) K9.size; obtain ⟨s0, s1, s2, s3, s4, s5, s6, s7, s8, s9, s10, s11, s12, s13, s14, s15, s16, s17, s18, s19, s20, s21⟩ := (R0.out.later K9).eleven; obtain ⟨t0, t1, t2, t3, t4, t5⟩ := ((F0.out.later K9).far11 (h := w.heap.size) (by omega) (.int .i64 0) (.int .i64 0) (.int .i64 0) (.int .i64 0) (.int .i64 0) (.int .i64 0) (.bool false) (.int .u64 0) (.int .u64 0) (.int .u64 0) (.int .u64 0)).three; obtain ⟨h0, h1, h2, h3, h4, h5, h6, h7, h8, h9, h10, -⟩ := (((R0.out.later K9).set11 (.int .i64 0) (.int .i64 0) (.int .i64 0) (.int .i64 0) (.int .i64 0) (.int .i64 0) (.bool false) (.int .u64 0) (.int .u64 0) (.int .u64 0) (.int .u64 0)).far3 (h := (w.heap.size + 1)) (by omega) (.bool true) (.int .i64 2) (.int .i64 1)).eleven; obtain ⟨h11, h12, h13, -⟩ := (((F0.out.later K9).far11 (h := w.heap.size) (by omega) (.int .i64 0) (.int .i64 0) (.int .i64 0) (.int .i64 0) (.int .i64 0) (.int .i64 0) (.bool false) (.int .u64 0) (.int .u64 0) (.int .u64 0) (.int .u64 0)).set3 (.bool true) (.int .i64 2) (.int .i64 1)).three; have bb := below_set3 (g := (w.heap.size + 1)) (below_set11 (g := w.heap.size) (B0.out.trans (K9.mono B0.out.size)) (by omega) (.int .i64 0) (.int .i64 0) (.int .i64 0) (.int .i64 0) (.int .i64 0) (.int .i64 0) (.bool false) (.int .u64 0) (.int .u64 0) (.int .u64 0) (.int .u64 0)) (by omega) (.bool true) (.int .i64 2) (.int .i64 1)))
  exact bodyPost_ret (v := .tuple #[.agg #[.int .i64 0, .int .i64 0, .int .i64 0, .int .i64 0, .int .i64 0, .int .i64 0, .bool false, .int .u64 0, .int .u64 0, .int .u64 0, .int .u64 0], .int .i64 0, .agg #[.bool true, .int .i64 2, .int .i64 1]]) (by simp [results, Tryz.results125, go_sem, h0, h1, h2, h3, h4, h5, h6, h7, h8, h9, h10, h11, h12, h13]) rfl ⟨rfl, bb⟩
theorem rd_0z (ao : Option Addr) (ln cap : Nat) (l : List Int) (v2 : Value) (w : World) (hB : Bytes w (.slice ao ln cap) l) (h : ¬ ln < 8) (hN : be2 l 2 = 16) (hk : be2 l 0 = 0) (h4 : 16 ≤ ln) (hs : ∀ wx, (Instr.slice 25 (.slice ao ln cap) (some (.int .i64 10)) (some (.int .i64 16)) none).run Tryz.prog wx = .ok v2 wx) (qZ : ∀ W, Below w.heap.size w W → Calls Tryz.prog 150 #[v2] W fun e w' => e = .returned (.bool false) ∧ Below W.heap.size W w') :
    Calls Tryz.prog 125 #[.slice ao ln cap] w fun e w' => e = .returned (.tuple #[.agg #[.int .i64 0, .int .i64 0, .int .i64 0, .int .i64 0, .int .i64 0, .int .i64 0, .bool false, .int .u64 0, .int .u64 0, .int .u64 0, .int .u64 0], .int .i64 0, .agg #[.bool true, .int .i64 2, .int .i64 5]]) ∧ Below w.heap.size w w' := by
  have R0 := pase0 w
  have F0 := pase1 w
  have B0 := pase2 w
  have hm := hmB hB
  have qb := h_ (fun k w => rbad2_any k w)
  unfold fv at qb
  have qn0 := fun W hW => rnum2 _ l 0 W (hB.later (w' := W) hW) (by omega)
  have qn2 := fun W hW => rnum2 _ l 2 W (hB.later (w' := W) hW) (by omega)
  rw [hN] at qn2
  rw [hk] at qn0
  have qn0 := h_ qn0
  have qn2 := h_ qn2
  have h4' : ¬ (ln : Int) < 16 := by omega
  have h' : ¬ (ln : Int) < 8 := by omega
  have qk : Hid (∀ w, Calls Tryz.prog 148 #[.int .i64 0] w fun e w' => e = .returned (.bool true) ∧ w' = w) := h_ (fun w => by have := known_any 0 w; simpa using this)
  have K3 := pase3 w
  have A3 := pase4 w
  have qZ := h_ qZ
  clear hB hN hk
  go_enter Tryz.func125, Tryz.ntmps125
  go_wp2_with (first | (go_at_call_of 147 (Value.int IntKind.i64 0); refine (qn0.out _ B0.out).mono ?_; rintro e w' ⟨rfl, rfl⟩) | (go_at_call_of 147 (Value.int IntKind.i64 2); refine (qn2.out _ B0.out).mono ?_; rintro e w' ⟨rfl, rfl⟩) | (go_at_call 148; refine (qk.out _).mono ?_; rintro e w' ⟨rfl, rfl⟩) | (go_at_call 150; refine (qZ.out _ (B0.out.trans (K3.mono B0.out.size))).mono ?_; rintro e w5 ⟨rfl, b5⟩; have K5 := K3.trans (b5.mono K3.size); obtain ⟨a0, a1, a2, a3, a4, a5, a6, a7, a8, a9, a10, a11, a12, a13, a14, a15, a16, a17, a18, a19, a20, a21⟩ := (A3.out.later b5).eleven) | (go_at_call 146; refine (qb.out _ _).mono ?_; rintro e w9 ⟨rfl, b9⟩; have K9 : Below ((w.alloc (.cells #[.int .i64 0, .int .i64 0, .int .i64 0, .int .i64 0, .int .i64 0, .int .i64 0, .bool false, .int .u64 0, .int .u64 0, .int .u64 0, .int .u64 0] 61)).alloc (.cells #[.bool false, .int .i64 0, .int .i64 0] 44)).heap.size ((w.alloc (.cells #[.int .i64 0, .int .i64 0, .int .i64 0, .int .i64 0, .int .i64 0, .int .i64 0, .bool false, .int .u64 0, .int .u64 0, .int .u64 0, .int .u64 0] 61)).alloc (.cells #[.bool false, .int .i64 0, .int .i64 0] 44)) w9 := K5.trans (b9.mono K5.size); have hgw : w.heap.size + 1 < w9.heap.size := Nat.lt_of_lt_of_le (by simp) K9.size; obtain ⟨s0, s1, s2, s3, s4, s5, s6, s7, s8, s9, s10, s11, s12, s13, s14, s15, s16, s17, s18, s19, s20, s21⟩ := (R0.out.later K9).eleven; obtain ⟨t0, t1, t2, t3, t4, t5⟩ := ((F0.out.later K9).far11 (h := w.heap.size) (by omega) (.int .i64 0) (.int .i64 0) (.int .i64 0) (.int .i64 0) (.int .i64 0) (.int .i64 0) (.bool false) (.int .u64 0) (.int .u64 0) (.int .u64 0) (.int .u64 0)).three; obtain ⟨h0, h1, h2, h3, h4, h5, h6, h7, h8, h9, h10, -⟩ := (((R0.out.later K9).set11 (.int .i64 0) (.int .i64 0) (.int .i64 0) (.int .i64 0) (.int .i64 0) (.int .i64 0) (.bool false) (.int .u64 0) (.int .u64 0) (.int .u64 0) (.int .u64 0)).far3 (h := (w.heap.size + 1)) (by omega) (.bool true) (.int .i64 2) (.int .i64 5)).eleven; obtain ⟨h11, h12, h13, -⟩ := (((F0.out.later K9).far11 (h := w.heap.size) (by omega) (.int .i64 0) (.int .i64 0) (.int .i64 0) (.int .i64 0) (.int .i64 0) (.int .i64 0) (.bool false) (.int .u64 0) (.int .u64 0) (.int .u64 0) (.int .u64 0)).set3 (.bool true) (.int .i64 2) (.int .i64 5)).three; have bb := below_set3 (g := (w.heap.size + 1)) (below_set11 (g := w.heap.size) (B0.out.trans (K9.mono B0.out.size)) (by omega) (.int .i64 0) (.int .i64 0) (.int .i64 0) (.int .i64 0) (.int .i64 0) (.int .i64 0) (.bool false) (.int .u64 0) (.int .u64 0) (.int .u64 0) (.int .u64 0)) (by omega) (.bool true) (.int .i64 2) (.int .i64 5)))
  exact bodyPost_ret (v := .tuple #[.agg #[.int .i64 0, .int .i64 0, .int .i64 0, .int .i64 0, .int .i64 0, .int .i64 0, .bool false, .int .u64 0, .int .u64 0, .int .u64 0, .int .u64 0], .int .i64 0, .agg #[.bool true, .int .i64 2, .int .i64 5]]) (by simp [results, Tryz.results125, go_sem, h0, h1, h2, h3, h4, h5, h6, h7, h8, h9, h10, h11, h12, h13]) rfl ⟨rfl, bb⟩
theorem rd_17z (ao : Option Addr) (ln cap : Nat) (l : List Int) (v2 : Value) (w : World) (hB : Bytes w (.slice ao ln cap) l) (h : ¬ ln < 8) (hN : be2 l 2 = 8) (hk : be2 l 0 = 17) (h4 : 8 ≤ ln) (hs : ∀ wx, (Instr.slice 25 (.slice ao ln cap) (some (.int .i64 6)) (some (.int .i64 8)) none).run Tryz.prog wx = .ok v2 wx) (qZ : ∀ W, Below w.heap.size w W → Calls Tryz.prog 150 #[v2] W fun e w' => e = .returned (.bool false) ∧ Below W.heap.size W w') :
    Calls Tryz.prog 125 #[.slice ao ln cap] w fun e w' => e = .returned (.tuple #[.agg #[.int .i64 0, .int .i64 0, .int .i64 0, .int .i64 0, .int .i64 0, .int .i64 0, .bool false, .int .u64 0, .int .u64 0, .int .u64 0, .int .u64 0], .int .i64 0, .agg #[.bool true, .int .i64 2, .int .i64 5]]) ∧ Below w.heap.size w w' := by
  have R0 := pase0 w
  have F0 := pase1 w
  have B0 := pase2 w
  have hm := hmB hB
  have qb := h_ (fun k w => rbad2_any k w)
  unfold fv at qb
  have qn0 := fun W hW => rnum2 _ l 0 W (hB.later (w' := W) hW) (by omega)
  have qn2 := fun W hW => rnum2 _ l 2 W (hB.later (w' := W) hW) (by omega)
  rw [hN] at qn2
  rw [hk] at qn0
  have qn0 := h_ qn0
  have qn2 := h_ qn2
  have h4' : ¬ (ln : Int) < 8 := by omega
  have h' : ¬ (ln : Int) < 8 := by omega
  have qk : Hid (∀ w, Calls Tryz.prog 148 #[.int .i64 17] w fun e w' => e = .returned (.bool true) ∧ w' = w) := h_ (fun w => by have := known_any 17 w; simpa using this)
  have K3 := pase5 w
  have A3 := pase6 w
  have qZ := h_ qZ
  clear hB hN hk
  go_enter Tryz.func125, Tryz.ntmps125
  go_wp2_with (first | (go_at_call_of 147 (Value.int IntKind.i64 0); refine (qn0.out _ B0.out).mono ?_; rintro e w' ⟨rfl, rfl⟩) | (go_at_call_of 147 (Value.int IntKind.i64 2); refine (qn2.out _ B0.out).mono ?_; rintro e w' ⟨rfl, rfl⟩) | (go_at_call 148; refine (qk.out _).mono ?_; rintro e w' ⟨rfl, rfl⟩) | (go_at_call 150; refine (qZ.out _ (B0.out.trans (K3.mono B0.out.size))).mono ?_; rintro e w5 ⟨rfl, b5⟩; have K5 := K3.trans (b5.mono K3.size); obtain ⟨a0, a1, a2, a3, a4, a5, a6, a7, a8, a9, a10, a11, a12, a13, a14, a15, a16, a17, a18, a19, a20, a21⟩ := (A3.out.later b5).eleven) | (go_at_call 146; refine (qb.out _ _).mono ?_; rintro e w9 ⟨rfl, b9⟩; have K9 : Below ((w.alloc (.cells #[.int .i64 0, .int .i64 0, .int .i64 0, .int .i64 0, .int .i64 0, .int .i64 0, .bool false, .int .u64 0, .int .u64 0, .int .u64 0, .int .u64 0] 61)).alloc (.cells #[.bool false, .int .i64 0, .int .i64 0] 44)).heap.size ((w.alloc (.cells #[.int .i64 0, .int .i64 0, .int .i64 0, .int .i64 0, .int .i64 0, .int .i64 0, .bool false, .int .u64 0, .int .u64 0, .int .u64 0, .int .u64 0] 61)).alloc (.cells #[.bool false, .int .i64 0, .int .i64 0] 44)) w9 := K5.trans (b9.mono K5.size); have hgw : w.heap.size + 1 < w9.heap.size := Nat.lt_of_lt_of_le (by simp) K9.size; obtain ⟨s0, s1, s2, s3, s4, s5, s6, s7, s8, s9, s10, s11, s12, s13, s14, s15, s16, s17, s18, s19, s20, s21⟩ := (R0.out.later K9).eleven; obtain ⟨t0, t1, t2, t3, t4, t5⟩ := ((F0.out.later K9).far11 (h := w.heap.size) (by omega) (.int .i64 0) (.int .i64 0) (.int .i64 0) (.int .i64 0) (.int .i64 0) (.int .i64 0) (.bool false) (.int .u64 0) (.int .u64 0) (.int .u64 0) (.int .u64 0)).three; obtain ⟨h0, h1, h2, h3, h4, h5, h6, h7, h8, h9, h10, -⟩ := (((R0.out.later K9).set11 (.int .i64 0) (.int .i64 0) (.int .i64 0) (.int .i64 0) (.int .i64 0) (.int .i64 0) (.bool false) (.int .u64 0) (.int .u64 0) (.int .u64 0) (.int .u64 0)).far3 (h := (w.heap.size + 1)) (by omega) (.bool true) (.int .i64 2) (.int .i64 5)).eleven; obtain ⟨h11, h12, h13, -⟩ := (((F0.out.later K9).far11 (h := w.heap.size) (by omega) (.int .i64 0) (.int .i64 0) (.int .i64 0) (.int .i64 0) (.int .i64 0) (.int .i64 0) (.bool false) (.int .u64 0) (.int .u64 0) (.int .u64 0) (.int .u64 0)).set3 (.bool true) (.int .i64 2) (.int .i64 5)).three; have bb := below_set3 (g := (w.heap.size + 1)) (below_set11 (g := w.heap.size) (B0.out.trans (K9.mono B0.out.size)) (by omega) (.int .i64 0) (.int .i64 0) (.int .i64 0) (.int .i64 0) (.int .i64 0) (.int .i64 0) (.bool false) (.int .u64 0) (.int .u64 0) (.int .u64 0) (.int .u64 0)) (by omega) (.bool true) (.int .i64 2) (.int .i64 5)))
  exact bodyPost_ret (v := .tuple #[.agg #[.int .i64 0, .int .i64 0, .int .i64 0, .int .i64 0, .int .i64 0, .int .i64 0, .bool false, .int .u64 0, .int .u64 0, .int .u64 0, .int .u64 0], .int .i64 0, .agg #[.bool true, .int .i64 2, .int .i64 5]]) (by simp [results, Tryz.results125, go_sem, h0, h1, h2, h3, h4, h5, h6, h7, h8, h9, h10, h11, h12, h13]) rfl ⟨rfl, bb⟩
theorem rd_18z (ao : Option Addr) (ln cap : Nat) (l : List Int) (v2 : Value) (w : World) (hB : Bytes w (.slice ao ln cap) l) (h : ¬ ln < 8) (hN : be2 l 2 = 8) (hk : be2 l 0 = 18) (h4 : 8 ≤ ln) (hs : ∀ wx, (Instr.slice 25 (.slice ao ln cap) (some (.int .i64 4)) (some (.int .i64 8)) none).run Tryz.prog wx = .ok v2 wx) (qZ : ∀ W, Below w.heap.size w W → Calls Tryz.prog 150 #[v2] W fun e w' => e = .returned (.bool false) ∧ Below W.heap.size W w') :
    Calls Tryz.prog 125 #[.slice ao ln cap] w fun e w' => e = .returned (.tuple #[.agg #[.int .i64 0, .int .i64 0, .int .i64 0, .int .i64 0, .int .i64 0, .int .i64 0, .bool false, .int .u64 0, .int .u64 0, .int .u64 0, .int .u64 0], .int .i64 0, .agg #[.bool true, .int .i64 2, .int .i64 5]]) ∧ Below w.heap.size w w' := by
  have R0 := pase0 w
  have F0 := pase1 w
  have B0 := pase2 w
  have hm := hmB hB
  have qb := h_ (fun k w => rbad2_any k w)
  unfold fv at qb
  have qn0 := fun W hW => rnum2 _ l 0 W (hB.later (w' := W) hW) (by omega)
  have qn2 := fun W hW => rnum2 _ l 2 W (hB.later (w' := W) hW) (by omega)
  rw [hN] at qn2
  rw [hk] at qn0
  have qn0 := h_ qn0
  have qn2 := h_ qn2
  have h4' : ¬ (ln : Int) < 8 := by omega
  have h' : ¬ (ln : Int) < 8 := by omega
  have qk : Hid (∀ w, Calls Tryz.prog 148 #[.int .i64 18] w fun e w' => e = .returned (.bool true) ∧ w' = w) := h_ (fun w => by have := known_any 18 w; simpa using this)
  have K3 := pase7 w
  have A3 := pase8 w
  have qZ := h_ qZ
  clear hB hN hk
  go_enter Tryz.func125, Tryz.ntmps125
  go_wp2_with (first | (go_at_call_of 147 (Value.int IntKind.i64 0); refine (qn0.out _ B0.out).mono ?_; rintro e w' ⟨rfl, rfl⟩) | (go_at_call_of 147 (Value.int IntKind.i64 2); refine (qn2.out _ B0.out).mono ?_; rintro e w' ⟨rfl, rfl⟩) | (go_at_call 148; refine (qk.out _).mono ?_; rintro e w' ⟨rfl, rfl⟩) | (go_at_call 150; refine (qZ.out _ (B0.out.trans (K3.mono B0.out.size))).mono ?_; rintro e w5 ⟨rfl, b5⟩; have K5 := K3.trans (b5.mono K3.size); obtain ⟨a0, a1, a2, a3, a4, a5, a6, a7, a8, a9, a10, a11, a12, a13, a14, a15, a16, a17, a18, a19, a20, a21⟩ := (A3.out.later b5).eleven) | (go_at_call 146; refine (qb.out _ _).mono ?_; rintro e w9 ⟨rfl, b9⟩; have K9 : Below ((w.alloc (.cells #[.int .i64 0, .int .i64 0, .int .i64 0, .int .i64 0, .int .i64 0, .int .i64 0, .bool false, .int .u64 0, .int .u64 0, .int .u64 0, .int .u64 0] 61)).alloc (.cells #[.bool false, .int .i64 0, .int .i64 0] 44)).heap.size ((w.alloc (.cells #[.int .i64 0, .int .i64 0, .int .i64 0, .int .i64 0, .int .i64 0, .int .i64 0, .bool false, .int .u64 0, .int .u64 0, .int .u64 0, .int .u64 0] 61)).alloc (.cells #[.bool false, .int .i64 0, .int .i64 0] 44)) w9 := K5.trans (b9.mono K5.size); have hgw : w.heap.size + 1 < w9.heap.size := Nat.lt_of_lt_of_le (by simp) K9.size; obtain ⟨s0, s1, s2, s3, s4, s5, s6, s7, s8, s9, s10, s11, s12, s13, s14, s15, s16, s17, s18, s19, s20, s21⟩ := (R0.out.later K9).eleven; obtain ⟨t0, t1, t2, t3, t4, t5⟩ := ((F0.out.later K9).far11 (h := w.heap.size) (by omega) (.int .i64 0) (.int .i64 0) (.int .i64 0) (.int .i64 0) (.int .i64 0) (.int .i64 0) (.bool false) (.int .u64 0) (.int .u64 0) (.int .u64 0) (.int .u64 0)).three; obtain ⟨h0, h1, h2, h3, h4, h5, h6, h7, h8, h9, h10, -⟩ := (((R0.out.later K9).set11 (.int .i64 0) (.int .i64 0) (.int .i64 0) (.int .i64 0) (.int .i64 0) (.int .i64 0) (.bool false) (.int .u64 0) (.int .u64 0) (.int .u64 0) (.int .u64 0)).far3 (h := (w.heap.size + 1)) (by omega) (.bool true) (.int .i64 2) (.int .i64 5)).eleven; obtain ⟨h11, h12, h13, -⟩ := (((F0.out.later K9).far11 (h := w.heap.size) (by omega) (.int .i64 0) (.int .i64 0) (.int .i64 0) (.int .i64 0) (.int .i64 0) (.int .i64 0) (.bool false) (.int .u64 0) (.int .u64 0) (.int .u64 0) (.int .u64 0)).set3 (.bool true) (.int .i64 2) (.int .i64 5)).three; have bb := below_set3 (g := (w.heap.size + 1)) (below_set11 (g := w.heap.size) (B0.out.trans (K9.mono B0.out.size)) (by omega) (.int .i64 0) (.int .i64 0) (.int .i64 0) (.int .i64 0) (.int .i64 0) (.int .i64 0) (.bool false) (.int .u64 0) (.int .u64 0) (.int .u64 0) (.int .u64 0)) (by omega) (.bool true) (.int .i64 2) (.int .i64 5)))
  exact bodyPost_ret (v := .tuple #[.agg #[.int .i64 0, .int .i64 0, .int .i64 0, .int .i64 0, .int .i64 0, .int .i64 0, .bool false, .int .u64 0, .int .u64 0, .int .u64 0, .int .u64 0], .int .i64 0, .agg #[.bool true, .int .i64 2, .int .i64 5]]) (by simp [results, Tryz.results125, go_sem, h0, h1, h2, h3, h4, h5, h6, h7, h8, h9, h10, h11, h12, h13]) rfl ⟨rfl, bb⟩
theorem rd_0g (ao : Option Addr) (ln cap : Nat) (l : List Int) (v2 : Value) (p x : Int) (w : World) (hB : Bytes w (.slice ao ln cap) l) (h : ¬ ln < 8) (hN : be2 l 2 = 16) (hk : be2 l 0 = 0) (h4 : 16 ≤ ln) (hs : ∀ wx, (Instr.slice 25 (.slice ao ln cap) (some (.int .i64 10)) (some (.int .i64 16)) none).run Tryz.prog wx = .ok v2 wx) (qZ : ∀ W, Below w.heap.size w W → Calls Tryz.prog 150 #[v2] W fun e w' => e = .returned (.bool true) ∧ Below W.heap.size W w') (hp : be4 l 4 = p) (hx : be2 l 8 = x) (hg : goB p = false) :
    Calls Tryz.prog 125 #[.slice ao ln cap] w fun e w' => e = .returned (.tuple #[.agg #[.int .i64 0, .int .i64 0, .int .i64 0, .int .i64 0, .int .i64 0, .int .i64 0, .bool false, .int .u64 0, .int .u64 0, .int .u64 0, .int .u64 0], .int .i64 0, .agg #[.bool true, .int .i64 2, .int .i64 4]]) ∧ Below w.heap.size w w' := by
  have R0 := pase0 w
  have F0 := pase1 w
  have B0 := pase2 w
  have hm := hmB hB
  have qb := h_ (fun k w => rbad2_any k w)
  unfold fv at qb
  have qn0 := fun W hW => rnum2 _ l 0 W (hB.later (w' := W) hW) (by omega)
  have qn2 := fun W hW => rnum2 _ l 2 W (hB.later (w' := W) hW) (by omega)
  rw [hN] at qn2
  rw [hk] at qn0
  have qn0 := h_ qn0
  have qn2 := h_ qn2
  have h4' : ¬ (ln : Int) < 16 := by omega
  have h' : ¬ (ln : Int) < 8 := by omega
  have qk : Hid (∀ w, Calls Tryz.prog 148 #[.int .i64 0] w fun e w' => e = .returned (.bool true) ∧ w' = w) := h_ (fun w => by have := known_any 0 w; simpa using this)
  have K3 := pase3 w
  have A3 := pase4 w
  have qZ := h_ qZ
  have qn4 := fun W hW => rnum4 _ l 4 W (hB.later (w' := W) hW) (by omega)
  have qn8 := fun W hW => rnum2 _ l 8 W (hB.later (w' := W) hW) (by omega)
  rw [hp] at qn4
  rw [hx] at qn8
  have qn4 := h_ qn4
  have qn8 := h_ qn8
  clear hp hx
  have qg := fun w => rgoes_any p w
  rw [hg] at qg
  have qg := h_ qg
  clear hB hN hk
  go_enter Tryz.func125, Tryz.ntmps125
  go_wp2_with (first | (go_at_call_of 147 (Value.int IntKind.i64 0); refine (qn0.out _ B0.out).mono ?_; rintro e w' ⟨rfl, rfl⟩) | (go_at_call_of 147 (Value.int IntKind.i64 8); refine (qn8.out _ (B0.out.trans (K5.mono B0.out.size))).mono ?_; rintro e w' ⟨rfl, rfl⟩) | (go_at_call_of 147 (Value.int IntKind.i64 4); refine (qn4.out _ (B0.out.trans (K5.mono B0.out.size))).mono ?_; rintro e w' ⟨rfl, rfl⟩) | (go_at_call_of 147 (Value.int IntKind.i64 2); refine (qn2.out _ B0.out).mono ?_; rintro e w' ⟨rfl, rfl⟩) | (go_at_call 148; refine (qk.out _).mono ?_; rintro e w' ⟨rfl, rfl⟩) | (go_at_call 150; refine (qZ.out _ (B0.out.trans (K3.mono B0.out.size))).mono ?_; rintro e w5 ⟨rfl, b5⟩; have K5 := K3.trans (b5.mono K3.size); obtain ⟨a0, a1, a2, a3, a4, a5, a6, a7, a8, a9, a10, a11, a12, a13, a14, a15, a16, a17, a18, a19, a20, a21⟩ := (A3.out.later b5).eleven; have A6 := h_ (((A3.out.later b5).set (j := 1) (.int .i64 p)).set (j := 2) (.int .i64 x)); obtain ⟨b0, b1, b2, b3, b4, b5, b6, b7, b8, b9, b10, -⟩ := A6.out.eleven; have K6 : Below ((w.alloc (.cells #[.int .i64 0, .int .i64 0, .int .i64 0, .int .i64 0, .int .i64 0, .int .i64 0, .bool false, .int .u64 0, .int .u64 0, .int .u64 0, .int .u64 0] 61)).alloc (.cells #[.bool false, .int .i64 0, .int .i64 0] 44)).heap.size ((w.alloc (.cells #[.int .i64 0, .int .i64 0, .int .i64 0, .int .i64 0, .int .i64 0, .int .i64 0, .bool false, .int .u64 0, .int .u64 0, .int .u64 0, .int .u64 0] 61)).alloc (.cells #[.bool false, .int .i64 0, .int .i64 0] 44)) (((w5.setCell ⟨w.heap.size + 1 + 1, 1, none⟩ (.int .i64 p))).setCell ⟨w.heap.size + 1 + 1, 2, none⟩ (.int .i64 x)) := (K5.setCell (by simp) _).setCell (by simp) _) | (go_at_call 130; refine (qg.out _).mono ?_; rintro e w' ⟨rfl, rfl⟩) | (go_at_call 146; refine (qb.out _ _).mono ?_; rintro e w9 ⟨rfl, b9⟩; have K9 : Below ((w.alloc (.cells #[.int .i64 0, .int .i64 0, .int .i64 0, .int .i64 0, .int .i64 0, .int .i64 0, .bool false, .int .u64 0, .int .u64 0, .int .u64 0, .int .u64 0] 61)).alloc (.cells #[.bool false, .int .i64 0, .int .i64 0] 44)).heap.size ((w.alloc (.cells #[.int .i64 0, .int .i64 0, .int .i64 0, .int .i64 0, .int .i64 0, .int .i64 0, .bool false, .int .u64 0, .int .u64 0, .int .u64 0, .int .u64 0] 61)).alloc (.cells #[.bool false, .int .i64 0, .int .i64 0] 44)) w9 := K6.trans (b9.mono K6.size); have hgw : w.heap.size + 1 < w9.heap.size := Nat.lt_of_lt_of_le (by simp) K9.size; obtain ⟨s0, s1, s2, s3, s4, s5, s6, s7, s8, s9, s10, s11, s12, s13, s14, s15, s16, s17, s18, s19, s20, s21⟩ := (R0.out.later K9).eleven; obtain ⟨t0, t1, t2, t3, t4, t5⟩ := ((F0.out.later K9).far11 (h := w.heap.size) (by omega) (.int .i64 0) (.int .i64 0) (.int .i64 0) (.int .i64 0) (.int .i64 0) (.int .i64 0) (.bool false) (.int .u64 0) (.int .u64 0) (.int .u64 0) (.int .u64 0)).three; obtain ⟨h0, h1, h2, h3, h4, h5, h6, h7, h8, h9, h10, -⟩ := (((R0.out.later K9).set11 (.int .i64 0) (.int .i64 0) (.int .i64 0) (.int .i64 0) (.int .i64 0) (.int .i64 0) (.bool false) (.int .u64 0) (.int .u64 0) (.int .u64 0) (.int .u64 0)).far3 (h := (w.heap.size + 1)) (by omega) (.bool true) (.int .i64 2) (.int .i64 4)).eleven; obtain ⟨h11, h12, h13, -⟩ := (((F0.out.later K9).far11 (h := w.heap.size) (by omega) (.int .i64 0) (.int .i64 0) (.int .i64 0) (.int .i64 0) (.int .i64 0) (.int .i64 0) (.bool false) (.int .u64 0) (.int .u64 0) (.int .u64 0) (.int .u64 0)).set3 (.bool true) (.int .i64 2) (.int .i64 4)).three; have bb := below_set3 (g := (w.heap.size + 1)) (below_set11 (g := w.heap.size) (B0.out.trans (K9.mono B0.out.size)) (by omega) (.int .i64 0) (.int .i64 0) (.int .i64 0) (.int .i64 0) (.int .i64 0) (.int .i64 0) (.bool false) (.int .u64 0) (.int .u64 0) (.int .u64 0) (.int .u64 0)) (by omega) (.bool true) (.int .i64 2) (.int .i64 4)))
  exact bodyPost_ret (v := .tuple #[.agg #[.int .i64 0, .int .i64 0, .int .i64 0, .int .i64 0, .int .i64 0, .int .i64 0, .bool false, .int .u64 0, .int .u64 0, .int .u64 0, .int .u64 0], .int .i64 0, .agg #[.bool true, .int .i64 2, .int .i64 4]]) (by simp [results, Tryz.results125, go_sem, h0, h1, h2, h3, h4, h5, h6, h7, h8, h9, h10, h11, h12, h13]) rfl ⟨rfl, bb⟩
theorem rd_0r (ao : Option Addr) (ln cap : Nat) (l : List Int) (v2 : Value) (p x : Int) (w : World) (hB : Bytes w (.slice ao ln cap) l) (h : ¬ ln < 8) (hN : be2 l 2 = 16) (hk : be2 l 0 = 0) (h4 : 16 ≤ ln) (hs : ∀ wx, (Instr.slice 25 (.slice ao ln cap) (some (.int .i64 10)) (some (.int .i64 16)) none).run Tryz.prog wx = .ok v2 wx) (qZ : ∀ W, Below w.heap.size w W → Calls Tryz.prog 150 #[v2] W fun e w' => e = .returned (.bool true) ∧ Below W.heap.size W w') (hp : be4 l 4 = p) (hx : be2 l 8 = x) (hg : goB p = true) (hr : art 0 p x 0 0 0 false 0 0 0 0 = false) :
    Calls Tryz.prog 125 #[.slice ao ln cap] w fun e w' => e = .returned (.tuple #[.agg #[.int .i64 0, .int .i64 0, .int .i64 0, .int .i64 0, .int .i64 0, .int .i64 0, .bool false, .int .u64 0, .int .u64 0, .int .u64 0, .int .u64 0], .int .i64 0, .agg #[.bool true, .int .i64 2, .int .i64 5]]) ∧ Below w.heap.size w w' := by
  have R0 := pase0 w
  have F0 := pase1 w
  have B0 := pase2 w
  have hm := hmB hB
  have qb := h_ (fun k w => rbad2_any k w)
  unfold fv at qb
  have qn0 := fun W hW => rnum2 _ l 0 W (hB.later (w' := W) hW) (by omega)
  have qn2 := fun W hW => rnum2 _ l 2 W (hB.later (w' := W) hW) (by omega)
  rw [hN] at qn2
  rw [hk] at qn0
  have qn0 := h_ qn0
  have qn2 := h_ qn2
  have h4' : ¬ (ln : Int) < 16 := by omega
  have h' : ¬ (ln : Int) < 8 := by omega
  have qk : Hid (∀ w, Calls Tryz.prog 148 #[.int .i64 0] w fun e w' => e = .returned (.bool true) ∧ w' = w) := h_ (fun w => by have := known_any 0 w; simpa using this)
  have K3 := pase3 w
  have A3 := pase4 w
  have qZ := h_ qZ
  have qn4 := fun W hW => rnum4 _ l 4 W (hB.later (w' := W) hW) (by omega)
  have qn8 := fun W hW => rnum2 _ l 8 W (hB.later (w' := W) hW) (by omega)
  rw [hp] at qn4
  rw [hx] at qn8
  have qn4 := h_ qn4
  have qn8 := h_ qn8
  clear hp hx
  have qg := fun w => rgoes_any p w
  rw [hg] at qg
  have qg := h_ qg
  have qr := fun w => raright_any 0 p x 0 0 0 false 0 0 0 0 w (by decide) (by decide) (by decide) (by decide)
  rw [hr] at qr
  unfold av at qr
  have qr := h_ qr
  clear hB hN hk
  go_enter Tryz.func125, Tryz.ntmps125
  go_wp2_with (first | (go_at_call_of 147 (Value.int IntKind.i64 0); refine (qn0.out _ B0.out).mono ?_; rintro e w' ⟨rfl, rfl⟩) | (go_at_call_of 147 (Value.int IntKind.i64 8); refine (qn8.out _ (B0.out.trans (K5.mono B0.out.size))).mono ?_; rintro e w' ⟨rfl, rfl⟩) | (go_at_call_of 147 (Value.int IntKind.i64 4); refine (qn4.out _ (B0.out.trans (K5.mono B0.out.size))).mono ?_; rintro e w' ⟨rfl, rfl⟩) | (go_at_call_of 147 (Value.int IntKind.i64 2); refine (qn2.out _ B0.out).mono ?_; rintro e w' ⟨rfl, rfl⟩) | (go_at_call 148; refine (qk.out _).mono ?_; rintro e w' ⟨rfl, rfl⟩) | (go_at_call 150; refine (qZ.out _ (B0.out.trans (K3.mono B0.out.size))).mono ?_; rintro e w5 ⟨rfl, b5⟩; have K5 := K3.trans (b5.mono K3.size); obtain ⟨a0, a1, a2, a3, a4, a5, a6, a7, a8, a9, a10, a11, a12, a13, a14, a15, a16, a17, a18, a19, a20, a21⟩ := (A3.out.later b5).eleven; have A6 := h_ (((A3.out.later b5).set (j := 1) (.int .i64 p)).set (j := 2) (.int .i64 x)); obtain ⟨b0, b1, b2, b3, b4, b5, b6, b7, b8, b9, b10, -⟩ := A6.out.eleven; have K6 : Below ((w.alloc (.cells #[.int .i64 0, .int .i64 0, .int .i64 0, .int .i64 0, .int .i64 0, .int .i64 0, .bool false, .int .u64 0, .int .u64 0, .int .u64 0, .int .u64 0] 61)).alloc (.cells #[.bool false, .int .i64 0, .int .i64 0] 44)).heap.size ((w.alloc (.cells #[.int .i64 0, .int .i64 0, .int .i64 0, .int .i64 0, .int .i64 0, .int .i64 0, .bool false, .int .u64 0, .int .u64 0, .int .u64 0, .int .u64 0] 61)).alloc (.cells #[.bool false, .int .i64 0, .int .i64 0] 44)) (((w5.setCell ⟨w.heap.size + 1 + 1, 1, none⟩ (.int .i64 p))).setCell ⟨w.heap.size + 1 + 1, 2, none⟩ (.int .i64 x)) := (K5.setCell (by simp) _).setCell (by simp) _) | (go_at_call 130; refine (qg.out _).mono ?_; rintro e w' ⟨rfl, rfl⟩) | (go_at_call 110; refine (qr.out _).mono ?_; rintro e w7 ⟨rfl, b7⟩; have K7 := K6.trans (b7.mono K6.size); have hgw : w.heap.size + 1 < w7.heap.size := Nat.lt_of_lt_of_le (by simp) K7.size; obtain ⟨c0, c1, c2, c3, c4, c5, c6, c7, c8, c9, c10, -⟩ := (A6.out.later b7).eleven) | (go_at_call 146; refine (qb.out _ _).mono ?_; rintro e w9 ⟨rfl, b9⟩; have K9 : Below ((w.alloc (.cells #[.int .i64 0, .int .i64 0, .int .i64 0, .int .i64 0, .int .i64 0, .int .i64 0, .bool false, .int .u64 0, .int .u64 0, .int .u64 0, .int .u64 0] 61)).alloc (.cells #[.bool false, .int .i64 0, .int .i64 0] 44)).heap.size ((w.alloc (.cells #[.int .i64 0, .int .i64 0, .int .i64 0, .int .i64 0, .int .i64 0, .int .i64 0, .bool false, .int .u64 0, .int .u64 0, .int .u64 0, .int .u64 0] 61)).alloc (.cells #[.bool false, .int .i64 0, .int .i64 0] 44)) w9 := K7.trans (b9.mono K7.size); have hgw : w.heap.size + 1 < w9.heap.size := Nat.lt_of_lt_of_le (by simp) K9.size; obtain ⟨s0, s1, s2, s3, s4, s5, s6, s7, s8, s9, s10, s11, s12, s13, s14, s15, s16, s17, s18, s19, s20, s21⟩ := (R0.out.later K9).eleven; obtain ⟨t0, t1, t2, t3, t4, t5⟩ := ((F0.out.later K9).far11 (h := w.heap.size) (by omega) (.int .i64 0) (.int .i64 0) (.int .i64 0) (.int .i64 0) (.int .i64 0) (.int .i64 0) (.bool false) (.int .u64 0) (.int .u64 0) (.int .u64 0) (.int .u64 0)).three; obtain ⟨h0, h1, h2, h3, h4, h5, h6, h7, h8, h9, h10, -⟩ := (((R0.out.later K9).set11 (.int .i64 0) (.int .i64 0) (.int .i64 0) (.int .i64 0) (.int .i64 0) (.int .i64 0) (.bool false) (.int .u64 0) (.int .u64 0) (.int .u64 0) (.int .u64 0)).far3 (h := (w.heap.size + 1)) (by omega) (.bool true) (.int .i64 2) (.int .i64 5)).eleven; obtain ⟨h11, h12, h13, -⟩ := (((F0.out.later K9).far11 (h := w.heap.size) (by omega) (.int .i64 0) (.int .i64 0) (.int .i64 0) (.int .i64 0) (.int .i64 0) (.int .i64 0) (.bool false) (.int .u64 0) (.int .u64 0) (.int .u64 0) (.int .u64 0)).set3 (.bool true) (.int .i64 2) (.int .i64 5)).three; have bb := below_set3 (g := (w.heap.size + 1)) (below_set11 (g := w.heap.size) (B0.out.trans (K9.mono B0.out.size)) (by omega) (.int .i64 0) (.int .i64 0) (.int .i64 0) (.int .i64 0) (.int .i64 0) (.int .i64 0) (.bool false) (.int .u64 0) (.int .u64 0) (.int .u64 0) (.int .u64 0)) (by omega) (.bool true) (.int .i64 2) (.int .i64 5)))
  exact bodyPost_ret (v := .tuple #[.agg #[.int .i64 0, .int .i64 0, .int .i64 0, .int .i64 0, .int .i64 0, .int .i64 0, .bool false, .int .u64 0, .int .u64 0, .int .u64 0, .int .u64 0], .int .i64 0, .agg #[.bool true, .int .i64 2, .int .i64 5]]) (by simp [results, Tryz.results125, go_sem, h0, h1, h2, h3, h4, h5, h6, h7, h8, h9, h10, h11, h12, h13]) rfl ⟨rfl, bb⟩
theorem rd_0 (ao : Option Addr) (ln cap : Nat) (l : List Int) (v2 : Value) (p x : Int) (w : World) (hB : Bytes w (.slice ao ln cap) l) (h : ¬ ln < 8) (hN : be2 l 2 = 16) (hk : be2 l 0 = 0) (h4 : 16 ≤ ln) (hs : ∀ wx, (Instr.slice 25 (.slice ao ln cap) (some (.int .i64 10)) (some (.int .i64 16)) none).run Tryz.prog wx = .ok v2 wx) (qZ : ∀ W, Below w.heap.size w W → Calls Tryz.prog 150 #[v2] W fun e w' => e = .returned (.bool true) ∧ Below W.heap.size W w') (hp : be4 l 4 = p) (hx : be2 l 8 = x) (hg : goB p = true) (hr : art 0 p x 0 0 0 false 0 0 0 0 = true) :
    Calls Tryz.prog 125 #[.slice ao ln cap] w fun e w' => e = .returned (.tuple #[.agg #[.int .i64 0, .int .i64 p, .int .i64 x, .int .i64 0, .int .i64 0, .int .i64 0, .bool false, .int .u64 0, .int .u64 0, .int .u64 0, .int .u64 0], .int .i64 16, .agg #[.bool false, .int .i64 0, .int .i64 0]]) ∧ Below w.heap.size w w' := by
  have R0 := pase0 w
  have F0 := pase1 w
  have B0 := pase2 w
  have hm := hmB hB
  have qb := h_ (fun k w => rbad2_any k w)
  unfold fv at qb
  have qn0 := fun W hW => rnum2 _ l 0 W (hB.later (w' := W) hW) (by omega)
  have qn2 := fun W hW => rnum2 _ l 2 W (hB.later (w' := W) hW) (by omega)
  rw [hN] at qn2
  rw [hk] at qn0
  have qn0 := h_ qn0
  have qn2 := h_ qn2
  have h4' : ¬ (ln : Int) < 16 := by omega
  have h' : ¬ (ln : Int) < 8 := by omega
  have qk : Hid (∀ w, Calls Tryz.prog 148 #[.int .i64 0] w fun e w' => e = .returned (.bool true) ∧ w' = w) := h_ (fun w => by have := known_any 0 w; simpa using this)
  have K3 := pase3 w
  have A3 := pase4 w
  have qZ := h_ qZ
  have qn4 := fun W hW => rnum4 _ l 4 W (hB.later (w' := W) hW) (by omega)
  have qn8 := fun W hW => rnum2 _ l 8 W (hB.later (w' := W) hW) (by omega)
  rw [hp] at qn4
  rw [hx] at qn8
  have qn4 := h_ qn4
  have qn8 := h_ qn8
  clear hp hx
  have qg := fun w => rgoes_any p w
  rw [hg] at qg
  have qg := h_ qg
  have qr := fun w => raright_any 0 p x 0 0 0 false 0 0 0 0 w (by decide) (by decide) (by decide) (by decide)
  rw [hr] at qr
  unfold av at qr
  have qr := h_ qr
  clear hB hN hk
  go_enter Tryz.func125, Tryz.ntmps125
  go_wp2_with (first | (go_at_call_of 147 (Value.int IntKind.i64 0); refine (qn0.out _ B0.out).mono ?_; rintro e w' ⟨rfl, rfl⟩) | (go_at_call_of 147 (Value.int IntKind.i64 8); refine (qn8.out _ (B0.out.trans (K5.mono B0.out.size))).mono ?_; rintro e w' ⟨rfl, rfl⟩) | (go_at_call_of 147 (Value.int IntKind.i64 4); refine (qn4.out _ (B0.out.trans (K5.mono B0.out.size))).mono ?_; rintro e w' ⟨rfl, rfl⟩) | (go_at_call_of 147 (Value.int IntKind.i64 2); refine (qn2.out _ B0.out).mono ?_; rintro e w' ⟨rfl, rfl⟩) | (go_at_call 148; refine (qk.out _).mono ?_; rintro e w' ⟨rfl, rfl⟩) | (go_at_call 150; refine (qZ.out _ (B0.out.trans (K3.mono B0.out.size))).mono ?_; rintro e w5 ⟨rfl, b5⟩; have K5 := K3.trans (b5.mono K3.size); obtain ⟨a0, a1, a2, a3, a4, a5, a6, a7, a8, a9, a10, a11, a12, a13, a14, a15, a16, a17, a18, a19, a20, a21⟩ := (A3.out.later b5).eleven; have A6 := h_ (((A3.out.later b5).set (j := 1) (.int .i64 p)).set (j := 2) (.int .i64 x)); obtain ⟨b0, b1, b2, b3, b4, b5, b6, b7, b8, b9, b10, -⟩ := A6.out.eleven; have K6 : Below ((w.alloc (.cells #[.int .i64 0, .int .i64 0, .int .i64 0, .int .i64 0, .int .i64 0, .int .i64 0, .bool false, .int .u64 0, .int .u64 0, .int .u64 0, .int .u64 0] 61)).alloc (.cells #[.bool false, .int .i64 0, .int .i64 0] 44)).heap.size ((w.alloc (.cells #[.int .i64 0, .int .i64 0, .int .i64 0, .int .i64 0, .int .i64 0, .int .i64 0, .bool false, .int .u64 0, .int .u64 0, .int .u64 0, .int .u64 0] 61)).alloc (.cells #[.bool false, .int .i64 0, .int .i64 0] 44)) (((w5.setCell ⟨w.heap.size + 1 + 1, 1, none⟩ (.int .i64 p))).setCell ⟨w.heap.size + 1 + 1, 2, none⟩ (.int .i64 x)) := (K5.setCell (by simp) _).setCell (by simp) _) | (go_at_call 130; refine (qg.out _).mono ?_; rintro e w' ⟨rfl, rfl⟩) | (go_at_call 110; refine (qr.out _).mono ?_; rintro e w7 ⟨rfl, b7⟩; have K7 := K6.trans (b7.mono K6.size); have hgw : w.heap.size + 1 < w7.heap.size := Nat.lt_of_lt_of_le (by simp) K7.size; obtain ⟨c0, c1, c2, c3, c4, c5, c6, c7, c8, c9, c10, -⟩ := (A6.out.later b7).eleven; obtain ⟨s0, s1, s2, s3, s4, s5, s6, s7, s8, s9, s10, s11, s12, s13, s14, s15, s16, s17, s18, s19, s20, s21⟩ := (R0.out.later K7).eleven; obtain ⟨t0, t1, t2, t3, t4, t5⟩ := ((F0.out.later K7).far11 (h := w.heap.size) (by omega) (.int .i64 0) (.int .i64 p) (.int .i64 x) (.int .i64 0) (.int .i64 0) (.int .i64 0) (.bool false) (.int .u64 0) (.int .u64 0) (.int .u64 0) (.int .u64 0)).three; obtain ⟨h0, h1, h2, h3, h4, h5, h6, h7, h8, h9, h10, -⟩ := (((R0.out.later K7).set11 (.int .i64 0) (.int .i64 p) (.int .i64 x) (.int .i64 0) (.int .i64 0) (.int .i64 0) (.bool false) (.int .u64 0) (.int .u64 0) (.int .u64 0) (.int .u64 0)).far3 (h := (w.heap.size + 1)) (by omega) (.bool false) (.int .i64 0) (.int .i64 0)).eleven; obtain ⟨h11, h12, h13, -⟩ := (((F0.out.later K7).far11 (h := w.heap.size) (by omega) (.int .i64 0) (.int .i64 p) (.int .i64 x) (.int .i64 0) (.int .i64 0) (.int .i64 0) (.bool false) (.int .u64 0) (.int .u64 0) (.int .u64 0) (.int .u64 0)).set3 (.bool false) (.int .i64 0) (.int .i64 0)).three; have bb := below_set3 (g := (w.heap.size + 1)) (below_set11 (g := w.heap.size) (B0.out.trans (K7.mono B0.out.size)) (by omega) (.int .i64 0) (.int .i64 p) (.int .i64 x) (.int .i64 0) (.int .i64 0) (.int .i64 0) (.bool false) (.int .u64 0) (.int .u64 0) (.int .u64 0) (.int .u64 0)) (by omega) (.bool false) (.int .i64 0) (.int .i64 0)))
  exact bodyPost_ret (v := .tuple #[.agg #[.int .i64 0, .int .i64 p, .int .i64 x, .int .i64 0, .int .i64 0, .int .i64 0, .bool false, .int .u64 0, .int .u64 0, .int .u64 0, .int .u64 0], .int .i64 16, .agg #[.bool false, .int .i64 0, .int .i64 0]]) (by simp [results, Tryz.results125, go_sem, h0, h1, h2, h3, h4, h5, h6, h7, h8, h9, h10, h11, h12, h13]) rfl ⟨rfl, bb⟩
theorem rd_22g (ao : Option Addr) (ln cap : Nat) (l : List Int) (q : Int) (w : World) (hB : Bytes w (.slice ao ln cap) l) (h : ¬ ln < 8) (hN : be2 l 2 = 8) (hk : be2 l 0 = 22) (h4 : 8 ≤ ln) (hq : be4 l 4 = q) (hg : 4294967040 < q) :
    Calls Tryz.prog 125 #[.slice ao ln cap] w fun e w' => e = .returned (.tuple #[.agg #[.int .i64 0, .int .i64 0, .int .i64 0, .int .i64 0, .int .i64 0, .int .i64 0, .bool false, .int .u64 0, .int .u64 0, .int .u64 0, .int .u64 0], .int .i64 0, .agg #[.bool true, .int .i64 2, .int .i64 9]]) ∧ Below w.heap.size w w' := by
  have R0 := pase0 w
  have F0 := pase1 w
  have B0 := pase2 w
  have hm := hmB hB
  have qb := h_ (fun k w => rbad2_any k w)
  unfold fv at qb
  have qn0 := fun W hW => rnum2 _ l 0 W (hB.later (w' := W) hW) (by omega)
  have qn2 := fun W hW => rnum2 _ l 2 W (hB.later (w' := W) hW) (by omega)
  rw [hN] at qn2
  rw [hk] at qn0
  have qn0 := h_ qn0
  have qn2 := h_ qn2
  have h4' : ¬ (ln : Int) < 8 := by omega
  have h' : ¬ (ln : Int) < 8 := by omega
  have qk : Hid (∀ w, Calls Tryz.prog 148 #[.int .i64 22] w fun e w' => e = .returned (.bool true) ∧ w' = w) := h_ (fun w => by have := known_any 22 w; simpa using this)
  have K3 := pase9 w
  have A3 := pase10 w
  have K4 : Below ((w.alloc (.cells #[.int .i64 0, .int .i64 0, .int .i64 0, .int .i64 0, .int .i64 0, .int .i64 0, .bool false, .int .u64 0, .int .u64 0, .int .u64 0, .int .u64 0] 61)).alloc (.cells #[.bool false, .int .i64 0, .int .i64 0] 44)).heap.size ((w.alloc (.cells #[.int .i64 0, .int .i64 0, .int .i64 0, .int .i64 0, .int .i64 0, .int .i64 0, .bool false, .int .u64 0, .int .u64 0, .int .u64 0, .int .u64 0] 61)).alloc (.cells #[.bool false, .int .i64 0, .int .i64 0] 44)) (((w.alloc (.cells #[.int .i64 0, .int .i64 0, .int .i64 0, .int .i64 0, .int .i64 0, .int .i64 0, .bool false, .int .u64 0, .int .u64 0, .int .u64 0, .int .u64 0] 61)).alloc (.cells #[.bool false, .int .i64 0, .int .i64 0] 44)).alloc (.cells #[.int .i64 22, .int .i64 0, .int .i64 0, .int .i64 q, .int .i64 0, .int .i64 0, .bool false, .int .u64 0, .int .u64 0, .int .u64 0, .int .u64 0] 61)) := below1 ((w.alloc (.cells #[.int .i64 0, .int .i64 0, .int .i64 0, .int .i64 0, .int .i64 0, .int .i64 0, .bool false, .int .u64 0, .int .u64 0, .int .u64 0, .int .u64 0] 61)).alloc (.cells #[.bool false, .int .i64 0, .int .i64 0] 44)) _
  have A4 := h_ (AB.at2 w (.cells #[.int .i64 0, .int .i64 0, .int .i64 0, .int .i64 0, .int .i64 0, .int .i64 0, .bool false, .int .u64 0, .int .u64 0, .int .u64 0, .int .u64 0] 61) (.cells #[.bool false, .int .i64 0, .int .i64 0] 44) 61 [.int .i64 22, .int .i64 0, .int .i64 0, .int .i64 q, .int .i64 0, .int .i64 0, .bool false, .int .u64 0, .int .u64 0, .int .u64 0, .int .u64 0])
  have qn4 := fun W hW => rnum4 _ l 4 W (hB.later (w' := W) hW) (by omega)
  rw [hq] at qn4
  have qn4 := h_ qn4
  clear hq
  clear hB hN hk
  go_enter Tryz.func125, Tryz.ntmps125
  go_wp2_with (first | (go_at_call_of 147 (Value.int IntKind.i64 0); refine (qn0.out _ B0.out).mono ?_; rintro e w' ⟨rfl, rfl⟩) | (go_at_call_of 147 (Value.int IntKind.i64 4); refine (qn4.out _ (B0.out.trans (K3.mono B0.out.size))).mono ?_; rintro e w' ⟨rfl, rfl⟩) | (go_at_call_of 147 (Value.int IntKind.i64 2); refine (qn2.out _ B0.out).mono ?_; rintro e w' ⟨rfl, rfl⟩) | (go_at_call 148; refine (qk.out _).mono ?_; rintro e w' ⟨rfl, rfl⟩) | (go_at_call 146; refine (qb.out _ _).mono ?_; rintro e w9 ⟨rfl, b9⟩; have K9 : Below ((w.alloc (.cells #[.int .i64 0, .int .i64 0, .int .i64 0, .int .i64 0, .int .i64 0, .int .i64 0, .bool false, .int .u64 0, .int .u64 0, .int .u64 0, .int .u64 0] 61)).alloc (.cells #[.bool false, .int .i64 0, .int .i64 0] 44)).heap.size ((w.alloc (.cells #[.int .i64 0, .int .i64 0, .int .i64 0, .int .i64 0, .int .i64 0, .int .i64 0, .bool false, .int .u64 0, .int .u64 0, .int .u64 0, .int .u64 0] 61)).alloc (.cells #[.bool false, .int .i64 0, .int .i64 0] 44)) w9 := K4.trans (b9.mono K4.size); have hgw : w.heap.size + 1 < w9.heap.size := Nat.lt_of_lt_of_le (by simp) K9.size; obtain ⟨s0, s1, s2, s3, s4, s5, s6, s7, s8, s9, s10, s11, s12, s13, s14, s15, s16, s17, s18, s19, s20, s21⟩ := (R0.out.later K9).eleven; obtain ⟨t0, t1, t2, t3, t4, t5⟩ := ((F0.out.later K9).far11 (h := w.heap.size) (by omega) (.int .i64 0) (.int .i64 0) (.int .i64 0) (.int .i64 0) (.int .i64 0) (.int .i64 0) (.bool false) (.int .u64 0) (.int .u64 0) (.int .u64 0) (.int .u64 0)).three; obtain ⟨h0, h1, h2, h3, h4, h5, h6, h7, h8, h9, h10, -⟩ := (((R0.out.later K9).set11 (.int .i64 0) (.int .i64 0) (.int .i64 0) (.int .i64 0) (.int .i64 0) (.int .i64 0) (.bool false) (.int .u64 0) (.int .u64 0) (.int .u64 0) (.int .u64 0)).far3 (h := (w.heap.size + 1)) (by omega) (.bool true) (.int .i64 2) (.int .i64 9)).eleven; obtain ⟨h11, h12, h13, -⟩ := (((F0.out.later K9).far11 (h := w.heap.size) (by omega) (.int .i64 0) (.int .i64 0) (.int .i64 0) (.int .i64 0) (.int .i64 0) (.int .i64 0) (.bool false) (.int .u64 0) (.int .u64 0) (.int .u64 0) (.int .u64 0)).set3 (.bool true) (.int .i64 2) (.int .i64 9)).three; have bb := below_set3 (g := (w.heap.size + 1)) (below_set11 (g := w.heap.size) (B0.out.trans (K9.mono B0.out.size)) (by omega) (.int .i64 0) (.int .i64 0) (.int .i64 0) (.int .i64 0) (.int .i64 0) (.int .i64 0) (.bool false) (.int .u64 0) (.int .u64 0) (.int .u64 0) (.int .u64 0)) (by omega) (.bool true) (.int .i64 2) (.int .i64 9)))
  exact bodyPost_ret (v := .tuple #[.agg #[.int .i64 0, .int .i64 0, .int .i64 0, .int .i64 0, .int .i64 0, .int .i64 0, .bool false, .int .u64 0, .int .u64 0, .int .u64 0, .int .u64 0], .int .i64 0, .agg #[.bool true, .int .i64 2, .int .i64 9]]) (by simp [results, Tryz.results125, go_sem, h0, h1, h2, h3, h4, h5, h6, h7, h8, h9, h10, h11, h12, h13]) rfl ⟨rfl, bb⟩
theorem rd_22 (ao : Option Addr) (ln cap : Nat) (l : List Int) (q : Int) (w : World) (hB : Bytes w (.slice ao ln cap) l) (h : ¬ ln < 8) (hN : be2 l 2 = 8) (hk : be2 l 0 = 22) (h4 : 8 ≤ ln) (hq : be4 l 4 = q) (hg : ¬ 4294967040 < q) (hr : art 22 0 0 q 0 0 false 0 0 0 0 = true) :
    Calls Tryz.prog 125 #[.slice ao ln cap] w fun e w' => e = .returned (.tuple #[.agg #[.int .i64 22, .int .i64 0, .int .i64 0, .int .i64 q, .int .i64 0, .int .i64 0, .bool false, .int .u64 0, .int .u64 0, .int .u64 0, .int .u64 0], .int .i64 8, .agg #[.bool false, .int .i64 0, .int .i64 0]]) ∧ Below w.heap.size w w' := by
  have R0 := pase0 w
  have F0 := pase1 w
  have B0 := pase2 w
  have hm := hmB hB
  have qb := h_ (fun k w => rbad2_any k w)
  unfold fv at qb
  have qn0 := fun W hW => rnum2 _ l 0 W (hB.later (w' := W) hW) (by omega)
  have qn2 := fun W hW => rnum2 _ l 2 W (hB.later (w' := W) hW) (by omega)
  rw [hN] at qn2
  rw [hk] at qn0
  have qn0 := h_ qn0
  have qn2 := h_ qn2
  have h4' : ¬ (ln : Int) < 8 := by omega
  have h' : ¬ (ln : Int) < 8 := by omega
  have qk : Hid (∀ w, Calls Tryz.prog 148 #[.int .i64 22] w fun e w' => e = .returned (.bool true) ∧ w' = w) := h_ (fun w => by have := known_any 22 w; simpa using this)
  have K3 := pase9 w
  have A3 := pase10 w
  have K4 : Below ((w.alloc (.cells #[.int .i64 0, .int .i64 0, .int .i64 0, .int .i64 0, .int .i64 0, .int .i64 0, .bool false, .int .u64 0, .int .u64 0, .int .u64 0, .int .u64 0] 61)).alloc (.cells #[.bool false, .int .i64 0, .int .i64 0] 44)).heap.size ((w.alloc (.cells #[.int .i64 0, .int .i64 0, .int .i64 0, .int .i64 0, .int .i64 0, .int .i64 0, .bool false, .int .u64 0, .int .u64 0, .int .u64 0, .int .u64 0] 61)).alloc (.cells #[.bool false, .int .i64 0, .int .i64 0] 44)) (((w.alloc (.cells #[.int .i64 0, .int .i64 0, .int .i64 0, .int .i64 0, .int .i64 0, .int .i64 0, .bool false, .int .u64 0, .int .u64 0, .int .u64 0, .int .u64 0] 61)).alloc (.cells #[.bool false, .int .i64 0, .int .i64 0] 44)).alloc (.cells #[.int .i64 22, .int .i64 0, .int .i64 0, .int .i64 q, .int .i64 0, .int .i64 0, .bool false, .int .u64 0, .int .u64 0, .int .u64 0, .int .u64 0] 61)) := below1 ((w.alloc (.cells #[.int .i64 0, .int .i64 0, .int .i64 0, .int .i64 0, .int .i64 0, .int .i64 0, .bool false, .int .u64 0, .int .u64 0, .int .u64 0, .int .u64 0] 61)).alloc (.cells #[.bool false, .int .i64 0, .int .i64 0] 44)) _
  have A4 := h_ (AB.at2 w (.cells #[.int .i64 0, .int .i64 0, .int .i64 0, .int .i64 0, .int .i64 0, .int .i64 0, .bool false, .int .u64 0, .int .u64 0, .int .u64 0, .int .u64 0] 61) (.cells #[.bool false, .int .i64 0, .int .i64 0] 44) 61 [.int .i64 22, .int .i64 0, .int .i64 0, .int .i64 q, .int .i64 0, .int .i64 0, .bool false, .int .u64 0, .int .u64 0, .int .u64 0, .int .u64 0])
  have qn4 := fun W hW => rnum4 _ l 4 W (hB.later (w' := W) hW) (by omega)
  rw [hq] at qn4
  have qn4 := h_ qn4
  clear hq
  have qr := fun w => raright_any 22 0 0 q 0 0 false 0 0 0 0 w (by decide) (by decide) (by decide) (by decide)
  rw [hr] at qr
  unfold av at qr
  have qr := h_ qr
  clear hB hN hk
  go_enter Tryz.func125, Tryz.ntmps125
  go_wp2_with (first | (go_at_call_of 147 (Value.int IntKind.i64 0); refine (qn0.out _ B0.out).mono ?_; rintro e w' ⟨rfl, rfl⟩) | (go_at_call_of 147 (Value.int IntKind.i64 4); refine (qn4.out _ (B0.out.trans (K3.mono B0.out.size))).mono ?_; rintro e w' ⟨rfl, rfl⟩) | (go_at_call_of 147 (Value.int IntKind.i64 2); refine (qn2.out _ B0.out).mono ?_; rintro e w' ⟨rfl, rfl⟩) | (go_at_call 148; refine (qk.out _).mono ?_; rintro e w' ⟨rfl, rfl⟩) | (go_at_call 110; refine (qr.out _).mono ?_; rintro e w7 ⟨rfl, b7⟩; have K7 := K4.trans (b7.mono K4.size); have hgw : w.heap.size + 1 < w7.heap.size := Nat.lt_of_lt_of_le (by simp) K7.size; obtain ⟨c0, c1, c2, c3, c4, c5, c6, c7, c8, c9, c10, -⟩ := (A4.out.later b7).eleven; obtain ⟨s0, s1, s2, s3, s4, s5, s6, s7, s8, s9, s10, s11, s12, s13, s14, s15, s16, s17, s18, s19, s20, s21⟩ := (R0.out.later K7).eleven; obtain ⟨t0, t1, t2, t3, t4, t5⟩ := ((F0.out.later K7).far11 (h := w.heap.size) (by omega) (.int .i64 22) (.int .i64 0) (.int .i64 0) (.int .i64 q) (.int .i64 0) (.int .i64 0) (.bool false) (.int .u64 0) (.int .u64 0) (.int .u64 0) (.int .u64 0)).three; obtain ⟨h0, h1, h2, h3, h4, h5, h6, h7, h8, h9, h10, -⟩ := (((R0.out.later K7).set11 (.int .i64 22) (.int .i64 0) (.int .i64 0) (.int .i64 q) (.int .i64 0) (.int .i64 0) (.bool false) (.int .u64 0) (.int .u64 0) (.int .u64 0) (.int .u64 0)).far3 (h := (w.heap.size + 1)) (by omega) (.bool false) (.int .i64 0) (.int .i64 0)).eleven; obtain ⟨h11, h12, h13, -⟩ := (((F0.out.later K7).far11 (h := w.heap.size) (by omega) (.int .i64 22) (.int .i64 0) (.int .i64 0) (.int .i64 q) (.int .i64 0) (.int .i64 0) (.bool false) (.int .u64 0) (.int .u64 0) (.int .u64 0) (.int .u64 0)).set3 (.bool false) (.int .i64 0) (.int .i64 0)).three; have bb := below_set3 (g := (w.heap.size + 1)) (below_set11 (g := w.heap.size) (B0.out.trans (K7.mono B0.out.size)) (by omega) (.int .i64 22) (.int .i64 0) (.int .i64 0) (.int .i64 q) (.int .i64 0) (.int .i64 0) (.bool false) (.int .u64 0) (.int .u64 0) (.int .u64 0) (.int .u64 0)) (by omega) (.bool false) (.int .i64 0) (.int .i64 0)))
  exact bodyPost_ret (v := .tuple #[.agg #[.int .i64 22, .int .i64 0, .int .i64 0, .int .i64 q, .int .i64 0, .int .i64 0, .bool false, .int .u64 0, .int .u64 0, .int .u64 0, .int .u64 0], .int .i64 8, .agg #[.bool false, .int .i64 0, .int .i64 0]]) (by simp [results, Tryz.results125, go_sem, h0, h1, h2, h3, h4, h5, h6, h7, h8, h9, h10, h11, h12, h13]) rfl ⟨rfl, bb⟩
theorem rd_17r (ao : Option Addr) (ln cap : Nat) (l : List Int) (v2 : Value) (y : Int) (w : World) (hB : Bytes w (.slice ao ln cap) l) (h : ¬ ln < 8) (hN : be2 l 2 = 8) (hk : be2 l 0 = 17) (h4 : 8 ≤ ln) (hs : ∀ wx, (Instr.slice 25 (.slice ao ln cap) (some (.int .i64 6)) (some (.int .i64 8)) none).run Tryz.prog wx = .ok v2 wx) (qZ : ∀ W, Below w.heap.size w W → Calls Tryz.prog 150 #[v2] W fun e w' => e = .returned (.bool true) ∧ Below W.heap.size W w') (hy : be2 l 4 = y) (hr : art 17 0 0 0 y 0 false 0 0 0 0 = false) :
    Calls Tryz.prog 125 #[.slice ao ln cap] w fun e w' => e = .returned (.tuple #[.agg #[.int .i64 0, .int .i64 0, .int .i64 0, .int .i64 0, .int .i64 0, .int .i64 0, .bool false, .int .u64 0, .int .u64 0, .int .u64 0, .int .u64 0], .int .i64 0, .agg #[.bool true, .int .i64 2, .int .i64 5]]) ∧ Below w.heap.size w w' := by
  have R0 := pase0 w
  have F0 := pase1 w
  have B0 := pase2 w
  have hm := hmB hB
  have qb := h_ (fun k w => rbad2_any k w)
  unfold fv at qb
  have qn0 := fun W hW => rnum2 _ l 0 W (hB.later (w' := W) hW) (by omega)
  have qn2 := fun W hW => rnum2 _ l 2 W (hB.later (w' := W) hW) (by omega)
  rw [hN] at qn2
  rw [hk] at qn0
  have qn0 := h_ qn0
  have qn2 := h_ qn2
  have h4' : ¬ (ln : Int) < 8 := by omega
  have h' : ¬ (ln : Int) < 8 := by omega
  have qk : Hid (∀ w, Calls Tryz.prog 148 #[.int .i64 17] w fun e w' => e = .returned (.bool true) ∧ w' = w) := h_ (fun w => by have := known_any 17 w; simpa using this)
  have K3 := pase5 w
  have A3 := pase6 w
  have qZ := h_ qZ
  have qn4 := fun W hW => rnum2 _ l 4 W (hB.later (w' := W) hW) (by omega)
  rw [hy] at qn4
  have qn4 := h_ qn4
  clear hy
  have qr := fun w => raright_any 17 0 0 0 y 0 false 0 0 0 0 w (by decide) (by decide) (by decide) (by decide)
  rw [hr] at qr
  unfold av at qr
  have qr := h_ qr
  clear hB hN hk
  go_enter Tryz.func125, Tryz.ntmps125
  go_wp2_with (first | (go_at_call_of 147 (Value.int IntKind.i64 0); refine (qn0.out _ B0.out).mono ?_; rintro e w' ⟨rfl, rfl⟩) | (go_at_call_of 147 (Value.int IntKind.i64 4); refine (qn4.out _ (B0.out.trans (K5.mono B0.out.size))).mono ?_; rintro e w' ⟨rfl, rfl⟩) | (go_at_call_of 147 (Value.int IntKind.i64 2); refine (qn2.out _ B0.out).mono ?_; rintro e w' ⟨rfl, rfl⟩) | (go_at_call 148; refine (qk.out _).mono ?_; rintro e w' ⟨rfl, rfl⟩) | (go_at_call 150; refine (qZ.out _ (B0.out.trans (K3.mono B0.out.size))).mono ?_; rintro e w5 ⟨rfl, b5⟩; have K5 := K3.trans (b5.mono K3.size); obtain ⟨a0, a1, a2, a3, a4, a5, a6, a7, a8, a9, a10, a11, a12, a13, a14, a15, a16, a17, a18, a19, a20, a21⟩ := (A3.out.later b5).eleven; have A6 := h_ ((A3.out.later b5).set (j := 4) (.int .i64 y)); obtain ⟨b0, b1, b2, b3, b4, b5, b6, b7, b8, b9, b10, -⟩ := A6.out.eleven; have K6 : Below ((w.alloc (.cells #[.int .i64 0, .int .i64 0, .int .i64 0, .int .i64 0, .int .i64 0, .int .i64 0, .bool false, .int .u64 0, .int .u64 0, .int .u64 0, .int .u64 0] 61)).alloc (.cells #[.bool false, .int .i64 0, .int .i64 0] 44)).heap.size ((w.alloc (.cells #[.int .i64 0, .int .i64 0, .int .i64 0, .int .i64 0, .int .i64 0, .int .i64 0, .bool false, .int .u64 0, .int .u64 0, .int .u64 0, .int .u64 0] 61)).alloc (.cells #[.bool false, .int .i64 0, .int .i64 0] 44)) (w5.setCell ⟨w.heap.size + 1 + 1, 4, none⟩ (.int .i64 y)) := K5.setCell (by simp) _) | (go_at_call 110; refine (qr.out _).mono ?_; rintro e w7 ⟨rfl, b7⟩; have K7 := K6.trans (b7.mono K6.size); have hgw : w.heap.size + 1 < w7.heap.size := Nat.lt_of_lt_of_le (by simp) K7.size; obtain ⟨c0, c1, c2, c3, c4, c5, c6, c7, c8, c9, c10, -⟩ := (A6.out.later b7).eleven) | (go_at_call 146; refine (qb.out _ _).mono ?_; rintro e w9 ⟨rfl, b9⟩; have K9 : Below ((w.alloc (.cells #[.int .i64 0, .int .i64 0, .int .i64 0, .int .i64 0, .int .i64 0, .int .i64 0, .bool false, .int .u64 0, .int .u64 0, .int .u64 0, .int .u64 0] 61)).alloc (.cells #[.bool false, .int .i64 0, .int .i64 0] 44)).heap.size ((w.alloc (.cells #[.int .i64 0, .int .i64 0, .int .i64 0, .int .i64 0, .int .i64 0, .int .i64 0, .bool false, .int .u64 0, .int .u64 0, .int .u64 0, .int .u64 0] 61)).alloc (.cells #[.bool false, .int .i64 0, .int .i64 0] 44)) w9 := K7.trans (b9.mono K7.size); have hgw : w.heap.size + 1 < w9.heap.size := Nat.lt_of_lt_of_le (by simp) K9.size; obtain ⟨s0, s1, s2, s3, s4, s5, s6, s7, s8, s9, s10, s11, s12, s13, s14, s15, s16, s17, s18, s19, s20, s21⟩ := (R0.out.later K9).eleven; obtain ⟨t0, t1, t2, t3, t4, t5⟩ := ((F0.out.later K9).far11 (h := w.heap.size) (by omega) (.int .i64 0) (.int .i64 0) (.int .i64 0) (.int .i64 0) (.int .i64 0) (.int .i64 0) (.bool false) (.int .u64 0) (.int .u64 0) (.int .u64 0) (.int .u64 0)).three; obtain ⟨h0, h1, h2, h3, h4, h5, h6, h7, h8, h9, h10, -⟩ := (((R0.out.later K9).set11 (.int .i64 0) (.int .i64 0) (.int .i64 0) (.int .i64 0) (.int .i64 0) (.int .i64 0) (.bool false) (.int .u64 0) (.int .u64 0) (.int .u64 0) (.int .u64 0)).far3 (h := (w.heap.size + 1)) (by omega) (.bool true) (.int .i64 2) (.int .i64 5)).eleven; obtain ⟨h11, h12, h13, -⟩ := (((F0.out.later K9).far11 (h := w.heap.size) (by omega) (.int .i64 0) (.int .i64 0) (.int .i64 0) (.int .i64 0) (.int .i64 0) (.int .i64 0) (.bool false) (.int .u64 0) (.int .u64 0) (.int .u64 0) (.int .u64 0)).set3 (.bool true) (.int .i64 2) (.int .i64 5)).three; have bb := below_set3 (g := (w.heap.size + 1)) (below_set11 (g := w.heap.size) (B0.out.trans (K9.mono B0.out.size)) (by omega) (.int .i64 0) (.int .i64 0) (.int .i64 0) (.int .i64 0) (.int .i64 0) (.int .i64 0) (.bool false) (.int .u64 0) (.int .u64 0) (.int .u64 0) (.int .u64 0)) (by omega) (.bool true) (.int .i64 2) (.int .i64 5)))
  exact bodyPost_ret (v := .tuple #[.agg #[.int .i64 0, .int .i64 0, .int .i64 0, .int .i64 0, .int .i64 0, .int .i64 0, .bool false, .int .u64 0, .int .u64 0, .int .u64 0, .int .u64 0], .int .i64 0, .agg #[.bool true, .int .i64 2, .int .i64 5]]) (by simp [results, Tryz.results125, go_sem, h0, h1, h2, h3, h4, h5, h6, h7, h8, h9, h10, h11, h12, h13]) rfl ⟨rfl, bb⟩
theorem rd_17 (ao : Option Addr) (ln cap : Nat) (l : List Int) (v2 : Value) (y : Int) (w : World) (hB : Bytes w (.slice ao ln cap) l) (h : ¬ ln < 8) (hN : be2 l 2 = 8) (hk : be2 l 0 = 17) (h4 : 8 ≤ ln) (hs : ∀ wx, (Instr.slice 25 (.slice ao ln cap) (some (.int .i64 6)) (some (.int .i64 8)) none).run Tryz.prog wx = .ok v2 wx) (qZ : ∀ W, Below w.heap.size w W → Calls Tryz.prog 150 #[v2] W fun e w' => e = .returned (.bool true) ∧ Below W.heap.size W w') (hy : be2 l 4 = y) (hr : art 17 0 0 0 y 0 false 0 0 0 0 = true) :
    Calls Tryz.prog 125 #[.slice ao ln cap] w fun e w' => e = .returned (.tuple #[.agg #[.int .i64 17, .int .i64 0, .int .i64 0, .int .i64 0, .int .i64 y, .int .i64 0, .bool false, .int .u64 0, .int .u64 0, .int .u64 0, .int .u64 0], .int .i64 8, .agg #[.bool false, .int .i64 0, .int .i64 0]]) ∧ Below w.heap.size w w' := by
  have R0 := pase0 w
  have F0 := pase1 w
  have B0 := pase2 w
  have hm := hmB hB
  have qb := h_ (fun k w => rbad2_any k w)
  unfold fv at qb
  have qn0 := fun W hW => rnum2 _ l 0 W (hB.later (w' := W) hW) (by omega)
  have qn2 := fun W hW => rnum2 _ l 2 W (hB.later (w' := W) hW) (by omega)
  rw [hN] at qn2
  rw [hk] at qn0
  have qn0 := h_ qn0
  have qn2 := h_ qn2
  have h4' : ¬ (ln : Int) < 8 := by omega
  have h' : ¬ (ln : Int) < 8 := by omega
  have qk : Hid (∀ w, Calls Tryz.prog 148 #[.int .i64 17] w fun e w' => e = .returned (.bool true) ∧ w' = w) := h_ (fun w => by have := known_any 17 w; simpa using this)
  have K3 := pase5 w
  have A3 := pase6 w
  have qZ := h_ qZ
  have qn4 := fun W hW => rnum2 _ l 4 W (hB.later (w' := W) hW) (by omega)
  rw [hy] at qn4
  have qn4 := h_ qn4
  clear hy
  have qr := fun w => raright_any 17 0 0 0 y 0 false 0 0 0 0 w (by decide) (by decide) (by decide) (by decide)
  rw [hr] at qr
  unfold av at qr
  have qr := h_ qr
  clear hB hN hk
  go_enter Tryz.func125, Tryz.ntmps125
  go_wp2_with (first | (go_at_call_of 147 (Value.int IntKind.i64 0); refine (qn0.out _ B0.out).mono ?_; rintro e w' ⟨rfl, rfl⟩) | (go_at_call_of 147 (Value.int IntKind.i64 4); refine (qn4.out _ (B0.out.trans (K5.mono B0.out.size))).mono ?_; rintro e w' ⟨rfl, rfl⟩) | (go_at_call_of 147 (Value.int IntKind.i64 2); refine (qn2.out _ B0.out).mono ?_; rintro e w' ⟨rfl, rfl⟩) | (go_at_call 148; refine (qk.out _).mono ?_; rintro e w' ⟨rfl, rfl⟩) | (go_at_call 150; refine (qZ.out _ (B0.out.trans (K3.mono B0.out.size))).mono ?_; rintro e w5 ⟨rfl, b5⟩; have K5 := K3.trans (b5.mono K3.size); obtain ⟨a0, a1, a2, a3, a4, a5, a6, a7, a8, a9, a10, a11, a12, a13, a14, a15, a16, a17, a18, a19, a20, a21⟩ := (A3.out.later b5).eleven; have A6 := h_ ((A3.out.later b5).set (j := 4) (.int .i64 y)); obtain ⟨b0, b1, b2, b3, b4, b5, b6, b7, b8, b9, b10, -⟩ := A6.out.eleven; have K6 : Below ((w.alloc (.cells #[.int .i64 0, .int .i64 0, .int .i64 0, .int .i64 0, .int .i64 0, .int .i64 0, .bool false, .int .u64 0, .int .u64 0, .int .u64 0, .int .u64 0] 61)).alloc (.cells #[.bool false, .int .i64 0, .int .i64 0] 44)).heap.size ((w.alloc (.cells #[.int .i64 0, .int .i64 0, .int .i64 0, .int .i64 0, .int .i64 0, .int .i64 0, .bool false, .int .u64 0, .int .u64 0, .int .u64 0, .int .u64 0] 61)).alloc (.cells #[.bool false, .int .i64 0, .int .i64 0] 44)) (w5.setCell ⟨w.heap.size + 1 + 1, 4, none⟩ (.int .i64 y)) := K5.setCell (by simp) _) | (go_at_call 110; refine (qr.out _).mono ?_; rintro e w7 ⟨rfl, b7⟩; have K7 := K6.trans (b7.mono K6.size); have hgw : w.heap.size + 1 < w7.heap.size := Nat.lt_of_lt_of_le (by simp) K7.size; obtain ⟨c0, c1, c2, c3, c4, c5, c6, c7, c8, c9, c10, -⟩ := (A6.out.later b7).eleven; obtain ⟨s0, s1, s2, s3, s4, s5, s6, s7, s8, s9, s10, s11, s12, s13, s14, s15, s16, s17, s18, s19, s20, s21⟩ := (R0.out.later K7).eleven; obtain ⟨t0, t1, t2, t3, t4, t5⟩ := ((F0.out.later K7).far11 (h := w.heap.size) (by omega) (.int .i64 17) (.int .i64 0) (.int .i64 0) (.int .i64 0) (.int .i64 y) (.int .i64 0) (.bool false) (.int .u64 0) (.int .u64 0) (.int .u64 0) (.int .u64 0)).three; obtain ⟨h0, h1, h2, h3, h4, h5, h6, h7, h8, h9, h10, -⟩ := (((R0.out.later K7).set11 (.int .i64 17) (.int .i64 0) (.int .i64 0) (.int .i64 0) (.int .i64 y) (.int .i64 0) (.bool false) (.int .u64 0) (.int .u64 0) (.int .u64 0) (.int .u64 0)).far3 (h := (w.heap.size + 1)) (by omega) (.bool false) (.int .i64 0) (.int .i64 0)).eleven; obtain ⟨h11, h12, h13, -⟩ := (((F0.out.later K7).far11 (h := w.heap.size) (by omega) (.int .i64 17) (.int .i64 0) (.int .i64 0) (.int .i64 0) (.int .i64 y) (.int .i64 0) (.bool false) (.int .u64 0) (.int .u64 0) (.int .u64 0) (.int .u64 0)).set3 (.bool false) (.int .i64 0) (.int .i64 0)).three; have bb := below_set3 (g := (w.heap.size + 1)) (below_set11 (g := w.heap.size) (B0.out.trans (K7.mono B0.out.size)) (by omega) (.int .i64 17) (.int .i64 0) (.int .i64 0) (.int .i64 0) (.int .i64 y) (.int .i64 0) (.bool false) (.int .u64 0) (.int .u64 0) (.int .u64 0) (.int .u64 0)) (by omega) (.bool false) (.int .i64 0) (.int .i64 0)))
  exact bodyPost_ret (v := .tuple #[.agg #[.int .i64 17, .int .i64 0, .int .i64 0, .int .i64 0, .int .i64 y, .int .i64 0, .bool false, .int .u64 0, .int .u64 0, .int .u64 0, .int .u64 0], .int .i64 8, .agg #[.bool false, .int .i64 0, .int .i64 0]]) (by simp [results, Tryz.results125, go_sem, h0, h1, h2, h3, h4, h5, h6, h7, h8, h9, h10, h11, h12, h13]) rfl ⟨rfl, bb⟩
theorem rd_18 (ao : Option Addr) (ln cap : Nat) (l : List Int) (v2 : Value) (w : World) (hB : Bytes w (.slice ao ln cap) l) (h : ¬ ln < 8) (hN : be2 l 2 = 8) (hk : be2 l 0 = 18) (h4 : 8 ≤ ln) (hs : ∀ wx, (Instr.slice 25 (.slice ao ln cap) (some (.int .i64 4)) (some (.int .i64 8)) none).run Tryz.prog wx = .ok v2 wx) (qZ : ∀ W, Below w.heap.size w W → Calls Tryz.prog 150 #[v2] W fun e w' => e = .returned (.bool true) ∧ Below W.heap.size W w') (hr : art 18 0 0 0 0 0 false 0 0 0 0 = true) :
    Calls Tryz.prog 125 #[.slice ao ln cap] w fun e w' => e = .returned (.tuple #[.agg #[.int .i64 18, .int .i64 0, .int .i64 0, .int .i64 0, .int .i64 0, .int .i64 0, .bool false, .int .u64 0, .int .u64 0, .int .u64 0, .int .u64 0], .int .i64 8, .agg #[.bool false, .int .i64 0, .int .i64 0]]) ∧ Below w.heap.size w w' := by
  have R0 := pase0 w
  have F0 := pase1 w
  have B0 := pase2 w
  have hm := hmB hB
  have qb := h_ (fun k w => rbad2_any k w)
  unfold fv at qb
  have qn0 := fun W hW => rnum2 _ l 0 W (hB.later (w' := W) hW) (by omega)
  have qn2 := fun W hW => rnum2 _ l 2 W (hB.later (w' := W) hW) (by omega)
  rw [hN] at qn2
  rw [hk] at qn0
  have qn0 := h_ qn0
  have qn2 := h_ qn2
  have h4' : ¬ (ln : Int) < 8 := by omega
  have h' : ¬ (ln : Int) < 8 := by omega
  have qk : Hid (∀ w, Calls Tryz.prog 148 #[.int .i64 18] w fun e w' => e = .returned (.bool true) ∧ w' = w) := h_ (fun w => by have := known_any 18 w; simpa using this)
  have K3 := pase7 w
  have A3 := pase8 w
  have qZ := h_ qZ
  have qr := fun w => raright_any 18 0 0 0 0 0 false 0 0 0 0 w (by decide) (by decide) (by decide) (by decide)
  rw [hr] at qr
  unfold av at qr
  have qr := h_ qr
  clear hB hN hk
  go_enter Tryz.func125, Tryz.ntmps125
  go_wp2_with (first | (go_at_call_of 147 (Value.int IntKind.i64 0); refine (qn0.out _ B0.out).mono ?_; rintro e w' ⟨rfl, rfl⟩) | (go_at_call_of 147 (Value.int IntKind.i64 2); refine (qn2.out _ B0.out).mono ?_; rintro e w' ⟨rfl, rfl⟩) | (go_at_call 148; refine (qk.out _).mono ?_; rintro e w' ⟨rfl, rfl⟩) | (go_at_call 150; refine (qZ.out _ (B0.out.trans (K3.mono B0.out.size))).mono ?_; rintro e w5 ⟨rfl, b5⟩; have K5 := K3.trans (b5.mono K3.size); obtain ⟨a0, a1, a2, a3, a4, a5, a6, a7, a8, a9, a10, a11, a12, a13, a14, a15, a16, a17, a18, a19, a20, a21⟩ := (A3.out.later b5).eleven; have A6 := h_ (A3.out.later b5)) | (go_at_call 110; refine (qr.out _).mono ?_; rintro e w7 ⟨rfl, b7⟩; have K7 := K5.trans (b7.mono K5.size); have hgw : w.heap.size + 1 < w7.heap.size := Nat.lt_of_lt_of_le (by simp) K7.size; obtain ⟨c0, c1, c2, c3, c4, c5, c6, c7, c8, c9, c10, -⟩ := (A6.out.later b7).eleven; obtain ⟨s0, s1, s2, s3, s4, s5, s6, s7, s8, s9, s10, s11, s12, s13, s14, s15, s16, s17, s18, s19, s20, s21⟩ := (R0.out.later K7).eleven; obtain ⟨t0, t1, t2, t3, t4, t5⟩ := ((F0.out.later K7).far11 (h := w.heap.size) (by omega) (.int .i64 18) (.int .i64 0) (.int .i64 0) (.int .i64 0) (.int .i64 0) (.int .i64 0) (.bool false) (.int .u64 0) (.int .u64 0) (.int .u64 0) (.int .u64 0)).three; obtain ⟨h0, h1, h2, h3, h4, h5, h6, h7, h8, h9, h10, -⟩ := (((R0.out.later K7).set11 (.int .i64 18) (.int .i64 0) (.int .i64 0) (.int .i64 0) (.int .i64 0) (.int .i64 0) (.bool false) (.int .u64 0) (.int .u64 0) (.int .u64 0) (.int .u64 0)).far3 (h := (w.heap.size + 1)) (by omega) (.bool false) (.int .i64 0) (.int .i64 0)).eleven; obtain ⟨h11, h12, h13, -⟩ := (((F0.out.later K7).far11 (h := w.heap.size) (by omega) (.int .i64 18) (.int .i64 0) (.int .i64 0) (.int .i64 0) (.int .i64 0) (.int .i64 0) (.bool false) (.int .u64 0) (.int .u64 0) (.int .u64 0) (.int .u64 0)).set3 (.bool false) (.int .i64 0) (.int .i64 0)).three; have bb := below_set3 (g := (w.heap.size + 1)) (below_set11 (g := w.heap.size) (B0.out.trans (K7.mono B0.out.size)) (by omega) (.int .i64 18) (.int .i64 0) (.int .i64 0) (.int .i64 0) (.int .i64 0) (.int .i64 0) (.bool false) (.int .u64 0) (.int .u64 0) (.int .u64 0) (.int .u64 0)) (by omega) (.bool false) (.int .i64 0) (.int .i64 0)))
  exact bodyPost_ret (v := .tuple #[.agg #[.int .i64 18, .int .i64 0, .int .i64 0, .int .i64 0, .int .i64 0, .int .i64 0, .bool false, .int .u64 0, .int .u64 0, .int .u64 0, .int .u64 0], .int .i64 8, .agg #[.bool false, .int .i64 0, .int .i64 0]]) (by simp [results, Tryz.results125, go_sem, h0, h1, h2, h3, h4, h5, h6, h7, h8, h9, h10, h11, h12, h13]) rfl ⟨rfl, bb⟩
end Go.Proofs.YthhijfphfcmniaaGreat
