import Derived.Test.YtcbkghbfalfkhaaKC
import Derived.Deep.RegionHeld3
import Derived.Deep.RegionWith
import Derived.Deep.MidRow
import Derived.Deep.Cut
import Derived.Test.YtcbkghbfalfkhaaKA
namespace Go.Proofs.Ytcbkghbfalfkhaa
section
open Go Go.RowKit
set_option linter.unusedVariables false
set_option linter.unusedSimpArgs false

theorem encA_mod8 : ∀ (L : List A11), AFit L → L.all artO = true → (encA L).length % 8 = 0
  | [], _, _ => rfl
  | (k, p, x, q, y, f, m, a, b, c, d) :: r, hF, hr => by
    have hr' : art k p x q y f m a b c d = true ∧ r.all artO = true := by
      rw [List.all_cons, Bool.and_eq_true] at hr
      exact hr
    obtain ⟨g1, g2, g3, g4⟩ := hF k p x q y f m a b c d (by simp)
    have h8 := (aenc_len g1 g2 g3 g4 hr'.1).2.1
    have ih := encA_mod8 r hF.tail hr'.2
    have e : encA ((k, p, x, q, y, f, m, a, b, c, d) :: r) = aencL k p x q y f m a b c d ++ encA r := by simp [encA, aencO]
    rw [e, List.length_append]
    omega
theorem rightB_2 {n : Int} (h : rightB n 2 = true) : 0 ≤ n ∧ n < 65536 := by
  simpa [rightB, szB, lim] using h
theorem rightB_4 {n : Int} (h : rightB n 4 = true) : 0 ≤ n ∧ n < 4294967296 := by
  simpa [rightB, szB, lim] using h
theorem spl2_eq (n : Int) : spl n 2 = [n / 256 % 256, n % 256] := by simp [spl]
theorem spl4_eq (n : Int) : spl n 4 = [n / 16777216, n / 65536 % 256, n / 256 % 256, n % 256] := by simp [spl]
theorem bkE_form (a b c : Int) (L : List A11) : bkE (a, b, c, L) = ((16 + (encA L).length : Nat) : Int) / 256 % 256 :: ((16 + (encA L).length : Nat) : Int) % 256 :: a / 256 % 256 :: a % 256 :: b / 16777216 :: b / 65536 % 256 :: b / 256 % 256 :: b % 256 :: c / 16777216 :: c / 65536 % 256 :: c / 256 % 256 :: c % 256 :: 0 :: 0 :: 0 :: 0 :: encA L := by
  unfold bkE
  rw [spl2_eq, spl2_eq, spl4_eq, spl4_eq]
  rfl
theorem be2_at0 (x y : Int) (r : List Int) : be2 (x :: y :: r) 0 = x * 256 + y := by simp [be2]
theorem be2_at2 (x0 x1 x2 x3 : Int) (r : List Int) : be2 (x0 :: x1 :: x2 :: x3 :: r) 2 = x2 * 256 + x3 := by simp [be2]
theorem be4_at4 (x0 x1 x2 x3 x4 x5 x6 x7 : Int) (r : List Int) : be4 (x0 :: x1 :: x2 :: x3 :: x4 :: x5 :: x6 :: x7 :: r) 4 = ((x4 * 256 + x5) * 256 + x6) * 256 + x7 := by simp [be4]
theorem be4_at8 (x0 x1 x2 x3 x4 x5 x6 x7 x8 x9 y0 y1 : Int) (r : List Int) : be4 (x0 :: x1 :: x2 :: x3 :: x4 :: x5 :: x6 :: x7 :: x8 :: x9 :: y0 :: y1 :: r) 8 = ((x8 * 256 + x9) * 256 + y0) * 256 + y1 := by simp [be4]
theorem step_enc {a b c : Int} {L : List A11} (X : List Int) (hF : AFit L) (h : bkR (a, b, c, L) = true) : KStep Ans (bkE (a, b, c, L) ++ X) (16 + (encA L).length) L ∧ bkOf (bkE (a, b, c, L) ++ X) (16 + (encA L).length) L = (a, b, c, L) := by
  obtain ⟨h1, h2, h3, h4, h5⟩ := bkR_parts h
  have r1 := rightB_2 h3
  have r2 := rightB_4 h4
  have r3 := rightB_4 h5
  simp only at r1 r2 r3 h1 h2
  have hl := encA_6000 hF h1 h2
  have hm := encA_mod8 L hF h2
  have hbl := bkE_len (a, b, c, L)
  simp only at hbl
  have ht : (bkE (a, b, c, L) ++ X).take (16 + (encA L).length) = bkE (a, b, c, L) := by rw [← hbl, List.take_left]
  have hN : be2 (bkE (a, b, c, L) ++ X) 0 = ((16 + (encA L).length : Nat) : Int) := by
    rw [bkE_form, List.cons_append, List.cons_append, be2_at0]
    omega
  have hd : (bkE (a, b, c, L)).drop 16 = encA L := by rw [bkE_form]; rfl
  refine ⟨⟨⟨by rw [List.length_append, hbl]; omega, by rw [hN]; omega, by rw [hN]; omega, by rw [hN, List.length_append, hbl]; omega⟩, hN, ?_, ?_, h1⟩, ?_⟩
  · rw [ht, bkE_form]
    rfl
  · rw [ht, hd]
    exact aok_enc L hF h2
  · unfold bkOf
    rw [ht, bkE_form]
    rw [be2_at2, be4_at4, be4_at8]
    have e1 : a / 256 % 256 * 256 + a % 256 = a := by omega
    have e2 : ((b / 16777216 * 256 + b / 65536 % 256) * 256 + b / 256 % 256) * 256 + b % 256 = b := by omega
    have e3 : ((c / 16777216 * 256 + c / 65536 % 256) * 256 + c / 256 % 256) * 256 + c % 256 = c := by omega
    rw [e1, e2, e3]
theorem bok_enc : ∀ Ls : List BK, BFit Ls → Ls.all bkR = true → BOk Ans (encK Ls) Ls
  | [], _, _ => .nil
  | (a, b, c, L) :: r, hF, hr => by
    rw [List.all_cons, Bool.and_eq_true] at hr
    obtain ⟨h1, h2⟩ := step_enc (encK r) (hF (a, b, c, L) (by simp)) hr.1
    have ih := bok_enc r (fun x hx => hF x (by simp [hx])) hr.2
    have e : encK ((a, b, c, L) :: r) = bkE (a, b, c, L) ++ encK r := rfl
    rw [e]
    have hbl := bkE_len (a, b, c, L)
    simp only at hbl
    have := BOk.cons h1 (by rw [← hbl, List.drop_left]; exact ih)
    rw [h2] at this
    exact this
theorem step_all {D : List Int → Value → Prop} {l : List Int} {N : Nat} {L : List A11} (hl : isB l) (h : KStep D l N L) : bkE (bkOf l N L) = l.take N ∧ AFit L ∧ bkR (bkOf l N L) = true := by
  obtain ⟨hc, hN, hz, hA, h100⟩ := h
  obtain ⟨e1, e2, e3⟩ := aok_all hA
  have hle : N ≤ l.length := by unfold cutOk at hc; omega
  have h16 : 16 ≤ N := by unfold cutOk at hc; omega
  have hlt : (l.take N).length = N := by rw [List.length_take, Nat.min_eq_left hle]
  have hb0 : be2 (l.take N) 0 = (N : Int) := by rw [← hN]; exact be2_take (by omega) hle
  have hm := isB_takeK hl N
  unfold bkOf
  generalize l.take N = m at *
  obtain ⟨b0, b1, b2, b3, b4, b5, b6, b7, b8, b9, b10, b11, b12, b13, b14, b15, r, rfl⟩ := expl16 (l := m) (by omega)
  have q0 := hm b0 (by simp)
  have q1 := hm b1 (by simp)
  have q2 := hm b2 (by simp)
  have q3 := hm b3 (by simp)
  have q4 := hm b4 (by simp)
  have q5 := hm b5 (by simp)
  have q6 := hm b6 (by simp)
  have q7 := hm b7 (by simp)
  have q8 := hm b8 (by simp)
  have q9 := hm b9 (by simp)
  have q10 := hm b10 (by simp)
  have q11 := hm b11 (by simp)
  have q12 := hm b12 (by simp)
  have q13 := hm b13 (by simp)
  have q14 := hm b14 (by simp)
  have q15 := hm b15 (by simp)
  have e1' : encA L = r := e1
  have hz' : b12 = 0 ∧ b13 = 0 ∧ b14 = 0 ∧ b15 = 0 := by
    have : nzB [b12, b13, b14, b15] = false := hz
    simpa [nzB] using this
  obtain ⟨rfl, rfl, rfl, rfl⟩ := hz'
  rw [be2_at0] at hb0
  have hr : r.length + 16 = N := by simpa using hlt
  rw [be2_at2, be4_at4, be4_at8]
  refine ⟨?_, e2, ?_⟩
  · rw [bkE_form, e1']
    have hx : ((16 + r.length : Nat) : Int) = b0 * 256 + b1 := by omega
    rw [hx]
    congr 1
    · omega
    congr 1
    · omega
    congr 1
    · omega
    congr 1
    · omega
    congr 1
    · omega
    congr 1
    · omega
    congr 1
    · omega
    congr 1
    · omega
    congr 1
    · omega
    congr 1
    · omega
    congr 1
    · omega
    congr 1
    omega
  · have k1 : rightB (b2 * 256 + b3) 2 = true := rightB_in2 (by omega) (by omega)
    have k2 : rightB (((b4 * 256 + b5) * 256 + b6) * 256 + b7) 4 = true := rightB_in4 (by omega) (by omega)
    have k3 : rightB (((b8 * 256 + b9) * 256 + b10) * 256 + b11) 4 = true := rightB_in4 (by omega) (by omega)
    unfold bkR bkA bkN
    simp only [k1, k2, k3, e3, decide_eq_true h100, Bool.and_self]
theorem bok_all {D : List Int → Value → Prop} {l : List Int} {Ls : List BK} (h : BOk D l Ls) : isB l → encK Ls = l ∧ BFit Ls ∧ Ls.all bkR = true := by
  induction h with
  | nil => exact fun _ => ⟨rfl, fun o ho => (by cases ho), rfl⟩
  | @cons l N L Ls hd hp ih =>
    intro hl
    obtain ⟨e1, e2, e3⟩ := ih (isB_dropK hl N)
    obtain ⟨f1, f2, f3⟩ := step_all hl hd
    refine ⟨?_, ?_, ?_⟩
    · show bkE (bkOf l N L) ++ encK Ls = l
      rw [f1, e1, List.take_append_drop]
    · intro o ho
      rcases List.mem_cons.1 ho with rfl | ho
      · exact f2
      · exact e2 o ho
    · rw [List.all_cons, f3, e3]; rfl
end

section
open Go Go.RowKit
set_option linter.unusedVariables false
set_option linter.unusedSimpArgs false

def IsBoolE (e : Ending) : Prop := ∃ z, e = .returned (.bool z)
theorem isB_mk (z : Bool) : IsBoolE (.returned (.bool z)) := ⟨z, rfl⟩

set_option maxRecDepth 100000 in
set_option maxHeartbeats 8000000 in
theorem bright_any (a b c : Int) (u : Value) (L : List A11) (w : World) (hL : ActAt w u L) (hF : AFit L) :
    Calls Try.prog 64 #[.agg #[.int .i64 a, .int .i64 b, .int .i64 c, u]] w fun e w' => e = .returned (.bool (bkR (a, b, c, L))) ∧ Below w.heap.size w w' := by
  obtain ⟨su, cu, rfl, hu⟩ := hL
  have hL : ActAt w (.slice su L.length cu) L := ⟨su, cu, rfl, hu⟩
  have B0 := hide_ (below1 w (.cells #[.int .i64 a, .int .i64 b, .int .i64 c, .slice su L.length cu] 96))
  cases hr : bkR (a, b, c, L)
  · have q := hide_ (fun W (hW : Below w.heap.size w W) => bspell_no a b c _ L W (hL.later hW) hF hr)
    clear hL hu hF hr
    go_enter Try.func64, Try.ntmps64
    go_wp2_with (go_at_call 65; refine (q.out _ B0.out).mono ?_; rintro e w1 ⟨rfl, b1⟩)
    go_ret
    exact ⟨rfl, B0.out.trans (b1.mono B0.out.size)⟩
  · have q := hide_ (fun W (hW : Below w.heap.size w W) => bspell_yes a b c _ L W (hL.later hW) hF hr)
    clear hL hu hF hr
    go_enter Try.func64, Try.ntmps64
    go_wp2_with (go_at_call 65; refine (q.out _ B0.out).mono ?_; rintro e w1 ⟨r1, rfl, -, b1⟩)
    go_ret
    exact ⟨rfl, B0.out.trans (b1.mono B0.out.size)⟩

set_option maxRecDepth 100000 in
set_option maxHeartbeats 8000000 in
theorem pacts_any (s : Option Addr) (n cap : Nat) (w : World) (hn : n ≤ 9223372036854775807) :
    Calls Try.prog 48 #[.slice s n cap] w fun e w' => IsBoolE e ∧ w' = w := by
  go_enter Try.func48, Try.ntmps48
  go_wp2
  go_ret
  exact ⟨isB_mk _, rfl⟩

set_option maxRecDepth 100000 in
set_option maxHeartbeats 8000000 in
theorem pclo_any (a b c : Int) (s : Option Addr) (n cap : Nat) (w : World) (hn : n ≤ 9223372036854775807) :
    Calls Try.prog 63 #[.agg #[.int .i64 a, .int .i64 b, .int .i64 c, .slice s n cap]] w fun e w' => IsBoolE e ∧ Below w.heap.size w w' := by
  have B0 := hide_ (below1 w (.cells #[.int .i64 a, .int .i64 b, .int .i64 c, .slice s n cap] 96))
  go_enter Try.func63, Try.ntmps63
  go_wp2_with (go_at_call 48; refine (pacts_any _ _ _ _ hn).mono ?_; rintro e w1 ⟨hz, rfl⟩; obtain ⟨z, rfl⟩ := hz)
  go_ret
  exact ⟨isB_mk _, B0.out⟩

set_option maxRecDepth 100000 in
set_option maxHeartbeats 8000000 in
theorem pidx_any (v : Value) (L : List BK) (w : World) (hL : BuckAt w v L) :
    Calls Try.prog 101 #[v, .func (.func 63) #[] #[]] w fun e w' => (∃ i : Int, e = .returned (.int .i64 i)) ∧ Below w.heap.size w w' := by
  obtain ⟨s, cap, rfl, h1, h2, h3, h4⟩ := hL
  have HL := hide_ h4
  have hm : L.length ≤ 9223372036854775807 := by unfold maxLen at h2; omega
  clear h1 h2 h3 h4
  go_enter Try.func101, Try.ntmps101
  go_wp2
  go_loopw [5, 8] (fun _ i wr => ∃ j : Nat, j ≤ L.length ∧ i = .int .i64 j ∧ Hid (Below w.heap.size w wr)) (fun _ i _ => L.length - (intOf i).toNat)
  case atStart => exact ⟨0, Nat.zero_le _, rfl, hide_ (Below.refl _ _)⟩
  case round =>
    obtain ⟨j, hj, rfl, KB⟩ := hrel
    by_cases hlt : j < L.length
    · have hlt' : (j : Int) < (L.length : Int) := by omega
      obtain ⟨⟨a1, b1, c1, M1⟩, hz1⟩ : ∃ z, L[j]? = some z := ⟨_, List.getElem?_eq_getElem hlt⟩
      obtain ⟨bq1, off1, u1, rfl, X0, X1, X2, X3, M1A⟩ := HL.out j _ hz1
      have X0 := cell_later KB.out X0
      have X1 := cell_later KB.out X1
      have X2 := cell_later KB.out X2
      have X3 := cell_later KB.out X3
      obtain ⟨su1, cu1, eu1, -⟩ := id M1A
      subst eu1
      have hn1 : M1.length ≤ 9223372036854775807 := by obtain ⟨_, _, e9, h8, h9, _⟩ := M1A; cases e9; have h8 : M1.length ≤ _ := h8; unfold maxLen at h9; omega
      have qc := hide_ (fun w => pclo_any a1 b1 c1 su1 M1.length cu1 w hn1)
      clear hz1 M1A
      go_wp2_with (go_at_call 63; refine (qc.out _).mono ?_; rintro e w1 ⟨hz, b1⟩; obtain ⟨z, rfl⟩ := hz; cases z)
      · go_roundw
        case rel => exact ⟨j + 1, by omega, by go_num, hide_ (KB.out.trans (b1.mono KB.out.size))⟩
        case measure => simp [intOf]; omega
      · go_ret
        exact ⟨⟨_, rfl⟩, KB.out.trans (b1.mono KB.out.size)⟩
    · have hlt' : ¬ (j : Int) < (L.length : Int) := by omega
      go_wp2
      go_ret
      exact ⟨⟨_, rfl⟩, KB.out⟩

set_option maxRecDepth 100000 in
set_option maxHeartbeats 8000000 in
theorem pcon_any (v : Value) (L : List BK) (w : World) (hL : BuckAt w v L) :
    Calls Try.prog 62 #[v, .func (.func 63) #[] #[]] w fun e w' => IsBoolE e ∧ Below w.heap.size w w' := by
  have q := hide_ (pidx_any v L w hL)
  obtain ⟨s, cap, rfl, -⟩ := hL
  go_enter Try.func62, Try.ntmps62
  go_wp2_with (go_at_call 101; refine q.out.mono ?_; rintro e w1 ⟨⟨i, rfl⟩, b1⟩)
  go_ret
  exact ⟨isB_mk _, b1⟩

set_option maxRecDepth 100000 in
set_option maxHeartbeats 8000000 in
theorem plainB_any (v : Value) (L : List BK) (n : Int) (w : World) (hL : BuckAt w v L) :
    Calls Try.prog 28 #[v, .int .i64 n] w fun e w' => IsBoolE e ∧ Below w.heap.size w w' := by
  have q := hide_ (pcon_any v L w hL)
  obtain ⟨s, cap, rfl, h1, h2, -⟩ := hL
  have hm : L.length ≤ 9223372036854775807 := by unfold maxLen at h2; omega
  clear h1 h2
  by_cases hn : (L.length : Int) ≤ n
  · go_enter Try.func28, Try.ntmps28
    go_wp2_with (go_at_call 62; refine q.out.mono ?_; rintro e w1 ⟨hz, b1⟩; obtain ⟨z, rfl⟩ := hz)
    go_ret
    exact ⟨isB_mk _, b1⟩
  · go_enter Try.func28, Try.ntmps28
    go_wp2
    go_ret
    exact ⟨isB_mk _, Below.refl _ _⟩
end

section
open Go Go.RowKit
set_option linter.unusedVariables false
set_option linter.unusedSimpArgs false

def a15 : A11 := (0, 3, 0, 0, 0, 0, false, 0, 0, 0, 0)
def L15 : List BK := [(1, 4, 4294967295, [a15]), (0, 0, 0, [])]
theorem a15_fit : AFit [a15] := by
  intro k p x q y f m a b c d hi
  simp only [a15, List.mem_cons, List.not_mem_nil, or_false, Prod.mk.injEq] at hi
  obtain ⟨rfl, rfl, rfl, rfl, rfl, rfl, rfl, rfl, rfl, rfl, rfl⟩ := hi
  decide
theorem l15_fit : BFit L15 := by
  intro o ho
  simp only [L15, List.mem_cons, List.not_mem_nil, or_false] at ho
  rcases ho with rfl | rfl
  · exact a15_fit
  · intro k p x q y f m a b c d hi
    cases hi
theorem l15_right : L15.all bkR = true := by decide +kernel
theorem l15_len : (encK L15).length = 48 := by decide +kernel
theorem l15_one : bkR (1, 4, 4294967295, [a15]) = true := by decide +kernel
theorem a15_row (w : World) : (w.alloc (.cells #[.int .i64 0, .int .i64 3, .int .i64 0, .int .i64 0, .int .i64 0, .int .i64 0, .bool false, .int .u64 0, .int .u64 0, .int .u64 0, .int .u64 0] 63)).ownsRow w.heap.size 63 11 (.slice (some ⟨w.heap.size, 0, none⟩) 1 1) 1 (ads [a15]) :=
  ⟨by decide, .inr ⟨w.heap.size, 1, _, rfl, Nat.le_refl _, heap_alloc_last w _, by decide, by decide, by decide, rfl⟩⟩
theorem l15_row (w : World) : BRow ((w.alloc (.cells #[.int .i64 0, .int .i64 3, .int .i64 0, .int .i64 0, .int .i64 0, .int .i64 0, .bool false, .int .u64 0, .int .u64 0, .int .u64 0, .int .u64 0] 63)).alloc (.cells #[.int .i64 1, .int .i64 4, .int .i64 4294967295, .slice (some ⟨w.heap.size, 0, none⟩) 1 1, .int .i64 0, .int .i64 0, .int .i64 0, .slice none 0 0] 96)) w.heap.size (.slice (some ⟨w.heap.size + 1, 0, none⟩) 2 2) [((1, 4, 4294967295, [a15]), .slice (some ⟨w.heap.size, 0, none⟩) 1 1), ((0, 0, 0, []), .slice none 0 0)] := by
  refine ⟨⟨rfl, .inr ⟨w.heap.size + 1, 2, _, rfl, Nat.le_succ _, by have := heap_alloc_last (w.alloc (.cells #[.int .i64 0, .int .i64 3, .int .i64 0, .int .i64 0, .int .i64 0, .int .i64 0, .bool false, .int .u64 0, .int .u64 0, .int .u64 0, .int .u64 0] 63)) (.cells #[.int .i64 1, .int .i64 4, .int .i64 4294967295, .slice (some ⟨w.heap.size, 0, none⟩) 1 1, .int .i64 0, .int .i64 0, .int .i64 0, .slice none 0 0] 96); simpa using this, Nat.le_refl _, by decide, rfl, rfl⟩⟩, fun p hp => ?_⟩
  simp only [List.mem_cons, List.not_mem_nil, or_false] at hp
  rcases hp with rfl | rfl
  · exact ownr_later (a15_row w) (below1 _ _)
  · exact World.ownsRow_nil _ _ _ _
theorem bad15 : BBad Ans [1] 6 12 := .here ⟨by decide, .inl ⟨fun h => by have := h.1; simp at this, rfl, rfl⟩⟩
theorem buck_form {w : World} {v : Value} {L : List BK} (h : BuckAt w v L) : ∃ s c, v = .slice s L.length c := by
  obtain ⟨s, cap, rfl, -⟩ := h
  exact ⟨s, cap, rfl⟩

set_option maxRecDepth 100000 in
set_option maxHeartbeats 8000000 in
theorem awake15_any (w : World) :
    Calls Try.prog 29 #[] w fun e w' => e = .returned (.bool true) ∧ Below w.heap.size w w' := by
  have BB := hide_ (below2 w (.cells #[.int .i64 0, .int .i64 3, .int .i64 0, .int .i64 0, .int .i64 0, .int .i64 0, .bool false, .int .u64 0, .int .u64 0, .int .u64 0, .int .u64 0] 63) (.cells #[.int .i64 1, .int .i64 4, .int .i64 4294967295, .slice (some ⟨w.heap.size, 0, none⟩) 1 1, .int .i64 0, .int .i64 0, .int .i64 0, .slice none 0 0] 96))
  have HA : Hid (BuckAt ((w.alloc (.cells #[.int .i64 0, .int .i64 3, .int .i64 0, .int .i64 0, .int .i64 0, .int .i64 0, .bool false, .int .u64 0, .int .u64 0, .int .u64 0, .int .u64 0] 63)).alloc (.cells #[.int .i64 1, .int .i64 4, .int .i64 4294967295, .slice (some ⟨w.heap.size, 0, none⟩) 1 1, .int .i64 0, .int .i64 0, .int .i64 0, .slice none 0 0] 96)) (.slice (some ⟨w.heap.size + 1, 0, none⟩) 2 2) L15) := hide_ (l15_row w).at_
  have HC := hide_ (AB.at1 w (.cells #[.int .i64 0, .int .i64 3, .int .i64 0, .int .i64 0, .int .i64 0, .int .i64 0, .bool false, .int .u64 0, .int .u64 0, .int .u64 0, .int .u64 0] 63) 96 [.int .i64 1, .int .i64 4, .int .i64 4294967295, .slice (some ⟨w.heap.size, 0, none⟩) 1 1, .int .i64 0, .int .i64 0, .int .i64 0, .slice none 0 0])
  have HAc := hide_ (ActAt.ofOwn (ownr_later (a15_row w) (below1 _ (.cells #[.int .i64 1, .int .i64 4, .int .i64 4294967295, .slice (some ⟨w.heap.size, 0, none⟩) 1 1, .int .i64 0, .int .i64 0, .int .i64 0, .slice none 0 0] 96))))
  have qe := hide_ (be_yes _ L15 ((w.alloc (.cells #[.int .i64 0, .int .i64 3, .int .i64 0, .int .i64 0, .int .i64 0, .int .i64 0, .bool false, .int .u64 0, .int .u64 0, .int .u64 0, .int .u64 0] 63)).alloc (.cells #[.int .i64 1, .int .i64 4, .int .i64 4294967295, .slice (some ⟨w.heap.size, 0, none⟩) 1 1, .int .i64 0, .int .i64 0, .int .i64 0, .slice none 0 0] 96)) (l15_row w).at_ l15_fit (by decide) l15_right (by rw [l15_len]; omega))
  have hBO := hide_ (bok_enc L15 l15_fit l15_right)
  have hsame := sameBL_true (rfl : L15 = L15)
  have hone := l15_one
  have hs := fun (v u : Value) W h1 h2 => blsame_any v u L15 L15 W h1 h2
  rw [hsame] at hs
  have hs := hide_ hs
  have qr := fun (u : Value) W (h : ActAt W u [a15]) => bright_any 1 4 4294967295 u [a15] W h a15_fit
  rw [hone] at qr
  have qr := hide_ qr
  clear hsame hone
  go_enter Try.func29, Try.ntmps29
  go_wp2_with (first
    | (go_at_call 30; refine qe.out.mono ?_; rintro e w1 ⟨⟨r1, rfl, h1⟩, b1⟩; obtain ⟨ra, rc, re⟩ := h1.bytes.short; rw [l15_len] at re; subst re; have qd := hide_ (bd_ok _ (encK L15) L15 w1 h1.bytes (by rw [l15_len]; omega) hBO.out (by decide)); have K1 := hide_ (BB.out.trans (b1.mono BB.out.size)); have H1 := hide_ (HA.out.later b1); have C1 := hide_ (HC.out.later b1); have A1 := hide_ (HAc.out.later b1); clear h1)
    | (go_at_call 31; first | (refine qd2.out.mono ?_; rintro e w3 ⟨rfl, b3⟩; have j3 := hide_ (b3.trans ((below1 w3 (.cells #[.bool true, .int .i64 6, .int .i64 12] 34)).mono b3.size)); obtain ⟨g0, g1, g2, -⟩ := (AB.at0 w3 34 [.bool true, .int .i64 6, .int .i64 12]).three; have F3 := F2.out.later j3.out; obtain ⟨f0, f1, f2, -⟩ := F3.three; have K3 := hide_ (KX.out.trans (j3.out.mono KX.out.size)); have C3 := hide_ (CX.out.later j3.out); have A3 := hide_ (AX.out.later j3.out); have qs := hide_ (hs.out _ _ _ (HX.out.later j3.out) (OX.out.later j3.out)); clear F3 b3) | (refine qd.out.mono ?_; rintro e w2 ⟨⟨r2, rfl, o2⟩, b2⟩; obtain ⟨sa, scc, se⟩ := buck_form o2; subst se; have jx := b2.trans ((below2 w2 (.cells #[.bool false, .int .i64 0, .int .i64 0] 34) (.cells #[.int .u8 1] 5)).mono b2.size); have KX := hide_ (K1.out.trans (jx.mono K1.out.size)); have HX := hide_ (H1.out.later jx); have CX := hide_ (C1.out.later jx); have AX := hide_ (A1.out.later jx); have OX := hide_ (o2.later (below2 w2 (.cells #[.bool false, .int .i64 0, .int .i64 0] 34) (.cells #[.int .u8 1] 5))); have F2 := hide_ ((AB.at0 w2 34 [.bool false, .int .i64 0, .int .i64 0]).alloc (.cells #[.int .u8 1] 5)); have qd2 := hide_ (bd_bad (.slice (some ⟨w2.heap.size + 1, 0, none⟩) 1 1) [1] 6 12 ((w2.alloc (.cells #[.bool false, .int .i64 0, .int .i64 0] 34)).alloc (.cells #[.int .u8 1] 5)) (by have := Bytes.lit (w2.alloc (.cells #[.bool false, .int .i64 0, .int .i64 0] 34)) [1] 5 (fun z hz => by simp at hz; omega) (by decide); simpa [u8s] using this) (by decide) bad15); clear o2 b2))
    | (go_at_call 32; refine qs.out.mono ?_; rintro e w4 ⟨rfl, b4⟩; have K4 := hide_ (K3.out.trans (b4.mono K3.out.size)); have C4 := C3.out.later b4; have z0 := (C4.cell (j := 0) rfl).1; have z1 := (C4.cell (j := 1) rfl).1; have z2 := (C4.cell (j := 2) rfl).1; have z3 := (C4.cell (j := 3) rfl).1; have g0 := cell_later b4 g0; have g1 := cell_later b4 g1; have g2 := cell_later b4 g2; have A4 := hide_ (A3.out.later b4); clear C4)
    | (go_at_call 64; refine (qr.out _ _ A4.out).mono ?_; rintro e w5 ⟨rfl, b5⟩))
  go_ret
  exact ⟨rfl, K4.out.trans (b5.mono K4.out.size)⟩
end

section
open Go Go.RowKit
set_option linter.unusedVariables false
set_option linter.unusedSimpArgs false

set_option maxRecDepth 100000 in
set_option maxHeartbeats 8000000 in
theorem bb_dark (s : Option Addr) (sc n : Nat) (ao : Option Addr) (cap m : Nat) (w : World) (hm : m ≤ 9223372036854775807) (hz : 70000 < m)
    (hp : Calls Try.prog 28 #[.slice s n sc, .int .i64 110] w fun e w' => IsBoolE e ∧ Below w.heap.size w w') :
    Calls Try.prog 7 #[.slice s n sc, .slice ao m cap] w fun e w' => e = .returned (.bool true) ∧ Below w.heap.size w w' := by
  have hp := hide_ hp
  have g1 : (70000 : Int) < (m : Int) := by omega
  go_enter Try.func7, Try.ntmps7
  go_wp2_with (first | (go_at_call 28; refine hp.out.mono ?_; rintro e w0 ⟨hz0, b0⟩; obtain ⟨z0, rfl⟩ := hz0; have k0 := hide_ b0; clear b0; cases z0) | (go_at_call 29; refine (awake15_any _).mono ?_; rintro e w9 ⟨rfl, b9⟩))
  all_goals
    go_ret
    exact ⟨rfl, k0.out.trans (b9.mono k0.out.size)⟩

set_option maxRecDepth 100000 in
set_option maxHeartbeats 8000000 in
theorem bb_yo (s : Option Addr) (sc n : Nat) (L : List BK) (B : List Int) (ao : Option Addr) (cap m : Nat) (l : List Int) (nB nK : Nat) (K : List BK) (nQ : Nat) (w : World) (hm : m ≤ 70000)
    (hp : Calls Try.prog 28 #[.slice s n sc, .int .i64 110] w fun e w' => IsBoolE e ∧ Below w.heap.size w w')
    (q1 : ∀ W, Below w.heap.size w W → Calls Try.prog 30 #[.slice s n sc] W fun e w' => ∃ ra rc, e = .returned (.tuple #[.slice ra nB rc, .int .i64 0]) ∧ Bytes w' (.slice ra nB rc) B ∧ Below W.heap.size W w')
    (q2 : ∀ v W, Bytes W v B → Calls Try.prog 31 #[v] W fun e w' => ∃ ka kc, e = .returned (.tuple #[.slice ka nK kc, .agg #[.bool false, .int .i64 0, .int .i64 0]]) ∧ BuckAt w' (.slice ka nK kc) L ∧ Below W.heap.size W w')
    (q3 : ∀ v W, BuckAt W v L → Below w.heap.size w W → Calls Try.prog 32 #[v, .slice s n sc] W fun e w' => e = .returned (.bool true) ∧ Below W.heap.size W w')
    (q4 : ∀ W, Below w.heap.size w W → Calls Try.prog 31 #[.slice ao m cap] W fun e w' => ∃ ka kc, e = .returned (.tuple #[.slice ka nQ kc, .agg #[.bool false, .int .i64 0, .int .i64 0]]) ∧ BuckAt w' (.slice ka nQ kc) K ∧ Below W.heap.size W w')
    (q5 : ∀ v W, BuckAt W v K → Calls Try.prog 30 #[v] W fun e w' => ∃ ra rc, e = .returned (.tuple #[.slice ra m rc, .int .i64 0]) ∧ Bytes w' (.slice ra m rc) l ∧ Below W.heap.size W w')
    (q6 : ∀ v W, Bytes W v l → Below w.heap.size w W → Calls Try.prog 11 #[v, .slice ao m cap] W fun e w' => e = .returned (.bool true) ∧ Below W.heap.size W w') :
    Calls Try.prog 7 #[.slice s n sc, .slice ao m cap] w fun e w' => e = .returned (.bool true) ∧ Below w.heap.size w w' := by
  have hp := hide_ hp
  have q1 := hide_ q1
  have q2 := hide_ q2
  have q3 := hide_ q3
  have q4 := hide_ q4
  have q5 := hide_ q5
  have q6 := hide_ q6
  have g1 : ¬ (70000 : Int) < (m : Int) := by omega
  go_enter Try.func7, Try.ntmps7
  go_wp2_with (first | (go_at_call 28; refine hp.out.mono ?_; rintro e w0 ⟨hz0, b0⟩; obtain ⟨z0, rfl⟩ := hz0; have k0 := hide_ b0; clear b0; cases z0) | (go_at_call 30; first | (refine (q5.out _ _ hK.out).mono ?_; rintro e w5 ⟨ra5, rc5, rfl, h5, b5⟩; have k5 := hide_ (k4.out.trans (b5.mono k4.out.size)); have h5 := hide_ h5; clear b5) | (refine (q1.out _ k0.out).mono ?_; rintro e w1 ⟨ra, rc, rfl, h1, b1⟩; have k1 := hide_ (k0.out.trans (b1.mono k0.out.size)); have h1 := hide_ h1; clear b1)) | (go_at_call 31; first | (refine (q4.out _ k3.out).mono ?_; rintro e w4 ⟨ka4, kc4, rfl, h4, b4⟩; have k4 := hide_ (k3.out.trans ((b4.trans ((below1 w4 (.cells #[.bool false, .int .i64 0, .int .i64 0] 34)).mono b4.size)).mono k3.out.size)); have hK := hide_ (h4.later (below1 w4 (.cells #[.bool false, .int .i64 0, .int .i64 0] 34))); obtain ⟨g0, g1, g2, -⟩ := (AB.at0 w4 34 [.bool false, .int .i64 0, .int .i64 0]).three; clear b4) | (refine (q2.out _ _ h1.out).mono ?_; rintro e w2 ⟨ka, kc, rfl, h2, b2⟩; have k2 := hide_ (k1.out.trans ((b2.trans ((below1 w2 (.cells #[.bool false, .int .i64 0, .int .i64 0] 34)).mono b2.size)).mono k1.out.size)); have h2 := hide_ (h2.later (below1 w2 (.cells #[.bool false, .int .i64 0, .int .i64 0] 34))); obtain ⟨f0, f1, f2, -⟩ := (AB.at0 w2 34 [.bool false, .int .i64 0, .int .i64 0]).three; clear b2)) | (go_at_call 32; refine (q3.out _ _ h2.out k2.out).mono ?_; rintro e w3 ⟨rfl, b3⟩; have k3 := hide_ (k2.out.trans (b3.mono k2.out.size)); clear b3) | (go_at_call 11; refine (q6.out _ _ h5.out k5.out).mono ?_; rintro e w6 ⟨rfl, b6⟩; have k6 := hide_ (k5.out.trans (b6.mono k5.out.size)); clear b6) | (go_at_call 29; refine (awake15_any _).mono ?_; rintro e w9 ⟨rfl, b9⟩))
  · go_ret
    exact ⟨rfl, k0.out.trans (b9.mono k0.out.size)⟩
  · go_ret
    exact ⟨rfl, k6.out.trans (b9.mono k6.out.size)⟩

set_option maxRecDepth 100000 in
set_option maxHeartbeats 8000000 in
theorem bb_yb (s : Option Addr) (sc n : Nat) (L : List BK) (B : List Int) (ao : Option Addr) (cap m : Nat) (l : List Int) (nB nK : Nat) (c d : Int) (w : World) (hm : m ≤ 70000)
    (hp : Calls Try.prog 28 #[.slice s n sc, .int .i64 110] w fun e w' => IsBoolE e ∧ Below w.heap.size w w')
    (q1 : ∀ W, Below w.heap.size w W → Calls Try.prog 30 #[.slice s n sc] W fun e w' => ∃ ra rc, e = .returned (.tuple #[.slice ra nB rc, .int .i64 0]) ∧ Bytes w' (.slice ra nB rc) B ∧ Below W.heap.size W w')
    (q2 : ∀ v W, Bytes W v B → Calls Try.prog 31 #[v] W fun e w' => ∃ ka kc, e = .returned (.tuple #[.slice ka nK kc, .agg #[.bool false, .int .i64 0, .int .i64 0]]) ∧ BuckAt w' (.slice ka nK kc) L ∧ Below W.heap.size W w')
    (q3 : ∀ v W, BuckAt W v L → Below w.heap.size w W → Calls Try.prog 32 #[v, .slice s n sc] W fun e w' => e = .returned (.bool true) ∧ Below W.heap.size W w')
    (q4 : ∀ W, Below w.heap.size w W → Calls Try.prog 31 #[.slice ao m cap] W fun e w' => e = .returned (.tuple #[.slice none 0 0, .agg #[.bool true, .int .i64 c, .int .i64 d]]) ∧ Below W.heap.size W w') :
    Calls Try.prog 7 #[.slice s n sc, .slice ao m cap] w fun e w' => e = .returned (.bool true) ∧ Below w.heap.size w w' := by
  have hp := hide_ hp
  have q1 := hide_ q1
  have q2 := hide_ q2
  have q3 := hide_ q3
  have q4 := hide_ q4
  have g1 : ¬ (70000 : Int) < (m : Int) := by omega
  go_enter Try.func7, Try.ntmps7
  go_wp2_with (first | (go_at_call 28; refine hp.out.mono ?_; rintro e w0 ⟨hz0, b0⟩; obtain ⟨z0, rfl⟩ := hz0; have k0 := hide_ b0; clear b0; cases z0) | (go_at_call 30; (refine (q1.out _ k0.out).mono ?_; rintro e w1 ⟨ra, rc, rfl, h1, b1⟩; have k1 := hide_ (k0.out.trans (b1.mono k0.out.size)); have h1 := hide_ h1; clear b1)) | (go_at_call 31; first | (refine (q4.out _ k3.out).mono ?_; rintro e w4 ⟨rfl, b4⟩; have k4 := hide_ (k3.out.trans ((b4.trans ((below1 w4 (.cells #[.bool true, .int .i64 c, .int .i64 d] 34)).mono b4.size)).mono k3.out.size)); obtain ⟨g0, g1, g2, -⟩ := (AB.at0 w4 34 [.bool true, .int .i64 c, .int .i64 d]).three; clear b4) | (refine (q2.out _ _ h1.out).mono ?_; rintro e w2 ⟨ka, kc, rfl, h2, b2⟩; have k2 := hide_ (k1.out.trans ((b2.trans ((below1 w2 (.cells #[.bool false, .int .i64 0, .int .i64 0] 34)).mono b2.size)).mono k1.out.size)); have h2 := hide_ (h2.later (below1 w2 (.cells #[.bool false, .int .i64 0, .int .i64 0] 34))); obtain ⟨f0, f1, f2, -⟩ := (AB.at0 w2 34 [.bool false, .int .i64 0, .int .i64 0]).three; clear b2)) | (go_at_call 32; refine (q3.out _ _ h2.out k2.out).mono ?_; rintro e w3 ⟨rfl, b3⟩; have k3 := hide_ (k2.out.trans (b3.mono k2.out.size)); clear b3) | (go_at_call 29; refine (awake15_any _).mono ?_; rintro e w9 ⟨rfl, b9⟩))
  · go_ret
    exact ⟨rfl, k0.out.trans (b9.mono k0.out.size)⟩
  · go_ret
    exact ⟨rfl, k4.out.trans (b9.mono k4.out.size)⟩

set_option maxRecDepth 100000 in
set_option maxHeartbeats 8000000 in
theorem bb_no (s : Option Addr) (sc n : Nat) (L : List BK) (B : List Int) (ao : Option Addr) (cap m : Nat) (l : List Int) (K : List BK) (nQ : Nat) (w : World) (hm : m ≤ 70000)
    (hp : Calls Try.prog 28 #[.slice s n sc, .int .i64 110] w fun e w' => IsBoolE e ∧ Below w.heap.size w w')
    (q1 : ∀ W, Below w.heap.size w W → Calls Try.prog 30 #[.slice s n sc] W fun e w' => e = .returned (.tuple #[.slice none 0 0, .int .i64 1]) ∧ Below W.heap.size W w')
    (q4 : ∀ W, Below w.heap.size w W → Calls Try.prog 31 #[.slice ao m cap] W fun e w' => ∃ ka kc, e = .returned (.tuple #[.slice ka nQ kc, .agg #[.bool false, .int .i64 0, .int .i64 0]]) ∧ BuckAt w' (.slice ka nQ kc) K ∧ Below W.heap.size W w')
    (q5 : ∀ v W, BuckAt W v K → Calls Try.prog 30 #[v] W fun e w' => ∃ ra rc, e = .returned (.tuple #[.slice ra m rc, .int .i64 0]) ∧ Bytes w' (.slice ra m rc) l ∧ Below W.heap.size W w')
    (q6 : ∀ v W, Bytes W v l → Below w.heap.size w W → Calls Try.prog 11 #[v, .slice ao m cap] W fun e w' => e = .returned (.bool true) ∧ Below W.heap.size W w') :
    Calls Try.prog 7 #[.slice s n sc, .slice ao m cap] w fun e w' => e = .returned (.bool true) ∧ Below w.heap.size w w' := by
  have hp := hide_ hp
  have q1 := hide_ q1
  have q4 := hide_ q4
  have q5 := hide_ q5
  have q6 := hide_ q6
  have g1 : ¬ (70000 : Int) < (m : Int) := by omega
  go_enter Try.func7, Try.ntmps7
  go_wp2_with (first | (go_at_call 28; refine hp.out.mono ?_; rintro e w0 ⟨hz0, b0⟩; obtain ⟨z0, rfl⟩ := hz0; have k0 := hide_ b0; clear b0; cases z0) | (go_at_call 30; first | (refine (q5.out _ _ hK.out).mono ?_; rintro e w5 ⟨ra5, rc5, rfl, h5, b5⟩; have k5 := hide_ (k4.out.trans (b5.mono k4.out.size)); have h5 := hide_ h5; clear b5) | (refine (q1.out _ k0.out).mono ?_; rintro e w1 ⟨rfl, b1⟩; have k3 := hide_ (k0.out.trans (b1.mono k0.out.size)); clear b1)) | (go_at_call 31; (refine (q4.out _ k3.out).mono ?_; rintro e w4 ⟨ka4, kc4, rfl, h4, b4⟩; have k4 := hide_ (k3.out.trans ((b4.trans ((below1 w4 (.cells #[.bool false, .int .i64 0, .int .i64 0] 34)).mono b4.size)).mono k3.out.size)); have hK := hide_ (h4.later (below1 w4 (.cells #[.bool false, .int .i64 0, .int .i64 0] 34))); obtain ⟨g0, g1, g2, -⟩ := (AB.at0 w4 34 [.bool false, .int .i64 0, .int .i64 0]).three; clear b4)) | (go_at_call 11; refine (q6.out _ _ h5.out k5.out).mono ?_; rintro e w6 ⟨rfl, b6⟩; have k6 := hide_ (k5.out.trans (b6.mono k5.out.size)); clear b6) | (go_at_call 29; refine (awake15_any _).mono ?_; rintro e w9 ⟨rfl, b9⟩))
  · go_ret
    exact ⟨rfl, k0.out.trans (b9.mono k0.out.size)⟩
  · go_ret
    exact ⟨rfl, k6.out.trans (b9.mono k6.out.size)⟩

set_option maxRecDepth 100000 in
set_option maxHeartbeats 8000000 in
theorem bb_nb (s : Option Addr) (sc n : Nat) (L : List BK) (B : List Int) (ao : Option Addr) (cap m : Nat) (l : List Int) (c d : Int) (w : World) (hm : m ≤ 70000)
    (hp : Calls Try.prog 28 #[.slice s n sc, .int .i64 110] w fun e w' => IsBoolE e ∧ Below w.heap.size w w')
    (q1 : ∀ W, Below w.heap.size w W → Calls Try.prog 30 #[.slice s n sc] W fun e w' => e = .returned (.tuple #[.slice none 0 0, .int .i64 1]) ∧ Below W.heap.size W w')
    (q4 : ∀ W, Below w.heap.size w W → Calls Try.prog 31 #[.slice ao m cap] W fun e w' => e = .returned (.tuple #[.slice none 0 0, .agg #[.bool true, .int .i64 c, .int .i64 d]]) ∧ Below W.heap.size W w') :
    Calls Try.prog 7 #[.slice s n sc, .slice ao m cap] w fun e w' => e = .returned (.bool true) ∧ Below w.heap.size w w' := by
  have hp := hide_ hp
  have q1 := hide_ q1
  have q4 := hide_ q4
  have g1 : ¬ (70000 : Int) < (m : Int) := by omega
  go_enter Try.func7, Try.ntmps7
  go_wp2_with (first | (go_at_call 28; refine hp.out.mono ?_; rintro e w0 ⟨hz0, b0⟩; obtain ⟨z0, rfl⟩ := hz0; have k0 := hide_ b0; clear b0; cases z0) | (go_at_call 30; (refine (q1.out _ k0.out).mono ?_; rintro e w1 ⟨rfl, b1⟩; have k3 := hide_ (k0.out.trans (b1.mono k0.out.size)); clear b1)) | (go_at_call 31; (refine (q4.out _ k3.out).mono ?_; rintro e w4 ⟨rfl, b4⟩; have k4 := hide_ (k3.out.trans ((b4.trans ((below1 w4 (.cells #[.bool true, .int .i64 c, .int .i64 d] 34)).mono b4.size)).mono k3.out.size)); obtain ⟨g0, g1, g2, -⟩ := (AB.at0 w4 34 [.bool true, .int .i64 c, .int .i64 d]).three; clear b4)) | (go_at_call 29; refine (awake15_any _).mono ?_; rintro e w9 ⟨rfl, b9⟩))
  · go_ret
    exact ⟨rfl, k0.out.trans (b9.mono k0.out.size)⟩
  · go_ret
    exact ⟨rfl, k4.out.trans (b9.mono k4.out.size)⟩

theorem bd_bad_all {v : Value} {l : List Int} {w : World} (hB : Bytes w v l) : ((∃ K, BOk Ans l K ∧ K.length ≤ 100 ∧ l.length ≤ 60000) ∨ ∃ c d, ∀ v W, Bytes W v l → Calls Try.prog 31 #[v] W fun e w' => e = .returned (.tuple #[.slice none 0 0, .agg #[.bool true, .int .i64 c, .int .i64 d]]) ∧ Below W.heap.size W w') := by
  by_cases h6 : l.length ≤ 60000
  · rcases bucks_all _ l (Nat.le_refl _) hB.isB_ with ⟨K, h1, -⟩ | ⟨c, d, h1, -⟩
    · by_cases h100 : K.length ≤ 100
      · exact .inl ⟨K, h1, h100, h6⟩
      · exact .inr ⟨6, 4, fun v W h => bd_many v l K W h h6 h1 (by omega)⟩
    · exact .inr ⟨c, d, fun v W h => bd_bad v l c d W h h6 h1⟩
  · exact .inr ⟨6, 12, fun v W h => bd_big v l W h (by omega)⟩
theorem bucketBack_walk (v u : Value) (L : List BK) (l : List Int) (w : World) (hL : BuckAt w v L) (hF : BFit L) (hB : Bytes w u l) :
    Calls Try.prog 7 #[v, u] w fun e w' => e = .returned (.bool true) ∧ Below w.heap.size w w' := by
  have hp := plainB_any v L 110 w hL
  obtain ⟨s, sc, rfl⟩ := buck_form hL
  obtain ⟨ao, cap, rfl⟩ := hB.short
  have hm : l.length ≤ 9223372036854775807 := by obtain ⟨_, _, h1⟩ := Bytes.at hB; unfold maxLen at *; omega
  by_cases h7 : l.length ≤ 70000
  · have q4 := bd_bad_all hB
    by_cases hr : L.length ≤ 100 ∧ L.all bkR = true ∧ (encK L).length ≤ 60000
    · have hBO := bok_enc L hF hr.2.1
      have q1 : ∀ W, Below w.heap.size w W → Calls Try.prog 30 #[.slice s L.length sc] W fun e w' => ∃ ra rc, e = .returned (.tuple #[.slice ra (encK L).length rc, .int .i64 0]) ∧ Bytes w' (.slice ra (encK L).length rc) (encK L) ∧ Below W.heap.size W w' := fun W hW => (be_yes _ L W (hL.later hW) hF hr.1 hr.2.1 hr.2.2).mono (by
        rintro e w' ⟨⟨r, rfl, h⟩, b⟩
        obtain ⟨ra, rc, re⟩ := h.bytes.short
        subst re
        exact ⟨ra, rc, rfl, h.bytes, b⟩)
      have q2 : ∀ v W, Bytes W v (encK L) → Calls Try.prog 31 #[v] W fun e w' => ∃ ka kc, e = .returned (.tuple #[.slice ka L.length kc, .agg #[.bool false, .int .i64 0, .int .i64 0]]) ∧ BuckAt w' (.slice ka L.length kc) L ∧ Below W.heap.size W w' := fun v W h => (bd_ok v _ L W h hr.2.2 hBO hr.1).mono (by
        rintro e w' ⟨⟨r, rfl, h⟩, b⟩
        obtain ⟨ka, kc, re⟩ := buck_form h
        subst re
        exact ⟨ka, kc, rfl, h, b⟩)
      have q3 : ∀ v W, BuckAt W v L → Below w.heap.size w W → Calls Try.prog 32 #[v, .slice s L.length sc] W fun e w' => e = .returned (.bool true) ∧ Below W.heap.size W w' := fun v W h hW => by
        have := blsame_any v (.slice s L.length sc) L L W h (hL.later hW)
        rwa [sameBL_true rfl] at this
      rcases q4 with ⟨K, k1, k2, k3⟩ | ⟨c, d, q4⟩
      · obtain ⟨e1, e2, e3⟩ := bok_all k1 hB.isB_
        refine bb_yo s sc L.length L (encK L) ao cap l.length l (encK L).length L.length K K.length w h7 hp q1 q2 q3 (fun W hW => (bd_ok _ l K W (hB.later hW) k3 k1 k2).mono ?_) (fun v W h => (be_yes v K W h e2 k2 e3 (by rw [e1]; exact k3)).mono ?_) (fun v W h hW => ?_)
        · rintro e w' ⟨⟨r, rfl, h⟩, b⟩
          obtain ⟨ka, kc, re⟩ := buck_form h
          subst re
          exact ⟨ka, kc, rfl, h, b⟩
        · rintro e w' ⟨⟨r, rfl, h⟩, b⟩
          rw [e1] at h
          obtain ⟨ra, rc, re⟩ := h.bytes.short
          subst re
          exact ⟨ra, rc, rfl, h.bytes, b⟩
        · have qe := equal_any v _ l l W h (hB.later hW)
          rwa [beq_self_eq_true] at qe
      · exact bb_yb s sc L.length L (encK L) ao cap l.length l (encK L).length L.length c d w h7 hp q1 q2 q3 (fun W hW => q4 _ W (hB.later hW))
    · have q1 : ∀ W, Below w.heap.size w W → Calls Try.prog 30 #[.slice s L.length sc] W fun e w' => e = .returned (.tuple #[.slice none 0 0, .int .i64 1]) ∧ Below W.heap.size W w' := fun W hW => by
        by_cases h100 : L.length ≤ 100
        · cases ha : L.all bkR
          · exact be_no _ L W (hL.later hW) hF h100 ha
          · exact be_long _ L W (hL.later hW) hF h100 ha (Nat.lt_of_not_le fun h6 => hr ⟨h100, ha, h6⟩)
        · exact be_big _ L W (hL.later hW) (by omega)
      rcases q4 with ⟨K, k1, k2, k3⟩ | ⟨c, d, q4⟩
      · obtain ⟨e1, e2, e3⟩ := bok_all k1 hB.isB_
        refine bb_no s sc L.length L [] ao cap l.length l K K.length w h7 hp q1 (fun W hW => (bd_ok _ l K W (hB.later hW) k3 k1 k2).mono ?_) (fun v W h => (be_yes v K W h e2 k2 e3 (by rw [e1]; exact k3)).mono ?_) (fun v W h hW => ?_)
        · rintro e w' ⟨⟨r, rfl, h⟩, b⟩
          obtain ⟨ka, kc, re⟩ := buck_form h
          subst re
          exact ⟨ka, kc, rfl, h, b⟩
        · rintro e w' ⟨⟨r, rfl, h⟩, b⟩
          rw [e1] at h
          obtain ⟨ra, rc, re⟩ := h.bytes.short
          subst re
          exact ⟨ra, rc, rfl, h.bytes, b⟩
        · have qe := equal_any v _ l l W h (hB.later hW)
          rwa [beq_self_eq_true] at qe
      · exact bb_nb s sc L.length L [] ao cap l.length l c d w h7 hp q1 (fun W hW => q4 _ W (hB.later hW))
  · exact bb_dark s sc L.length ao cap l.length w hm (by omega) hp
end

end Go.Proofs.Ytcbkghbfalfkhaa
