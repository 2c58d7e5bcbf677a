import Derived.Test.YthhijfphfcmniaaGreatXae
import Derived.Test.YthhijfphfcmniaaGreatOae
import Derived.Lib.AppendZeros
import Derived.Laws.CopyOwn
import Derived.Deep.RegionHeld3
import Derived.Deep.RegionWith
import Derived.Deep.MidRow
import Derived.Deep.Cut
set_option maxRecDepth 100000
set_option maxHeartbeats 8000000
set_option linter.unusedVariables false
set_option linter.unusedSimpArgs false
namespace Go.Proofs.YthhijfphfcmniaaGreat
open Go Go.RowKit
theorem zc_list (m : Nat) : Builtin.zeroCells #[Value.int .u8 0] m = (List.replicate m (Value.int .u8 0)).toArray := by
  apply Array.ext
  · simp [Builtin.zeroCells]
  · intro i h1 h2
    simp [Builtin.zeroCells, Nat.mod_one]
theorem run_append_zeros {P : Program} (w : World) (base : Nat) (t tn ty e : TypeId) (i : TypeInfo) (ht : P.underlying t = some (.slice e)) (htn : P.underlying tn = some (.int .i64)) (hi : P.info? e = some i) (hz : i.zero = some (.int .u8 0)) (hsize : i.size = 1) (hby : i.bytes = 1)
    (g n cap : Nat) (cur : Array Value) (xs : List Value) (hg : w.heap[g]? = some (.cells cur e (0, 0))) (hnc : n ≤ cap) (hcm : cap ≤ maxLen) (hcs : cur.size = cap) (htk : cur.toList.take n = xs) (m : Nat) (h63 : n + m ≤ 1000000) (hbg : base ≤ g) (hbase : base ≤ w.heap.size) :
    ∃ v' w', (Builtin.append_ #[t, tn] ty #[.slice (some ⟨g, 0, none⟩) n cap, .int .i64 (m : Int)]).run P w = .ok v' w' ∧ w'.ownsRow base e 1 v' (n + m) (xs ++ List.replicate m (.int .u8 0)) ∧ w.grownBy w' (some g) := by
  have hxl : xs.length = n := by rw [← htk]; simp; omega
  have hw : IntKind.i64.wrap (m : Int) = m := by rw [IntKind.wrap_i64]; omega
  have hneg : ¬ ((m : Int) < 0) := by omega
  have h48i : ¬ (281474976710656 < (m : Int)) := by omega
  have hlen : (xs ++ List.replicate m (Value.int .u8 0)).length = (n + m) * 1 := by simp [hxl]
  by_cases hroom : n + m ≤ cap
  · have hst := run_storeCells_at P g n e (List.replicate m (Value.int .u8 0)) 0 cur w hg (by simp; omega) (by intro v hv; rw [(List.mem_replicate.1 hv).2]; rfl)
    simp only [Nat.add_zero] at hst
    refine ⟨.slice (some ⟨g, 0, none⟩) (n + m) cap, w.setRow g (cur.toList.take n ++ List.replicate m (Value.int .u8 0) ++ cur.toList.drop (n + m)).toArray, ?_, ⟨hlen, .inr ⟨g, cap, _, rfl, hbg, setRow_heap w g cur _ e _ hg, hroom, hcm, ?_, ?_⟩⟩, ⟨rfl, rfl, rfl, by simp, fun k _ hk => setRow_other w g k _ (fun e => hk (by rw [e]))⟩⟩
    · by_cases hm : m = 0
      · subst hm
        have hw0 : IntKind.i64.wrap 0 = 0 := by decide
        simp at hst hroom
        simp [Builtin.append_, run_underlying ht, run_underlying htn, sizeOf, typeInfo, hi, hsize, hby, asInt, asIntOf, hw0, hroom, Addr.add_lit, hst]
      · simp [Builtin.append_, run_underlying ht, run_underlying htn, sizeOf, typeInfo, zeroValue, hi, hz, hsize, hby, asInt, asIntOf, hw, hm, hneg, h48i, hroom, Addr.add_lit, Value.cells, zc_list, hst]
    · simp; omega
    · rw [htk, Nat.mul_one, ← Nat.mul_one (n + m), ← hlen]
      exact List.take_left
  · have hge := grownCap_ge w (n + m) cap e
    have hcm' : grownCap w (n + m) cap e ≤ maxLen := grownCap_le_maxLen w (n + m) cap e (by unfold maxLen; omega)
    have holds : ∀ j u, xs[j]? = some u → w.cell? ((⟨g, 0, none⟩ : Addr).add j) = some u := by
      have hown : w.ownsRow base e 1 (.slice (some ⟨g, 0, none⟩) n cap) n xs := ⟨by rw [hxl]; omega, .inr ⟨g, cap, cur, rfl, hbg, hg, hnc, hcm, by omega, by rw [Nat.mul_one]; exact htk⟩⟩
      exact hown.cells (g := g) rfl
    have hf := run_firstCells_some (P := P) w.drew 1 n ⟨g, 0, none⟩ n cap xs (by omega) holds
    have hm : m ≠ 0 := by omega
    have h63' : ¬ (9223372036854775807 < (n : Int) + (m : Int)) := by omega
    have h48' : ¬ (281474976710656 < Builtin.nextslicecap (n + m) cap * 1) := by
      have := growslice_fits (need := n + m) (old := cap) (bytes := 1) (by omega) (by omega)
      omega
    simp only [Nat.mul_one] at h48'
    refine ⟨.slice (some ⟨w.heap.size, 0, none⟩) (n + m) (grownCap w (n + m) cap e), w.drew.alloc (.cells (xs.toArray ++ (List.replicate m (Value.int .u8 0)).toArray ++ (List.replicate (grownCap w (n + m) cap e - (n + m)) (Value.int .u8 0)).toArray) e), ?_, ⟨hlen, .inr ⟨w.heap.size, _, _, rfl, hbase, heap_alloc_new w.drew _, hge, hcm', ?_, ?_⟩⟩, ⟨rfl, rfl, rfl, by simp, fun k hk _ => heap_alloc_old w.drew _ hk⟩⟩
    · simp [Builtin.append_, run_underlying ht, run_underlying htn, sizeOf, typeInfo, zeroValue, hi, hz, hsize, hby, asInt, asIntOf, hw, hm, hneg, h48i, hroom, h48', Question.forced, Value.cells, zc_list, hf, newRow, grownCap]
      intro hx
      exact absurd hx h63'
    · simp; omega
    · simp only [Array.toList_append, List.append_assoc]
      rw [← List.append_assoc, ← hlen]
      exact List.take_left
theorem wpList_append_zerosB {P : Program} {w : World} {ops : Array Oper} {rest : List Oper} {o : Oper} {a : Act} {Q : Exit → Act → World → Prop} (hgd : o.guard = none) (s x : Operand) (t tn : TypeId)
    (ho : o.op = .call { callee := .builtin .append, args := #[s, x], argTypes := #[t, tn] })
    (base : Nat) (e : TypeId) (i : TypeInfo) (ht : P.underlying t = some (.slice e)) (htn : P.underlying tn = some (.int .i64)) (hi : P.info? e = some i) (hz : i.zero = some (.int .u8 0)) (hsize : i.size = 1) (hby : i.bytes = 1)
    (v : Value) (n : Nat) (l : List Int) (hs : a.eval s = v) (hown : w.ownsRow base e 1 v n (u8s l)) (hn : 0 < n) (m : Nat) (hx : a.eval x = .int .i64 (m : Int)) (h63 : n + m ≤ 1000000) (hbase : base ≤ w.heap.size)
    (h : ∀ v' w', w'.ownsRow base e 1 v' (n + m) (u8s (l ++ List.replicate m 0)) → w.grownBy w' v.ownBlock → wpList P ops Q rest (a.put o.dst v') w') : wpList P ops Q (o :: rest) a w := by
  rcases hown.2 with ⟨_, h0⟩ | ⟨g, cap, cur, rfl, hbg, hg, hnc, hcm, hcs, htk⟩
  · omega
  · obtain ⟨v', w', hr, h1, h2⟩ := run_append_zeros (P := P) w base t tn o.type e i ht htn hi hz hsize hby g n cap cur (u8s l) hg hnc hcm (by omega) (by rw [Nat.mul_one] at htk; exact htk) m h63 hbg hbase
    refine Lib.wpList_append_run w hgd s x t tn ho _ _ hs hx v' w' hr (h v' w' ?_ h2)
    rw [u8s_append]
    have e0 : u8s (List.replicate m 0) = List.replicate m (Value.int .u8 0) := by unfold u8s; simp
    rw [e0]
    exact h1
end Go.Proofs.YthhijfphfcmniaaGreat
namespace Go.Proofs.YthhijfphfcmniaaGreat
open Go Go.RowKit
def av (k p x q y f : Int) (m : Bool) (a b c d : Nat) : Value := .agg #[.int .i64 k, .int .i64 p, .int .i64 x, .int .i64 q, .int .i64 y, .int .i64 f, .bool m, .int .u64 (a : Int), .int .u64 (b : Int), .int .u64 (c : Int), .int .u64 (d : Int)]
def fo2 (o : Option Int) : Value := fv o.isSome (if o.isSome then 2 else 0) (o.getD 0)
def goB (p : Int) : Bool := (decide (1 ≤ p) && decide (p ≤ 4294967040)) || decide (p = 4294967293)
def tkB (p x : Int) : Bool := if p = 4294967293 then decide (0 ≤ x) && decide (x ≤ 65535) else decide (x = 0)
def setsB (f : Int) : Bool := fok f && (decide (f ≠ 0) && decide (f ≠ 1))
def r8 (n : Nat) : Nat := (n + 7) / 8 * 8
def achk (k p x q y f : Int) (m : Bool) : Option Int :=
  if k = 0 then (if goB p then (if tkB p x then none else some 5) else some 4)
  else if k = 22 then (if (decide (0 ≤ q) && decide (q ≤ 4294967040)) then none else some 9)
  else if k = 17 then (if (decide (y = 33024) || decide (y = 34984)) then none else some 5)
  else if k = 18 then none
  else if k = 25 then (if setsB f then (if m then some 15 else none) else some 13)
  else some 0
def oz (f : Int) (m : Bool) (a b c d : Nat) : Bool := decide ((f, m, a, b, c, d) = (0, false, 0, 0, 0, 0))
def ownE (k p x q y f : Int) (m : Bool) (a b c d : Nat) : Bool :=
  if k = 0 then decide (q = 0) && (decide (y = 0) && oz f m a b c d)
  else if k = 22 then decide (p = 0) && (decide (x = 0) && (decide (y = 0) && oz f m a b c d))
  else if k = 17 then decide (p = 0) && (decide (x = 0) && (decide (q = 0) && oz f m a b c d))
  else if k = 25 then decide (p = 0) && (decide (x = 0) && (decide (q = 0) && decide (y = 0)))
  else decide (p = 0) && (decide (x = 0) && (decide (q = 0) && (decide (y = 0) && oz f m a b c d)))
def art (k p x q y f : Int) (m : Bool) (a b c d : Nat) : Bool := ownE k p x q y f m a b c d && (!(achk k p x q y f m).isSome && (decide (k ≠ 25) || rgt f m a b c d))
theorem AB.eleven {w : World} {g : Nat} {ty : TypeId} {c0 c1 c2 c3 c4 c5 c6 c7 c8 c9 c10 : Value} (h : AB w g ty [c0, c1, c2, c3, c4, c5, c6, c7, c8, c9, c10]) : w.cell? ⟨g, 0, none⟩ = some c0 ∧ w.cell? ⟨g, 1, none⟩ = some c1 ∧ w.cell? ⟨g, 2, none⟩ = some c2 ∧ w.cell? ⟨g, 3, none⟩ = some c3 ∧ w.cell? ⟨g, 4, none⟩ = some c4 ∧ w.cell? ⟨g, 5, none⟩ = some c5 ∧ w.cell? ⟨g, 6, none⟩ = some c6 ∧ w.cell? ⟨g, 7, none⟩ = some c7 ∧ w.cell? ⟨g, 8, none⟩ = some c8 ∧ w.cell? ⟨g, 9, none⟩ = some c9 ∧ w.cell? ⟨g, 10, none⟩ = some c10 ∧ w.frozen? ⟨g, 0, none⟩ = false ∧ w.frozen? ⟨g, 1, none⟩ = false ∧ w.frozen? ⟨g, 2, none⟩ = false ∧ w.frozen? ⟨g, 3, none⟩ = false ∧ w.frozen? ⟨g, 4, none⟩ = false ∧ w.frozen? ⟨g, 5, none⟩ = false ∧ w.frozen? ⟨g, 6, none⟩ = false ∧ w.frozen? ⟨g, 7, none⟩ = false ∧ w.frozen? ⟨g, 8, none⟩ = false ∧ w.frozen? ⟨g, 9, none⟩ = false ∧ w.frozen? ⟨g, 10, none⟩ = false :=
  ⟨(h.cell (j := 0) rfl).1, (h.cell (j := 1) rfl).1, (h.cell (j := 2) rfl).1, (h.cell (j := 3) rfl).1, (h.cell (j := 4) rfl).1, (h.cell (j := 5) rfl).1, (h.cell (j := 6) rfl).1, (h.cell (j := 7) rfl).1, (h.cell (j := 8) rfl).1, (h.cell (j := 9) rfl).1, (h.cell (j := 10) rfl).1, (h.cell (j := 0) rfl).2, (h.cell (j := 1) rfl).2, (h.cell (j := 2) rfl).2, (h.cell (j := 3) rfl).2, (h.cell (j := 4) rfl).2, (h.cell (j := 5) rfl).2, (h.cell (j := 6) rfl).2, (h.cell (j := 7) rfl).2, (h.cell (j := 8) rfl).2, (h.cell (j := 9) rfl).2, (h.cell (j := 10) rfl).2⟩
theorem AB.set11 {w : World} {g : Nat} {ty : TypeId} {c0 c1 c2 c3 c4 c5 c6 c7 c8 c9 c10 : Value} (h : AB w g ty [c0, c1, c2, c3, c4, c5, c6, c7, c8, c9, c10]) (x0 x1 x2 x3 x4 x5 x6 x7 x8 x9 x10 : Value) : AB (((((((((((w.setCell ⟨g, 0, none⟩ x0).setCell ⟨g, 1, none⟩ x1).setCell ⟨g, 2, none⟩ x2).setCell ⟨g, 3, none⟩ x3).setCell ⟨g, 4, none⟩ x4).setCell ⟨g, 5, none⟩ x5).setCell ⟨g, 6, none⟩ x6).setCell ⟨g, 7, none⟩ x7).setCell ⟨g, 8, none⟩ x8).setCell ⟨g, 9, none⟩ x9).setCell ⟨g, 10, none⟩ x10) g ty [x0, x1, x2, x3, x4, x5, x6, x7, x8, x9, x10] := (((((((((((h.set (j := 0) x0).set (j := 1) x1).set (j := 2) x2).set (j := 3) x3).set (j := 4) x4).set (j := 5) x5).set (j := 6) x6).set (j := 7) x7).set (j := 8) x8).set (j := 9) x9).set (j := 10) x10)
theorem AB.far11 {w : World} {g h : Nat} {ty : TypeId} {cs : List Value} (k : AB w g ty cs) (hne : g ≠ h) (x0 x1 x2 x3 x4 x5 x6 x7 x8 x9 x10 : Value) : AB (((((((((((w.setCell ⟨h, 0, none⟩ x0).setCell ⟨h, 1, none⟩ x1).setCell ⟨h, 2, none⟩ x2).setCell ⟨h, 3, none⟩ x3).setCell ⟨h, 4, none⟩ x4).setCell ⟨h, 5, none⟩ x5).setCell ⟨h, 6, none⟩ x6).setCell ⟨h, 7, none⟩ x7).setCell ⟨h, 8, none⟩ x8).setCell ⟨h, 9, none⟩ x9).setCell ⟨h, 10, none⟩ x10) g ty cs := (((((((((((k.far x0 hne).far x1 hne).far x2 hne).far x3 hne).far x4 hne).far x5 hne).far x6 hne).far x7 hne).far x8 hne).far x9 hne).far x10 hne)
theorem below_set11 {w0 w : World} {g n : Nat} (h : Below n w0 w) (hg : n ≤ g) (x0 x1 x2 x3 x4 x5 x6 x7 x8 x9 x10 : Value) : Below n w0 (((((((((((w.setCell ⟨g, 0, none⟩ x0).setCell ⟨g, 1, none⟩ x1).setCell ⟨g, 2, none⟩ x2).setCell ⟨g, 3, none⟩ x3).setCell ⟨g, 4, none⟩ x4).setCell ⟨g, 5, none⟩ x5).setCell ⟨g, 6, none⟩ x6).setCell ⟨g, 7, none⟩ x7).setCell ⟨g, 8, none⟩ x8).setCell ⟨g, 9, none⟩ x9).setCell ⟨g, 10, none⟩ x10) := (((((((((((h.setCell hg x0).setCell hg x1).setCell hg x2).setCell hg x3).setCell hg x4).setCell hg x5).setCell hg x6).setCell hg x7).setCell hg x8).setCell hg x9).setCell hg x10)
theorem round_any (n : Nat) (w : World) (hn : n ≤ 1000000) :
    Calls Tryz.prog 117 #[.int .i64 (n : Int)] w fun e w' => e = .returned (.int .i64 ((r8 n : Nat) : Int)) ∧ w' = w := by
  have h1 : IntKind.i64.wrap ((n : Int) + 7) = (n : Int) + 7 := by rw [IntKind.wrap_i64]; omega
  have ht : Int.tdiv ((n : Int) + 7) 8 = (((n + 7) / 8 : Nat) : Int) := by rw [Int.tdiv_eq_ediv_of_nonneg (by omega)]; omega
  have h2 : IntKind.i64.wrap (Int.tdiv ((n : Int) + 7) 8) = Int.tdiv ((n : Int) + 7) 8 := by rw [ht, IntKind.wrap_i64]; omega
  have h3 : IntKind.i64.wrap (Int.tdiv ((n : Int) + 7) 8 * 8) = ((r8 n : Nat) : Int) := by rw [ht, IntKind.wrap_i64]; unfold r8; omega
  clear ht
  go_enter Tryz.func117, Tryz.ntmps117
  go_wp2_with fail
  go_ret
  exact ⟨by first | rfl | simp [h1, h2, h3], rfl⟩
theorem refuse2_any (k : Int) (w : World) :
    Calls Tryz.prog 145 #[.int .i64 k] w fun e w' => e = .returned (fv true 2 k) ∧ Below w.heap.size w w' := by
  unfold fv
  have Z0 := AB.at0 w 44 [.bool false, .int .i64 0, .int .i64 0]
  have HB := below1 w (.cells #[.bool false, .int .i64 0, .int .i64 0] 44)
  obtain ⟨c0, c1, c2, f0, f1, f2⟩ := Z0.three
  have Z1 := Z0.set3 (.bool true) (.int .i64 2) (.int .i64 k)
  obtain ⟨h0, h1, h2, -⟩ := Z1.three
  have bb := below_set3 (g := w.heap.size) HB (Nat.le_refl _) (.bool true) (.int .i64 2) (.int .i64 k)
  clear Z0 Z1 HB
  go_enter Tryz.func145, Tryz.ntmps145
  go_wp2
  exact bodyPost_ret (v := .agg #[.bool true, .int .i64 2, .int .i64 k]) (by simp [results, Tryz.results145, go_sem]) rfl ⟨rfl, by go_grown⟩
theorem rbad2_any (k : Int) (w : World) :
    Calls Tryz.prog 146 #[.int .i64 k] w fun e w' => e = .returned (fv true 2 k) ∧ Below w.heap.size w w' := by
  unfold fv
  have Z0 := AB.at0 w 44 [.bool false, .int .i64 0, .int .i64 0]
  have HB := below1 w (.cells #[.bool false, .int .i64 0, .int .i64 0] 44)
  obtain ⟨c0, c1, c2, f0, f1, f2⟩ := Z0.three
  have Z1 := Z0.set3 (.bool true) (.int .i64 2) (.int .i64 k)
  obtain ⟨h0, h1, h2, -⟩ := Z1.three
  have bb := below_set3 (g := w.heap.size) HB (Nat.le_refl _) (.bool true) (.int .i64 2) (.int .i64 k)
  clear Z0 Z1 HB
  go_enter Tryz.func146, Tryz.ntmps146
  go_wp2
  exact bodyPost_ret (v := .agg #[.bool true, .int .i64 2, .int .i64 k]) (by simp [results, Tryz.results146, go_sem]) rfl ⟨rfl, by go_grown⟩
theorem unless_any (r : Bool) (k : Int) (w : World) :
    Calls Tryz.prog 157 #[.bool r, .int .i64 k] w fun e w' => e = .returned (fo2 (if r then none else some k)) ∧ Below w.heap.size w w' := by
  have q := h_ (fun w => refuse2_any k w)
  unfold fv at q
  have Z0 := AB.at0 w 44 [.bool false, .int .i64 0, .int .i64 0]
  have HB := h_ (below1 w (.cells #[.bool false, .int .i64 0, .int .i64 0] 44))
  cases r
  · have e0 : fo2 (if false = true then none else some k) = .agg #[.bool true, .int .i64 2, .int .i64 k] := rfl
    rw [e0]
    have Z0 := h_ Z0
    clear e0
    go_enter Tryz.func157, Tryz.ntmps157
    go_wp2_with (first | (go_at_call 145; refine (q.out _).mono ?_; rintro e w1 ⟨rfl, b1⟩; obtain ⟨s0, s1, s2, s3, s4, s5⟩ := (Z0.out.later b1).three; have Z1 := (Z0.out.later b1).set3 (.bool true) (.int .i64 2) (.int .i64 k); obtain ⟨u0, u1, u2, -⟩ := Z1.three; have bb := below_set3 (g := w.heap.size) (HB.out.trans (b1.mono HB.out.size)) (Nat.le_refl _) (.bool true) (.int .i64 2) (.int .i64 k)))
    exact bodyPost_ret (v := .agg #[.bool true, .int .i64 2, .int .i64 k]) (by simp [results, Tryz.results157, go_sem, u0, u1, u2]) rfl ⟨rfl, bb⟩
  · have e0 : fo2 (if true = true then none else some k) = .agg #[.bool false, .int .i64 0, .int .i64 0] := rfl
    rw [e0]
    obtain ⟨c0, c1, c2, f0, f1, f2⟩ := Z0.three
    have Z1 := Z0.set3 (.bool false) (.int .i64 0) (.int .i64 0)
    obtain ⟨u0, u1, u2, -⟩ := Z1.three
    have bb := below_set3 (g := w.heap.size) HB.out (Nat.le_refl _) (.bool false) (.int .i64 0) (.int .i64 0)
    clear Z0 Z1 e0
    go_enter Tryz.func157, Tryz.ntmps157
    go_wp2_with fail
    exact bodyPost_ret (v := .agg #[.bool false, .int .i64 0, .int .i64 0]) (by simp [results, Tryz.results157, go_sem, u0, u1, u2]) rfl ⟨rfl, by first | exact bb | exact HB.out⟩
theorem goesOut_any (p : Int) (w : World) :
    Calls Tryz.prog 156 #[.int .i64 p] w fun e w' => e = .returned (.bool (goB p)) ∧ w' = w := by
  by_cases h1 : 1 ≤ p
  · by_cases h2 : p ≤ 4294967040
    · go_enter Tryz.func156, Tryz.ntmps156
      go_wp2_with fail
      go_ret
      exact ⟨congrArg (fun z => Ending.returned (Value.bool z)) (by rw [Bool.eq_iff_iff]; simp [goB]; omega), rfl⟩
    · go_enter Tryz.func156, Tryz.ntmps156
      go_wp2_with fail
      go_ret
      exact ⟨congrArg (fun z => Ending.returned (Value.bool z)) (by rw [Bool.eq_iff_iff]; simp [goB]; omega), rfl⟩
  · go_enter Tryz.func156, Tryz.ntmps156
    go_wp2_with fail
    go_ret
    exact ⟨congrArg (fun z => Ending.returned (Value.bool z)) (by rw [Bool.eq_iff_iff]; simp [goB]; omega), rfl⟩
theorem rgoes_any (p : Int) (w : World) :
    Calls Tryz.prog 130 #[.int .i64 p] w fun e w' => e = .returned (.bool (goB p)) ∧ w' = w := by
  by_cases h1 : 1 ≤ p
  · by_cases h2 : p ≤ 4294967040
    · go_enter Tryz.func130, Tryz.ntmps130
      go_wp2_with fail
      go_ret
      exact ⟨congrArg (fun z => Ending.returned (Value.bool z)) (by rw [Bool.eq_iff_iff]; simp [goB]; omega), rfl⟩
    · go_enter Tryz.func130, Tryz.ntmps130
      go_wp2_with fail
      go_ret
      exact ⟨congrArg (fun z => Ending.returned (Value.bool z)) (by rw [Bool.eq_iff_iff]; simp [goB]; omega), rfl⟩
  · go_enter Tryz.func130, Tryz.ntmps130
    go_wp2_with fail
    go_ret
    exact ⟨congrArg (fun z => Ending.returned (Value.bool z)) (by rw [Bool.eq_iff_iff]; simp [goB]; omega), rfl⟩
theorem takes_any (p x : Int) (w : World) :
    Calls Tryz.prog 158 #[.int .i64 p, .int .i64 x] w fun e w' => e = .returned (.bool (tkB p x)) ∧ w' = w := by
  by_cases h1 : p = 4294967293
  · subst h1
    by_cases h2 : 0 ≤ x
    · go_enter Tryz.func158, Tryz.ntmps158
      go_wp2_with fail
      go_ret
      exact ⟨congrArg (fun z => Ending.returned (Value.bool z)) (by rw [Bool.eq_iff_iff]; simp [tkB]; omega), rfl⟩
    · go_enter Tryz.func158, Tryz.ntmps158
      go_wp2_with fail
      go_ret
      exact ⟨congrArg (fun z => Ending.returned (Value.bool z)) (by rw [Bool.eq_iff_iff]; simp [tkB]; omega), rfl⟩
  · go_enter Tryz.func158, Tryz.ntmps158
    go_wp2_with fail
    go_ret
    exact ⟨congrArg (fun z => Ending.returned (Value.bool z)) (by rw [Bool.eq_iff_iff]; simp [tkB, h1]), rfl⟩
theorem asets_any (f : Int) (w : World) :
    Calls Tryz.prog 159 #[.int .i64 f] w fun e w' => e = .returned (.bool (setsB f)) ∧ w' = w := by
  have q := h_ (fun w => fright_any f w)
  obtain ⟨R, hR⟩ : ∃ R, setsB f = R := ⟨_, rfl⟩
  rw [hR]
  unfold setsB at hR
  have HR := h_ hR
  clear hR
  generalize fok f = z at *
  cases z
  · go_enter Tryz.func159, Tryz.ntmps159
    go_wp2_with (go_at_call 160; refine (q.out _).mono ?_; rintro e w1 ⟨rfl, rfl⟩)
    go_ret
    exact ⟨by rw [← HR.out]; rfl, rfl⟩
  · by_cases h0 : f = 0
    · subst h0
      go_enter Tryz.func159, Tryz.ntmps159
      go_wp2_with (go_at_call 160; refine (q.out _).mono ?_; rintro e w1 ⟨rfl, rfl⟩)
      go_ret
      exact ⟨by rw [← HR.out]; first | rfl | (exact congrArg (fun z => Ending.returned (Value.bool z)) (by rw [Bool.eq_iff_iff]; simp; try omega)), rfl⟩
    · go_enter Tryz.func159, Tryz.ntmps159
      go_wp2_with (go_at_call 160; refine (q.out _).mono ?_; rintro e w1 ⟨rfl, rfl⟩)
      go_ret
      exact ⟨by rw [← HR.out]; first | rfl | (exact congrArg (fun z => Ending.returned (Value.bool z)) (by rw [Bool.eq_iff_iff]; simp; try omega)), rfl⟩
theorem rasets_any (f : Int) (w : World) :
    Calls Tryz.prog 133 #[.int .i64 f] w fun e w' => e = .returned (.bool (setsB f)) ∧ w' = w := by
  have q := h_ (fun w => rfright_any f w)
  obtain ⟨R, hR⟩ : ∃ R, setsB f = R := ⟨_, rfl⟩
  rw [hR]
  unfold setsB at hR
  have HR := h_ hR
  clear hR
  generalize fok f = z at *
  cases z
  · go_enter Tryz.func133, Tryz.ntmps133
    go_wp2_with (go_at_call 151; refine (q.out _).mono ?_; rintro e w1 ⟨rfl, rfl⟩)
    go_ret
    exact ⟨by rw [← HR.out]; rfl, rfl⟩
  · by_cases h0 : f = 0
    · subst h0
      go_enter Tryz.func133, Tryz.ntmps133
      go_wp2_with (go_at_call 151; refine (q.out _).mono ?_; rintro e w1 ⟨rfl, rfl⟩)
      go_ret
      exact ⟨by rw [← HR.out]; first | rfl | (exact congrArg (fun z => Ending.returned (Value.bool z)) (by rw [Bool.eq_iff_iff]; simp; try omega)), rfl⟩
    · go_enter Tryz.func133, Tryz.ntmps133
      go_wp2_with (go_at_call 151; refine (q.out _).mono ?_; rintro e w1 ⟨rfl, rfl⟩)
      go_ret
      exact ⟨by rw [← HR.out]; first | rfl | (exact congrArg (fun z => Ending.returned (Value.bool z)) (by rw [Bool.eq_iff_iff]; simp; try omega)), rfl⟩
end Go.Proofs.YthhijfphfcmniaaGreat
