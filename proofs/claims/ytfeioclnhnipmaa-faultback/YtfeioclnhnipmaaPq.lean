import Derived.Test.YtfeioclnhnipmaaNn
import Derived.Test.YtfeioclnhnipmaaNj
import Derived.Deep.RegionHeld3
import Derived.Deep.RegionWith
import Derived.Deep.MidRow
import Derived.Deep.Cut
namespace Go.Proofs.Ytfeioclnhnipmaa
open Go Go.RowKit
set_option linter.unusedVariables false
set_option linter.unusedSimpArgs false
attribute [local go_sem] Oper.semAt_some

set_option maxRecDepth 100000
theorem rget_arg (a : Option Addr) (len cap : Nat) (k s : Int) (w : World) (h : szB s = false ∨ k < 0) :
    Calls Try.prog 22 #[.slice a len cap, .int .i64 k, .int .i64 s] w fun e w' => e = .returned (.tuple #[.int .i64 0, .int .i64 1]) ∧ w = w' := by
  cases hs : szB s
  · obtain ⟨g1, g2, g4⟩ := szB_false hs
    have e1 : (s != 1) = true := by simpa using g1
    have e2 : (s != 2) = true := by simpa using g2
    have e4 : (s != 4) = true := by simpa using g4
    clear hs h g1 g2 g4
    go_enter Try.func22, Try.ntmps22
    go_wp2
    go_ret2
    exact ⟨rfl, rfl⟩
  · have hk : k < 0 := by rcases h with h | h; (rw [hs] at h; cases h); exact h
    clear h
    rcases szB_true hs with rfl | rfl | rfl
    all_goals
      clear hs
      go_enter Try.func22, Try.ntmps22
      go_wp2
      go_ret2
      exact ⟨rfl, rfl⟩
theorem rget_short (a : Option Addr) (len cap : Nat) (k s : Int) (w : World) (hm : len ≤ maxLen) (hs : szB s = true) (h0 : 0 ≤ k) (h : (len : Int) - s < k) :
    Calls Try.prog 22 #[.slice a len cap, .int .i64 k, .int .i64 s] w fun e w' => e = .returned (.tuple #[.int .i64 0, .int .i64 3]) ∧ w = w' := by
  unfold maxLen at hm
  have h3 : ¬ k < 0 := by omega
  by_cases hl : (len : Int) < k
  · rcases szB_true hs with rfl | rfl | rfl
    all_goals
      clear hs
      go_enter Try.func22, Try.ntmps22
      go_wp2
      go_ret2
      exact ⟨rfl, rfl⟩
  · have h4 : (len : Int) - k < s := by omega
    rcases szB_true hs with rfl | rfl | rfl
    all_goals
      clear hs
      go_enter Try.func22, Try.ntmps22
      go_wp2
      go_ret2
      exact ⟨rfl, rfl⟩
theorem rget_ok1 (b off len cap k : Nat) (z0 : Int) (w : World) (hz0 : 0 ≤ z0 ∧ z0 ≤ 255) (hk : k + 1 ≤ len) (hl : len ≤ cap) (hm : cap ≤ maxLen) (hc0 : w.cell? ⟨b, off + k, none⟩ = some (.int .u8 z0)) :
    Calls Try.prog 22 #[.slice (some ⟨b, off, none⟩) len cap, .int .i64 k, .int .i64 1] w fun e w' => e = .returned (.tuple #[.int .i64 z0, .int .i64 0]) ∧ w = w' := by
  unfold maxLen at hm
  have h1 : ¬ ((k : Int) < 0) := by omega
  have h2 : ¬ ((len : Int) < (k : Int)) := by omega
  have h3 : ¬ ((len : Int) - (k : Int) < 1) := by omega
  go_enter Try.func22, Try.ntmps22
  go_wp2
  go_rounds 2
  go_ret2
  exact ⟨ret_int2 (by omega), rfl⟩
theorem rget_ok2 (b off len cap k : Nat) (z0 z1 : Int) (w : World) (hz0 : 0 ≤ z0 ∧ z0 ≤ 255) (hz1 : 0 ≤ z1 ∧ z1 ≤ 255) (hk : k + 2 ≤ len) (hl : len ≤ cap) (hm : cap ≤ maxLen) (hc0 : w.cell? ⟨b, off + k, none⟩ = some (.int .u8 z0)) (hc1 : w.cell? ⟨b, off + k + 1, none⟩ = some (.int .u8 z1)) :
    Calls Try.prog 22 #[.slice (some ⟨b, off, none⟩) len cap, .int .i64 k, .int .i64 2] w fun e w' => e = .returned (.tuple #[.int .i64 (z0 * 256 + z1), .int .i64 0]) ∧ w = w' := by
  unfold maxLen at hm
  rw [Nat.add_assoc] at hc1
  have h1 : ¬ ((k : Int) < 0) := by omega
  have h2 : ¬ ((len : Int) < (k : Int)) := by omega
  have h3 : ¬ ((len : Int) - (k : Int) < 2) := by omega
  go_enter Try.func22, Try.ntmps22
  go_wp2
  go_rounds 3
  go_ret2
  exact ⟨ret_int2 (by omega), rfl⟩
theorem rget_ok4 (b off len cap k : Nat) (z0 z1 z2 z3 : Int) (w : World) (hz0 : 0 ≤ z0 ∧ z0 ≤ 255) (hz1 : 0 ≤ z1 ∧ z1 ≤ 255) (hz2 : 0 ≤ z2 ∧ z2 ≤ 255) (hz3 : 0 ≤ z3 ∧ z3 ≤ 255) (hk : k + 4 ≤ len) (hl : len ≤ cap) (hm : cap ≤ maxLen) (hc0 : w.cell? ⟨b, off + k, none⟩ = some (.int .u8 z0)) (hc1 : w.cell? ⟨b, off + k + 1, none⟩ = some (.int .u8 z1)) (hc2 : w.cell? ⟨b, off + k + 2, none⟩ = some (.int .u8 z2)) (hc3 : w.cell? ⟨b, off + k + 3, none⟩ = some (.int .u8 z3)) :
    Calls Try.prog 22 #[.slice (some ⟨b, off, none⟩) len cap, .int .i64 k, .int .i64 4] w fun e w' => e = .returned (.tuple #[.int .i64 (((z0 * 256 + z1) * 256 + z2) * 256 + z3), .int .i64 0]) ∧ w = w' := by
  unfold maxLen at hm
  rw [Nat.add_assoc] at hc1
  rw [Nat.add_assoc] at hc2
  rw [Nat.add_assoc] at hc3
  have h1 : ¬ ((k : Int) < 0) := by omega
  have h2 : ¬ ((len : Int) < (k : Int)) := by omega
  have h3 : ¬ ((len : Int) - (k : Int) < 4) := by omega
  go_enter Try.func22, Try.ntmps22
  go_wp2
  go_rounds 5
  go_ret2
  exact ⟨ret_int2 (by omega), rfl⟩
theorem rnget2 (v : Value) (l : List Int) (i : Nat) (w : World) (hB : Bytes w v l) (hi : i ≤ 100000) :
    Calls Try.prog 22 #[v, .int .i64 (i : Int), .int .i64 2] w fun e w' => ∃ er, e = .returned (.tuple #[.int .i64 (be2 l i), .int .i64 er]) ∧ w = w' := by
  obtain ⟨ao, cap, rfl, h1, h2, h3, h4, h5⟩ := hB
  have hB : Bytes w (.slice ao l.length cap) l := ⟨ao, cap, rfl, h1, h2, h3, h4, h5⟩
  by_cases hi2 : i + 2 ≤ l.length
  · obtain ⟨-, -, -, hat⟩ := Bytes.at hB
    obtain ⟨b, off, rfl, c0⟩ := hat i _ (getD_some (by omega))
    obtain ⟨b1, off1, e1, c1⟩ := hat (i + 1) _ (getD_some (by omega))
    cases e1
    have e : be2 l i = l.getD i 0 * 256 + l.getD (i + 1) 0 := if_pos hi2
    rw [e]
    exact (rget_ok2 b off l.length cap i (l.getD i 0) (l.getD (i + 1) 0) w (isB_getD h3 i) (isB_getD h3 (i + 1)) hi2 h1 h2 c0 c1).mono fun e w' h => ⟨0, h.1, h.2⟩
  · have e : be2 l i = 0 := if_neg hi2
    rw [e]
    exact (rget_short ao l.length cap (i : Int) 2 w (by omega) (by decide) (by omega) (by omega)).mono fun e w' h => ⟨3, h.1, h.2⟩
theorem rnget4 (v : Value) (l : List Int) (i : Nat) (w : World) (hB : Bytes w v l) (hi : i ≤ 100000) :
    Calls Try.prog 22 #[v, .int .i64 (i : Int), .int .i64 4] w fun e w' => ∃ er, e = .returned (.tuple #[.int .i64 (be4 l i), .int .i64 er]) ∧ w = w' := by
  obtain ⟨ao, cap, rfl, h1, h2, h3, h4, h5⟩ := hB
  have hB : Bytes w (.slice ao l.length cap) l := ⟨ao, cap, rfl, h1, h2, h3, h4, h5⟩
  by_cases hi2 : i + 4 ≤ l.length
  · obtain ⟨-, -, -, hat⟩ := Bytes.at hB
    obtain ⟨b, off, rfl, c0⟩ := hat i _ (getD_some (by omega))
    obtain ⟨b1, off1, e1, c1⟩ := hat (i + 1) _ (getD_some (by omega))
    cases e1
    obtain ⟨b2, off2, e2, c2⟩ := hat (i + 2) _ (getD_some (by omega))
    cases e2
    obtain ⟨b3, off3, e3, c3⟩ := hat (i + 3) _ (getD_some (by omega))
    cases e3
    have e : be4 l i = ((l.getD i 0 * 256 + l.getD (i + 1) 0) * 256 + l.getD (i + 2) 0) * 256 + l.getD (i + 3) 0 := if_pos hi2
    rw [e]
    exact (rget_ok4 b off l.length cap i (l.getD i 0) (l.getD (i + 1) 0) (l.getD (i + 2) 0) (l.getD (i + 3) 0) w (isB_getD h3 i) (isB_getD h3 (i + 1)) (isB_getD h3 (i + 2)) (isB_getD h3 (i + 3)) hi2 h1 h2 c0 c1 c2 c3).mono fun e w' h => ⟨0, h.1, h.2⟩
  · have e : be4 l i = 0 := if_neg hi2
    rw [e]
    exact (rget_short ao l.length cap (i : Int) 4 w (by omega) (by decide) (by omega) (by omega)).mono fun e w' h => ⟨3, h.1, h.2⟩
theorem Bytes.lit (w : World) (l : List Int) (t : TypeId) (h : isB l) (hl : l.length ≤ 1000) : Bytes (w.alloc (.cells (u8s l).toArray t)) (.slice (some ⟨w.heap.size, 0, none⟩) l.length l.length) l := by
  refine ⟨_, _, rfl, Nat.le_refl _, by unfold maxLen; omega, h, (fun e => by cases e), fun ad e j z hz => ?_⟩
  cases e
  rw [Addr.add_lit, World.cell?_alloc_new]
  simp [u8s, hz]
theorem wp_append_ownB {P : Program} {w : World} {o : Oper} {a : Act} {K : Act → World → Prop} {Q : Exit → Act → World → Prop} (s x : Operand) (t : TypeId)
    (ho : o.op = .call { callee := .builtin .append, args := #[s, x], argTypes := #[t, t] })
    (base : Nat) (e : TypeId) (i : TypeInfo) (ht : P.underlying t = some (.slice e)) (hi : P.info? e = some i) (hz : i.zero = some (.int .u8 0))
    (hsize : i.size = 1) (hby : i.bytes = 1)
    (v : Value) (n : Nat) (xs : List Value) (hs : a.eval s = v) (hown : w.ownsRow base e 1 v n xs)
    (u : Value) (l : List Int) (hx : a.eval x = u) (hB : Bytes w u l)
    (h63 : n + l.length ≤ 140737488355328) (hbase : base ≤ w.heap.size)
    (h : ∀ v' w', w'.ownsRow base e 1 v' (n + l.length) (xs ++ u8s l) → w.grownBy w' v.ownBlock → K (a.put o.dst v') w') : o.wp P a w K Q := by
  obtain ⟨ad, cap, rfl, h1, h2, h3, h4, h5⟩ := hB
  cases ad with
  | none =>
    have hc := h4 rfl
    subst hc
    have hl : l = [] := List.eq_nil_of_length_eq_zero (by omega)
    subst hl
    have hrun := run_append_owned_none (P := P) (w := w) base t o.type e i 1 ht hi v n xs hown
    have hK := h v w (by simpa [u8s] using hown) ⟨rfl, rfl, rfl, Nat.le_refl _, fun _ _ _ => rfl⟩
    unfold Oper.wp
    simp only [List.length_nil] at hx
    simp [execOp, ho, resolve, invoke, builtin, hs, hx, hrun, Result.andThen]
    exact hK
  | some ad =>
    refine wp_append_own w s x t ho base e i (.int .u8 0) 1 1 ht hi hz hsize hby rfl (by decide) v n xs hs hown ad l.length cap (u8s l) hx (by simp [u8s]) ?_ (u8s_one l) (by unfold maxLen; omega) (by omega) hbase (fun v' w' a1 a2 _ => h v' w' a1 a2)
    intro j u hu
    unfold u8s at hu
    rw [List.getElem?_map] at hu
    cases hj : l[j]? with
    | none => rw [hj] at hu; cases hu
    | some z => rw [hj] at hu; cases hu; exact h5 ad rfl j z hj
theorem wpList_append_ownBg {P : Program} {w : World} {ops : Array Oper} {rest : List Oper} {o : Oper} {a : Act} {Q : Exit → Act → World → Prop} (s x : Operand) (t : TypeId)
    (ho : o.op = .call { callee := .builtin .append, args := #[s, x], argTypes := #[t, t] })
    (base : Nat) (e : TypeId) (i : TypeInfo) (ht : P.underlying t = some (.slice e)) (hi : P.info? e = some i) (hz : i.zero = some (.int .u8 0))
    (hsize : i.size = 1) (hby : i.bytes = 1)
    (v : Value) (n : Nat) (xs : List Value) (hs : a.eval s = v) (hown : w.ownsRow base e 1 v n xs)
    (u : Value) (l : List Int) (hx : a.eval x = u) (hB : Bytes w u l) (hw : Region.wanted o (yielded ops a.tmps) = true)
    (h63 : n + l.length ≤ 140737488355328) (hbase : base ≤ w.heap.size)
    (h : ∀ v' w', w'.ownsRow base e 1 v' (n + l.length) (xs ++ u8s l) → w.grownBy w' v.ownBlock → wpList P ops Q rest (a.put o.dst v') w') : wpList P ops Q (o :: rest) a w :=
  wpList_wanted hw fun K hK => wp_append_ownB s x t ho base e i ht hi hz hsize hby v n xs hs hown u l hx hB h63 hbase (fun v' w' h1 h2 => hK _ _ (h v' w' h1 h2))end Go.Proofs.Ytfeioclnhnipmaa
