import Derived.Test.YtkhpbkdblhcepaaOy
import Derived.Deep.RegionHeld3
import Derived.Deep.RegionWith
import Derived.Deep.MidRow
import Derived.Deep.Cut
import Derived.Laws.AppendOwnNone
namespace Go.Proofs.Ytkhpbkdblhcepaa
open Go Go.RowKit
set_option linter.unusedVariables false
set_option linter.unusedSimpArgs false

theorem wp_append_ownB {P : Program} {w : World} {o : Oper} {a : Act} {K : Act → World → Prop} {Q : Exit → Act → World → Prop} (s x : Operand) (t : TypeId)
    (ho : o.op = .call { callee := .builtin .append, args := #[s, x], argTypes := #[t, t] })
    (base : Nat) (e : TypeId) (i : TypeInfo) (ht : P.underlying t = some (.slice e)) (hi : P.info? e = some i) (hz : i.zero = some (.int .u8 0))
    (hsize : i.size = 1) (hby : i.bytes = 1)
    (v : Value) (n : Nat) (xs : List Value) (hs : a.eval s = v) (hown : w.ownsRow base e 1 v n xs)
    (u : Value) (l : List Int) (hx : a.eval x = u) (hB : Bytes w u l)
    (h63 : n + l.length ≤ 140737488355328) (hbase : base ≤ w.heap.size)
    (h : ∀ v' w', w'.ownsRow base e 1 v' (n + l.length) (xs ++ u8s l) → w.grownBy w' v.ownBlock → K (a.put o.dst v') w') : o.wp P a w K Q := by
  obtain ⟨ad, cap, rfl, h1, h2, h3, h4, h5⟩ := hB
  cases ad with
  | none =>
    have hc := h4 rfl
    subst hc
    have hl : l = [] := List.eq_nil_of_length_eq_zero (by omega)
    subst hl
    have hrun := run_append_owned_none (P := P) (w := w) base t o.type e i 1 ht hi v n xs hown
    have hK := h v w (by simpa [u8s] using hown) ⟨rfl, rfl, rfl, Nat.le_refl _, fun _ _ _ => rfl⟩
    unfold Oper.wp
    simp only [List.length_nil] at hx
    simp [execOp, ho, resolve, invoke, builtin, hs, hx, hrun, Result.andThen]
    exact hK
  | some ad =>
    refine wp_append_own w s x t ho base e i (.int .u8 0) 1 1 ht hi hz hsize hby rfl (by decide) v n xs hs hown ad l.length cap (u8s l) hx (by simp [u8s]) ?_ (u8s_one l) (by unfold maxLen; omega) (by omega) hbase (fun v' w' a1 a2 _ => h v' w' a1 a2)
    intro j u hu
    unfold u8s at hu
    rw [List.getElem?_map] at hu
    cases hj : l[j]? with
    | none => rw [hj] at hu; cases hu
    | some z => rw [hj] at hu; cases hu; exact h5 ad rfl j z hj
theorem add_zero_addr (a : Addr) : a.add 0 = a := by
  obtain ⟨b, o, p⟩ := a
  cases p <;> simp [Addr.add]
/-- b[:s] -/
theorem bytes_take {w : World} {ao : Option Addr} {n cap : Nat} {l : List Int} (h : Bytes w (.slice ao n cap) l) (s : Nat) (hs : s ≤ l.length) :
    (∀ wx, (Instr.sliceAt 24 (.slice ao n cap) none (some (.int .i64 (s : Int))) none).run Try.prog wx = .ok (.slice ao s cap) wx) ∧
      (∀ wx, (Instr.slice 24 (.slice ao n cap) none (some (.int .i64 (s : Int))) none).run Try.prog wx = .ok (.slice ao s cap) wx) ∧ Bytes w (.slice ao s cap) (l.take s) := by
  obtain ⟨a, c, e, h1, h2, h3, h4, h5⟩ := h
  cases e
  have r2 : ∀ wx, (Instr.slice 24 (.slice ao l.length cap) none (some (.int .i64 (s : Int))) none).run Try.prog wx = .ok (.slice ao s cap) wx := by
    intro wx
    rw [run_slice_h wx 24 ao l.length cap u51 .i64 (s : Int) (by omega) (by omega), sz51]
    have : ao.map (fun x => x.add 0) = ao := by cases ao <;> simp [add_zero_addr]
    simp [sliced, this]
  refine ⟨fun wx => ?_, r2, ?_⟩
  · rw [run_sliceAt_slice wx 24 _ _ _ _ u51]; exact r2 wx
  · have hl : (l.take s).length = s := by simp; omega
    refine ⟨ao, cap, by rw [hl], by omega, h2, fun z hz => h3 z (List.mem_of_mem_take hz), h4, fun ad he j z hz => ?_⟩
    rw [List.getElem?_take] at hz
    split at hz
    · exact h5 ad he j z hz
    · cases hz


end Go.Proofs.Ytkhpbkdblhcepaa
