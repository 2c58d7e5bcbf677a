import Derived.Test.YtcffebkebldjcaaXh
import Derived.Test.YtcffebkebldjcaaXk
import Derived.Deep.RegionHeld3
import Derived.Deep.RegionWith
import Derived.Deep.MidRow
import Derived.Deep.Cut
namespace Go.Proofs.Ytcffebkebldjcaa
open Go Go.RowKit
set_option linter.unusedVariables false
set_option linter.unusedSimpArgs false

theorem AB.rangeM {w : World} {g : Nat} {ty : TypeId} {cs : List Value} (h : AB w g ty cs) : w.rangeAt g 0 cs := by
  intro j v hv
  rw [cell_of_row w g (0 + j) _ ty _ h, Nat.zero_add]
  simpa using hv
theorem takeLm {P : Program} {ty e : TypeId} {n : Nat} (hu : P.underlying ty = some (.array n e)) {ops : Array Oper} {Q : Exit → Act → World → Prop} {S : World → Prop} {md : Region.Mode} {fuel : Nat} {listed : Array Bool} {a : Act} {w : World} {i : Nat} {oi : Oper} (hi : ops[i]? = some oi)
    (hs : Region.noSelect ops = true) (hf : Region.free md ops listed i = true) (hr : (Region.ready md ops listed).contains i = true)
    (d : Option Tmp) (hd : oi.dst = d) (x : Operand) (ho : oi.op = .load ty x) (hw : Region.wanted oi (yielded ops a.tmps) = true) (g : Nat) (hx : a.eval x = .pointer (some ⟨g, 0, none⟩)) (cs : List Value) (hz : (P.info? ty).map (·.size) = some cs.length) (hS : ∀ w, S w → w.rangeAt g 0 cs)
    (hQ : ∀ c a w, Q (.panic c) (a.put d (.agg cs.toArray)) w → Q (.panic c) a w) (h0 : S w)
    (h : wpAnyH P md ops Q S fuel (listed.setIfInBounds i true) (a.put d (.agg cs.toArray)) w) : wpAnyH P md ops Q S (fuel + 1) listed a w := by
  subst hd
  exact wpAnyH_take hi hs hf hr hQ (yieldsIf_load_mid hw ty x ho g 0 hx cs _ hS hu rfl hz) h0 h
theorem wdc_lenZ : ∀ l : List (Nat × Nat), (wdc l).length = l.length * 2
  | [] => rfl
  | p :: r => by simp [wdc, wdc_lenZ r]; omega
theorem szHl {l : List (Nat × Nat)} (h : l.length = 24) : (Try.prog.info? 48).map (·.size) = some (wdc l).length := by
  have e : (wdc l).length = 48 := by simp [wdc_lenZ, h]
  exact Eq.trans (by kernel_rfl : (Try.prog.info? 48).map (·.size) = some 48) (by rw [e])
end Go.Proofs.Ytcffebkebldjcaa
