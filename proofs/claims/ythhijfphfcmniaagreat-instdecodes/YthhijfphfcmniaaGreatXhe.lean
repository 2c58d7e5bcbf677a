import Derived.Test.YthhijfphfcmniaaGreatXge
import Derived.Test.YthhijfphfcmniaaGreatXde
import Derived.Test.YthhijfphfcmniaaGreatProg
import Derived.Test.YthhijfphfcmniaaGreatXae
import Derived.Test.YthhijfphfcmniaaGreatXce
import Derived.Test.YthhijfphfcmniaaGreatXfe
import Derived.Test.YthhijfphfcmniaaGreatXee
import Derived.Below
import Derived.BigQuiet
import Derived.BigRegion
import Derived.ChangeAlike
import Derived.ChangeKeysEq
import Derived.ChangeSame
import Derived.DataElems
import Derived.Deep.MidRow
import Derived.Deep.QuietTactic
import Derived.Deep.RegionHeld
import Derived.Deep.RegionHeld3
import Derived.Deep.RegionLaw
import Derived.Deep.RegionLawGrows
import Derived.Deep.RegionWith
import Derived.Deep.WholeRow
import Derived.Great.BuildSlice
import Derived.Handy
import Derived.Laws.AppendOwn
import Derived.Laws.AppendOwnNone
import Derived.Laws.BitsAllLaws
import Derived.Laws.BitsLemmas
import Derived.Laws.CopyOwn
import Derived.Laws.OwnMore
import Derived.Laws.Rows
import Derived.Laws.StructEq
import Derived.Laws.Tables
import Derived.Lib.BitFns
import Derived.Lib.SmallJoins
import Derived.OpenShut
import Derived.ProofKit
import Derived.RegionTactic
import Derived.WalkKit
import Derived.WalkLawsBesides
import Derived.WalkSmall
import Derived.WalkSpells
import Derived.WideShapes
set_option maxRecDepth 100000
set_option maxHeartbeats 8000000
set_option linter.unusedVariables false
set_option linter.unusedSimpArgs false
namespace Go.Proofs.YthhijfphfcmniaaGreat
section
open Go Go.RowKit
def hv (l : List (Nat × Nat)) : Value := .agg (wdc l).toArray
def hset (l : List (Nat × Nat)) (f : Int) (p : Nat × Nat) : List (Nat × Nat) := if 0 ≤ f then l.set f.toNat p else l
def z24 : List (Nat × Nat) := List.replicate 24 (0, 0)
theorem takeR {P : Program} {ops : Array Oper} {Q : Exit → Act → World → Prop} {S : World → Prop} {md : Region.Mode} {fuel : Nat} {listed : Array Bool} {a : Act} {w : World} {i : Nat} {oi : Oper} {v : Value} (hi : ops[i]? = some oi)
    (hs : Region.noSelect ops = true) (hf : Region.free md ops listed i = true) (hr : (Region.ready md ops listed).contains i = true)
    (d : Option Tmp) (hd : oi.dst = d) (hy : YieldsIf P ops S oi v a) (hQ : ∀ c a w, Q (.panic c) (a.put d v) w → Q (.panic c) a w) (h0 : S w)
    (h : wpAnyH P md ops Q S fuel (listed.setIfInBounds i true) (a.put d v) w) : wpAnyH P md ops Q S (fuel + 1) listed a w := by
  subst hd
  exact wpAnyH_take hi hs hf hr hQ hy h0 h
theorem tR {P : Program} {ops : Array Oper} {Q : Exit → Act → World → Prop} {S : World → Prop} {md : Region.Mode} {fuel : Nat} {listed : Array Bool} {a : Act} {w : World} {oi : Oper} (i : Nat) (v : Value) (d : Option Tmp) (hi : ops[i]? = some oi) (h3 : (Region.noSelect ops && (Region.free md ops listed i && (Region.ready md ops listed).contains i)) = true) (hd : oi.dst = d) (hg : Region.wanted oi (yielded ops a.tmps) = true) (hr : ∀ w, S w → (execOp a.eval oi).run P w = .ok (.value v) w) (hQ : ∀ c a w, Q (.panic c) (a.put d v) w → Q (.panic c) a w) (h0 : S w) (h : wpAnyH P md ops Q S fuel (listed.setIfInBounds i true) (a.put d v) w) : wpAnyH P md ops Q S (fuel + 1) listed a w := by
  simp only [Bool.and_eq_true] at h3
  exact takeR hi h3.1 h3.2.1 h3.2.2 d hd (.inl ⟨hg, hr⟩) hQ h0 h
def h5 : List (Nat × Nat) := z24.set 5 (0, 8197)
def AB (w : World) (g : Nat) (ty : TypeId) (cs : List Value) : Prop := w.heap[g]? = some (.cells cs.toArray ty)
theorem AB.lt {w : World} {g : Nat} {ty : TypeId} {cs : List Value} (h : AB w g ty cs) : g < w.heap.size := (Array.getElem?_eq_some_iff.1 h).1
theorem AB.below {w w' : World} {g B : Nat} {ty : TypeId} {cs : List Value} (h : AB w g ty cs) (hb : Below B w w') (hg : g < B) : AB w' g ty cs := by
  unfold AB at *; rw [hb.block g hg]; exact h
theorem AB.later {w w' : World} {g : Nat} {ty : TypeId} {cs : List Value} (h : AB w g ty cs) (hb : Below w.heap.size w w') : AB w' g ty cs := h.below hb h.lt
theorem AB.new (w : World) (ty : TypeId) (cs : List Value) : AB (w.alloc (.cells cs.toArray ty)) w.heap.size ty cs := heap_alloc_last w _
theorem AB.alloc {w : World} {g : Nat} {ty : TypeId} {cs : List Value} (h : AB w g ty cs) (o : Obj) : AB (w.alloc o) g ty cs := h.later ((Below.refl _ _).alloc (Nat.le_refl _) _)
theorem AB.cell {w : World} {g j : Nat} {ty : TypeId} {cs : List Value} {v : Value} (h : AB w g ty cs) (hj : cs[j]? = some v) : w.cell? ⟨g, j, none⟩ = some v ∧ w.frozen? ⟨g, j, none⟩ = false := by
  refine ⟨?_, ?_⟩
  · rw [cell_of_row w g j _ ty _ h]; simpa using hj
  · unfold AB at h; simp [World.frozen?, h]
theorem AB.set {w : World} {g j : Nat} {ty : TypeId} {cs : List Value} (h : AB w g ty cs) (v : Value) : AB (w.setCell ⟨g, j, none⟩ v) g ty (cs.set j v) := by
  unfold AB at *
  rw [heap_setCell_same w g j _ ty v h]
  simp
theorem AB.far {w : World} {g f o : Nat} {ty : TypeId} {cs : List Value} (h : AB w g ty cs) (u : Value) (hne : g ≠ f) : AB (w.setCell ⟨f, o, none⟩ u) g ty cs := by
  unfold AB at *
  rw [Go.heap_setCell_other w ⟨f, o, none⟩ g u hne]; exact h
theorem AB.two {w : World} {g : Nat} {ty : TypeId} {a b : Value} (h : AB w g ty [a, b]) : w.cell? ⟨g, 0, none⟩ = some a ∧ w.cell? ⟨g, 1, none⟩ = some b ∧ w.frozen? ⟨g, 0, none⟩ = false ∧ w.frozen? ⟨g, 1, none⟩ = false :=
  ⟨(h.cell (j := 0) rfl).1, (h.cell (j := 1) rfl).1, (h.cell (j := 0) rfl).2, (h.cell (j := 1) rfl).2⟩
theorem AB.at0 (w : World) (t : TypeId) (cs : List Value) : AB (w.alloc (.cells cs.toArray t)) w.heap.size t cs := AB.new w t cs
theorem AB.at1 (w : World) (o : Obj) (t : TypeId) (cs : List Value) : AB ((w.alloc o).alloc (.cells cs.toArray t)) (w.heap.size + 1) t cs := by
  have := AB.new (w.alloc o) t cs
  simpa using this
theorem AB.at2 (w : World) (o o' : Obj) (t : TypeId) (cs : List Value) : AB (((w.alloc o).alloc o').alloc (.cells cs.toArray t)) (w.heap.size + 1 + 1) t cs := by
  have := AB.new ((w.alloc o).alloc o') t cs
  simpa using this
theorem below1 (w : World) (o : Obj) : Below w.heap.size w (w.alloc o) := (Below.refl _ _).alloc (Nat.le_refl _) _
theorem below2 (w : World) (o o' : Obj) : Below w.heap.size w ((w.alloc o).alloc o') := (below1 w o).alloc (by simp) _
theorem below3 (w : World) (o o' o'' : Obj) : Below w.heap.size w (((w.alloc o).alloc o').alloc o'') := (below2 w o o').alloc (by simp; omega) _
end
end Go.Proofs.YthhijfphfcmniaaGreat
namespace Go.Proofs.YthhijfphfcmniaaGreat
section
open Go Go.RowKit
theorem fsize_pos : ∀ j : Fin 24, 1 ≤ fsize ((j.val : Nat) : Int) := by decide +kernel
theorem gv_lt (b : List Int) (s : Int) (hb : isB b) : gv b s < 340282366920938463463374607431768211456 := by
  unfold gv
  split
  · rename_i h
    obtain ⟨h1, h2, h3⟩ := gok_in h
    have := bev_lt (b.take s.toNat) (fun z hz => hb z (List.mem_of_mem_take hz))
    have hl : (b.take s.toNat).length ≤ 16 := by simp; omega
    have h16 : 256 ^ (b.take s.toNat).length ≤ 256 ^ 16 := Nat.pow_le_pow_right (by decide) hl
    have e : (256 : Nat) ^ 16 = 340282366920938463463374607431768211456 := by decide
    omega
  · decide
theorem u51 : Tryz.prog.underlying 25 = some (.slice (Tryz.prog.elem 25)) := by kernel_rfl
theorem sz51 (w : World) : (sizeOf (Tryz.prog.elem 25)).run Tryz.prog w = .ok 1 w := by
  have e : Tryz.prog.elem 25 = 5 := by kernel_rfl
  rw [e]
  obtain ⟨i0, hi0, hz0, hz1, hz2⟩ := info_parts info5
  simp [sizeOf, typeInfo, hi0, hz1]
theorem bytes_slice {w : World} {ao : Option Addr} {n cap : Nat} {l : List Int} (h : Bytes w (.slice ao n cap) l) (s : Nat) (hs : s ≤ l.length) :
    ∃ ao', (∀ wx, (Instr.sliceAt 25 (.slice ao n cap) (some (.int .i64 (s : Int))) none none).run Tryz.prog wx = .ok (.slice ao' (n - s) (cap - s)) wx) ∧
      (∀ wx, (Instr.slice 25 (.slice ao n cap) (some (.int .i64 (s : Int))) none none).run Tryz.prog wx = .ok (.slice ao' (n - s) (cap - s)) wx) ∧ Bytes w (.slice ao' (n - s) (cap - s)) (l.drop s) := by
  obtain ⟨a, c, e, h1, h2, h3, h4, h5⟩ := h
  cases e
  have r2 : ∀ wx, (Instr.slice 25 (.slice ao l.length cap) (some (.int .i64 (s : Int))) none none).run Tryz.prog wx = .ok (.slice (if cap = s then ao else ao.map (·.add s)) (l.length - s) (cap - s)) wx := by
    intro wx
    rw [run_slice_l wx 25 ao l.length cap u51 .i64 (s : Int) (by omega) (by omega), sz51]
    simp [sliced]
  refine ⟨if cap = s then ao else ao.map (·.add s), fun wx => ?_, r2, ?_⟩
  · rw [run_sliceAt_slice wx 25 _ _ _ _ u51]; exact r2 wx
  · refine ⟨_, cap - s, by rw [List.length_drop], by simp; omega, by omega, fun z hz => h3 z (List.mem_of_mem_drop hz), fun hn => ?_, fun ad he j z hz => ?_⟩
    · split at hn
      · omega
      · cases ao with
        | none => have := h4 rfl; omega
        | some a => cases hn
    · rw [List.getElem?_drop] at hz
      split at he
      · rename_i hc
        have : s + j < l.length := (List.getElem?_eq_some_iff.1 hz).1
        omega
      · cases ao with
        | none => cases he
        | some a =>
          simp at he
          subst he
          rw [Addr.add_add]
          exact h5 a rfl _ _ hz
theorem bev_half8_h (x : Nat) (h : x < 18446744073709551616) : bev (half8 x) = x := by
  have e : ∀ a b c d e f g i : Nat, bev [(a : Int), (b : Int), (c : Int), (d : Int), (e : Int), (f : Int), (g : Int), (i : Int)] = ((((((a * 256 + b) * 256 + c) * 256 + d) * 256 + e) * 256 + f) * 256 + g) * 256 + i := fun a b c d e f g i => by
    unfold bev; simp
  have := e (x / 72057594037927936) (x / 281474976710656 % 256) (x / 1099511627776 % 256) (x / 4294967296 % 256) (x / 16777216 % 256) (x / 65536 % 256) (x / 256 % 256) (x % 256)
  have k : half8 (x : Int) = [((x / 72057594037927936 : Nat) : Int), ((x / 281474976710656 % 256 : Nat) : Int), ((x / 1099511627776 % 256 : Nat) : Int), ((x / 4294967296 % 256 : Nat) : Int), ((x / 16777216 % 256 : Nat) : Int), ((x / 65536 % 256 : Nat) : Int), ((x / 256 % 256 : Nat) : Int), ((x % 256 : Nat) : Int)] := by
    unfold half8; simp
  rw [k, this]
  omega
theorem bev_w16_h (a b : Nat) (ha : a < 18446744073709551616) (hb : b < 18446744073709551616) : bev (w16 a b) = a * 18446744073709551616 + b := by
  unfold w16
  rw [bev_app, bev_half8_h a ha, bev_half8_h b hb, show (half8 (b : Int)).length = 8 from rfl]
theorem bev_tail_h (a b s : Nat) (hs : s ≤ 16) (ha : a < 18446744073709551616) (hb : b < 18446744073709551616) (h : a * 18446744073709551616 + b < 256 ^ s) : bev ((w16 a b).drop (16 - s)) = a * 18446744073709551616 + b := by
  have e := bev_app ((w16 a b).take (16 - s)) ((w16 a b).drop (16 - s))
  rw [List.take_append_drop, bev_w16_h a b ha hb, List.length_drop, w16_length, show 16 - (16 - s) = s by omega] at e
  have h0 : bev ((w16 a b).take (16 - s)) = 0 := by
    rcases Nat.eq_zero_or_pos (bev ((w16 a b).take (16 - s))) with h0 | h0
    · exact h0
    · exfalso
      have : 1 * 256 ^ s ≤ bev ((w16 a b).take (16 - s)) * 256 ^ s := Nat.mul_le_mul_right _ h0
      omega
  rw [h0] at e
  omega
theorem gv_app (t X : List Int) (s : Nat) (hs : s ≤ 16) (ht : t.length = s) : gv (t ++ X) (s : Int) = bev t := by
  have hk : gok (t ++ X) (s : Int) = true := by simp [gok]; omega
  unfold gv
  rw [if_pos hk, Int.toNat_natCast, ← ht, List.take_left]
theorem fits_lt (f s x y : Nat) (hf : f ≤ 8 * s) (hx : x ≤ lowb (f - 64)) (hy : y ≤ lowb (min f 64)) : x * 18446744073709551616 + y < 256 ^ s := by
  have e8 : (256 : Nat) ^ s = 2 ^ (8 * s) := by rw [show (256 : Nat) = 2 ^ 8 by decide, ← Nat.pow_mul]
  have hp : 2 ^ f ≤ 2 ^ (8 * s) := Nat.pow_le_pow_right (by decide) hf
  rw [e8]
  unfold lowb at *
  have p1 : 0 < 2 ^ (f - 64) := Nat.two_pow_pos _
  by_cases h : f ≤ 64
  · rw [Nat.sub_eq_zero_of_le h] at hx
    have hx0 : x = 0 := by simpa using hx
    rw [Nat.min_eq_left h] at hy
    have p2 : 0 < 2 ^ f := Nat.two_pow_pos _
    subst hx0
    omega
  · rw [Nat.min_eq_right (by omega)] at hy
    have e : 2 ^ f = 2 ^ (f - 64) * 18446744073709551616 := by
      rw [show (18446744073709551616 : Nat) = 2 ^ 64 by decide, ← Nat.pow_add, show f - 64 + 64 = f by omega]
    have h64 : (2 : Nat) ^ 64 = 18446744073709551616 := by decide
    rw [h64] at hy
    have hx' : x + 1 ≤ 2 ^ (f - 64) := by omega
    have := Nat.mul_le_mul_right 18446744073709551616 hx'
    omega
theorem bev_cons (z : Int) (l : List Int) : bev (z :: l) = z.toNat * 256 ^ l.length + bev l := by
  unfold bev
  rw [List.foldl_cons, foldl_bev]
  simp [bev]
theorem bev_inj : ∀ (l m : List Int), isB l → isB m → l.length = m.length → bev l = bev m → l = m
  | [], [], _, _, _, _ => rfl
  | [], c :: m, _, _, h, _ => by simp at h
  | a :: l, [], _, _, h, _ => by simp at h
  | a :: l, c :: m, ha, hm, hn, he => by
    have hn' : l.length = m.length := by simpa using hn
    have ha' : isB l := fun z hz => ha z (by simp [hz])
    have hm' : isB m := fun z hz => hm z (by simp [hz])
    rw [bev_cons, bev_cons, hn'] at he
    have l1 := bev_lt l ha'
    have l2 := bev_lt m hm'
    rw [hn'] at l1
    have p : 0 < 256 ^ m.length := Nat.pow_pos (by decide)
    have d1 : (a.toNat * 256 ^ m.length + bev l) / 256 ^ m.length = a.toNat := by
      rw [Nat.mul_comm, Nat.mul_add_div p, Nat.div_eq_of_lt l1, Nat.add_zero]
    have d2 : (c.toNat * 256 ^ m.length + bev m) / 256 ^ m.length = c.toNat := by
      rw [Nat.mul_comm, Nat.mul_add_div p, Nat.div_eq_of_lt l2, Nat.add_zero]
    have e1 : a.toNat = c.toNat := by rw [← d1, ← d2, he]
    rw [e1] at he
    have e2 : bev l = bev m := by omega
    have h1 := ha a (by simp)
    have h2 := hm c (by simp)
    have : a = c := by omega
    rw [this, bev_inj l m ha' hm' hn' e2]
theorem isB_half8 (x : Nat) (h : x < 18446744073709551616) : isB (half8 x) := by
  intro z hz
  simp only [half8, List.mem_cons, List.not_mem_nil, or_false] at hz
  rcases hz with rfl | rfl | rfl | rfl | rfl | rfl | rfl | rfl <;> omega
theorem isB_wtail (a b : Nat) (s : Int) (ha : a < 18446744073709551616) (hb : b < 18446744073709551616) : isB (wtail a b s) := by
  intro z hz
  have hz := List.mem_of_mem_drop hz
  rcases List.mem_append.1 hz with hz | hz
  · exact isB_half8 a ha z hz
  · exact isB_half8 b hb z hz
theorem read_put (r : List Int) (s : Nat) (hr : isB r) (hs : s ≤ 16) (hl : s ≤ r.length) : wtail (gx r (s : Int)) (gy r (s : Int)) (s : Int) = r.take s := by
  have hk : gok r (s : Int) = true := by simp [gok]; omega
  have hv : gv r (s : Int) = bev (r.take s) := by unfold gv; rw [if_pos hk, Int.toNat_natCast]
  have hlt := gv_lt r (s : Int) hr
  have hc : cl (s : Int) 16 = s := by unfold cl; omega
  have hx : gx r (s : Int) < 18446744073709551616 := by unfold gx; omega
  have hy : gy r (s : Int) < 18446744073709551616 := Nat.mod_lt _ (by decide)
  have hsum : gx r (s : Int) * 18446744073709551616 + gy r (s : Int) = bev (r.take s) := by
    rw [← hv]; unfold gx gy; omega
  have hb := bev_lt (r.take s) (isB_take hr s)
  have hlen : (r.take s).length = s := by simp; omega
  rw [hlen] at hb
  apply bev_inj
  · exact isB_wtail _ _ _ hx hy
  · exact isB_take hr s
  · rw [wtail_length, hc, hlen]
  · unfold wtail
    rw [hc, bev_tail_h _ _ s hs hx hy (by rw [hsum]; exact hb), hsum]
end
end Go.Proofs.YthhijfphfcmniaaGreat
namespace Go.Proofs.YthhijfphfcmniaaGreat
end Go.Proofs.YthhijfphfcmniaaGreat
