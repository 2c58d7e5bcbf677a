import Derived.Test.YtcffebkebldjcaaPa
import Derived.Test.YtcffebkebldjcaaEa
import Derived.Test.YtcffebkebldjcaaEc
import Derived.Test.YtcffebkebldjcaaOo
import Derived.Test.YtcffebkebldjcaaOy
import Derived.Deep.RegionHeld3
import Derived.Deep.RegionWith
import Derived.Deep.MidRow
import Derived.Deep.Cut
namespace Go.Proofs.Ytcffebkebldjcaa
open Go Go.RowKit
set_option linter.unusedVariables false
set_option linter.unusedSimpArgs false

def ocl (o : O6) : List Value := [.int .i64 o.1, .bool o.2.1, .int .u64 (o.2.2.1 : Int), .int .u64 (o.2.2.2.1 : Int), .int .u64 (o.2.2.2.2.1 : Int), .int .u64 (o.2.2.2.2.2 : Int)]
def ods (L : List O6) : List Value := L.flatMap ocl
theorem ods_length (L : List O6) : (ods L).length = L.length * 6 := by
  induction L with
  | nil => rfl
  | cons o r ih => simp [ods, ocl] at ih ⊢; omega
theorem ods_at {L : List O6} {i j : Nat} {o : O6} (h : L[i]? = some o) (hj : j < 6) : (ods L)[i * 6 + j]? = (ocl o)[j]? := by
  induction L generalizing i with
  | nil => simp at h
  | cons x r ih =>
    cases i with
    | zero =>
      simp at h
      subst h
      unfold ods
      rw [List.flatMap_cons, List.getElem?_append_left (by simp [ocl]; omega)]
      simp
    | succ i =>
      have := ih (i := i) (by simpa using h)
      unfold ods at *
      rw [List.flatMap_cons, List.getElem?_append_right (by simp [ocl]; omega)]
      have e : (i + 1) * 6 + j - (ocl x).length = i * 6 + j := by simp [ocl]; omega
      rw [e]
      exact this
theorem OxAt.ofOwn {w : World} {base : Nat} {e : TypeId} {v : Value} {L : List O6} (h : w.ownsRow base e 6 v L.length (ods L)) : OxAt w v L := by
  rcases h.2 with ⟨rfl, h0⟩ | ⟨g, cap, cur, rfl, hb, hg, h1, h2, h3, h4⟩
  · have e : L = [] := List.eq_nil_of_length_eq_zero h0
    subst e
    exact OxAt.nil w
  · have hc := h.cells (g := g) rfl
    refine ⟨some ⟨g, 0, none⟩, cap, rfl, h1, h2, (fun e => by cases e), fun i f m a b c d hi => ⟨g, 0, rfl, ?_⟩⟩
    have key : ∀ j u, j < 6 → (ocl (f, m, a, b, c, d))[j]? = some u → w.cell? ⟨g, 0 + i * 6 + j, none⟩ = some u := by
      intro j u hj hu
      have := hc (i * 6 + j) u (by rw [ods_at hi hj]; exact hu)
      rw [Addr.add_lit] at this
      simpa [Nat.add_assoc] using this
    exact ⟨by have := key 0 _ (by omega) rfl; simpa using this, key 1 _ (by omega) rfl, key 2 _ (by omega) rfl, key 3 _ (by omega) rfl, key 4 _ (by omega) rfl, key 5 _ (by omega) rfl⟩
theorem ods_snoc (L : List O6) (o : O6) : ods (L ++ [o]) = ods L ++ ocl o := by simp [ods]
/-- the parts that bytes are, one behind the other -/
inductive POk : List Int → List O6 → Prop
  | nil : POk [] []
  | cons {l : List Int} {f : Int} {m : Bool} {a b c d n : Nat} {L : List O6} : decV l = .tuple #[ov f m a b c d, .int .i64 (n : Int), fv false 0 0] → rgt f m a b c d = true → 0 < n → n ≤ l.length → encL f m a b c d = l.take n → a < 18446744073709551616 → b < 18446744073709551616 → c < 18446744073709551616 → d < 18446744073709551616 → POk (l.drop n) L → POk l ((f, m, a, b, c, d) :: L)
inductive PBad : List Int → Int → Prop
  | here {l : List Int} {k : Int} : 0 < l.length → ¬ k = 0 → decV l = .tuple #[ov 0 false 0 0 0 0, .int .i64 0, fv true 4 k] → PBad l k
  | cons {l : List Int} {f : Int} {m : Bool} {a b c d n : Nat} {k : Int} : decV l = .tuple #[ov f m a b c d, .int .i64 (n : Int), fv false 0 0] → 0 < n → n ≤ l.length → PBad (l.drop n) k → PBad l k
theorem parts_all (N : Nat) : ∀ l : List Int, l.length ≤ N → isB l → (∃ L, POk l L) ∨ ∃ k, PBad l k := by
  induction N with
  | zero =>
    intro l h _
    have e : l = [] := List.eq_nil_of_length_eq_zero (by omega)
    subst e
    exact .inl ⟨[], .nil⟩
  | succ N ih =>
    intro l h hl
    cases l with
    | nil => exact .inl ⟨[], .nil⟩
    | cons x r =>
      rcases enc_dec hl with ⟨k, hk, hd⟩ | ⟨f, m, a, b, c, d, n, hd, hr, hn, he, h1, h2, h3, h4⟩
      · exact .inr ⟨k, .here (by simp) hk hd⟩
      · have hn0 : 0 < n := by
          cases n with
          | zero =>
            have e0 : (encL f m a b c d).length = 0 := by rw [he]; rfl
            simp [encL, spl_len2] at e0
          | succ n => omega
        have hlen : ((x :: r).drop n).length ≤ N := by rw [List.length_drop]; omega
        rcases ih ((x :: r).drop n) hlen (fun z hz => hl z (List.mem_of_mem_drop hz)) with ⟨L, hL⟩ | ⟨k, hk⟩
        · exact .inl ⟨_, .cons hd hr hn0 hn he h1 h2 h3 h4 hL⟩
        · exact .inr ⟨k, .cons hd hn0 hn hk⟩
def slen2 : Value → Nat | .slice _ n _ => n | _ => 0
theorem infoO : (Try.prog.info? 51).map (fun i => (i.zero, i.size, i.bytes)) = some (some (.agg #[.int .i64 0, .bool false, .int .u64 0, .int .u64 0, .int .u64 0, .int .u64 0]), 6, 48) := by kernel_rfl

theorem own6_later {w w' : World} {base n size : Nat} {e : TypeId} {v : Value} {xs : List Value} (h : w.ownsRow base e size v n xs) (hb : Below w.heap.size w w') : w'.ownsRow base e size v n xs := by
  refine ⟨h.1, ?_⟩
  rcases h.2 with hn | ⟨g, cap, cur, rfl, hbg, hg, rest⟩
  · exact .inl hn
  · refine .inr ⟨g, cap, cur, rfl, hbg, ?_, rest⟩
    rw [hb.block g (Array.getElem?_eq_some_iff.1 hg).1]
    exact hg
theorem own6_base {w : World} {base base' n size : Nat} {e : TypeId} {v : Value} {xs : List Value} (h : w.ownsRow base e size v n xs) (hb : base' ≤ base) : w.ownsRow base' e size v n xs := by
  refine ⟨h.1, ?_⟩
  rcases h.2 with hn | ⟨g, cap, cur, rfl, hbg, rest⟩
  · exact .inl hn
  · exact .inr ⟨g, cap, cur, rfl, Nat.le_trans hb hbg, rest⟩
theorem oxfar3 {w : World} {base g : Nat} {v : Value} {L : List O6} (ho : w.ownsRow base 51 6 v L.length (ods L)) (hg : g < base) : ∀ x y z : Value, (((w.setCell ⟨g, 0, none⟩ x).setCell ⟨g, 1, none⟩ y).setCell ⟨g, 2, none⟩ z).ownsRow base 51 6 v L.length (ods L) := by
  intro x y z
  refine ⟨ho.1, ?_⟩
  rcases ho.2 with hn | ⟨g', cap, cur, rfl, hb, hgg, rest⟩
  · exact .inl hn
  · refine .inr ⟨g', cap, cur, rfl, hb, ?_, rest⟩
    have far : ∀ (w : World) (j : Nat) (u : Value), (w.setCell ⟨g, j, none⟩ u).heap[g']? = w.heap[g']? := fun w j u => Below.heap_setCell w _ u g' (by show g' ≠ g; omega)
    rw [far, far, far]
    exact hgg

set_option maxRecDepth 100000 in
set_option maxHeartbeats 8000000 in
theorem rp_ok (v : Value) (l0 : List Int) (L : List O6) (w : World) (hB : Bytes w v l0) (hlen : l0.length ≤ 100000) (hP : POk l0 L) :
    Calls Try.prog 51 #[v] w fun e w' => (∃ r, e = .returned (.tuple #[r, .agg #[.bool false, .int .i64 0, .int .i64 0]]) ∧ w'.ownsRow w.heap.size 51 6 r L.length (ods L)) ∧ Below w.heap.size w w' := by
  have F0 := hide_ (AB.at0 w 30 [.bool false, .int .i64 0, .int .i64 0])
  have B0 := hide_ (below1 w (.cells #[.bool false, .int .i64 0, .int .i64 0] 30))
  obtain ⟨ao0, cap0, rfl, hbr⟩ := hB
  have hB : Bytes w (.slice ao0 l0.length cap0) l0 := ⟨ao0, cap0, rfl, hbr⟩
  have HB0 := hide_ (hB.later B0.out)
  clear hB hbr
  obtain ⟨i0, hi0, hz0, hz1, hz2⟩ := info_parts infoO
  have HI : Hid (Try.prog.info? 51 = some i0 ∧ i0.zero = some (.agg #[.int .i64 0, .bool false, .int .u64 0, .int .u64 0, .int .u64 0, .int .u64 0]) ∧ i0.size = 6 ∧ i0.bytes = 48) := ⟨hi0, hz0, hz1, hz2⟩
  clear hi0 hz0 hz1 hz2
  have HP := hide_ hP
  clear hP
  go_enter Try.func51, Try.ntmps51
  go_wp2
  go_loopw [0, 4] (fun b u wr => ∃ (ao : Option Addr) (n cap : Nat) (ua : Option Addr) (uc : Nat) (l : List Int) (pre : List O6) (R : List O6), b = .slice ao n cap ∧ u = .slice ua pre.length uc ∧ n = l.length ∧ pre.length + n ≤ 100000 ∧ Hid (Bytes (w.alloc (.cells #[.bool false, .int .i64 0, .int .i64 0] 30)) (.slice ao n cap) l) ∧ Hid (wr.ownsRow (w.alloc (.cells #[.bool false, .int .i64 0, .int .i64 0] 30)).heap.size 51 6 (.slice ua pre.length uc) pre.length (ods pre)) ∧ Hid (POk l R ∧ pre ++ R = L) ∧ Hid (Below (w.alloc (.cells #[.bool false, .int .i64 0, .int .i64 0] 30)).heap.size (w.alloc (.cells #[.bool false, .int .i64 0, .int .i64 0] 30)) wr)) (fun b _ _ => slen2 b)
  case atStart => exact ⟨ao0, l0.length, cap0, none, 0, l0, [], L, rfl, rfl, rfl, by simp; omega, HB0, hide_ (World.ownsRow_nil _ _ _ _), hide_ ⟨HP.out, rfl⟩, hide_ (Below.refl _ _)⟩
  case round =>
    obtain ⟨ao, n, cap, ua, uc, l, pre, R, rfl, rfl, rfl, hsum, HBy, HOw, HPP, KB⟩ := hrel
    have qd := odec_any _ l wr (HBy.out.later KB.out)
    obtain ⟨hpo, hpre⟩ := HPP.out
    clear HPP
    cases hpo with
    | nil =>
      obtain ⟨s0, s1, s2, s3, s4, s5⟩ := (F0.out.later KB.out).three
      obtain ⟨u0, u1, u2, -⟩ := ((F0.out.later KB.out).set3 (.bool false) (.int .i64 0) (.int .i64 0)).three
      have bb := below_set3 (g := w.heap.size) (B0.out.trans (KB.out.mono B0.out.size)) (Nat.le_refl _) (.bool false) (.int .i64 0) (.int .i64 0)
      have hpr : pre = L := by simpa using hpre
      have hne : w.heap.size < (w.alloc (.cells #[.bool false, .int .i64 0, .int .i64 0] 30)).heap.size := by simp
      have HX := hide_ (oxfar3 HOw.out hne)
      clear qd hpre
      go_wp2
      refine bodyPost_ret (v := .tuple #[.slice ua pre.length uc, .agg #[.bool false, .int .i64 0, .int .i64 0]]) (by simp [results, Try.results51, go_sem, u0, u1, u2]) rfl ⟨⟨_, rfl, ?_⟩, bb⟩
      rw [← hpr]
      exact own6_base (HX.out _ _ _) (by simp)
    | @cons _ f m a b c d nn RR hd hr h0 hle he g1 g2 g3 g4 hrest =>
      rw [hd] at qd
      unfold ov fv at qd
      have qd := hide_ qd
      obtain ⟨ao2, -, s2, b2⟩ := bytes_slice HBy.out nn hle
      have HB2 := hide_ b2
      clear b2 hd
      have gpos : (0 : Int) < (l.length : Int) := by omega
      go_wp2_with (first | (go_at_call 85; refine (qd.out).mono ?_; rintro e w3 ⟨rfl, b3⟩; have j3 : Below wr.heap.size wr ((w3.alloc (.cells #[.int .i64 f, .bool m, .int .u64 (a : Int), .int .u64 (b : Int), .int .u64 (c : Int), .int .u64 (d : Int)] 51)).alloc (.cells #[.bool false, .int .i64 0, .int .i64 0] 30)) := b3.trans ((below2 w3 _ _).mono b3.size); have K3 := KB.out.trans (j3.mono KB.out.size); obtain ⟨o0, o1, o2, o3, o4, o5, -⟩ := ((AB.at0 w3 51 [.int .i64 f, .bool m, .int .u64 (a : Int), .int .u64 (b : Int), .int .u64 (c : Int), .int .u64 (d : Int)]).alloc (.cells #[.bool false, .int .i64 0, .int .i64 0] 30)).six; obtain ⟨f0, f1, f2, -⟩ := (AB.at1 w3 (.cells #[.int .i64 f, .bool m, .int .u64 (a : Int), .int .u64 (b : Int), .int .u64 (c : Int), .int .u64 (d : Int)] 51) 30 [.bool false, .int .i64 0, .int .i64 0]).three) | (at_builtin; refine wpList_append_new (.tmp 20) (.tmp 22) 22 rfl 51 i0 (.agg #[.int .i64 0, .bool false, .int .u64 0, .int .u64 0, .int .u64 0, .int .u64 0]) 6 48 Try.underlying22 HI.out.1 HI.out.2.1 HI.out.2.2.1 HI.out.2.2.2 rfl (by decide) (w.alloc (.cells #[.bool false, .int .i64 0, .int .i64 0] 30)).heap.size (.slice ua pre.length uc) pre.length (ods pre) (by simp [Act.eval, Act.put]) ((w3.alloc (.cells #[.int .i64 f, .bool m, .int .u64 (a : Int), .int .u64 (b : Int), .int .u64 (c : Int), .int .u64 (d : Int)] 51)).alloc (.cells #[.bool false, .int .i64 0, .int .i64 0] 30)) (own6_later HOw.out j3) [.int .i64 f, .bool m, .int .u64 (a : Int), .int .u64 (b : Int), .int .u64 (c : Int), .int .u64 (d : Int)] _ rfl 1 (by simp) (by simp [Value.oneCell']) (by simp [Act.eval, Act.put]) (by simp [Region.wanted]) (by unfold maxLen; omega) (by omega) K3.size ?_; intro v4 w4 own4 b4))
      have own4 : w4.ownsRow (w.alloc (.cells #[.bool false, .int .i64 0, .int .i64 0] 30)).heap.size 51 6 v4 (pre ++ [(f, m, a, b, c, d)]).length (ods (pre ++ [(f, m, a, b, c, d)])) := by
        rw [ods_snoc, List.length_append]
        exact own4
      obtain ⟨ua4, uc4, e4⟩ : ∃ ua4 uc4, v4 = .slice ua4 (pre ++ [(f, m, a, b, c, d)]).length uc4 := by
        rcases own4.2 with ⟨_, h0⟩ | ⟨g, cp, cur, rfl, _⟩
        · simp at h0
        · exact ⟨_, _, rfl⟩
      subst e4
      have own4 := hide_ own4
      go_wp2
      go_roundw
      case rel => exact ⟨ao2, l.length - nn, cap - nn, ua4, uc4, l.drop nn, pre ++ [(f, m, a, b, c, d)], RR, rfl, rfl, by rw [List.length_drop], by simp; omega, HB2, own4, hide_ ⟨hrest, by rw [← hpre]; simp⟩, hide_ (K3.trans b4)⟩
      case measure => simp [slen2]; omega

set_option maxRecDepth 100000 in
set_option maxHeartbeats 8000000 in
theorem rp_bad (v : Value) (l0 : List Int) (k : Int) (w : World) (hB : Bytes w v l0) (hlen : l0.length ≤ 100000) (hP : PBad l0 k) :
    Calls Try.prog 51 #[v] w fun e w' => e = .returned (.tuple #[.slice none 0 0, .agg #[.bool true, .int .i64 4, .int .i64 k]]) ∧ Below w.heap.size w w' := by
  have F0 := hide_ (AB.at0 w 30 [.bool false, .int .i64 0, .int .i64 0])
  have B0 := hide_ (below1 w (.cells #[.bool false, .int .i64 0, .int .i64 0] 30))
  obtain ⟨ao0, cap0, rfl, hbr⟩ := hB
  have hB : Bytes w (.slice ao0 l0.length cap0) l0 := ⟨ao0, cap0, rfl, hbr⟩
  have HB0 := hide_ (hB.later B0.out)
  clear hB hbr
  obtain ⟨i0, hi0, hz0, hz1, hz2⟩ := info_parts infoO
  have HI : Hid (Try.prog.info? 51 = some i0 ∧ i0.zero = some (.agg #[.int .i64 0, .bool false, .int .u64 0, .int .u64 0, .int .u64 0, .int .u64 0]) ∧ i0.size = 6 ∧ i0.bytes = 48) := ⟨hi0, hz0, hz1, hz2⟩
  clear hi0 hz0 hz1 hz2
  have HP := hide_ hP
  clear hP
  go_enter Try.func51, Try.ntmps51
  go_wp2
  go_loopw [0, 4] (fun b u wr => ∃ (ao : Option Addr) (n cap : Nat) (ua : Option Addr) (uc : Nat) (l : List Int) (pre : List O6), b = .slice ao n cap ∧ u = .slice ua pre.length uc ∧ n = l.length ∧ pre.length + n ≤ 100000 ∧ Hid (Bytes (w.alloc (.cells #[.bool false, .int .i64 0, .int .i64 0] 30)) (.slice ao n cap) l) ∧ Hid (wr.ownsRow (w.alloc (.cells #[.bool false, .int .i64 0, .int .i64 0] 30)).heap.size 51 6 (.slice ua pre.length uc) pre.length (ods pre)) ∧ Hid (PBad l k) ∧ Hid (Below (w.alloc (.cells #[.bool false, .int .i64 0, .int .i64 0] 30)).heap.size (w.alloc (.cells #[.bool false, .int .i64 0, .int .i64 0] 30)) wr)) (fun b _ _ => slen2 b)
  case atStart => exact ⟨ao0, l0.length, cap0, none, 0, l0, [], rfl, rfl, rfl, by simp; omega, HB0, hide_ (World.ownsRow_nil _ _ _ _), HP, hide_ (Below.refl _ _)⟩
  case round =>
    obtain ⟨ao, n, cap, ua, uc, l, pre, rfl, rfl, rfl, hsum, HBy, HOw, HPP, KB⟩ := hrel
    have qd := odec_any _ l wr (HBy.out.later KB.out)
    have hpo := HPP.out
    clear HPP
    cases hpo with
    | here h0 hk hd =>
      rw [hd] at qd
      unfold ov fv at qd
      have qd := hide_ qd
      clear hd
      have gpos : (0 : Int) < (l.length : Int) := by omega
      go_upto_region 5 with (first | (go_at_call 85; refine (qd.out).mono ?_; rintro e w3 ⟨rfl, b3⟩; have j3 : Below wr.heap.size wr ((w3.alloc (.cells #[.int .i64 0, .bool false, .int .u64 0, .int .u64 0, .int .u64 0, .int .u64 0] 51)).alloc (.cells #[.bool true, .int .i64 4, .int .i64 k] 30)) := b3.trans ((below2 w3 _ _).mono b3.size); have K3 := KB.out.trans (j3.mono KB.out.size); obtain ⟨o0, o1, o2, o3, o4, o5, -⟩ := ((AB.at0 w3 51 [.int .i64 0, .bool false, .int .u64 0, .int .u64 0, .int .u64 0, .int .u64 0]).alloc (.cells #[.bool true, .int .i64 4, .int .i64 k] 30)).six; obtain ⟨f0, f1, f2, -⟩ := (AB.at1 w3 (.cells #[.int .i64 0, .bool false, .int .u64 0, .int .u64 0, .int .u64 0, .int .u64 0] 51) 30 [.bool true, .int .i64 4, .int .i64 k]).three))
      have BX := B0.out.trans (K3.mono B0.out.size)
      have hgw : w.heap.size < w3.heap.size := Nat.lt_of_lt_of_le (Nat.lt_of_lt_of_le (by simp) KB.out.size) b3.size
      have FD := F0.out.later K3
      generalize ((w3.alloc (.cells #[.int .i64 0, .bool false, .int .u64 0, .int .u64 0, .int .u64 0, .int .u64 0] 51)).alloc (.cells #[.bool true, .int .i64 4, .int .i64 k] 30)) = X at *
      have FD : AB X.drew w.heap.size 30 [.bool false, .int .i64 0, .int .i64 0] := FD
      obtain ⟨s0, s1, s2, s3, s4, s5⟩ := FD.three
      obtain ⟨u0, u1, u2, -⟩ := (FD.set3 (.bool true) (.int .i64 4) (.int .i64 k)).three
      clear FD
      refine wp_region_held_drew (S := (fun w' => w'.cell? ⟨w3.heap.size + 1, 0, none⟩ = some (.bool true) ∧ w'.cell? ⟨w3.heap.size + 1, 1, none⟩ = some (.int .i64 4) ∧ w'.cell? ⟨w3.heap.size + 1, 2, none⟩ = some (.int .i64 k) ∧ Below w.heap.size w w')) (by kernel_rfl) (⟨f0, f1, f2, BX.drew⟩) (fun hHeld => ?_)
      generalize X.drew = D at *
      refine takeR (i := 0) (v := ?_) rfl (by kernel_rfl) (by kernel_rfl) (by kernel_rfl) (some 19) rfl (Or.inl ⟨by rfl, ?_⟩) (fun _ _ _ h => h) (by assumption) ?_
      rotate_left
      · intro w hSw; (try dsimp only at hSw); go_simp; (try with_reducible rfl)
      simp only [Act.put, List.setIfInBounds_toArray, List.set_cons_zero, List.set_cons_succ]
      refine takeR (i := 1) (v := ?_) rfl (by kernel_rfl) (by kernel_rfl) (by kernel_rfl) (some 2) rfl (Or.inl ⟨by rfl, ?_⟩) (fun _ _ _ h => h) (by assumption) ?_
      rotate_left
      · intro w hSw; (try dsimp only at hSw); go_simp; (try with_reducible rfl)
      simp only [Act.put, List.setIfInBounds_toArray, List.set_cons_zero, List.set_cons_succ]
      refine wpAnyH_ready (rs := [2]) (by kernel_rfl) (by simp) ?_
      refine AllReadyH.cons rfl (fun K hK => ?_) (AllReadyH.nil)
      go_simp
      refine hK.out _ _ (kW3_3 hHeld (by omega) (by dsimp only; omega) (by dsimp only; omega) (by dsimp only; omega)) (fun hHeld => ?_)
      clear hK K
      try simp only [Act.put, List.setIfInBounds_toArray, List.set_cons_zero, List.set_cons_succ]
      refine wpAnyH_done (by kernel_rfl) ?_ _
      go_wp2_with fail
      exact bodyPost_ret (v := .tuple #[.slice none 0 0, .agg #[.bool true, .int .i64 4, .int .i64 k]]) (by simp [results, Try.results51, go_sem, u0, u1, u2]) rfl ⟨rfl, hHeld.2.2.2⟩
    | @cons _ f m a b c d nn _ hd h0 hle hrest =>
      rw [hd] at qd
      unfold ov fv at qd
      have qd := hide_ qd
      obtain ⟨ao2, -, s2, b2⟩ := bytes_slice HBy.out nn hle
      have HB2 := hide_ b2
      clear b2 hd
      have gpos : (0 : Int) < (l.length : Int) := by omega
      go_wp2_with (first | (go_at_call 85; refine (qd.out).mono ?_; rintro e w3 ⟨rfl, b3⟩; have j3 : Below wr.heap.size wr ((w3.alloc (.cells #[.int .i64 f, .bool m, .int .u64 (a : Int), .int .u64 (b : Int), .int .u64 (c : Int), .int .u64 (d : Int)] 51)).alloc (.cells #[.bool false, .int .i64 0, .int .i64 0] 30)) := b3.trans ((below2 w3 _ _).mono b3.size); have K3 := KB.out.trans (j3.mono KB.out.size); obtain ⟨o0, o1, o2, o3, o4, o5, -⟩ := ((AB.at0 w3 51 [.int .i64 f, .bool m, .int .u64 (a : Int), .int .u64 (b : Int), .int .u64 (c : Int), .int .u64 (d : Int)]).alloc (.cells #[.bool false, .int .i64 0, .int .i64 0] 30)).six; obtain ⟨f0, f1, f2, -⟩ := (AB.at1 w3 (.cells #[.int .i64 f, .bool m, .int .u64 (a : Int), .int .u64 (b : Int), .int .u64 (c : Int), .int .u64 (d : Int)] 51) 30 [.bool false, .int .i64 0, .int .i64 0]).three) | (at_builtin; refine wpList_append_new (.tmp 20) (.tmp 22) 22 rfl 51 i0 (.agg #[.int .i64 0, .bool false, .int .u64 0, .int .u64 0, .int .u64 0, .int .u64 0]) 6 48 Try.underlying22 HI.out.1 HI.out.2.1 HI.out.2.2.1 HI.out.2.2.2 rfl (by decide) (w.alloc (.cells #[.bool false, .int .i64 0, .int .i64 0] 30)).heap.size (.slice ua pre.length uc) pre.length (ods pre) (by simp [Act.eval, Act.put]) ((w3.alloc (.cells #[.int .i64 f, .bool m, .int .u64 (a : Int), .int .u64 (b : Int), .int .u64 (c : Int), .int .u64 (d : Int)] 51)).alloc (.cells #[.bool false, .int .i64 0, .int .i64 0] 30)) (own6_later HOw.out j3) [.int .i64 f, .bool m, .int .u64 (a : Int), .int .u64 (b : Int), .int .u64 (c : Int), .int .u64 (d : Int)] _ rfl 1 (by simp) (by simp [Value.oneCell']) (by simp [Act.eval, Act.put]) (by simp [Region.wanted]) (by unfold maxLen; omega) (by omega) K3.size ?_; intro v4 w4 own4 b4))
      have own4 : w4.ownsRow (w.alloc (.cells #[.bool false, .int .i64 0, .int .i64 0] 30)).heap.size 51 6 v4 (pre ++ [(f, m, a, b, c, d)]).length (ods (pre ++ [(f, m, a, b, c, d)])) := by
        rw [ods_snoc, List.length_append]
        exact own4
      obtain ⟨ua4, uc4, e4⟩ : ∃ ua4 uc4, v4 = .slice ua4 (pre ++ [(f, m, a, b, c, d)]).length uc4 := by
        rcases own4.2 with ⟨_, h0⟩ | ⟨g, cp, cur, rfl, _⟩
        · simp at h0
        · exact ⟨_, _, rfl⟩
      subst e4
      have own4 := hide_ own4
      go_wp2
      go_roundw
      case rel => exact ⟨ao2, l.length - nn, cap - nn, ua4, uc4, l.drop nn, pre ++ [(f, m, a, b, c, d)], rfl, rfl, by rw [List.length_drop], by simp; omega, HB2, own4, hide_ hrest, hide_ (K3.trans b4)⟩
      case measure => simp [slen2]; omega


end Go.Proofs.Ytcffebkebldjcaa
