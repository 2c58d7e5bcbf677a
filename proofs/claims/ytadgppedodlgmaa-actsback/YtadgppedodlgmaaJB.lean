import Derived.Test.YtadgppedodlgmaaJA
import Derived.Deep.RegionHeld3
import Derived.Deep.RegionWith
import Derived.Deep.MidRow
import Derived.Deep.Cut
import Derived.Test.YtadgppedodlgmaaAf
namespace Go.Proofs.Ytadgppedodlgmaa
section
open Go Go.RowKit
set_option linter.unusedVariables false
set_option linter.unusedSimpArgs false

def ints (l : List Int) : List Value := l.map (fun z => Value.int .i64 z)
theorem ints_length (l : List Int) : (ints l).length = l.length := by simp [ints]
theorem ints_app (l m : List Int) : ints (l ++ m) = ints l ++ ints m := by simp [ints]
theorem infoI : (Try.prog.info? 3).map (fun i => (i.zero, i.size, i.bytes)) = some (some (.int .i64 0), 1, 8) := by kernel_rfl
theorem infoAc : (Try.prog.info? 46).map (fun i => (i.zero, i.size, i.bytes)) = some (some (.agg #[.int .i64 0, .int .i64 0, .int .i64 0, .int .i64 0, .int .i64 0, .int .i64 0, .bool false, .int .u64 0, .int .u64 0, .int .u64 0, .int .u64 0]), 11, 88) := by kernel_rfl
theorem infoSl : (Try.prog.info? 24).map (fun i => (i.zero, i.size, i.bytes)) = some (some (.slice none 0 0), 1, 24) := by kernel_rfl
theorem ownr_later {w w' : World} {base n size : Nat} {e : TypeId} {v : Value} {xs : List Value} (h : w.ownsRow base e size v n xs) (hb : Below w.heap.size w w') : w'.ownsRow base e size v n xs := by
  refine ⟨h.1, ?_⟩
  rcases h.2 with hn | ⟨g, cap, cur, rfl, hbg, hg, rest⟩
  · exact .inl hn
  · refine .inr ⟨g, cap, cur, rfl, hbg, ?_, rest⟩
    rw [hb.block g (Array.getElem?_eq_some_iff.1 hg).1]
    exact hg
theorem ownr_base {w : World} {base base' n size : Nat} {e : TypeId} {v : Value} {xs : List Value} (h : w.ownsRow base e size v n xs) (hb : base' ≤ base) : w.ownsRow base' e size v n xs := by
  refine ⟨h.1, ?_⟩
  rcases h.2 with hn | ⟨g, cap, cur, rfl, hbg, rest⟩
  · exact .inl hn
  · exact .inr ⟨g, cap, cur, rfl, Nat.le_trans hb hbg, rest⟩
theorem ownr_form {w : World} {base n size : Nat} {e : TypeId} {v : Value} {xs : List Value} (h : w.ownsRow base e size v n xs) : ∃ s c, v = .slice s n c := by
  rcases h.2 with ⟨rfl, rfl⟩ | ⟨g, cap, cur, rfl, _⟩
  · exact ⟨_, _, rfl⟩
  · exact ⟨_, _, rfl⟩

set_option maxRecDepth 100000 in
set_option maxHeartbeats 4000000 in
theorem pequal_any (v u : Value) (l : List Int) (w : World) (h : Cells w v 1 l.length (ints l)) (k : Cells w u 1 l.length (ints l)) :
    Calls Try.prog 13 #[v, u] w fun e w' => e = .returned (.bool true) ∧ Below w.heap.size w w' := by
  obtain ⟨a, cap, rfl⟩ : ∃ a cap, v = .slice a l.length cap := by obtain ⟨_, a, cap, e, _⟩ := h; exact ⟨a, cap, e⟩
  obtain ⟨a', cap', rfl⟩ : ∃ a cap, u = .slice a l.length cap := by obtain ⟨_, a, cap, e, _⟩ := k; exact ⟨a, cap, e⟩
  obtain ⟨_, hm, _, h4⟩ := h.at
  obtain ⟨_, _, _, k4⟩ := k.at
  clear h k
  unfold maxLen at hm
  have H := hide_ h4
  have H' := hide_ k4
  clear h4 k4
  have h1 : ((l.length : Int) != (l.length : Int)) = false := by simp
  go_enter Try.func13, Try.ntmps13
  go_wp2
  go_loopw [13] (fun i wr => ∃ k : Nat, k ≤ l.length ∧ i = .int .i64 k ∧ Hid (Below w.heap.size w wr)) (fun i _ => l.length - (intOf i).toNat)
  case atStart => exact ⟨0, Nat.zero_le _, rfl, hide_ (Below.refl _ _)⟩
  case round =>
    obtain ⟨k, hk, rfl, hb⟩ := hrel
    by_cases hlt : k < l.length
    · obtain ⟨p1, hp⟩ : ∃ p, l[k]? = some p := ⟨_, List.getElem?_eq_getElem hlt⟩
      obtain ⟨b, off, rfl, c0⟩ := H.out k (.int .i64 p1) (by simp [ints, hp])
      obtain ⟨b', off', rfl, d0⟩ := H'.out k (.int .i64 p1) (by simp [ints, hp])
      have c0 := cell_later hb.out c0
      have d0 := cell_later hb.out d0
      clear hp
      have hlt' : (k : Int) < (l.length : Int) := by omega
      have g1 : (p1 != p1) = false := by simp
      go_wp2_with fail
      go_quiet (fail)
      go_wp2
      go_roundw
      case rel => exact ⟨k + 1, by omega, by go_num, hide_ (below_drewN hb.out nq)⟩
      case measure => simp [intOf]; omega
    · have hlt' : ¬ (k : Int) < (l.length : Int) := by omega
      go_wp2
      go_ret
      exact ⟨rfl, hb.out⟩

def portsL (L : List A11) : List Int := (L.filter (fun o => decide (o.1 = 0))).map (·.2.1)
def groupsL (L : List A11) : List Int := (L.filter (fun o => decide (o.1 = 22))).map (·.2.2.2.1)
end

section
open Go Go.RowKit
set_option linter.unusedVariables false
set_option linter.unusedSimpArgs false

theorem portsL_yes (L : List A11) (k p x q y f : Int) (m : Bool) (a b c d : Nat) (h : k = 0) : portsL (L ++ [(k, p, x, q, y, f, m, a, b, c, d)]) = portsL L ++ [p] := by simp [portsL, h]
theorem portsL_no (L : List A11) (k p x q y f : Int) (m : Bool) (a b c d : Nat) (h : ¬ k = 0) : portsL (L ++ [(k, p, x, q, y, f, m, a, b, c, d)]) = portsL L := by simp [portsL, h]
theorem portsL_le (L : List A11) : (portsL L).length ≤ L.length := by unfold portsL; rw [List.length_map]; exact List.length_filter_le _ _
end

section
open Go Go.RowKit
set_option linter.unusedVariables false
set_option linter.unusedSimpArgs false

set_option maxRecDepth 100000 in
set_option maxHeartbeats 8000000 in
theorem lports_clo (k p x q y f : Int) (m : Bool) (a b c d : Nat) (w : World) :
    Calls Try.prog 33 #[.agg #[.int .i64 k, .int .i64 p, .int .i64 x, .int .i64 q, .int .i64 y, .int .i64 f, .bool m, .int .u64 (a : Int), .int .u64 (b : Int), .int .u64 (c : Int), .int .u64 (d : Int)]] w fun e w' => e = .returned (.tuple #[.int .i64 p, .bool (decide (k = 0))]) ∧ Below w.heap.size w w' := by
  have B0 := hide_ (below1 w (.cells #[.int .i64 k, .int .i64 p, .int .i64 x, .int .i64 q, .int .i64 y, .int .i64 f, .bool m, .int .u64 (a : Int), .int .u64 (b : Int), .int .u64 (c : Int), .int .u64 (d : Int)] 46))
  obtain ⟨x0, x1, x2, x3, x4, x5, x6, x7, x8, x9, x10, -⟩ := (AB.at0 w 46 [.int .i64 k, .int .i64 p, .int .i64 x, .int .i64 q, .int .i64 y, .int .i64 f, .bool m, .int .u64 (a : Int), .int .u64 (b : Int), .int .u64 (c : Int), .int .u64 (d : Int)]).eleven
  go_enter Try.func33, Try.ntmps33
  go_wp2_with fail
  go_quiet (fail)
  go_wp2_with fail
  go_ret2
  exact ⟨by simp [dbeq], below_drewN B0.out nq⟩
end

section
open Go Go.RowKit
set_option linter.unusedVariables false
set_option linter.unusedSimpArgs false

set_option maxRecDepth 100000 in
set_option maxHeartbeats 8000000 in
theorem lports_tell (v : Value) (L : List A11) (w : World) (hL : ActAt w v L) (hlen : L.length ≤ 1000000) :
    Calls Try.prog 32 #[v, (.func (.func 33) #[] #[])] w fun e w' => ∃ r, e = .returned r ∧ w'.ownsRow w.heap.size 3 1 r (portsL L).length (ints (portsL L)) ∧ Below w.heap.size w w' := by
  obtain ⟨s, cap, rfl, h1, h2, h3, h4⟩ := hL
  have HL := hide_ h4
  have hm : L.length ≤ 9223372036854775807 := by unfold maxLen at h2; omega
  clear h1 h2 h3 h4
  obtain ⟨i0, hi0, hz0, hz1, hz2⟩ := info_parts infoI
  have HI : Hid (Try.prog.info? 3 = some i0 ∧ i0.zero = some (.int .i64 0) ∧ i0.size = 1 ∧ i0.bytes = 8) := ⟨hi0, hz0, hz1, hz2⟩
  clear hi0 hz0 hz1 hz2
  go_enter Try.func32, Try.ntmps32
  go_wp2
  go_loopw [5, 12] (fun u i wr => ∃ (j : Nat) (ua : Option Addr) (uc : Nat), j ≤ L.length ∧ i = .int .i64 j ∧ u = .slice ua (portsL (L.take j)).length uc ∧ Hid (wr.ownsRow w.heap.size 3 1 (.slice ua (portsL (L.take j)).length uc) (portsL (L.take j)).length (ints (portsL (L.take j)))) ∧ Hid (Below w.heap.size w wr)) (fun _ i _ => L.length - (intOf i).toNat)
  case atStart => exact ⟨0, none, 0, Nat.zero_le _, rfl, rfl, hide_ (World.ownsRow_nil _ _ _ _), hide_ (Below.refl _ _)⟩
  case round =>
    obtain ⟨j, ua, uc, hj, rfl, rfl, HO, KB⟩ := hrel
    by_cases hlt : j < L.length
    · skip
      obtain ⟨⟨k, p, x, q, y, f, m, a, b, c, d⟩, hz⟩ : ∃ z, L[j]? = some z := ⟨_, List.getElem?_eq_getElem hlt⟩
      obtain ⟨bq, off, rfl, X0, X1, X2, X3, X4, X5, X6, X7, X8, X9, X10⟩ := act11 HL.out hz
      have X0 := cell_later KB.out X0
      have X1 := cell_later KB.out X1
      have X2 := cell_later KB.out X2
      have X3 := cell_later KB.out X3
      have X4 := cell_later KB.out X4
      have X5 := cell_later KB.out X5
      have X6 := cell_later KB.out X6
      have X7 := cell_later KB.out X7
      have X8 := cell_later KB.out X8
      have X9 := cell_later KB.out X9
      have X10 := cell_later KB.out X10
      have hz' := hide_ hz
      have hlt' : (j : Int) < (L.length : Int) := by omega
      have htk : L.take (j + 1) = L.take j ++ [(k, p, x, q, y, f, m, a, b, c, d)] := by rw [List.take_add_one, hz]; rfl
      have HTK := hide_ htk
      clear hz htk
      have BB := hide_ (below1 wr (.cells #[.int .i64 k, .int .i64 p, .int .i64 x, .int .i64 q, .int .i64 y, .int .i64 f, .bool m, .int .u64 (a : Int), .int .u64 (b : Int), .int .u64 (c : Int), .int .u64 (d : Int)] 46))
      have KA := hide_ (KB.out.trans (BB.out.mono KB.out.size))
      have qc := fun w => lports_clo k p x q y f m a b c d w
      by_cases hk : k = 0
      · rw [decide_eq_true hk] at qc
        have qc := hide_ qc
        have HK := hide_ hk
        clear hk
        go_wp2_with (first | (go_at_call 33; refine (qc.out _).mono ?_; rintro e w3 ⟨rfl, b3⟩; have j3 := BB.out.trans (b3.mono BB.out.size); have K3 := KB.out.trans (j3.mono KB.out.size)) | (at_builtin; refine wpList_append_new (.tmp 23) (.tmp 25) 31 rfl 3 i0 (.int .i64 0) 1 8 Try.underlying31 HI.out.1 HI.out.2.1 HI.out.2.2.1 HI.out.2.2.2 rfl (by decide) w.heap.size (.slice ua (portsL (L.take j)).length uc) (portsL (L.take j)).length (ints (portsL (L.take j))) (by simp [Act.eval, Act.put]) w3 (ownr_later HO.out j3) [.int .i64 p] _ rfl 1 (by simp) (by simp [Value.oneCell']) (by simp [Act.eval, Act.put]) (by simp [Region.wanted]) (by have h5 := portsL_le (L.take j); rw [List.length_take] at h5; unfold maxLen; omega) (by have h5 := portsL_le (L.take j); rw [List.length_take] at h5; omega) K3.size ?_; intro v4 w4 own4 b4))
        have own4 : w4.ownsRow w.heap.size 3 1 v4 (portsL (L.take (j + 1))).length (ints (portsL (L.take (j + 1)))) := by
          rw [HTK.out, portsL_yes _ k p x q y f m a b c d HK.out, ints_app, List.length_append]
          exact own4
        obtain ⟨ua4, uc4, e4⟩ := ownr_form own4
        subst e4
        have own4 := hide_ own4
        go_wp2
        go_roundw
        case rel => exact ⟨j + 1, ua4, uc4, by omega, by go_num, rfl, own4, hide_ (K3.trans b4)⟩
        case measure => simp [intOf]; omega
      · rw [decide_eq_false hk] at qc
        have qc := hide_ qc
        have HK := hide_ hk
        clear hk
        go_wp2_with (go_at_call 33; refine (qc.out _).mono ?_; rintro e w3 ⟨rfl, b3⟩; have j3 := BB.out.trans (b3.mono BB.out.size); have K3 := KB.out.trans (j3.mono KB.out.size))
        have own4 : w3.ownsRow w.heap.size 3 1 (.slice ua (portsL (L.take (j + 1))).length uc) (portsL (L.take (j + 1))).length (ints (portsL (L.take (j + 1)))) := by
          rw [HTK.out, portsL_no _ k p x q y f m a b c d HK.out]
          exact ownr_later HO.out j3
        have own4 := hide_ own4
        have hee : (portsL (L.take (j + 1))).length = (portsL (L.take j)).length := by rw [HTK.out, portsL_no _ k p x q y f m a b c d HK.out]
        rw [← hee]
        go_roundw
        case rel => exact ⟨j + 1, ua, uc, by omega, by go_num, rfl, own4, hide_ K3⟩
        case measure => simp [intOf]; omega
    · have hlt' : ¬ (j : Int) < (L.length : Int) := by omega
      have e := HO.out
      rw [List.take_of_length_le (by omega)] at e
      have HO := hide_ e
      clear e
      rw [List.take_of_length_le (by omega : L.length ≤ j)]
      go_wp2
      go_ret
      exact ⟨_, rfl, HO.out, KB.out⟩
end

section
open Go Go.RowKit
set_option linter.unusedVariables false
set_option linter.unusedSimpArgs false

set_option maxRecDepth 100000 in
set_option maxHeartbeats 8000000 in
theorem lports_any (v : Value) (L : List A11) (w : World) (hL : ActAt w v L) (hlen : L.length ≤ 1000000) :
    Calls Try.prog 14 #[v] w fun e w' => ∃ r, e = .returned r ∧ w'.ownsRow w.heap.size 3 1 r (portsL L).length (ints (portsL L)) ∧ Below w.heap.size w w' := by
  have q := hide_ (lports_tell v L w hL hlen)
  clear hL hlen
  go_enter Try.func14, Try.ntmps14
  go_wp2_with (go_at_call 32; refine q.out.mono ?_; rintro e w1 ⟨r, rfl, h1, b1⟩)
  go_ret
  exact ⟨_, rfl, h1, b1⟩
end

section
open Go Go.RowKit
set_option linter.unusedVariables false
set_option linter.unusedSimpArgs false

set_option maxRecDepth 100000 in
set_option maxHeartbeats 8000000 in
theorem rlports_any (v : Value) (L : List A11) (w : World) (hL : ActAt w v L) (hlen : L.length ≤ 1000000) :
    Calls Try.prog 15 #[v] w fun e w' => ∃ r, e = .returned r ∧ w'.ownsRow w.heap.size 3 1 r (portsL L).length (ints (portsL L)) ∧ Below w.heap.size w w' := by
  obtain ⟨s, cap, rfl, h1, h2, h3, h4⟩ := hL
  have HL := hide_ h4
  have hm : L.length ≤ 9223372036854775807 := by unfold maxLen at h2; omega
  clear h1 h2 h3 h4
  obtain ⟨i0, hi0, hz0, hz1, hz2⟩ := info_parts infoI
  have HI : Hid (Try.prog.info? 3 = some i0 ∧ i0.zero = some (.int .i64 0) ∧ i0.size = 1 ∧ i0.bytes = 8) := ⟨hi0, hz0, hz1, hz2⟩
  clear hi0 hz0 hz1 hz2
  go_enter Try.func15, Try.ntmps15
  go_wp2
  have BE := hide_ (below1 w (.cells #[] 3))
  have OE : Hid ((w.alloc (.cells #[] 3)).ownsRow w.heap.size 3 1 (.slice (some ⟨w.heap.size, 0, none⟩) 0 0) 0 []) := hide_ ⟨rfl, .inr ⟨w.heap.size, 0, #[], rfl, Nat.le_refl _, heap_alloc_last w _, Nat.le_refl _, by decide, rfl, rfl⟩⟩
  go_loopw [3, 4] (fun u i wr => ∃ (j : Nat) (ua : Option Addr) (uc : Nat), j ≤ L.length ∧ i = .int .i64 j ∧ u = .slice ua (portsL (L.take j)).length uc ∧ Hid (wr.ownsRow w.heap.size 3 1 (.slice ua (portsL (L.take j)).length uc) (portsL (L.take j)).length (ints (portsL (L.take j)))) ∧ Hid (Below w.heap.size w wr)) (fun _ i _ => L.length - (intOf i).toNat)
  case atStart => exact ⟨0, _, _, Nat.zero_le _, rfl, rfl, OE, BE⟩
  case round =>
    obtain ⟨j, ua, uc, hj, rfl, rfl, HO, KB⟩ := hrel
    by_cases hlt : j < L.length
    · skip
      obtain ⟨⟨k, p, x, q, y, f, m, a, b, c, d⟩, hz⟩ : ∃ z, L[j]? = some z := ⟨_, List.getElem?_eq_getElem hlt⟩
      obtain ⟨bq, off, rfl, X0, X1, X2, X3, X4, X5, X6, X7, X8, X9, X10⟩ := act11 HL.out hz
      have X0 := cell_later KB.out X0
      have X1 := cell_later KB.out X1
      have X2 := cell_later KB.out X2
      have X3 := cell_later KB.out X3
      have X4 := cell_later KB.out X4
      have X5 := cell_later KB.out X5
      have X6 := cell_later KB.out X6
      have X7 := cell_later KB.out X7
      have X8 := cell_later KB.out X8
      have X9 := cell_later KB.out X9
      have X10 := cell_later KB.out X10
      have hlt' : (j : Int) < (L.length : Int) := by omega
      have htk : L.take (j + 1) = L.take j ++ [(k, p, x, q, y, f, m, a, b, c, d)] := by rw [List.take_add_one, hz]; rfl
      have HTK := hide_ htk
      clear hz htk
      by_cases hk : k = 0
      · have g0 : (k == 0) = true := by simpa using hk
        have HK := hide_ hk
        clear hk
        go_wp2_with (at_builtin; refine wpList_append_new (.tmp 18) (.tmp 24) 31 rfl 3 i0 (.int .i64 0) 1 8 Try.underlying31 HI.out.1 HI.out.2.1 HI.out.2.2.1 HI.out.2.2.2 rfl (by decide) w.heap.size (.slice ua (portsL (L.take j)).length uc) (portsL (L.take j)).length (ints (portsL (L.take j))) (by simp [Act.eval, Act.put]) wr HO.out [.int .i64 p] _ rfl 1 (by simp) (by simp [Value.oneCell']) (by simp [Act.eval, Act.put]) (by simp [Region.wanted]) (by have h5 := portsL_le (L.take j); rw [List.length_take] at h5; unfold maxLen; omega) (by have h5 := portsL_le (L.take j); rw [List.length_take] at h5; omega) KB.out.size ?_; intro v4 w4 own4 b4)
        have own4 : w4.ownsRow w.heap.size 3 1 v4 (portsL (L.take (j + 1))).length (ints (portsL (L.take (j + 1)))) := by
          rw [HTK.out, portsL_yes _ k p x q y f m a b c d HK.out, ints_app, List.length_append]
          exact own4
        obtain ⟨ua4, uc4, e4⟩ := ownr_form own4
        subst e4
        have own4 := hide_ own4
        go_wp2
        go_roundw
        case rel => exact ⟨j + 1, ua4, uc4, by omega, by go_num, rfl, own4, hide_ (KB.out.trans b4)⟩
        case measure => simp [intOf]; omega
      · have g0 : (k == 0) = false := by simpa using hk
        have HK := hide_ hk
        clear hk
        have own4 : wr.ownsRow w.heap.size 3 1 (.slice ua (portsL (L.take (j + 1))).length uc) (portsL (L.take (j + 1))).length (ints (portsL (L.take (j + 1)))) := by
          rw [HTK.out, portsL_no _ k p x q y f m a b c d HK.out]
          exact HO.out
        have own4 := hide_ own4
        have hee : (portsL (L.take (j + 1))).length = (portsL (L.take j)).length := by rw [HTK.out, portsL_no _ k p x q y f m a b c d HK.out]
        rw [← hee]
        go_wp2_with fail
        go_roundw
        case rel => exact ⟨j + 1, ua, uc, by omega, by go_num, rfl, own4, KB⟩
        case measure => simp [intOf]; omega
    · have hlt' : ¬ (j : Int) < (L.length : Int) := by omega
      have e := HO.out
      rw [List.take_of_length_le (by omega)] at e
      have HO := hide_ e
      clear e
      rw [List.take_of_length_le (by omega : L.length ≤ j)]
      go_wp2
      go_ret
      exact ⟨_, rfl, HO.out, KB.out⟩
end

section
open Go Go.RowKit
set_option linter.unusedVariables false
set_option linter.unusedSimpArgs false

theorem groupsL_yes (L : List A11) (k p x q y f : Int) (m : Bool) (a b c d : Nat) (h : k = 22) : groupsL (L ++ [(k, p, x, q, y, f, m, a, b, c, d)]) = groupsL L ++ [q] := by simp [groupsL, h]
theorem groupsL_no (L : List A11) (k p x q y f : Int) (m : Bool) (a b c d : Nat) (h : ¬ k = 22) : groupsL (L ++ [(k, p, x, q, y, f, m, a, b, c, d)]) = groupsL L := by simp [groupsL, h]
theorem groupsL_le (L : List A11) : (groupsL L).length ≤ L.length := by unfold groupsL; rw [List.length_map]; exact List.length_filter_le _ _
end

section
open Go Go.RowKit
set_option linter.unusedVariables false
set_option linter.unusedSimpArgs false

set_option maxRecDepth 100000 in
set_option maxHeartbeats 8000000 in
theorem lgroups_clo (k p x q y f : Int) (m : Bool) (a b c d : Nat) (w : World) :
    Calls Try.prog 34 #[.agg #[.int .i64 k, .int .i64 p, .int .i64 x, .int .i64 q, .int .i64 y, .int .i64 f, .bool m, .int .u64 (a : Int), .int .u64 (b : Int), .int .u64 (c : Int), .int .u64 (d : Int)]] w fun e w' => e = .returned (.tuple #[.int .i64 q, .bool (decide (k = 22))]) ∧ Below w.heap.size w w' := by
  have B0 := hide_ (below1 w (.cells #[.int .i64 k, .int .i64 p, .int .i64 x, .int .i64 q, .int .i64 y, .int .i64 f, .bool m, .int .u64 (a : Int), .int .u64 (b : Int), .int .u64 (c : Int), .int .u64 (d : Int)] 46))
  obtain ⟨x0, x1, x2, x3, x4, x5, x6, x7, x8, x9, x10, -⟩ := (AB.at0 w 46 [.int .i64 k, .int .i64 p, .int .i64 x, .int .i64 q, .int .i64 y, .int .i64 f, .bool m, .int .u64 (a : Int), .int .u64 (b : Int), .int .u64 (c : Int), .int .u64 (d : Int)]).eleven
  go_enter Try.func34, Try.ntmps34
  go_wp2_with fail
  go_quiet (fail)
  go_wp2_with fail
  go_ret2
  exact ⟨by simp [dbeq], below_drewN B0.out nq⟩
end

section
open Go Go.RowKit
set_option linter.unusedVariables false
set_option linter.unusedSimpArgs false

set_option maxRecDepth 100000 in
set_option maxHeartbeats 8000000 in
theorem lgroups_tell (v : Value) (L : List A11) (w : World) (hL : ActAt w v L) (hlen : L.length ≤ 1000000) :
    Calls Try.prog 32 #[v, (.func (.func 34) #[] #[])] w fun e w' => ∃ r, e = .returned r ∧ w'.ownsRow w.heap.size 3 1 r (groupsL L).length (ints (groupsL L)) ∧ Below w.heap.size w w' := by
  obtain ⟨s, cap, rfl, h1, h2, h3, h4⟩ := hL
  have HL := hide_ h4
  have hm : L.length ≤ 9223372036854775807 := by unfold maxLen at h2; omega
  clear h1 h2 h3 h4
  obtain ⟨i0, hi0, hz0, hz1, hz2⟩ := info_parts infoI
  have HI : Hid (Try.prog.info? 3 = some i0 ∧ i0.zero = some (.int .i64 0) ∧ i0.size = 1 ∧ i0.bytes = 8) := ⟨hi0, hz0, hz1, hz2⟩
  clear hi0 hz0 hz1 hz2
  go_enter Try.func32, Try.ntmps32
  go_wp2
  go_loopw [5, 12] (fun u i wr => ∃ (j : Nat) (ua : Option Addr) (uc : Nat), j ≤ L.length ∧ i = .int .i64 j ∧ u = .slice ua (groupsL (L.take j)).length uc ∧ Hid (wr.ownsRow w.heap.size 3 1 (.slice ua (groupsL (L.take j)).length uc) (groupsL (L.take j)).length (ints (groupsL (L.take j)))) ∧ Hid (Below w.heap.size w wr)) (fun _ i _ => L.length - (intOf i).toNat)
  case atStart => exact ⟨0, none, 0, Nat.zero_le _, rfl, rfl, hide_ (World.ownsRow_nil _ _ _ _), hide_ (Below.refl _ _)⟩
  case round =>
    obtain ⟨j, ua, uc, hj, rfl, rfl, HO, KB⟩ := hrel
    by_cases hlt : j < L.length
    · skip
      obtain ⟨⟨k, p, x, q, y, f, m, a, b, c, d⟩, hz⟩ : ∃ z, L[j]? = some z := ⟨_, List.getElem?_eq_getElem hlt⟩
      obtain ⟨bq, off, rfl, X0, X1, X2, X3, X4, X5, X6, X7, X8, X9, X10⟩ := act11 HL.out hz
      have X0 := cell_later KB.out X0
      have X1 := cell_later KB.out X1
      have X2 := cell_later KB.out X2
      have X3 := cell_later KB.out X3
      have X4 := cell_later KB.out X4
      have X5 := cell_later KB.out X5
      have X6 := cell_later KB.out X6
      have X7 := cell_later KB.out X7
      have X8 := cell_later KB.out X8
      have X9 := cell_later KB.out X9
      have X10 := cell_later KB.out X10
      have hz' := hide_ hz
      have hlt' : (j : Int) < (L.length : Int) := by omega
      have htk : L.take (j + 1) = L.take j ++ [(k, p, x, q, y, f, m, a, b, c, d)] := by rw [List.take_add_one, hz]; rfl
      have HTK := hide_ htk
      clear hz htk
      have BB := hide_ (below1 wr (.cells #[.int .i64 k, .int .i64 p, .int .i64 x, .int .i64 q, .int .i64 y, .int .i64 f, .bool m, .int .u64 (a : Int), .int .u64 (b : Int), .int .u64 (c : Int), .int .u64 (d : Int)] 46))
      have KA := hide_ (KB.out.trans (BB.out.mono KB.out.size))
      have qc := fun w => lgroups_clo k p x q y f m a b c d w
      by_cases hk : k = 22
      · rw [decide_eq_true hk] at qc
        have qc := hide_ qc
        have HK := hide_ hk
        clear hk
        go_wp2_with (first | (go_at_call 34; refine (qc.out _).mono ?_; rintro e w3 ⟨rfl, b3⟩; have j3 := BB.out.trans (b3.mono BB.out.size); have K3 := KB.out.trans (j3.mono KB.out.size)) | (at_builtin; refine wpList_append_new (.tmp 23) (.tmp 25) 31 rfl 3 i0 (.int .i64 0) 1 8 Try.underlying31 HI.out.1 HI.out.2.1 HI.out.2.2.1 HI.out.2.2.2 rfl (by decide) w.heap.size (.slice ua (groupsL (L.take j)).length uc) (groupsL (L.take j)).length (ints (groupsL (L.take j))) (by simp [Act.eval, Act.put]) w3 (ownr_later HO.out j3) [.int .i64 q] _ rfl 1 (by simp) (by simp [Value.oneCell']) (by simp [Act.eval, Act.put]) (by simp [Region.wanted]) (by have h5 := groupsL_le (L.take j); rw [List.length_take] at h5; unfold maxLen; omega) (by have h5 := groupsL_le (L.take j); rw [List.length_take] at h5; omega) K3.size ?_; intro v4 w4 own4 b4))
        have own4 : w4.ownsRow w.heap.size 3 1 v4 (groupsL (L.take (j + 1))).length (ints (groupsL (L.take (j + 1)))) := by
          rw [HTK.out, groupsL_yes _ k p x q y f m a b c d HK.out, ints_app, List.length_append]
          exact own4
        obtain ⟨ua4, uc4, e4⟩ := ownr_form own4
        subst e4
        have own4 := hide_ own4
        go_wp2
        go_roundw
        case rel => exact ⟨j + 1, ua4, uc4, by omega, by go_num, rfl, own4, hide_ (K3.trans b4)⟩
        case measure => simp [intOf]; omega
      · rw [decide_eq_false hk] at qc
        have qc := hide_ qc
        have HK := hide_ hk
        clear hk
        go_wp2_with (go_at_call 34; refine (qc.out _).mono ?_; rintro e w3 ⟨rfl, b3⟩; have j3 := BB.out.trans (b3.mono BB.out.size); have K3 := KB.out.trans (j3.mono KB.out.size))
        have own4 : w3.ownsRow w.heap.size 3 1 (.slice ua (groupsL (L.take (j + 1))).length uc) (groupsL (L.take (j + 1))).length (ints (groupsL (L.take (j + 1)))) := by
          rw [HTK.out, groupsL_no _ k p x q y f m a b c d HK.out]
          exact ownr_later HO.out j3
        have own4 := hide_ own4
        have hee : (groupsL (L.take (j + 1))).length = (groupsL (L.take j)).length := by rw [HTK.out, groupsL_no _ k p x q y f m a b c d HK.out]
        rw [← hee]
        go_roundw
        case rel => exact ⟨j + 1, ua, uc, by omega, by go_num, rfl, own4, hide_ K3⟩
        case measure => simp [intOf]; omega
    · have hlt' : ¬ (j : Int) < (L.length : Int) := by omega
      have e := HO.out
      rw [List.take_of_length_le (by omega)] at e
      have HO := hide_ e
      clear e
      rw [List.take_of_length_le (by omega : L.length ≤ j)]
      go_wp2
      go_ret
      exact ⟨_, rfl, HO.out, KB.out⟩
end

section
open Go Go.RowKit
set_option linter.unusedVariables false
set_option linter.unusedSimpArgs false

set_option maxRecDepth 100000 in
set_option maxHeartbeats 8000000 in
theorem lgroups_any (v : Value) (L : List A11) (w : World) (hL : ActAt w v L) (hlen : L.length ≤ 1000000) :
    Calls Try.prog 16 #[v] w fun e w' => ∃ r, e = .returned r ∧ w'.ownsRow w.heap.size 3 1 r (groupsL L).length (ints (groupsL L)) ∧ Below w.heap.size w w' := by
  have q := hide_ (lgroups_tell v L w hL hlen)
  clear hL hlen
  go_enter Try.func16, Try.ntmps16
  go_wp2_with (go_at_call 32; refine q.out.mono ?_; rintro e w1 ⟨r, rfl, h1, b1⟩)
  go_ret
  exact ⟨_, rfl, h1, b1⟩
end

section
open Go Go.RowKit
set_option linter.unusedVariables false
set_option linter.unusedSimpArgs false

set_option maxRecDepth 100000 in
set_option maxHeartbeats 8000000 in
theorem rlgroups_any (v : Value) (L : List A11) (w : World) (hL : ActAt w v L) (hlen : L.length ≤ 1000000) :
    Calls Try.prog 17 #[v] w fun e w' => ∃ r, e = .returned r ∧ w'.ownsRow w.heap.size 3 1 r (groupsL L).length (ints (groupsL L)) ∧ Below w.heap.size w w' := by
  obtain ⟨s, cap, rfl, h1, h2, h3, h4⟩ := hL
  have HL := hide_ h4
  have hm : L.length ≤ 9223372036854775807 := by unfold maxLen at h2; omega
  clear h1 h2 h3 h4
  obtain ⟨i0, hi0, hz0, hz1, hz2⟩ := info_parts infoI
  have HI : Hid (Try.prog.info? 3 = some i0 ∧ i0.zero = some (.int .i64 0) ∧ i0.size = 1 ∧ i0.bytes = 8) := ⟨hi0, hz0, hz1, hz2⟩
  clear hi0 hz0 hz1 hz2
  go_enter Try.func17, Try.ntmps17
  go_wp2
  have BE := hide_ (below1 w (.cells #[] 3))
  have OE : Hid ((w.alloc (.cells #[] 3)).ownsRow w.heap.size 3 1 (.slice (some ⟨w.heap.size, 0, none⟩) 0 0) 0 []) := hide_ ⟨rfl, .inr ⟨w.heap.size, 0, #[], rfl, Nat.le_refl _, heap_alloc_last w _, Nat.le_refl _, by decide, rfl, rfl⟩⟩
  go_loopw [3, 4] (fun u i wr => ∃ (j : Nat) (ua : Option Addr) (uc : Nat), j ≤ L.length ∧ i = .int .i64 j ∧ u = .slice ua (groupsL (L.take j)).length uc ∧ Hid (wr.ownsRow w.heap.size 3 1 (.slice ua (groupsL (L.take j)).length uc) (groupsL (L.take j)).length (ints (groupsL (L.take j)))) ∧ Hid (Below w.heap.size w wr)) (fun _ i _ => L.length - (intOf i).toNat)
  case atStart => exact ⟨0, _, _, Nat.zero_le _, rfl, rfl, OE, BE⟩
  case round =>
    obtain ⟨j, ua, uc, hj, rfl, rfl, HO, KB⟩ := hrel
    by_cases hlt : j < L.length
    · skip
      obtain ⟨⟨k, p, x, q, y, f, m, a, b, c, d⟩, hz⟩ : ∃ z, L[j]? = some z := ⟨_, List.getElem?_eq_getElem hlt⟩
      obtain ⟨bq, off, rfl, X0, X1, X2, X3, X4, X5, X6, X7, X8, X9, X10⟩ := act11 HL.out hz
      have X0 := cell_later KB.out X0
      have X1 := cell_later KB.out X1
      have X2 := cell_later KB.out X2
      have X3 := cell_later KB.out X3
      have X4 := cell_later KB.out X4
      have X5 := cell_later KB.out X5
      have X6 := cell_later KB.out X6
      have X7 := cell_later KB.out X7
      have X8 := cell_later KB.out X8
      have X9 := cell_later KB.out X9
      have X10 := cell_later KB.out X10
      have hlt' : (j : Int) < (L.length : Int) := by omega
      have htk : L.take (j + 1) = L.take j ++ [(k, p, x, q, y, f, m, a, b, c, d)] := by rw [List.take_add_one, hz]; rfl
      have HTK := hide_ htk
      clear hz htk
      by_cases hk : k = 22
      · have g0 : (k == 22) = true := by simpa using hk
        have HK := hide_ hk
        clear hk
        go_wp2_with (at_builtin; refine wpList_append_new (.tmp 18) (.tmp 24) 31 rfl 3 i0 (.int .i64 0) 1 8 Try.underlying31 HI.out.1 HI.out.2.1 HI.out.2.2.1 HI.out.2.2.2 rfl (by decide) w.heap.size (.slice ua (groupsL (L.take j)).length uc) (groupsL (L.take j)).length (ints (groupsL (L.take j))) (by simp [Act.eval, Act.put]) wr HO.out [.int .i64 q] _ rfl 1 (by simp) (by simp [Value.oneCell']) (by simp [Act.eval, Act.put]) (by simp [Region.wanted]) (by have h5 := groupsL_le (L.take j); rw [List.length_take] at h5; unfold maxLen; omega) (by have h5 := groupsL_le (L.take j); rw [List.length_take] at h5; omega) KB.out.size ?_; intro v4 w4 own4 b4)
        have own4 : w4.ownsRow w.heap.size 3 1 v4 (groupsL (L.take (j + 1))).length (ints (groupsL (L.take (j + 1)))) := by
          rw [HTK.out, groupsL_yes _ k p x q y f m a b c d HK.out, ints_app, List.length_append]
          exact own4
        obtain ⟨ua4, uc4, e4⟩ := ownr_form own4
        subst e4
        have own4 := hide_ own4
        go_wp2
        go_roundw
        case rel => exact ⟨j + 1, ua4, uc4, by omega, by go_num, rfl, own4, hide_ (KB.out.trans b4)⟩
        case measure => simp [intOf]; omega
      · have g0 : (k == 22) = false := by simpa using hk
        have HK := hide_ hk
        clear hk
        have own4 : wr.ownsRow w.heap.size 3 1 (.slice ua (groupsL (L.take (j + 1))).length uc) (groupsL (L.take (j + 1))).length (ints (groupsL (L.take (j + 1)))) := by
          rw [HTK.out, groupsL_no _ k p x q y f m a b c d HK.out]
          exact HO.out
        have own4 := hide_ own4
        have hee : (groupsL (L.take (j + 1))).length = (groupsL (L.take j)).length := by rw [HTK.out, groupsL_no _ k p x q y f m a b c d HK.out]
        rw [← hee]
        go_wp2_with fail
        go_roundw
        case rel => exact ⟨j + 1, ua, uc, by omega, by go_num, rfl, own4, KB⟩
        case measure => simp [intOf]; omega
    · have hlt' : ¬ (j : Int) < (L.length : Int) := by omega
      have e := HO.out
      rw [List.take_of_length_le (by omega)] at e
      have HO := hide_ e
      clear e
      rw [List.take_of_length_le (by omega : L.length ≤ j)]
      go_wp2
      go_ret
      exact ⟨_, rfl, HO.out, KB.out⟩
end

end Go.Proofs.Ytadgppedodlgmaa
