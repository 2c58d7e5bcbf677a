import Derived.Test.YtcffebkebldjcaaEa
import Derived.Deep.RegionHeld3
import Derived.Deep.RegionWith
import Derived.Deep.MidRow
import Derived.Deep.Cut
import Derived.WalkMore
namespace Go.Proofs.Ytcffebkebldjcaa
open Go Go.RowKit
set_option linter.unusedVariables false
set_option linter.unusedSimpArgs false

set_option maxRecDepth 100000 in
set_option maxHeartbeats 8000000 in
theorem met_any (v : Value) (L : List O6) (f : Int) (w : World) (hL : OxAt w v L) :
    Calls Try.prog 18 #[v, .int .i64 f] w fun e w' => e = .returned (.bool (metB L f)) ∧ Below w.heap.size w w' := by
  obtain ⟨s, cap, rfl, h1, h2, h3, h4⟩ := hL
  have HL := hide_ h4
  have hm : L.length ≤ 9223372036854775807 := by unfold maxLen at h2; omega
  clear h1 h2 h3 h4
  have qn := hide_ (fun w => needs_any f w)
  obtain ⟨R, hR⟩ : ∃ R, metB L f = R := ⟨_, rfl⟩
  rw [hR]
  unfold metB at hR
  have HR := hide_ hR
  clear hR
  generalize nd f = N at *
  go_enter Try.func18, Try.ntmps18
  go_wp2_with (first | go_step3 | (go_at_call 27; refine (qn.out _).mono ?_; rintro e w1 ⟨u, rfl, ⟨na, ncap, rfl, n1, n2, n3, n4⟩, b1⟩; have HN := hide_ n4; have hnm : N.length ≤ 9223372036854775807 := by unfold maxLen at n2; omega))
  clear n1 n2 n3 n4
  go_loopw [12] (fun i wr => ∃ k : Nat, k ≤ N.length ∧ i = .int .i64 k ∧ Hid ((N.take k).all (fun n => L.any (fun o => meetB o.1 o.2.1 o.2.2.1 o.2.2.2.1 n.1 n.2)) = true) ∧ Hid (Below w1.heap.size w1 wr)) (fun i _ => N.length - (intOf i).toNat)
  case atStart => exact ⟨0, Nat.zero_le _, rfl, hide_ rfl, hide_ (Below.refl _ _)⟩
  case round =>
    obtain ⟨k, hk, rfl, HT, hb⟩ := hrel
    rename World => wo
    have K1 := hide_ (b1.trans (hb.out.mono b1.size))
    by_cases hlt : k < N.length
    · obtain ⟨⟨nf, vs⟩, hp⟩ : ∃ p, N[k]? = some p := ⟨_, List.getElem?_eq_getElem hlt⟩
      obtain ⟨q, off, ua, uc, rfl, c0, c1, c2⟩ := HN.out _ _ hp
      have c0 := cell_later hb.out c0
      have c1 := cell_later hb.out c1
      have C2 := hide_ (c2.later hb.out)
      rw [← Nat.add_assoc] at c1
      dsimp only at c0 c1
      have HP := hide_ hp
      clear hp c2
      have hlt' : (k : Int) < (N.length : Int) := by omega
      have BX := hide_ (below1 wo (.cells #[.int .i64 nf, .slice ua vs.length uc] 58))
      go_wp2_with fail
      go_loopw [18] (fun i wr => ∃ j : Nat, j ≤ L.length ∧ i = .int .i64 j ∧ Hid ((L.take j).any (fun o => meetB o.1 o.2.1 o.2.2.1 o.2.2.2.1 nf vs) = false) ∧ Hid (Below (wo.alloc (.cells #[.int .i64 nf, .slice ua vs.length uc] 58)).heap.size (wo.alloc (.cells #[.int .i64 nf, .slice ua vs.length uc] 58)) wr)) (fun i _ => L.length - (intOf i).toNat)
      case atStart => exact ⟨0, Nat.zero_le _, rfl, hide_ rfl, hide_ (Below.refl _ _)⟩
      case round =>
        obtain ⟨j, hj, rfl, HJ, hx⟩ := hrel
        have KX := hide_ (BX.out.trans (hx.out.mono BX.out.size))
        have KW := hide_ (K1.out.trans (KX.out.mono K1.out.size))
        by_cases hjl : j < L.length
        · obtain ⟨⟨of, om, oa, ob, oc, od⟩, ho⟩ : ∃ p, L[j]? = some p := ⟨_, List.getElem?_eq_getElem hjl⟩
          obtain ⟨q', off', rfl, d0, d1, d2, d3, d4, d5⟩ := HL.out j of om oa ob oc od ho
          have d0 := cell_later KW.out d0
          have d1 := cell_later KW.out d1
          have d2 := cell_later KW.out d2
          have d3 := cell_later KW.out d3
          have d4 := cell_later KW.out d4
          have d5 := cell_later KW.out d5
          have HO := hide_ ho
          clear ho
          have hjl' : (j : Int) < (L.length : Int) := by omega
          have BO := hide_ (below1 wr (.cells #[.int .i64 of, .bool om, .int .u64 (oa : Int), .int .u64 (ob : Int), .int .u64 (oc : Int), .int .u64 (od : Int)] 51))
          obtain ⟨n0, n1, -⟩ := (((AB.at0 wo 58 [.int .i64 nf, .slice ua vs.length uc]).later hx.out).alloc (.cells #[.int .i64 of, .bool om, .int .u64 (oa : Int), .int .u64 (ob : Int), .int .u64 (oc : Int), .int .u64 (od : Int)] 51)).two
          have qm := hide_ (meets_any of om oa ob oc od nf vs ua uc (wr.alloc (.cells #[.int .i64 of, .bool om, .int .u64 (oa : Int), .int .u64 (ob : Int), .int .u64 (oc : Int), .int .u64 (od : Int)] 51)) ((C2.out.later KX.out).later BO.out))
          cases hmb : meetB of om oa ob nf vs
          · rw [hmb] at qm
            have HB := hide_ hmb
            clear hmb
            go_wp2_with (go_at_call 47; refine qm.out.mono ?_; rintro e w5 ⟨rfl, b5⟩)
            go_roundw
            case rel => exact ⟨j + 1, by omega, by go_num, by show _ = _; rw [List.take_add_one, HO.out, List.any_append, HJ.out]; simpa using HB.out, hide_ (hx.out.trans ((BO.out.trans (b5.mono BO.out.size)).mono hx.out.size))⟩
            case measure => simp [intOf]; omega
          · rw [hmb] at qm
            have HB := hide_ hmb
            clear hmb
            go_wp2_with (go_at_call 47; refine qm.out.mono ?_; rintro e w5 ⟨rfl, b5⟩)
            go_roundw
            case rel =>
              refine ⟨k + 1, by omega, by go_num, ?_, hide_ (hb.out.trans ((KX.out.trans ((BO.out.trans (b5.mono BO.out.size)).mono KX.out.size)).mono hb.out.size))⟩
              show _ = _
              rw [List.take_add_one, HP.out, List.all_append, HT.out]
              have : L.any (fun o => meetB o.1 o.2.1 o.2.2.1 o.2.2.2.1 nf vs) = true := by
                rw [List.any_eq_true]
                exact ⟨_, List.mem_of_getElem? HO.out, HB.out⟩
              simpa using this
            case measure => simp [intOf]; omega
        · have hjl' : ¬ (j : Int) < (L.length : Int) := by omega
          go_wp2
          go_ret
          refine ⟨?_, KW.out⟩
          have e := HJ.out
          rw [List.take_of_length_le (by omega)] at e
          rw [← HR.out]
          have : (N.all (fun n => L.any (fun o => meetB o.1 o.2.1 o.2.2.1 o.2.2.2.1 n.1 n.2))) = false := by
            rw [List.all_eq_false]
            exact ⟨_, List.mem_of_getElem? HP.out, by rw [e]; decide⟩
          rw [this]
          rfl
    · have hlt' : ¬ (k : Int) < (N.length : Int) := by omega
      go_wp2
      go_ret
      refine ⟨?_, K1.out⟩
      have e := HT.out
      rw [List.take_of_length_le (by omega)] at e
      rw [← HR.out, e]
      rfl


end Go.Proofs.Ytcffebkebldjcaa
