import Derived.Test.YthhijfphfcmniaaGreatNLCe
import Derived.Test.YthhijfphfcmniaaGreatSBe
import Derived.Deep.RegionHeld3
import Derived.Deep.RegionWith
import Derived.Deep.MidRow
import Derived.Deep.Cut
set_option maxRecDepth 100000
set_option maxHeartbeats 8000000
set_option linter.unusedVariables false
set_option linter.unusedSimpArgs false
set_option linter.defProp false
namespace Go.Proofs.YthhijfphfcmniaaGreat
section
open Go Go.RowKit
def psde0 (w : World) := h_ (below1 w (.cells #[.int .i64 0, .int .i64 0, .int .u64 0, .int .u64 0, .int .u64 0, .int .u64 0, .slice none 0 0] 34))
def psde1 (w : World) := h_ (AB.at0 w 34 [.int .i64 0, .int .i64 0, .int .u64 0, .int .u64 0, .int .u64 0, .int .u64 0, .slice none 0 0])
def psde2 (w : World) := h_ (show w.heap.size + 1 ≤ ((w.alloc (.cells #[.bool false, .int .i64 0, .int .i64 0] 44)).alloc (.cells #[] 34)).heap.size by simp)
end
open Go Go.RowKit
theorem rof_none (v : Value) (L : List I6) (kind : Int) (w : World) (hL : InstAt w v L) (hn : ∀ x ∈ L, ¬ x.1 = kind) :
    Calls Tryz.prog 12 #[v, .int .i64 kind] w fun e w' => (e = .returned (.tuple #[.agg #[.int .i64 0, .int .i64 0, .int .u64 0, .int .u64 0, .int .u64 0, .int .u64 0, .slice none 0 0], .bool false])) ∧ Below w.heap.size w w' := by
  obtain ⟨s, cap, rfl, h1, h2, h3, h4⟩ := hL
  have B0 := psde0 w
  have R0 := psde1 w
  have HL := h_ h4
  have HN := h_ hn
  skip
  skip
  have hm : L.length ≤ 9223372036854775807 := by unfold maxLen at h2; omega
  clear h1 h2 h3 h4 hn
  go_enter Tryz.func12, Tryz.ntmps12
  go_wp2
  go_loopw [6] (fun i wr => ∃ j : Nat, j ≤ L.length ∧ i = .int .i64 (j : Int) ∧ Hid (AB wr w.heap.size 34 [.int .i64 0, .int .i64 0, .int .u64 0, .int .u64 0, .int .u64 0, .int .u64 0, .slice none 0 0]) ∧ Hid (Below w.heap.size w wr)) (fun i _ => L.length - (intOf i).toNat)
  case atStart => exact ⟨0, Nat.zero_le _, rfl, R0, B0⟩
  case round =>
    obtain ⟨j, hj, rfl, HR, HK⟩ := hrel
    by_cases hlt : j < L.length
    · have hlt' : (j : Int) < (L.length : Int) := by omega
      obtain ⟨⟨k1, t1, ⟨a1, b1⟩, ⟨c1, d1⟩, M1⟩, hz1⟩ : ∃ z, L[j]? = some z := ⟨_, List.getElem?_eq_getElem hlt⟩
      obtain ⟨bq1, off1, u1, rfl, X0, X1, X2, X3, X4, X5, X6, M1A⟩ := HL.out j _ hz1
      have X0 := cell_later HK.out X0
      have X1 := cell_later HK.out X1
      have X2 := cell_later HK.out X2
      have X3 := cell_later HK.out X3
      have X4 := cell_later HK.out X4
      have X5 := cell_later HK.out X5
      have X6 := cell_later HK.out X6
      obtain ⟨su1, cu1, eu1, -⟩ := id M1A
      subst eu1
      have HX := h_ hz1
      clear hz1 M1A
      have hk : (k1 == kind) = false := by have h1 := HN.out _ (List.mem_of_getElem? HX.out); simpa using h1
      go_wp2
      go_roundw
      case rel => exact ⟨j + 1, by omega, by go_num, HR, HK⟩
      case measure => simp [intOf]; omega
    · have hlt' : ¬ (j : Int) < (L.length : Int) := by omega
      obtain ⟨s0, s1, s2, s3, s4, s5, s6, s7, s8, s9, s10, s11, s12, s13⟩ := HR.out.k7
      obtain ⟨u0, u1, u2, u3, u4, u5, u6, -⟩ := (HR.out.set7 (.int .i64 0) (.int .i64 0) (.int .u64 0) (.int .u64 0) (.int .u64 0) (.int .u64 0) (.slice none 0 0)).k7
      have bb := below_set7 (n := w.heap.size) HK.out (Nat.le_refl _) (.int .i64 0) (.int .i64 0) (.int .u64 0) (.int .u64 0) (.int .u64 0) (.int .u64 0) (.slice none 0 0)
      go_wp2
      exact bodyPost_ret (v := .tuple #[.agg #[.int .i64 0, .int .i64 0, .int .u64 0, .int .u64 0, .int .u64 0, .int .u64 0, .slice none 0 0], .bool false]) (by simp [results, Tryz.results12, go_sem, u0, u1, u2, u3, u4, u5, u6]) rfl ⟨rfl, bb⟩
theorem rof_some (v : Value) (L : List I6) (kind : Int) (w : World) (hL : InstAt w v L) (J : Nat) (o : I6) (hjo : L[J]? = some o ∧ o.1 = kind) (hn : ∀ (i : Nat) (x : I6), i < J → L[i]? = some x → ¬ x.1 = kind) :
    Calls Tryz.prog 12 #[v, .int .i64 kind] w fun e w' => (∃ k1 t1 a1 b1 c1 d1 su nu cu, e = .returned (.tuple #[.agg #[.int .i64 k1, .int .i64 t1, .int .u64 a1, .int .u64 b1, .int .u64 c1, .int .u64 d1, .slice su nu cu], .bool true])) ∧ Below w.heap.size w w' := by
  obtain ⟨s, cap, rfl, h1, h2, h3, h4⟩ := hL
  have B0 := psde0 w
  have R0 := psde1 w
  have HL := h_ h4
  have HN := h_ hn
  have HJ := h_ hjo
  have hJl := (List.getElem?_eq_some_iff.1 hjo.1).1
  have hm : L.length ≤ 9223372036854775807 := by unfold maxLen at h2; omega
  clear h1 h2 h3 h4 hn hjo
  go_enter Tryz.func12, Tryz.ntmps12
  go_wp2
  go_loopw [6] (fun i wr => ∃ j : Nat, j ≤ J ∧ i = .int .i64 (j : Int) ∧ Hid (AB wr w.heap.size 34 [.int .i64 0, .int .i64 0, .int .u64 0, .int .u64 0, .int .u64 0, .int .u64 0, .slice none 0 0]) ∧ Hid (Below w.heap.size w wr)) (fun i _ => L.length - (intOf i).toNat)
  case atStart => exact ⟨0, Nat.zero_le _, rfl, R0, B0⟩
  case round =>
    obtain ⟨j, hj, rfl, HR, HK⟩ := hrel
    by_cases hlt : j < L.length
    · have hlt' : (j : Int) < (L.length : Int) := by omega
      obtain ⟨⟨k1, t1, ⟨a1, b1⟩, ⟨c1, d1⟩, M1⟩, hz1⟩ : ∃ z, L[j]? = some z := ⟨_, List.getElem?_eq_getElem hlt⟩
      obtain ⟨bq1, off1, u1, rfl, X0, X1, X2, X3, X4, X5, X6, M1A⟩ := HL.out j _ hz1
      have X0 := cell_later HK.out X0
      have X1 := cell_later HK.out X1
      have X2 := cell_later HK.out X2
      have X3 := cell_later HK.out X3
      have X4 := cell_later HK.out X4
      have X5 := cell_later HK.out X5
      have X6 := cell_later HK.out X6
      obtain ⟨su1, cu1, eu1, -⟩ := id M1A
      subst eu1
      have HX := h_ hz1
      clear hz1 M1A
      by_cases he : j = J
      · have hk : (k1 == kind) = true := by have h1 := HX.out; rw [he, HJ.out.1] at h1; have h2 := HJ.out.2; cases h1; simpa using h2
        have HE9 := h_ he
        clear he
        obtain ⟨s0, s1, s2, s3, s4, s5, s6, s7, s8, s9, s10, s11, s12, s13⟩ := HR.out.k7
        obtain ⟨u0, u1_, u2, u3, u4, u5, u6, -⟩ := (HR.out.set7 (.int .i64 k1) (.int .i64 t1) (.int .u64 (a1 : Int)) (.int .u64 (b1 : Int)) (.int .u64 (c1 : Int)) (.int .u64 (d1 : Int)) (.slice su1 M1.length cu1)).k7
        have bb := below_set7 (n := w.heap.size) HK.out (Nat.le_refl _) (.int .i64 k1) (.int .i64 t1) (.int .u64 (a1 : Int)) (.int .u64 (b1 : Int)) (.int .u64 (c1 : Int)) (.int .u64 (d1 : Int)) (.slice su1 M1.length cu1)
        go_wp2
        exact bodyPost_ret (v := .tuple #[.agg #[.int .i64 k1, .int .i64 t1, .int .u64 (a1 : Int), .int .u64 (b1 : Int), .int .u64 (c1 : Int), .int .u64 (d1 : Int), .slice su1 M1.length cu1], .bool true]) (by simp [results, Tryz.results12, go_sem, u0, u1_, u2, u3, u4, u5, u6]) rfl ⟨⟨_, _, _, _, _, _, _, _, _, rfl⟩, bb⟩
      · have hk : (k1 == kind) = false := by have h1 := HN.out j _ (by omega) HX.out; simpa using h1
        go_wp2
        go_roundw
        case rel => exact ⟨j + 1, by omega, by go_num, HR, HK⟩
        case measure => simp [intOf]; omega
    · exfalso; omega
end Go.Proofs.YthhijfphfcmniaaGreat
namespace Go.Proofs.YthhijfphfcmniaaGreat
open Go Go.RowKit
theorem be2_drop (l : List Int) (a i : Nat) : be2 l (a + i) = be2 (l.drop a) i := by
  unfold be2
  by_cases h : a + i + 2 ≤ l.length
  · rw [if_pos h, if_pos (by rw [List.length_drop]; omega)]
    simp [List.getD_eq_getElem?_getD, List.getElem?_drop, Nat.add_assoc]
  · rw [if_neg h, if_neg (by rw [List.length_drop]; omega)]
theorem rid_ok (v : Value) (l0 : List Int) (Ls : List I6) (w : World) (hB : Bytes w v l0) (hbig : l0.length ≤ 90000) (hP : DOk RAns [] l0 Ls) :
    Calls Tryz.prog 22 #[v] w fun e w' => (∃ r, e = .returned (.tuple #[r, .agg #[.bool false, .int .i64 0, .int .i64 0]]) ∧ InstAt w' r Ls) ∧ Below w.heap.size w w' := by
  have F0 := h_ ((AB.at0 w 44 [.bool false, .int .i64 0, .int .i64 0]).alloc (.cells #[] 34))
  have B0 := h_ (below2 w (.cells #[.bool false, .int .i64 0, .int .i64 0] 44) (.cells #[] 34))
  obtain ⟨ao, cap, rfl, hbr⟩ := hB
  have HBy := h_ (show Bytes w (.slice ao l0.length cap) l0 from ⟨ao, cap, rfl, hbr⟩)
  clear hbr
  obtain ⟨i0, hi0, hz0, hz1, hz2⟩ := info_parts infoIn
  have HI : Hid (Tryz.prog.info? 34 = some i0 ∧ i0.zero = some (.agg #[.int .i64 0, .int .i64 0, .int .u64 0, .int .u64 0, .int .u64 0, .int .u64 0, .slice none 0 0]) ∧ i0.size = 7 ∧ i0.bytes = 72) := ⟨hi0, hz0, hz1, hz2⟩
  clear hi0 hz0 hz1 hz2
  have HP := h_ hP
  clear hP
  have I0 : Hid (IRow ((w.alloc (.cells #[.bool false, .int .i64 0, .int .i64 0] 44)).alloc (.cells #[] 34)) (w.heap.size + 1) (.slice (some ⟨w.heap.size + 1, 0, none⟩) 0 0) []) := h_ ⟨⟨rfl, .inr ⟨w.heap.size + 1, 0, #[], rfl, Nat.le_refl _, (by have := AB.at1 w (.cells #[.bool false, .int .i64 0, .int .i64 0] 44) 34 []; exact this), Nat.le_refl _, by decide, rfl, rfl⟩⟩, fun p hp => by cases hp⟩
  have S0 := psde2 w
  go_enter Tryz.func22, Tryz.ntmps22
  go_wp2
  go_loopw [4, 5] (fun u i wr => ∃ (a : Nat) (ua : Option Addr) (uc m : Nat) (pre : List I6) (P : List PI) (R : List I6), a ≤ l0.length ∧ i = .int .i64 (a : Int) ∧ u = .slice ua m uc ∧ Hid (m = P.length) ∧ Hid (IRow wr (w.heap.size + 1) (.slice ua m uc) P) ∧ Hid (DOk RAns (pre.map (·.1)) (l0.drop a) R ∧ pre ++ R = Ls) ∧ Hid (P.map (·.1) = pre) ∧ Hid ((pre.map (·.1)).Nodup ∧ ∀ x ∈ pre.map (·.1), 1 ≤ x ∧ x ≤ 5) ∧ Hid (AB wr w.heap.size 44 [.bool false, .int .i64 0, .int .i64 0]) ∧ Hid (Below w.heap.size w wr) ∧ Hid (w.heap.size + 1 ≤ wr.heap.size)) (fun _ i _ => l0.length - (intOf i).toNat)
  case atStart => exact ⟨0, some ⟨w.heap.size + 1, 0, none⟩, 0, 0, [], [], Ls, Nat.zero_le _, rfl, rfl, h_ rfl, I0, h_ ⟨HP.out, rfl⟩, h_ rfl, h_ ⟨by simp, by simp⟩, F0, B0, S0⟩
  case round =>
    obtain ⟨a, ua, uc, m, pre, P, R, ha, rfl, rfl, HM, HOw, HPP, HPR, HP0, HF, KB, HS⟩ := hrel
    have H5 : Hid (pre.length ≤ 5) := h_ (by have := pig 5 _ HP0.out.1 HP0.out.2; rw [List.length_map] at this; exact this)
    have hm5 : m ≤ 5 := by have h1 := congrArg List.length HPR.out; rw [List.length_map, ← HM.out] at h1; have := H5.out; omega
    obtain ⟨hpo, hpre⟩ := HPP.out
    clear HPP
    generalize hl : l0.drop a = l at hpo
    cases hpo with
    | nil =>
      have hpr : pre = Ls := by simpa using hpre
      have gat : ¬ (a : Int) < (l0.length : Int) := by have := congrArg List.length hl; rw [List.length_drop] at this; simp at this; omega
      obtain ⟨s0, s1, s2, s3, s4, s5⟩ := HF.out.three
      obtain ⟨u0, u1, u2, -⟩ := (HF.out.set3 (.bool false) (.int .i64 0) (.int .i64 0)).three
      have bb := below_set3 (g := w.heap.size) KB.out (Nat.le_refl _) (.bool false) (.int .i64 0) (.int .i64 0)
      have HX := h_ ((HOw.out.fill3 HF.out (.bool false) (.int .i64 0) (.int .i64 0)).at_)
      have HKL := h_ (show P.map (·.1) = Ls by rw [HPR.out, hpr])
      clear hpre hpr hl
      go_wp2
      refine bodyPost_ret (v := .tuple #[.slice ua m uc, .agg #[.bool false, .int .i64 0, .int .i64 0]]) (by simp [results, Tryz.results22, go_sem, u0, u1, u2]) rfl ⟨⟨_, rfl, ?_⟩, bb⟩
      rw [← HKL.out]
      exact HX.out
    | @cons _ _ kk NN OO RR hd hnk hbo hrest =>
      subst hl
      obtain ⟨hl4, hl12, hlN⟩ := hd.len
      obtain ⟨hdk, hdn, hd8, ⟨hN8, hNm, hNl⟩, hk6, hik, hft, hno⟩ := hd
      have hln : (l0.drop a).length = l0.length - a := List.length_drop
      have gat : (a : Int) < (l0.length : Int) := by have := hd8; rw [hln] at this; omega
      have g8 : ¬ (l0.length : Int) - (a : Int) < 8 := by have := hd8; rw [hln] at this; omega
      have hw0 : IntKind.i64.wrap ((l0.length : Int) - (a : Int)) = (l0.length : Int) - (a : Int) := by rw [IntKind.wrap_i64]; omega
      obtain ⟨p2, hp2⟩ : ∃ p2 : Int, (a : Int) + 2 = p2 := ⟨_, rfl⟩
      have hw2 : IntKind.i64.wrap ((a : Int) + 2) = p2 := by rw [IntKind.wrap_i64]; omega
      have qg1 : Hid (Calls Tryz.prog 55 #[.slice ao l0.length cap, .int .i64 (a : Int), .int .i64 2] wr fun e w' => ∃ er, e = .returned (.tuple #[.int .i64 kk, .int .i64 er]) ∧ wr = w') := h_ (by have := rnget2 (.slice ao l0.length cap) l0 a wr (HBy.out.later KB.out) (by omega); rw [show be2 l0 a = be2 (l0.drop a) 0 from be2_drop l0 a 0, hdk] at this; exact this)
      have qg2 : Hid (Calls Tryz.prog 55 #[.slice ao l0.length cap, .int .i64 p2, .int .i64 2] wr fun e w' => ∃ er, e = .returned (.tuple #[.int .i64 (NN : Int), .int .i64 er]) ∧ wr = w') := h_ (by have := rnget2 (.slice ao l0.length cap) l0 (a + 2) wr (HBy.out.later KB.out) (by omega); rw [be2_drop l0 a 2, hdn] at this; rw [← hp2]; exact this)
      have lN8 : ¬ ((NN : Nat) : Int) < 8 := by omega
      have lm : ((NN : Nat) : Int) % 8 = 0 := by omega
      have lg : ¬ (l0.length : Int) - (a : Int) < (NN : Int) := by rw [hln] at hNl; omega
      obtain ⟨aN, haN⟩ : ∃ aN : Int, (a : Int) + (NN : Int) = aN := ⟨_, rfl⟩
      have hwN : IntKind.i64.wrap ((a : Int) + (NN : Int)) = aN := by rw [IntKind.wrap_i64]; rw [hln] at hNl; omega
      have hmid : (l0.take (a + NN)).drop a = (l0.drop a).take NN := by rw [List.drop_take]; congr 1; omega
      obtain ⟨a4, s4, hB4⟩ := bytes_mid HBy.out a (a + NN) (by omega) (by rw [hln] at hNl; omega)
      rw [hmid] at hB4
      have s4 : ∀ wx, (Instr.slice 25 (.slice ao l0.length cap) (some (.int .i64 (a : Int))) (some (.int .i64 aN)) none).run Tryz.prog wx = .ok (.slice a4 NN (cap - a)) wx := by
        intro wx
        have := s4 wx
        rw [show ((a + NN : Nat) : Int) = aN by omega, show a + NN - a = NN by omega] at this
        exact this
      rw [show a + NN - a = NN by omega] at hB4
      have HB4 := h_ hB4
      have htl : ((l0.drop a).take NN).length = NN := by rw [List.length_take]; omega
      have gk6 : (kk == 6) = false := by simpa using hk6
      have hkr : 1 ≤ kk ∧ kk ≤ 5 := by unfold isK at hik; simpa using hik
      have gk1 : ¬ kk < 1 := by omega
      have gk5 : ¬ (5 : Int) < kk := by omega
      have qri : Hid (∀ W, Below w.heap.size w W → Calls Tryz.prog 56 #[.int .i64 kk, .slice a4 NN (cap - a)] W fun e w' => e = .returned (.bool true) ∧ Below W.heap.size W w') := h_ (fun W hW => by have := rright14_any kk _ _ W (HB4.out.later hW) (by rw [htl]; omega); rw [rightI_eq hik hN8 hNl, hft, hno] at this; exact this)
      have hkind := hbo.kind
      have qof : Hid (∀ v W, InstAt W v pre → Calls Tryz.prog 12 #[v, .int .i64 kk] W fun e w' => e = .returned (.tuple #[.agg #[.int .i64 0, .int .i64 0, .int .u64 0, .int .u64 0, .int .u64 0, .int .u64 0, .slice none 0 0], .bool false]) ∧ Below W.heap.size W w') := h_ (fun v W h => rof_none v pre kk W h (fun x hx e => hnk (List.mem_map.2 ⟨x, hx, e⟩)))
      have qon : Hid (∀ W, Below w.heap.size w W → Calls Tryz.prog 57 #[.int .i64 kk, .slice a4 NN (cap - a)] W fun e w' => (∃ r, e = .returned (.tuple #[.agg #[.int .i64 OO.1, .int .i64 OO.2.1, .int .u64 (OO.2.2.1.1 : Int), .int .u64 (OO.2.2.1.2 : Int), .int .u64 (OO.2.2.2.1.1 : Int), .int .u64 (OO.2.2.2.1.2 : Int), r], .agg #[.bool false, .int .i64 0, .int .i64 0]]) ∧ w'.ownsRow W.heap.size 61 11 r OO.2.2.2.2.length (ads OO.2.2.2.2)) ∧ Below W.heap.size W w') := h_ (fun W hW => rone_ok _ _ kk OO W (HB4.out.later hW) (by rw [htl]; omega) (fun e => by rw [e] at hft; unfold fitK at hft; simp at hft; rw [htl]; omega) (by rw [htl]; rw [hln] at hNl; omega) hbo)
      rw [← hkind] at hrest
      have hrest := h_ hrest
      have HP5 : Hid (((pre ++ [OO]).map (·.1)).Nodup ∧ ∀ x ∈ (pre ++ [OO]).map (·.1), 1 ≤ x ∧ x ≤ 5) := h_ (by
        rw [List.map_append]
        refine ⟨?_, ?_⟩
        · rw [List.nodup_append]
          refine ⟨HP0.out.1, by simp, ?_⟩
          intro x hx b hb
          simp only [List.map_cons, List.map_nil, List.mem_singleton] at hb
          subst hb
          exact fun e => hnk (by rw [← hkind, ← e]; exact hx)
        · intro x hx
          rcases List.mem_append.1 hx with h | h
          · exact HP0.out.2 x h
          · simp only [List.map_cons, List.map_nil, List.mem_singleton] at h
            subst h
            rw [hkind]
            exact hkr)
      have hpre2 := h_ hpre
      obtain ⟨v0, v1, ⟨v2, v3⟩, ⟨v4, v5⟩, LO⟩ := OO
      have hkind : v0 = kk := hkind
      subst hkind
      obtain ⟨rn, hrn⟩ : ∃ rn, LO.length = rn := ⟨_, rfl⟩
      have HRN := h_ hrn
      have HLE := h_ (show a + NN ≤ l0.length by rw [hln] at hNl; omega)
      have HN8 := h_ hN8
      have hadd : (l0.drop a).drop NN = l0.drop (a + NN) := List.drop_drop
      have HAN := h_ haN
      clear hrn hB4 hbo hl4 hl12 hlN hnk hdk hdn hd8 hN8 hNm hNl hk6 hik hft hno hkr hln hp2 haN hmid htl
      go_wp2_with (first | (go_at_call 55; first | (have mk2 := mk1; refine (qg2.out).mono ?_; rintro e w9 ⟨er2, rfl, rfl⟩) | (refine (qg1.out).mono ?_; rintro e w9 ⟨er1, rfl, rfl⟩; have mk1 := True.intro)) | (go_at_call 56; refine (qri.out _ KB.out).mono ?_; rintro e w1 ⟨rfl, b1⟩; have k1 := h_ (KB.out.trans (b1.mono KB.out.size)); have R1 := h_ (HOw.out.later b1); have F1 := h_ (HF.out.later b1); have s1 := h_ (Nat.le_trans HS.out b1.size); have I1 := h_ (show InstAt w1 (.slice ua m uc) pre from HPR.out ▸ R1.out.at_); clear b1) | (go_at_call 12; refine (qof.out _ _ I1.out).mono ?_; rintro e w2 ⟨rfl, b2⟩; have jx := b2.trans ((below1 w2 (.cells #[.int .i64 0, .int .i64 0, .int .u64 0, .int .u64 0, .int .u64 0, .int .u64 0, .slice none 0 0] 34)).mono b2.size); have k2 := h_ (k1.out.trans (jx.mono k1.out.size)); have R2 := h_ (R1.out.later jx); have F2 := h_ (F1.out.later jx); have s2 := h_ (Nat.le_trans s1.out jx.size); clear b2 jx) | (go_at_call 57; refine (qon.out _ k2.out).mono ?_; rintro e w6 ⟨⟨r, rfl, ho⟩, b6⟩; obtain ⟨ru, rc, er⟩ := ownr_form ho; rw [HRN.out] at er; subst er; have jy := b6.trans ((below2 w6 (.cells #[.int .i64 v0, .int .i64 v1, .int .u64 (v2 : Int), .int .u64 (v3 : Int), .int .u64 (v4 : Int), .int .u64 (v5 : Int), .slice ru rn rc] 34) (.cells #[.bool false, .int .i64 0, .int .i64 0] 44)).mono b6.size); have HA6 := h_ (ownr_later (ownr_base ho s2.out) (below2 w6 (.cells #[.int .i64 v0, .int .i64 v1, .int .u64 (v2 : Int), .int .u64 (v3 : Int), .int .u64 (v4 : Int), .int .u64 (v5 : Int), .slice ru rn rc] 34) (.cells #[.bool false, .int .i64 0, .int .i64 0] 44))); have R6 := h_ (R2.out.later jy); have F6 := h_ (F2.out.later jy); have k6 := h_ (k2.out.trans (jy.mono k2.out.size)); have s6 := h_ (Nat.le_trans s2.out jy.size); obtain ⟨o0, o1, o2, o3, o4, o5, o6, -⟩ := ((AB.at0 w6 34 [.int .i64 v0, .int .i64 v1, .int .u64 (v2 : Int), .int .u64 (v3 : Int), .int .u64 (v4 : Int), .int .u64 (v5 : Int), .slice ru rn rc]).alloc (.cells #[.bool false, .int .i64 0, .int .i64 0] 44)).k7; obtain ⟨f0, f1, f2, -⟩ := (AB.at1 w6 (.cells #[.int .i64 v0, .int .i64 v1, .int .u64 (v2 : Int), .int .u64 (v3 : Int), .int .u64 (v4 : Int), .int .u64 (v5 : Int), .slice ru rn rc] 34) 44 [.bool false, .int .i64 0, .int .i64 0]).three; clear ho b6 jy) | (at_builtin; refine wpList_append_newG (.tmp 100) (.tmp 102) 22 rfl 34 i0 (.agg #[.int .i64 0, .int .i64 0, .int .u64 0, .int .u64 0, .int .u64 0, .int .u64 0, .slice none 0 0]) 7 72 Tryz.underlying22 HI.out.1 HI.out.2.1 HI.out.2.2.1 HI.out.2.2.2 rfl (by decide) (w.heap.size + 1) (.slice ua m uc) m (ids P) (by simp [Act.eval, Act.put]) ((w6.alloc (.cells #[.int .i64 v0, .int .i64 v1, .int .u64 (v2 : Int), .int .u64 (v3 : Int), .int .u64 (v4 : Int), .int .u64 (v5 : Int), .slice ru rn rc] 34)).alloc (.cells #[.bool false, .int .i64 0, .int .i64 0] 44)) (by have := R6.out.1; rw [← HM.out] at this; exact this) [.int .i64 v0, .int .i64 v1, .int .u64 (v2 : Int), .int .u64 (v3 : Int), .int .u64 (v4 : Int), .int .u64 (v5 : Int), .slice ru rn rc] _ rfl 1 (by simp) (by simp [Value.oneCell']) (by simp [Act.eval, Act.put]) (by simp [Region.wanted]) (by unfold maxLen; omega) (by omega) s6.out ?_; intro v8 w8 own8 b8 g8))
      have R8 : IRow w8 (w.heap.size + 1) v8 (P ++ [((v0, v1, (v2, v3), (v4, v5), LO), .slice ru rn rc)]) := IRow.push R6.out (by have := HA6.out; rw [← HRN.out] at this ⊢; exact this) (by rw [← HM.out]; exact own8) g8
      have hl8 : (P ++ [((v0, v1, (v2, v3), (v4, v5), LO), Value.slice ru rn rc)]).length = m + 1 := by rw [List.length_append, ← HM.out]; rfl
      obtain ⟨ua4, uc4, e4⟩ := ownr_form R8.1
      rw [hl8] at e4
      subst e4
      have R8 := h_ R8
      have HM8 := h_ hl8.symm
      have hrb : ∀ k, (Value.slice ua m uc).ownBlock = some k → w.heap.size + 1 ≤ k := fun k e => (R6.out.1.lt _ e).1
      have F8 := h_ ((F6.out.alloc (.cells #[.int .i64 v0, .int .i64 v1, .int .u64 (v2 : Int), .int .u64 (v3 : Int), .int .u64 (v4 : Int), .int .u64 (v5 : Int), .slice ru rn rc] 34)).grownO g8 (fun e => by have := hrb _ e.symm; omega))
      have k8 := h_ (k6.out.trans (b8.mono (by omega)))
      have s8 := h_ (Nat.le_trans s6.out b8.size)
      have HPM := h_ (show (P ++ [((v0, v1, (v2, v3), (v4, v5), LO), Value.slice ru rn rc)]).map (·.1) = pre ++ [(v0, v1, (v2, v3), (v4, v5), LO)] by rw [List.map_append, HPR.out]; rfl)
      clear hl8 own8 g8 b8 hrb
      try go_wp2
      go_roundw
      case rel => exact ⟨a + NN, ua4, uc4, m + 1, pre ++ [(v0, v1, (v2, v3), (v4, v5), LO)], P ++ [((v0, v1, (v2, v3), (v4, v5), LO), .slice ru rn rc)], RR, HLE.out, by rw [show ((a + NN : Nat) : Int) = aN by have := HAN.out; omega], rfl, HM8, R8, h_ ⟨(by rw [List.map_append, ← hadd]; exact hrest.out), by rw [← hpre2.out]; simp⟩, HPM, HP5, F8, k8, s8⟩
      case measure => have h1 := HN8.out; have h2 := HLE.out; have h3 := HAN.out; simp [intOf]; omega
end Go.Proofs.YthhijfphfcmniaaGreat
namespace Go.Proofs.YthhijfphfcmniaaGreat
open Go Go.RowKit
theorem firstI : ∀ (L : List I6) (k : Int), k ∈ L.map (·.1) → ∃ (J : Nat) (oo : I6), L[J]? = some oo ∧ oo.1 = k ∧ ∀ (i : Nat) (x : I6), i < J → L[i]? = some x → ¬ x.1 = k
  | [], k, h => by cases h
  | o :: L, k, h => by
    by_cases e : o.1 = k
    · exact ⟨0, o, rfl, e, fun i x hi _ => by omega⟩
    · have h' : k ∈ L.map (·.1) := by
        rw [List.map_cons, List.mem_cons] at h
        rcases h with h | h
        · exact absurd h.symm e
        · exact h
      obtain ⟨J, oo, h1, h2, h3⟩ := firstI L k h'
      refine ⟨J + 1, oo, by simpa using h1, h2, fun i x hi hx => ?_⟩
      cases i with
      | zero => simp at hx; rw [← hx]; exact e
      | succ i => exact h3 i x (by omega) (by simpa using hx)
theorem rid_bad (v : Value) (l0 : List Int) (c d : Int) (w : World) (hB : Bytes w v l0) (hbig : l0.length ≤ 90000) (hP : DBad RAns [] l0 c d) :
    Calls Tryz.prog 22 #[v] w fun e w' => (e = .returned (.tuple #[.slice none 0 0, .agg #[.bool true, .int .i64 c, .int .i64 d]])) ∧ Below w.heap.size w w' := by
  have F0 := h_ ((AB.at0 w 44 [.bool false, .int .i64 0, .int .i64 0]).alloc (.cells #[] 34))
  have B0 := h_ (below2 w (.cells #[.bool false, .int .i64 0, .int .i64 0] 44) (.cells #[] 34))
  obtain ⟨ao, cap, rfl, hbr⟩ := hB
  have HBy := h_ (show Bytes w (.slice ao l0.length cap) l0 from ⟨ao, cap, rfl, hbr⟩)
  clear hbr
  obtain ⟨i0, hi0, hz0, hz1, hz2⟩ := info_parts infoIn
  have HI : Hid (Tryz.prog.info? 34 = some i0 ∧ i0.zero = some (.agg #[.int .i64 0, .int .i64 0, .int .u64 0, .int .u64 0, .int .u64 0, .int .u64 0, .slice none 0 0]) ∧ i0.size = 7 ∧ i0.bytes = 72) := ⟨hi0, hz0, hz1, hz2⟩
  clear hi0 hz0 hz1 hz2
  have HP := h_ hP
  clear hP
  have I0 : Hid (IRow ((w.alloc (.cells #[.bool false, .int .i64 0, .int .i64 0] 44)).alloc (.cells #[] 34)) (w.heap.size + 1) (.slice (some ⟨w.heap.size + 1, 0, none⟩) 0 0) []) := h_ ⟨⟨rfl, .inr ⟨w.heap.size + 1, 0, #[], rfl, Nat.le_refl _, (by have := AB.at1 w (.cells #[.bool false, .int .i64 0, .int .i64 0] 44) 34 []; exact this), Nat.le_refl _, by decide, rfl, rfl⟩⟩, fun p hp => by cases hp⟩
  have S0 := psde2 w
  go_enter Tryz.func22, Tryz.ntmps22
  go_wp2
  go_loopw [4, 5] (fun u i wr => ∃ (a : Nat) (ua : Option Addr) (uc m : Nat) (pre : List I6) (P : List PI), a ≤ l0.length ∧ i = .int .i64 (a : Int) ∧ u = .slice ua m uc ∧ Hid (m = P.length) ∧ Hid (IRow wr (w.heap.size + 1) (.slice ua m uc) P) ∧ Hid (DBad RAns (pre.map (·.1)) (l0.drop a) c d) ∧ Hid (P.map (·.1) = pre) ∧ Hid ((pre.map (·.1)).Nodup ∧ ∀ x ∈ pre.map (·.1), 1 ≤ x ∧ x ≤ 5) ∧ Hid (AB wr w.heap.size 44 [.bool false, .int .i64 0, .int .i64 0]) ∧ Hid (Below w.heap.size w wr) ∧ Hid (w.heap.size + 1 ≤ wr.heap.size)) (fun _ i _ => l0.length - (intOf i).toNat)
  case atStart => exact ⟨0, some ⟨w.heap.size + 1, 0, none⟩, 0, 0, [], [], Nat.zero_le _, rfl, rfl, h_ rfl, I0, HP, h_ rfl, h_ ⟨by simp, by simp⟩, F0, B0, S0⟩
  case round =>
    obtain ⟨a, ua, uc, m, pre, P, ha, rfl, rfl, HM, HOw, HPP, HPR, HP0, HF, KB, HS⟩ := hrel
    have H5 : Hid (pre.length ≤ 5) := h_ (by have := pig 5 _ HP0.out.1 HP0.out.2; rw [List.length_map] at this; exact this)
    have hm5 : m ≤ 5 := by have h1 := congrArg List.length HPR.out; rw [List.length_map, ← HM.out] at h1; have := H5.out; omega
    have hpo := HPP.out
    clear HPP
    generalize hl : l0.drop a = l at hpo
    cases hpo with
    | @head _ _ dd hd =>
      subst hl
      obtain ⟨h0, kk, NN, hdk, hdn, hc⟩ := hd
      have hln : (l0.drop a).length = l0.length - a := List.length_drop
      obtain ⟨p2, hp2⟩ : ∃ p2 : Int, (a : Int) + 2 = p2 := ⟨_, rfl⟩
      have hw2 : IntKind.i64.wrap ((a : Int) + 2) = p2 := by rw [IntKind.wrap_i64]; omega
      have hw0 : IntKind.i64.wrap ((l0.length : Int) - (a : Int)) = (l0.length : Int) - (a : Int) := by rw [IntKind.wrap_i64]; omega
      have gat : (a : Int) < (l0.length : Int) := by omega
      rcases hc with ⟨rfl, hc⟩ | ⟨h8, ⟨hN8, hNm, hNl⟩, hc⟩
      · rcases hc with hc | ⟨h8, hc⟩
        · have g8 : (l0.length : Int) - (a : Int) < 8 := by omega
          clear hdk hdn hln hp2
          go_wp2_with (go_at_call 54; refine (rbad14_any 7 _).mono ?_; rintro e w9 ⟨rfl, b9⟩; have F9 := HF.out.later b9; have k9 := KB.out.trans (b9.mono KB.out.size); obtain ⟨s0, s1, s2, s3', s4', s5'⟩ := F9.three; obtain ⟨u0, u1, u2, -⟩ := (F9.set3 (.bool true) (.int .i64 3) (.int .i64 7)).three; have bb := below_set3 (g := w.heap.size) k9 (Nat.le_refl _) (.bool true) (.int .i64 3) (.int .i64 7))
          exact bodyPost_ret (v := .tuple #[.slice none 0 0, .agg #[.bool true, .int .i64 3, .int .i64 7]]) (by simp [results, Tryz.results22, go_sem, u0, u1, u2]) rfl ⟨rfl, bb⟩
        have g8 : ¬ (l0.length : Int) - (a : Int) < 8 := by omega
        have qg1 : Hid (Calls Tryz.prog 55 #[.slice ao l0.length cap, .int .i64 (a : Int), .int .i64 2] wr fun e w' => ∃ er, e = .returned (.tuple #[.int .i64 kk, .int .i64 er]) ∧ wr = w') := h_ (by have := rnget2 (.slice ao l0.length cap) l0 a wr (HBy.out.later KB.out) (by omega); rw [show be2 l0 a = be2 (l0.drop a) 0 from be2_drop l0 a 0, hdk] at this; exact this)
        have qg2 : Hid (Calls Tryz.prog 55 #[.slice ao l0.length cap, .int .i64 p2, .int .i64 2] wr fun e w' => ∃ er, e = .returned (.tuple #[.int .i64 (NN : Int), .int .i64 er]) ∧ wr = w') := h_ (by have := rnget2 (.slice ao l0.length cap) l0 (a + 2) wr (HBy.out.later KB.out) (by omega); rw [be2_drop l0 a 2, hdn] at this; rw [← hp2]; exact this)
        rcases hc with hc | ⟨h1, hc | ⟨h2, h3⟩⟩
        · have lN8 : ((NN : Nat) : Int) < 8 := by omega
          clear hdk hdn hln hp2
          go_wp2_with (first | (go_at_call 55; first | (have mk2 := mk1; refine (qg2.out).mono ?_; rintro e w9 ⟨er2, rfl, rfl⟩) | (refine (qg1.out).mono ?_; rintro e w9 ⟨er1, rfl, rfl⟩; have mk1 := True.intro)) | (go_at_call 54; refine (rbad14_any 7 _).mono ?_; rintro e w9 ⟨rfl, b9⟩; have F9 := HF.out.later b9; have k9 := KB.out.trans (b9.mono KB.out.size); obtain ⟨s0, s1, s2, s3', s4', s5'⟩ := F9.three; obtain ⟨u0, u1, u2, -⟩ := (F9.set3 (.bool true) (.int .i64 3) (.int .i64 7)).three; have bb := below_set3 (g := w.heap.size) k9 (Nat.le_refl _) (.bool true) (.int .i64 3) (.int .i64 7)))
          exact bodyPost_ret (v := .tuple #[.slice none 0 0, .agg #[.bool true, .int .i64 3, .int .i64 7]]) (by simp [results, Tryz.results22, go_sem, u0, u1, u2]) rfl ⟨rfl, bb⟩
        · have lN8 : ¬ ((NN : Nat) : Int) < 8 := by omega
          have lm : ¬ ((NN : Nat) : Int) % 8 = 0 := by omega
          have lmb : (((NN : Nat) : Int) % 8 == 0) = false := by simpa using lm
          clear hdk hdn hln hp2
          go_wp2_with (first | (go_at_call 55; first | (have mk2 := mk1; refine (qg2.out).mono ?_; rintro e w9 ⟨er2, rfl, rfl⟩) | (refine (qg1.out).mono ?_; rintro e w9 ⟨er1, rfl, rfl⟩; have mk1 := True.intro)) | (go_at_call 54; refine (rbad14_any 7 _).mono ?_; rintro e w9 ⟨rfl, b9⟩; have F9 := HF.out.later b9; have k9 := KB.out.trans (b9.mono KB.out.size); obtain ⟨s0, s1, s2, s3', s4', s5'⟩ := F9.three; obtain ⟨u0, u1, u2, -⟩ := (F9.set3 (.bool true) (.int .i64 3) (.int .i64 7)).three; have bb := below_set3 (g := w.heap.size) k9 (Nat.le_refl _) (.bool true) (.int .i64 3) (.int .i64 7)))
          exact bodyPost_ret (v := .tuple #[.slice none 0 0, .agg #[.bool true, .int .i64 3, .int .i64 7]]) (by simp [results, Tryz.results22, go_sem, u0, u1, u2]) rfl ⟨rfl, bb⟩
        · have lN8 : ¬ ((NN : Nat) : Int) < 8 := by omega
          have lm : ((NN : Nat) : Int) % 8 = 0 := by omega
          have lg : (l0.length : Int) - (a : Int) < (NN : Int) := by omega
          clear hdk hdn hln hp2
          go_wp2_with (first | (go_at_call 55; first | (have mk2 := mk1; refine (qg2.out).mono ?_; rintro e w9 ⟨er2, rfl, rfl⟩) | (refine (qg1.out).mono ?_; rintro e w9 ⟨er1, rfl, rfl⟩; have mk1 := True.intro)) | (go_at_call 54; refine (rbad14_any 7 _).mono ?_; rintro e w9 ⟨rfl, b9⟩; have F9 := HF.out.later b9; have k9 := KB.out.trans (b9.mono KB.out.size); obtain ⟨s0, s1, s2, s3', s4', s5'⟩ := F9.three; obtain ⟨u0, u1, u2, -⟩ := (F9.set3 (.bool true) (.int .i64 3) (.int .i64 7)).three; have bb := below_set3 (g := w.heap.size) k9 (Nat.le_refl _) (.bool true) (.int .i64 3) (.int .i64 7)))
          exact bodyPost_ret (v := .tuple #[.slice none 0 0, .agg #[.bool true, .int .i64 3, .int .i64 7]]) (by simp [results, Tryz.results22, go_sem, u0, u1, u2]) rfl ⟨rfl, bb⟩
      have g8 : ¬ (l0.length : Int) - (a : Int) < 8 := by omega
      have qg1 : Hid (Calls Tryz.prog 55 #[.slice ao l0.length cap, .int .i64 (a : Int), .int .i64 2] wr fun e w' => ∃ er, e = .returned (.tuple #[.int .i64 kk, .int .i64 er]) ∧ wr = w') := h_ (by have := rnget2 (.slice ao l0.length cap) l0 a wr (HBy.out.later KB.out) (by omega); rw [show be2 l0 a = be2 (l0.drop a) 0 from be2_drop l0 a 0, hdk] at this; exact this)
      have qg2 : Hid (Calls Tryz.prog 55 #[.slice ao l0.length cap, .int .i64 p2, .int .i64 2] wr fun e w' => ∃ er, e = .returned (.tuple #[.int .i64 (NN : Int), .int .i64 er]) ∧ wr = w') := h_ (by have := rnget2 (.slice ao l0.length cap) l0 (a + 2) wr (HBy.out.later KB.out) (by omega); rw [be2_drop l0 a 2, hdn] at this; rw [← hp2]; exact this)
      have lN8 : ¬ ((NN : Nat) : Int) < 8 := by omega
      have lm : ((NN : Nat) : Int) % 8 = 0 := by omega
      have lg : ¬ (l0.length : Int) - (a : Int) < (NN : Int) := by rw [hln] at hNl; omega
      obtain ⟨aN, haN⟩ : ∃ aN : Int, (a : Int) + (NN : Int) = aN := ⟨_, rfl⟩
      have hwN : IntKind.i64.wrap ((a : Int) + (NN : Int)) = aN := by rw [IntKind.wrap_i64]; rw [hln] at hNl; omega
      have hmid : (l0.take (a + NN)).drop a = (l0.drop a).take NN := by rw [List.drop_take]; congr 1; omega
      obtain ⟨a4, s4, hB4⟩ := bytes_mid HBy.out a (a + NN) (by omega) (by rw [hln] at hNl; omega)
      rw [hmid] at hB4
      have s4 : ∀ wx, (Instr.slice 25 (.slice ao l0.length cap) (some (.int .i64 (a : Int))) (some (.int .i64 aN)) none).run Tryz.prog wx = .ok (.slice a4 NN (cap - a)) wx := by
        intro wx
        have := s4 wx
        rw [show ((a + NN : Nat) : Int) = aN by omega, show a + NN - a = NN by omega] at this
        exact this
      rw [show a + NN - a = NN by omega] at hB4
      have HB4 := h_ hB4
      have htl : ((l0.drop a).take NN).length = NN := by rw [List.length_take]; omega
      rcases hc with ⟨hk6, rfl⟩ | ⟨hk6, hc⟩
      · subst hk6
        clear hdk hdn hln hp2
        go_wp2_with (first | (go_at_call 55; first | (have mk2 := mk1; refine (qg2.out).mono ?_; rintro e w9 ⟨er2, rfl, rfl⟩) | (refine (qg1.out).mono ?_; rintro e w9 ⟨er1, rfl, rfl⟩; have mk1 := True.intro)) | (go_at_call 54; refine (rbad14_any 1 _).mono ?_; rintro e w9 ⟨rfl, b9⟩; have F9 := HF.out.later b9; have k9 := KB.out.trans (b9.mono KB.out.size); obtain ⟨s0, s1, s2, s3', s4', s5'⟩ := F9.three; obtain ⟨u0, u1, u2, -⟩ := (F9.set3 (.bool true) (.int .i64 3) (.int .i64 1)).three; have bb := below_set3 (g := w.heap.size) k9 (Nat.le_refl _) (.bool true) (.int .i64 3) (.int .i64 1)))
        exact bodyPost_ret (v := .tuple #[.slice none 0 0, .agg #[.bool true, .int .i64 3, .int .i64 1]]) (by simp [results, Tryz.results22, go_sem, u0, u1, u2]) rfl ⟨rfl, bb⟩
      have gk6 : (kk == 6) = false := by simpa using hk6
      rcases hc with ⟨hik, rfl⟩ | ⟨hik, rfl, hc⟩
      · by_cases gk1 : kk < 1
        · clear hdk hdn hln hp2
          go_wp2_with (first | (go_at_call 55; first | (have mk2 := mk1; refine (qg2.out).mono ?_; rintro e w9 ⟨er2, rfl, rfl⟩) | (refine (qg1.out).mono ?_; rintro e w9 ⟨er1, rfl, rfl⟩; have mk1 := True.intro)) | (go_at_call 54; refine (rbad14_any 0 _).mono ?_; rintro e w9 ⟨rfl, b9⟩; have F9 := HF.out.later b9; have k9 := KB.out.trans (b9.mono KB.out.size); obtain ⟨s0, s1, s2, s3', s4', s5'⟩ := F9.three; obtain ⟨u0, u1, u2, -⟩ := (F9.set3 (.bool true) (.int .i64 3) (.int .i64 0)).three; have bb := below_set3 (g := w.heap.size) k9 (Nat.le_refl _) (.bool true) (.int .i64 3) (.int .i64 0)))
          exact bodyPost_ret (v := .tuple #[.slice none 0 0, .agg #[.bool true, .int .i64 3, .int .i64 0]]) (by simp [results, Tryz.results22, go_sem, u0, u1, u2]) rfl ⟨rfl, bb⟩
        · have gk5 : (5 : Int) < kk := by
            unfold isK at hik
            simp at hik
            omega
          clear hdk hdn hln hp2
          go_wp2_with (first | (go_at_call 55; first | (have mk2 := mk1; refine (qg2.out).mono ?_; rintro e w9 ⟨er2, rfl, rfl⟩) | (refine (qg1.out).mono ?_; rintro e w9 ⟨er1, rfl, rfl⟩; have mk1 := True.intro)) | (go_at_call 54; refine (rbad14_any 0 _).mono ?_; rintro e w9 ⟨rfl, b9⟩; have F9 := HF.out.later b9; have k9 := KB.out.trans (b9.mono KB.out.size); obtain ⟨s0, s1, s2, s3', s4', s5'⟩ := F9.three; obtain ⟨u0, u1, u2, -⟩ := (F9.set3 (.bool true) (.int .i64 3) (.int .i64 0)).three; have bb := below_set3 (g := w.heap.size) k9 (Nat.le_refl _) (.bool true) (.int .i64 3) (.int .i64 0)))
          exact bodyPost_ret (v := .tuple #[.slice none 0 0, .agg #[.bool true, .int .i64 3, .int .i64 0]]) (by simp [results, Tryz.results22, go_sem, u0, u1, u2]) rfl ⟨rfl, bb⟩
      have hkr : 1 ≤ kk ∧ kk ≤ 5 := by unfold isK at hik; simpa using hik
      have gk1 : ¬ kk < 1 := by omega
      have gk5 : ¬ (5 : Int) < kk := by omega
      have hri : (fitK kk (NN : Int) && nouI kk (l0.drop a)) = false := by
        rcases hc with h | ⟨h, h'⟩
        · rw [h]; rfl
        · rw [h, h']; rfl
      have qri : Hid (∀ W, Below w.heap.size w W → Calls Tryz.prog 56 #[.int .i64 kk, .slice a4 NN (cap - a)] W fun e w' => e = .returned (.bool false) ∧ Below W.heap.size W w') := h_ (fun W hW => by have := rright14_any kk _ _ W (HB4.out.later hW) (by rw [htl]; omega); rw [rightI_eq hik hN8 hNl, hri] at this; exact this)
      clear hdk hdn hln hp2
      go_wp2_with (first | (go_at_call 55; first | (have mk2 := mk1; refine (qg2.out).mono ?_; rintro e w9 ⟨er2, rfl, rfl⟩) | (refine (qg1.out).mono ?_; rintro e w9 ⟨er1, rfl, rfl⟩; have mk1 := True.intro)) | (go_at_call 56; refine (qri.out _ KB.out).mono ?_; rintro e w1 ⟨rfl, b1⟩; have k1 := h_ (KB.out.trans (b1.mono KB.out.size)); have R1 := h_ (HOw.out.later b1); have F1 := h_ (HF.out.later b1); have s1 := h_ (Nat.le_trans HS.out b1.size); have I1 := h_ (show InstAt w1 (.slice ua m uc) pre from HPR.out ▸ R1.out.at_); clear b1) | (go_at_call 54; refine (rbad14_any 7 _).mono ?_; rintro e w9 ⟨rfl, b9⟩; have F9 := F1.out.later b9; have k9 := k1.out.trans (b9.mono k1.out.size); obtain ⟨s0, s1, s2, s3', s4', s5'⟩ := F9.three; obtain ⟨u0, u1, u2, -⟩ := (F9.set3 (.bool true) (.int .i64 3) (.int .i64 7)).three; have bb := below_set3 (g := w.heap.size) k9 (Nat.le_refl _) (.bool true) (.int .i64 3) (.int .i64 7)))
      exact bodyPost_ret (v := .tuple #[.slice none 0 0, .agg #[.bool true, .int .i64 3, .int .i64 7]]) (by simp [results, Tryz.results22, go_sem, u0, u1, u2]) rfl ⟨rfl, bb⟩
    | @twice _ _ kk NN hd hin =>
      subst hl
      obtain ⟨hdk, hdn, hd8, ⟨hN8, hNm, hNl⟩, hk6, hik, hft, hno⟩ := hd
      have hln : (l0.drop a).length = l0.length - a := List.length_drop
      have gat : (a : Int) < (l0.length : Int) := by have := hd8; rw [hln] at this; omega
      have g8 : ¬ (l0.length : Int) - (a : Int) < 8 := by have := hd8; rw [hln] at this; omega
      have hw0 : IntKind.i64.wrap ((l0.length : Int) - (a : Int)) = (l0.length : Int) - (a : Int) := by rw [IntKind.wrap_i64]; omega
      obtain ⟨p2, hp2⟩ : ∃ p2 : Int, (a : Int) + 2 = p2 := ⟨_, rfl⟩
      have hw2 : IntKind.i64.wrap ((a : Int) + 2) = p2 := by rw [IntKind.wrap_i64]; omega
      have qg1 : Hid (Calls Tryz.prog 55 #[.slice ao l0.length cap, .int .i64 (a : Int), .int .i64 2] wr fun e w' => ∃ er, e = .returned (.tuple #[.int .i64 kk, .int .i64 er]) ∧ wr = w') := h_ (by have := rnget2 (.slice ao l0.length cap) l0 a wr (HBy.out.later KB.out) (by omega); rw [show be2 l0 a = be2 (l0.drop a) 0 from be2_drop l0 a 0, hdk] at this; exact this)
      have qg2 : Hid (Calls Tryz.prog 55 #[.slice ao l0.length cap, .int .i64 p2, .int .i64 2] wr fun e w' => ∃ er, e = .returned (.tuple #[.int .i64 (NN : Int), .int .i64 er]) ∧ wr = w') := h_ (by have := rnget2 (.slice ao l0.length cap) l0 (a + 2) wr (HBy.out.later KB.out) (by omega); rw [be2_drop l0 a 2, hdn] at this; rw [← hp2]; exact this)
      have lN8 : ¬ ((NN : Nat) : Int) < 8 := by omega
      have lm : ((NN : Nat) : Int) % 8 = 0 := by omega
      have lg : ¬ (l0.length : Int) - (a : Int) < (NN : Int) := by rw [hln] at hNl; omega
      obtain ⟨aN, haN⟩ : ∃ aN : Int, (a : Int) + (NN : Int) = aN := ⟨_, rfl⟩
      have hwN : IntKind.i64.wrap ((a : Int) + (NN : Int)) = aN := by rw [IntKind.wrap_i64]; rw [hln] at hNl; omega
      have hmid : (l0.take (a + NN)).drop a = (l0.drop a).take NN := by rw [List.drop_take]; congr 1; omega
      obtain ⟨a4, s4, hB4⟩ := bytes_mid HBy.out a (a + NN) (by omega) (by rw [hln] at hNl; omega)
      rw [hmid] at hB4
      have s4 : ∀ wx, (Instr.slice 25 (.slice ao l0.length cap) (some (.int .i64 (a : Int))) (some (.int .i64 aN)) none).run Tryz.prog wx = .ok (.slice a4 NN (cap - a)) wx := by
        intro wx
        have := s4 wx
        rw [show ((a + NN : Nat) : Int) = aN by omega, show a + NN - a = NN by omega] at this
        exact this
      rw [show a + NN - a = NN by omega] at hB4
      have HB4 := h_ hB4
      have htl : ((l0.drop a).take NN).length = NN := by rw [List.length_take]; omega
      have gk6 : (kk == 6) = false := by simpa using hk6
      have hkr : 1 ≤ kk ∧ kk ≤ 5 := by unfold isK at hik; simpa using hik
      have gk1 : ¬ kk < 1 := by omega
      have gk5 : ¬ (5 : Int) < kk := by omega
      have qri : Hid (∀ W, Below w.heap.size w W → Calls Tryz.prog 56 #[.int .i64 kk, .slice a4 NN (cap - a)] W fun e w' => e = .returned (.bool true) ∧ Below W.heap.size W w') := h_ (fun W hW => by have := rright14_any kk _ _ W (HB4.out.later hW) (by rw [htl]; omega); rw [rightI_eq hik hN8 hNl, hft, hno] at this; exact this)
      obtain ⟨J, oo, hj1, hj2, hj3⟩ : ∃ (J : Nat) (oo : I6), pre[J]? = some oo ∧ oo.1 = kk ∧ ∀ (i : Nat) (x : I6), i < J → pre[i]? = some x → ¬ x.1 = kk := firstI pre kk hin
      have qof : Hid (∀ v W, InstAt W v pre → Calls Tryz.prog 12 #[v, .int .i64 kk] W fun e w' => (∃ k1 t1 a1 b1 c1 d1 su nu cu, e = .returned (.tuple #[.agg #[.int .i64 k1, .int .i64 t1, .int .u64 a1, .int .u64 b1, .int .u64 c1, .int .u64 d1, .slice su nu cu], .bool true])) ∧ Below W.heap.size W w') := h_ (fun v W h => rof_some v pre kk W h J oo ⟨hj1, hj2⟩ hj3)
      clear hj1 hj2 hj3 hin hdk hdn hd8 hN8 hNm hNl hk6 hik hft hno hkr hln hp2 haN hmid htl hB4
      go_wp2_with (first | (go_at_call 55; first | (have mk2 := mk1; refine (qg2.out).mono ?_; rintro e w9 ⟨er2, rfl, rfl⟩) | (refine (qg1.out).mono ?_; rintro e w9 ⟨er1, rfl, rfl⟩; have mk1 := True.intro)) | (go_at_call 56; refine (qri.out _ KB.out).mono ?_; rintro e w1 ⟨rfl, b1⟩; have k1 := h_ (KB.out.trans (b1.mono KB.out.size)); have R1 := h_ (HOw.out.later b1); have F1 := h_ (HF.out.later b1); have s1 := h_ (Nat.le_trans HS.out b1.size); have I1 := h_ (show InstAt w1 (.slice ua m uc) pre from HPR.out ▸ R1.out.at_); clear b1) | (go_at_call 12; refine (qof.out _ _ I1.out).mono ?_; rintro e w2 ⟨⟨kz, tz, az, bz, cz, dz, sz, nz, zz, rfl⟩, b2⟩; have jx := b2.trans ((below1 w2 (.cells #[.int .i64 kz, .int .i64 tz, .int .u64 az, .int .u64 bz, .int .u64 cz, .int .u64 dz, .slice sz nz zz] 34)).mono b2.size); have k2 := h_ (k1.out.trans (jx.mono k1.out.size)); have F2 := h_ (F1.out.later jx); clear b2 jx) | (go_at_call 54; refine (rbad14_any 9 _).mono ?_; rintro e w9 ⟨rfl, b9⟩; have F9 := F2.out.later b9; have k9 := k2.out.trans (b9.mono k2.out.size); obtain ⟨s0, s1, s2, s3', s4', s5'⟩ := F9.three; obtain ⟨u0, u1, u2, -⟩ := (F9.set3 (.bool true) (.int .i64 3) (.int .i64 9)).three; have bb := below_set3 (g := w.heap.size) k9 (Nat.le_refl _) (.bool true) (.int .i64 3) (.int .i64 9)))
      exact bodyPost_ret (v := .tuple #[.slice none 0 0, .agg #[.bool true, .int .i64 3, .int .i64 9]]) (by simp [results, Tryz.results22, go_sem, u0, u1, u2]) rfl ⟨rfl, bb⟩
    | @body _ _ kk c d NN hd hnk hbo =>
      subst hl
      obtain ⟨hl4, hl12, hlN⟩ := hd.len
      obtain ⟨hdk, hdn, hd8, ⟨hN8, hNm, hNl⟩, hk6, hik, hft, hno⟩ := hd
      have hln : (l0.drop a).length = l0.length - a := List.length_drop
      have gat : (a : Int) < (l0.length : Int) := by have := hd8; rw [hln] at this; omega
      have g8 : ¬ (l0.length : Int) - (a : Int) < 8 := by have := hd8; rw [hln] at this; omega
      have hw0 : IntKind.i64.wrap ((l0.length : Int) - (a : Int)) = (l0.length : Int) - (a : Int) := by rw [IntKind.wrap_i64]; omega
      obtain ⟨p2, hp2⟩ : ∃ p2 : Int, (a : Int) + 2 = p2 := ⟨_, rfl⟩
      have hw2 : IntKind.i64.wrap ((a : Int) + 2) = p2 := by rw [IntKind.wrap_i64]; omega
      have qg1 : Hid (Calls Tryz.prog 55 #[.slice ao l0.length cap, .int .i64 (a : Int), .int .i64 2] wr fun e w' => ∃ er, e = .returned (.tuple #[.int .i64 kk, .int .i64 er]) ∧ wr = w') := h_ (by have := rnget2 (.slice ao l0.length cap) l0 a wr (HBy.out.later KB.out) (by omega); rw [show be2 l0 a = be2 (l0.drop a) 0 from be2_drop l0 a 0, hdk] at this; exact this)
      have qg2 : Hid (Calls Tryz.prog 55 #[.slice ao l0.length cap, .int .i64 p2, .int .i64 2] wr fun e w' => ∃ er, e = .returned (.tuple #[.int .i64 (NN : Int), .int .i64 er]) ∧ wr = w') := h_ (by have := rnget2 (.slice ao l0.length cap) l0 (a + 2) wr (HBy.out.later KB.out) (by omega); rw [be2_drop l0 a 2, hdn] at this; rw [← hp2]; exact this)
      have lN8 : ¬ ((NN : Nat) : Int) < 8 := by omega
      have lm : ((NN : Nat) : Int) % 8 = 0 := by omega
      have lg : ¬ (l0.length : Int) - (a : Int) < (NN : Int) := by rw [hln] at hNl; omega
      obtain ⟨aN, haN⟩ : ∃ aN : Int, (a : Int) + (NN : Int) = aN := ⟨_, rfl⟩
      have hwN : IntKind.i64.wrap ((a : Int) + (NN : Int)) = aN := by rw [IntKind.wrap_i64]; rw [hln] at hNl; omega
      have hmid : (l0.take (a + NN)).drop a = (l0.drop a).take NN := by rw [List.drop_take]; congr 1; omega
      obtain ⟨a4, s4, hB4⟩ := bytes_mid HBy.out a (a + NN) (by omega) (by rw [hln] at hNl; omega)
      rw [hmid] at hB4
      have s4 : ∀ wx, (Instr.slice 25 (.slice ao l0.length cap) (some (.int .i64 (a : Int))) (some (.int .i64 aN)) none).run Tryz.prog wx = .ok (.slice a4 NN (cap - a)) wx := by
        intro wx
        have := s4 wx
        rw [show ((a + NN : Nat) : Int) = aN by omega, show a + NN - a = NN by omega] at this
        exact this
      rw [show a + NN - a = NN by omega] at hB4
      have HB4 := h_ hB4
      have htl : ((l0.drop a).take NN).length = NN := by rw [List.length_take]; omega
      have gk6 : (kk == 6) = false := by simpa using hk6
      have hkr : 1 ≤ kk ∧ kk ≤ 5 := by unfold isK at hik; simpa using hik
      have gk1 : ¬ kk < 1 := by omega
      have gk5 : ¬ (5 : Int) < kk := by omega
      have qri : Hid (∀ W, Below w.heap.size w W → Calls Tryz.prog 56 #[.int .i64 kk, .slice a4 NN (cap - a)] W fun e w' => e = .returned (.bool true) ∧ Below W.heap.size W w') := h_ (fun W hW => by have := rright14_any kk _ _ W (HB4.out.later hW) (by rw [htl]; omega); rw [rightI_eq hik hN8 hNl, hft, hno] at this; exact this)
      have qof : Hid (∀ v W, InstAt W v pre → Calls Tryz.prog 12 #[v, .int .i64 kk] W fun e w' => e = .returned (.tuple #[.agg #[.int .i64 0, .int .i64 0, .int .u64 0, .int .u64 0, .int .u64 0, .int .u64 0, .slice none 0 0], .bool false]) ∧ Below W.heap.size W w') := h_ (fun v W h => rof_none v pre kk W h (fun x hx e => hnk (List.mem_map.2 ⟨x, hx, e⟩)))
      have qon : Hid (∀ W, Below w.heap.size w W → Calls Tryz.prog 57 #[.int .i64 kk, .slice a4 NN (cap - a)] W fun e w' => e = .returned (.tuple #[.agg #[.int .i64 0, .int .i64 0, .int .u64 0, .int .u64 0, .int .u64 0, .int .u64 0, .slice none 0 0], .agg #[.bool true, .int .i64 c, .int .i64 d]]) ∧ Below W.heap.size W w') := h_ (fun W hW => rone_no _ _ kk c d W (HB4.out.later hW) (by rw [htl]; omega) (fun e => by rw [e] at hft; unfold fitK at hft; simp at hft; rw [htl]; omega) (by rw [htl]; rw [hln] at hNl; omega) hbo)
      clear hdk hdn hd8 hN8 hNm hNl hk6 hik hft hno hkr hln hp2 haN hmid htl hB4 hl4 hl12 hlN hnk hbo
      go_upto_region 21 with (first | (go_at_call 55; first | (have mk2 := mk1; refine (qg2.out).mono ?_; rintro e w9 ⟨er2, rfl, rfl⟩) | (refine (qg1.out).mono ?_; rintro e w9 ⟨er1, rfl, rfl⟩; have mk1 := True.intro)) | (go_at_call 56; refine (qri.out _ KB.out).mono ?_; rintro e w1 ⟨rfl, b1⟩; have k1 := h_ (KB.out.trans (b1.mono KB.out.size)); have R1 := h_ (HOw.out.later b1); have F1 := h_ (HF.out.later b1); have s1 := h_ (Nat.le_trans HS.out b1.size); have I1 := h_ (show InstAt w1 (.slice ua m uc) pre from HPR.out ▸ R1.out.at_); clear b1) | (go_at_call 12; refine (qof.out _ _ I1.out).mono ?_; rintro e w2 ⟨rfl, b2⟩; have jx := b2.trans ((below1 w2 (.cells #[.int .i64 0, .int .i64 0, .int .u64 0, .int .u64 0, .int .u64 0, .int .u64 0, .slice none 0 0] 34)).mono b2.size); have k2 := h_ (k1.out.trans (jx.mono k1.out.size)); have R2 := h_ (R1.out.later jx); have F2 := h_ (F1.out.later jx); have s2 := h_ (Nat.le_trans s1.out jx.size); clear b2 jx) | (go_at_call 57; refine (qon.out _ k2.out).mono ?_; rintro e w6 ⟨rfl, b6⟩; have jy := b6.trans ((below2 w6 (.cells #[.int .i64 0, .int .i64 0, .int .u64 0, .int .u64 0, .int .u64 0, .int .u64 0, .slice none 0 0] 34) (.cells #[.bool true, .int .i64 c, .int .i64 d] 44)).mono b6.size); have F6 := h_ (F2.out.later jy); have k6 := h_ (k2.out.trans (jy.mono k2.out.size)); have s6 := h_ (Nat.le_trans s2.out b6.size); have G6 := h_ (AB.at1 w6 (.cells #[.int .i64 0, .int .i64 0, .int .u64 0, .int .u64 0, .int .u64 0, .int .u64 0, .slice none 0 0] 34) 44 [.bool true, .int .i64 c, .int .i64 d]); obtain ⟨f0, f1, f2, -⟩ := G6.out.three; clear b6 jy))
      have BX := k6.out
      have FW := F6.out
      generalize ((w6.alloc (.cells #[.int .i64 0, .int .i64 0, .int .u64 0, .int .u64 0, .int .u64 0, .int .u64 0, .slice none 0 0] 34)).alloc (.cells #[.bool true, .int .i64 c, .int .i64 d] 44)) = X at *
      have hgw : w.heap.size < w6.heap.size + 1 := by have := s6.out; omega
      have FD : AB X.drew w.heap.size 44 [.bool false, .int .i64 0, .int .i64 0] := FW
      obtain ⟨s0, s1, s2, s3', s4', s5'⟩ := FD.three
      obtain ⟨u0, u1, u2, -⟩ := (FD.set3 (.bool true) (.int .i64 c) (.int .i64 d)).three
      clear FD FW
      refine wp_region_held_drew (S := (fun w' => w'.cell? ⟨w6.heap.size + 1, 0, none⟩ = some (.bool true) ∧ w'.cell? ⟨w6.heap.size + 1, 1, none⟩ = some (.int .i64 c) ∧ w'.cell? ⟨w6.heap.size + 1, 2, none⟩ = some (.int .i64 d) ∧ Below w.heap.size w w')) (by kernel_rfl) (⟨f0, f1, f2, BX.drew⟩) (fun hHeld => ?_)
      generalize X.drew = D at *
      refine tR 0 ?_ (some 99) rfl (by kernel_rfl) rfl (by rfl) ?_ (fun _ _ _ h => h) (by assumption) ?_
      rotate_left
      · intro w hSw; (try dsimp only at hSw); go_simp; (try with_reducible rfl)
      simp only [Act.put, sIb, sCz, sCs]
      refine tR 1 ?_ (some 2) rfl (by kernel_rfl) rfl (by rfl) ?_ (fun _ _ _ h => h) (by assumption) ?_
      rotate_left
      · intro w hSw; (try dsimp only at hSw); go_simp; (try with_reducible rfl)
      simp only [Act.put, sIb, sCz, sCs]
      refine wpAnyH_ready (rs := [2]) (by kernel_rfl) (by simp) ?_
      refine AllReadyH.cons rfl (fun K hK => ?_) (AllReadyH.nil)
      go_simp
      refine hK.out _ _ (kW3_3 hHeld (by omega) (by dsimp only; omega) (by dsimp only; omega) (by dsimp only; omega)) (fun hHeld => ?_)
      clear hK K
      try simp only [Act.put, sIb, sCz, sCs]
      refine wpAnyH_done (by kernel_rfl) ?_ _
      go_wp2_with fail
      exact bodyPost_ret (v := .tuple #[.slice none 0 0, .agg #[.bool true, .int .i64 c, .int .i64 d]]) (by simp [results, Tryz.results22, go_sem, u0, u1, u2]) rfl ⟨rfl, hHeld.2.2.2⟩
    | @cons _ _ kk c d NN OO hd hnk hbo hrest =>
      subst hl
      obtain ⟨hl4, hl12, hlN⟩ := hd.len
      obtain ⟨hdk, hdn, hd8, ⟨hN8, hNm, hNl⟩, hk6, hik, hft, hno⟩ := hd
      have hln : (l0.drop a).length = l0.length - a := List.length_drop
      have gat : (a : Int) < (l0.length : Int) := by have := hd8; rw [hln] at this; omega
      have g8 : ¬ (l0.length : Int) - (a : Int) < 8 := by have := hd8; rw [hln] at this; omega
      have hw0 : IntKind.i64.wrap ((l0.length : Int) - (a : Int)) = (l0.length : Int) - (a : Int) := by rw [IntKind.wrap_i64]; omega
      obtain ⟨p2, hp2⟩ : ∃ p2 : Int, (a : Int) + 2 = p2 := ⟨_, rfl⟩
      have hw2 : IntKind.i64.wrap ((a : Int) + 2) = p2 := by rw [IntKind.wrap_i64]; omega
      have qg1 : Hid (Calls Tryz.prog 55 #[.slice ao l0.length cap, .int .i64 (a : Int), .int .i64 2] wr fun e w' => ∃ er, e = .returned (.tuple #[.int .i64 kk, .int .i64 er]) ∧ wr = w') := h_ (by have := rnget2 (.slice ao l0.length cap) l0 a wr (HBy.out.later KB.out) (by omega); rw [show be2 l0 a = be2 (l0.drop a) 0 from be2_drop l0 a 0, hdk] at this; exact this)
      have qg2 : Hid (Calls Tryz.prog 55 #[.slice ao l0.length cap, .int .i64 p2, .int .i64 2] wr fun e w' => ∃ er, e = .returned (.tuple #[.int .i64 (NN : Int), .int .i64 er]) ∧ wr = w') := h_ (by have := rnget2 (.slice ao l0.length cap) l0 (a + 2) wr (HBy.out.later KB.out) (by omega); rw [be2_drop l0 a 2, hdn] at this; rw [← hp2]; exact this)
      have lN8 : ¬ ((NN : Nat) : Int) < 8 := by omega
      have lm : ((NN : Nat) : Int) % 8 = 0 := by omega
      have lg : ¬ (l0.length : Int) - (a : Int) < (NN : Int) := by rw [hln] at hNl; omega
      obtain ⟨aN, haN⟩ : ∃ aN : Int, (a : Int) + (NN : Int) = aN := ⟨_, rfl⟩
      have hwN : IntKind.i64.wrap ((a : Int) + (NN : Int)) = aN := by rw [IntKind.wrap_i64]; rw [hln] at hNl; omega
      have hmid : (l0.take (a + NN)).drop a = (l0.drop a).take NN := by rw [List.drop_take]; congr 1; omega
      obtain ⟨a4, s4, hB4⟩ := bytes_mid HBy.out a (a + NN) (by omega) (by rw [hln] at hNl; omega)
      rw [hmid] at hB4
      have s4 : ∀ wx, (Instr.slice 25 (.slice ao l0.length cap) (some (.int .i64 (a : Int))) (some (.int .i64 aN)) none).run Tryz.prog wx = .ok (.slice a4 NN (cap - a)) wx := by
        intro wx
        have := s4 wx
        rw [show ((a + NN : Nat) : Int) = aN by omega, show a + NN - a = NN by omega] at this
        exact this
      rw [show a + NN - a = NN by omega] at hB4
      have HB4 := h_ hB4
      have htl : ((l0.drop a).take NN).length = NN := by rw [List.length_take]; omega
      have gk6 : (kk == 6) = false := by simpa using hk6
      have hkr : 1 ≤ kk ∧ kk ≤ 5 := by unfold isK at hik; simpa using hik
      have gk1 : ¬ kk < 1 := by omega
      have gk5 : ¬ (5 : Int) < kk := by omega
      have qri : Hid (∀ W, Below w.heap.size w W → Calls Tryz.prog 56 #[.int .i64 kk, .slice a4 NN (cap - a)] W fun e w' => e = .returned (.bool true) ∧ Below W.heap.size W w') := h_ (fun W hW => by have := rright14_any kk _ _ W (HB4.out.later hW) (by rw [htl]; omega); rw [rightI_eq hik hN8 hNl, hft, hno] at this; exact this)
      have hkind := hbo.kind
      have qof : Hid (∀ v W, InstAt W v pre → Calls Tryz.prog 12 #[v, .int .i64 kk] W fun e w' => e = .returned (.tuple #[.agg #[.int .i64 0, .int .i64 0, .int .u64 0, .int .u64 0, .int .u64 0, .int .u64 0, .slice none 0 0], .bool false]) ∧ Below W.heap.size W w') := h_ (fun v W h => rof_none v pre kk W h (fun x hx e => hnk (List.mem_map.2 ⟨x, hx, e⟩)))
      have qon : Hid (∀ W, Below w.heap.size w W → Calls Tryz.prog 57 #[.int .i64 kk, .slice a4 NN (cap - a)] W fun e w' => (∃ r, e = .returned (.tuple #[.agg #[.int .i64 OO.1, .int .i64 OO.2.1, .int .u64 (OO.2.2.1.1 : Int), .int .u64 (OO.2.2.1.2 : Int), .int .u64 (OO.2.2.2.1.1 : Int), .int .u64 (OO.2.2.2.1.2 : Int), r], .agg #[.bool false, .int .i64 0, .int .i64 0]]) ∧ w'.ownsRow W.heap.size 61 11 r OO.2.2.2.2.length (ads OO.2.2.2.2)) ∧ Below W.heap.size W w') := h_ (fun W hW => rone_ok _ _ kk OO W (HB4.out.later hW) (by rw [htl]; omega) (fun e => by rw [e] at hft; unfold fitK at hft; simp at hft; rw [htl]; omega) (by rw [htl]; rw [hln] at hNl; omega) hbo)
      rw [← hkind] at hrest
      have hrest := h_ hrest
      have HP5 : Hid (((pre ++ [OO]).map (·.1)).Nodup ∧ ∀ x ∈ (pre ++ [OO]).map (·.1), 1 ≤ x ∧ x ≤ 5) := h_ (by
        rw [List.map_append]
        refine ⟨?_, ?_⟩
        · rw [List.nodup_append]
          refine ⟨HP0.out.1, by simp, ?_⟩
          intro x hx b hb
          simp only [List.map_cons, List.map_nil, List.mem_singleton] at hb
          subst hb
          exact fun e => hnk (by rw [← hkind, ← e]; exact hx)
        · intro x hx
          rcases List.mem_append.1 hx with h | h
          · exact HP0.out.2 x h
          · simp only [List.map_cons, List.map_nil, List.mem_singleton] at h
            subst h
            rw [hkind]
            exact hkr)
      obtain ⟨v0, v1, ⟨v2, v3⟩, ⟨v4, v5⟩, LO⟩ := OO
      have hkind : v0 = kk := hkind
      subst hkind
      obtain ⟨rn, hrn⟩ : ∃ rn, LO.length = rn := ⟨_, rfl⟩
      have HRN := h_ hrn
      have HLE := h_ (show a + NN ≤ l0.length by rw [hln] at hNl; omega)
      have HN8 := h_ hN8
      have hadd : (l0.drop a).drop NN = l0.drop (a + NN) := List.drop_drop
      have HAN := h_ haN
      clear hrn hB4 hbo hl4 hl12 hlN hnk hdk hdn hd8 hN8 hNm hNl hk6 hik hft hno hkr hln hp2 haN hmid htl
      go_wp2_with (first | (go_at_call 55; first | (have mk2 := mk1; refine (qg2.out).mono ?_; rintro e w9 ⟨er2, rfl, rfl⟩) | (refine (qg1.out).mono ?_; rintro e w9 ⟨er1, rfl, rfl⟩; have mk1 := True.intro)) | (go_at_call 56; refine (qri.out _ KB.out).mono ?_; rintro e w1 ⟨rfl, b1⟩; have k1 := h_ (KB.out.trans (b1.mono KB.out.size)); have R1 := h_ (HOw.out.later b1); have F1 := h_ (HF.out.later b1); have s1 := h_ (Nat.le_trans HS.out b1.size); have I1 := h_ (show InstAt w1 (.slice ua m uc) pre from HPR.out ▸ R1.out.at_); clear b1) | (go_at_call 12; refine (qof.out _ _ I1.out).mono ?_; rintro e w2 ⟨rfl, b2⟩; have jx := b2.trans ((below1 w2 (.cells #[.int .i64 0, .int .i64 0, .int .u64 0, .int .u64 0, .int .u64 0, .int .u64 0, .slice none 0 0] 34)).mono b2.size); have k2 := h_ (k1.out.trans (jx.mono k1.out.size)); have R2 := h_ (R1.out.later jx); have F2 := h_ (F1.out.later jx); have s2 := h_ (Nat.le_trans s1.out jx.size); clear b2 jx) | (go_at_call 57; refine (qon.out _ k2.out).mono ?_; rintro e w6 ⟨⟨r, rfl, ho⟩, b6⟩; obtain ⟨ru, rc, er⟩ := ownr_form ho; rw [HRN.out] at er; subst er; have jy := b6.trans ((below2 w6 (.cells #[.int .i64 v0, .int .i64 v1, .int .u64 (v2 : Int), .int .u64 (v3 : Int), .int .u64 (v4 : Int), .int .u64 (v5 : Int), .slice ru rn rc] 34) (.cells #[.bool false, .int .i64 0, .int .i64 0] 44)).mono b6.size); have HA6 := h_ (ownr_later (ownr_base ho s2.out) (below2 w6 (.cells #[.int .i64 v0, .int .i64 v1, .int .u64 (v2 : Int), .int .u64 (v3 : Int), .int .u64 (v4 : Int), .int .u64 (v5 : Int), .slice ru rn rc] 34) (.cells #[.bool false, .int .i64 0, .int .i64 0] 44))); have R6 := h_ (R2.out.later jy); have F6 := h_ (F2.out.later jy); have k6 := h_ (k2.out.trans (jy.mono k2.out.size)); have s6 := h_ (Nat.le_trans s2.out jy.size); obtain ⟨o0, o1, o2, o3, o4, o5, o6, -⟩ := ((AB.at0 w6 34 [.int .i64 v0, .int .i64 v1, .int .u64 (v2 : Int), .int .u64 (v3 : Int), .int .u64 (v4 : Int), .int .u64 (v5 : Int), .slice ru rn rc]).alloc (.cells #[.bool false, .int .i64 0, .int .i64 0] 44)).k7; obtain ⟨f0, f1, f2, -⟩ := (AB.at1 w6 (.cells #[.int .i64 v0, .int .i64 v1, .int .u64 (v2 : Int), .int .u64 (v3 : Int), .int .u64 (v4 : Int), .int .u64 (v5 : Int), .slice ru rn rc] 34) 44 [.bool false, .int .i64 0, .int .i64 0]).three; clear ho b6 jy) | (at_builtin; refine wpList_append_newG (.tmp 100) (.tmp 102) 22 rfl 34 i0 (.agg #[.int .i64 0, .int .i64 0, .int .u64 0, .int .u64 0, .int .u64 0, .int .u64 0, .slice none 0 0]) 7 72 Tryz.underlying22 HI.out.1 HI.out.2.1 HI.out.2.2.1 HI.out.2.2.2 rfl (by decide) (w.heap.size + 1) (.slice ua m uc) m (ids P) (by simp [Act.eval, Act.put]) ((w6.alloc (.cells #[.int .i64 v0, .int .i64 v1, .int .u64 (v2 : Int), .int .u64 (v3 : Int), .int .u64 (v4 : Int), .int .u64 (v5 : Int), .slice ru rn rc] 34)).alloc (.cells #[.bool false, .int .i64 0, .int .i64 0] 44)) (by have := R6.out.1; rw [← HM.out] at this; exact this) [.int .i64 v0, .int .i64 v1, .int .u64 (v2 : Int), .int .u64 (v3 : Int), .int .u64 (v4 : Int), .int .u64 (v5 : Int), .slice ru rn rc] _ rfl 1 (by simp) (by simp [Value.oneCell']) (by simp [Act.eval, Act.put]) (by simp [Region.wanted]) (by unfold maxLen; omega) (by omega) s6.out ?_; intro v8 w8 own8 b8 g8))
      have R8 : IRow w8 (w.heap.size + 1) v8 (P ++ [((v0, v1, (v2, v3), (v4, v5), LO), .slice ru rn rc)]) := IRow.push R6.out (by have := HA6.out; rw [← HRN.out] at this ⊢; exact this) (by rw [← HM.out]; exact own8) g8
      have hl8 : (P ++ [((v0, v1, (v2, v3), (v4, v5), LO), Value.slice ru rn rc)]).length = m + 1 := by rw [List.length_append, ← HM.out]; rfl
      obtain ⟨ua4, uc4, e4⟩ := ownr_form R8.1
      rw [hl8] at e4
      subst e4
      have R8 := h_ R8
      have HM8 := h_ hl8.symm
      have hrb : ∀ k, (Value.slice ua m uc).ownBlock = some k → w.heap.size + 1 ≤ k := fun k e => (R6.out.1.lt _ e).1
      have F8 := h_ ((F6.out.alloc (.cells #[.int .i64 v0, .int .i64 v1, .int .u64 (v2 : Int), .int .u64 (v3 : Int), .int .u64 (v4 : Int), .int .u64 (v5 : Int), .slice ru rn rc] 34)).grownO g8 (fun e => by have := hrb _ e.symm; omega))
      have k8 := h_ (k6.out.trans (b8.mono (by omega)))
      have s8 := h_ (Nat.le_trans s6.out b8.size)
      have HPM := h_ (show (P ++ [((v0, v1, (v2, v3), (v4, v5), LO), Value.slice ru rn rc)]).map (·.1) = pre ++ [(v0, v1, (v2, v3), (v4, v5), LO)] by rw [List.map_append, HPR.out]; rfl)
      clear hl8 own8 g8 b8 hrb
      try go_wp2
      go_roundw
      case rel => exact ⟨a + NN, ua4, uc4, m + 1, pre ++ [(v0, v1, (v2, v3), (v4, v5), LO)], P ++ [((v0, v1, (v2, v3), (v4, v5), LO), .slice ru rn rc)], HLE.out, by rw [show ((a + NN : Nat) : Int) = aN by have := HAN.out; omega], rfl, HM8, R8, h_ (by rw [List.map_append, ← hadd]; exact hrest.out), HPM, HP5, F8, k8, s8⟩
      case measure => have h1 := HN8.out; have h2 := HLE.out; have h3 := HAN.out; simp [intOf]; omega
end Go.Proofs.YthhijfphfcmniaaGreat
