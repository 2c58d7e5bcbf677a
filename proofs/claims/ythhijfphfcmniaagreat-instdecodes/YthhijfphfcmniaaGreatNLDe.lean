import Derived.Test.YthhijfphfcmniaaGreatNLCe
import Derived.Test.YthhijfphfcmniaaGreatNLAe
import Derived.Test.YthhijfphfcmniaaGreatNMe
import Derived.Deep.RegionHeld3
import Derived.Deep.RegionWith
import Derived.Deep.MidRow
import Derived.Deep.Cut
import Derived.Maps.OwnSet
import Derived.Maps.AppendAt
set_option maxRecDepth 100000
set_option maxHeartbeats 8000000
set_option linter.unusedVariables false
set_option linter.unusedSimpArgs false
namespace Go.Proofs.YthhijfphfcmniaaGreat
open Go Go.RowKit Go.Maps
theorem id_ok (v : Value) (l0 : List Int) (Ls : List I6) (w : World) (hB : Bytes w v l0) (hP : DOk Ans [] l0 Ls) :
    Calls Tryz.prog 21 #[v] w fun e w' => (∃ r, e = .returned (.tuple #[r, .agg #[.bool false, .int .i64 0, .int .i64 0]]) ∧ InstAt w' r Ls) ∧ Below w.heap.size w w' := by
  have F0 := h_ (AB.at0 w 44 [.bool false, .int .i64 0, .int .i64 0])
  have B0 := h_ (below1 w (.cells #[.bool false, .int .i64 0, .int .i64 0] 44))
  obtain ⟨ao0, cap0, rfl, hbr⟩ := hB
  have hB : Bytes w (.slice ao0 l0.length cap0) l0 := ⟨ao0, cap0, rfl, hbr⟩
  have HB0 := h_ hB
  have hmm := @run_makeMap Tryz.prog
  clear hB hbr
  obtain ⟨i0, hi0, hz0, hz1, hz2⟩ := info_parts infoIn
  have HI : Hid (Tryz.prog.info? 34 = some i0 ∧ i0.zero = some (.agg #[.int .i64 0, .int .i64 0, .int .u64 0, .int .u64 0, .int .u64 0, .int .u64 0, .slice none 0 0]) ∧ i0.size = 7 ∧ i0.bytes = 72) := ⟨hi0, hz0, hz1, hz2⟩
  clear hi0 hz0 hz1 hz2
  have HP := h_ hP
  clear hP
  have MM : Hid (((w.alloc (.cells #[.bool false, .int .i64 0, .int .i64 0] 44)).alloc (.map #[] 0)).ownsMap Tryz.prog 3 (unitElem (H := Unit)) (w.heap.size + 1) 0 (SdK [])) := h_ (by have := World.ownsMap_made (H := Unit) (w.alloc (.cells #[.bool false, .int .i64 0, .int .i64 0] 44)) Tryz.prog 3 unitElem; have e : SdK [] = .map [] := rfl; rw [e]; simpa using this)
  have FM := h_ (F0.out.alloc (.map #[] 0))
  have KM := h_ (B0.out.alloc (by simp) (.map #[] 0))
  have SM := h_ (show w.heap.size + 2 ≤ ((w.alloc (.cells #[.bool false, .int .i64 0, .int .i64 0] 44)).alloc (.map #[] 0)).heap.size by simp)
  go_enter Tryz.func21, Tryz.ntmps21
  go_wp2
  go_loopw [0, 4] (fun b u wr => ∃ (ao : Option Addr) (n cap : Nat) (ua : Option Addr) (uc m : Nat) (l : List Int) (pre : List I6) (P : List PI) (R : List I6), b = .slice ao n cap ∧ u = .slice ua m uc ∧ n = l.length ∧ Hid (m = P.length) ∧ Hid (Bytes w (.slice ao n cap) l) ∧ Hid (IRow wr (w.heap.size + 2) (.slice ua m uc) P) ∧ Hid (DOk Ans (pre.map (·.1)) l R ∧ pre ++ R = Ls) ∧ Hid (P.map (·.1) = pre) ∧ Hid ((pre.map (·.1)).Nodup ∧ ∀ x ∈ pre.map (·.1), 1 ≤ x ∧ x ≤ 5) ∧ Hid (wr.ownsMap Tryz.prog 3 unitElem (w.heap.size + 1) pre.length (SdK (pre.map (·.1)))) ∧ Hid (AB wr w.heap.size 44 [.bool false, .int .i64 0, .int .i64 0]) ∧ Hid (Below w.heap.size w wr) ∧ Hid (w.heap.size + 2 ≤ wr.heap.size)) (fun b _ _ => slen2 b)
  case atStart => exact ⟨ao0, l0.length, cap0, none, 0, 0, l0, [], [], Ls, rfl, rfl, rfl, h_ rfl, HB0, h_ (IRow.nil _ _), h_ ⟨HP.out, rfl⟩, h_ rfl, h_ ⟨by simp, by simp⟩, MM, FM, KM, SM⟩
  case round =>
    obtain ⟨ao, n, cap, ua, uc, m, l, pre, P, R, rfl, rfl, rfl, HM, HBy, HOw, HPP, HPR, HP0, HMp, HF, KB, HS⟩ := hrel
    have H5 : Hid (pre.length ≤ 5) := h_ (by have := pig 5 _ HP0.out.1 HP0.out.2; rw [List.length_map] at this; exact this)
    have hm5 : m ≤ 5 := by have h1 := congrArg List.length HPR.out; rw [List.length_map, ← HM.out] at h1; have := H5.out; omega
    obtain ⟨hpo, hpre⟩ := HPP.out
    clear HPP
    cases hpo with
    | nil =>
      have hpr : pre = Ls := by simpa using hpre
      obtain ⟨s0, s1, s2, s3, s4, s5⟩ := HF.out.three
      obtain ⟨u0, u1, u2, -⟩ := (HF.out.set3 (.bool false) (.int .i64 0) (.int .i64 0)).three
      have bb := below_set3 (g := w.heap.size) KB.out (Nat.le_refl _) (.bool false) (.int .i64 0) (.int .i64 0)
      have HX := h_ ((HOw.out.fill3 HF.out (.bool false) (.int .i64 0) (.int .i64 0)).at_)
      have HKL := h_ (show P.map (·.1) = Ls by rw [HPR.out, hpr])
      clear hpre hpr
      go_wp2
      refine bodyPost_ret (v := .tuple #[.slice ua m uc, .agg #[.bool false, .int .i64 0, .int .i64 0]]) (by simp [results, Tryz.results21, go_sem, u0, u1, u2]) rfl ⟨⟨_, rfl, ?_⟩, bb⟩
      rw [← HKL.out]
      exact HX.out
    | @cons _ _ kk NN OO RR hd hnk hbo hrest =>
      obtain ⟨hl4, hl12, hlN⟩ := hd.len
      have hdd := hd
      obtain ⟨hK0, hN2, h8l, ⟨hN8, hNm, hNl⟩, -, hik, -, -⟩ := hdd
      have qh := h_ (rh_ok (.slice ao l.length cap) l kk NN wr (HBy.out.later KB.out) hd.1 hd.2.1 hd.2.2.1 hd.2.2.2.1 hd.2.2.2.2.1 hd.2.2.2.2.2.1 hd.2.2.2.2.2.2.1 hd.2.2.2.2.2.2.2)
      obtain ⟨a4, s4, hB4⟩ := bytes_mid HBy.out 4 NN (by omega) hNl
      have s4 : ∀ wx, (Instr.slice 25 (.slice ao l.length cap) (some (.int .i64 4)) (some (.int .i64 (NN : Int))) none).run Tryz.prog wx = .ok (.slice a4 (NN - 4) (cap - 4)) wx := s4
      have HB4 := h_ hB4
      obtain ⟨ao2, -, s2, b2⟩ := bytes_slice HBy.out NN hNl
      have HB2 := h_ b2
      have hkind := hbo.kind
      have qb : Hid (∀ W, Below w.heap.size w W → Calls Tryz.prog 53 #[.int .i64 kk, .slice a4 (NN - 4) (cap - 4)] W fun e w' => (∃ r, e = .returned (.tuple #[.agg #[.int .i64 OO.1, .int .i64 OO.2.1, .int .u64 (OO.2.2.1.1 : Int), .int .u64 (OO.2.2.1.2 : Int), .int .u64 (OO.2.2.2.1.1 : Int), .int .u64 (OO.2.2.2.1.2 : Int), r], .agg #[.bool false, .int .i64 0, .int .i64 0]]) ∧ w'.ownsRow W.heap.size 61 11 r OO.2.2.2.2.length (ads OO.2.2.2.2)) ∧ Below W.heap.size W w') := h_ (fun W hW => rbody_ok _ _ kk OO W (HB4.out.later hW) hl4 hl12 hbo)
      have HK : Hid (keyOf Tryz.prog 3 (.int .i64 kk) = some (.int .i64 kk)) := h_ (keyOf_int_mk Tryz.underlying3 (isK_wf hik))
      have HH : Hid (Maps.has (SdK (pre.map (·.1))) (.int .i64 kk) = false) := h_ (by rw [SdK_has]; cases hc : (pre.map (·.1)).contains kk; rfl; exact absurd (List.contains_iff_mem.1 hc) hnk)
      have HSN := h_ (SdK_snoc (pre.map (·.1)) kk)
      rw [← hkind] at HSN hrest
      have hrest := h_ hrest
      have HP5 : Hid (((pre ++ [OO]).map (·.1)).Nodup ∧ ∀ x ∈ (pre ++ [OO]).map (·.1), 1 ≤ x ∧ x ≤ 5) := h_ (by
        rw [List.map_append]
        refine ⟨?_, ?_⟩
        · rw [List.nodup_append]
          refine ⟨HP0.out.1, by simp, ?_⟩
          intro a ha b hb
          simp only [List.map_cons, List.map_nil, List.mem_singleton] at hb
          subst hb
          exact fun e => hnk (by rw [← hkind, ← e]; exact ha)
        · intro x hx
          rcases List.mem_append.1 hx with h | h
          · exact HP0.out.2 x h
          · simp only [List.map_cons, List.map_nil, List.mem_singleton] at h
            subst h
            rw [hkind]
            unfold isK at hik
            simpa using hik)
      have hpre2 := h_ hpre
      obtain ⟨v0, v1, ⟨v2, v3⟩, ⟨v4, v5⟩, LO⟩ := OO
      have hkind : v0 = kk := hkind
      subst hkind
      obtain ⟨rn, hrn⟩ : ∃ rn, LO.length = rn := ⟨_, rfl⟩
      have HRN := h_ hrn
      have gpos : (0 : Int) < (l.length : Int) := by omega
      have hcap : ¬ (NN : Int) < 4 := by omega
      have HNL := h_ hNl
      have HN8 := h_ hN8
      clear b2 hd hrn hB4 hbo hl4 hl12 hlN hnk hK0 hN2 h8l hNm hik hNl hN8
      go_upto_region 12 with (first | (go_at_call 51; refine (qh.out).mono ?_; rintro e w3 ⟨rfl, b3⟩; have F3 := h_ ((HF.out.later b3).alloc (.cells #[.bool false, .int .i64 0, .int .i64 0] 44)); have G3 := h_ (AB.at0 w3 44 [.bool false, .int .i64 0, .int .i64 0]); have M3 := h_ ((ownsMap_later HMp.out b3).alloc (.cells #[.bool false, .int .i64 0, .int .i64 0] 44)); have R3 := h_ ((HOw.out.later b3).later (below1 w3 (.cells #[.bool false, .int .i64 0, .int .i64 0] 44))); have k3 := h_ (KB.out.trans ((b3.trans ((below1 w3 (.cells #[.bool false, .int .i64 0, .int .i64 0] 44)).mono b3.size)).mono KB.out.size)); have s3 := h_ (Nat.le_trans HS.out b3.size); have z3 := h_ (below1 w3 (.cells #[.bool false, .int .i64 0, .int .i64 0] 44)).size; obtain ⟨f0, f1, f2, -⟩ := G3.out.three; obtain ⟨ff0, ff1, ff2, -⟩ := (G3.out.alloc (.cells #[] 63)).three; clear b3) | (at_lookup; refine wpList_lookup_own_unit _ rfl _ _ 62 rfl 3 63 lawI Tryz.underlying62 (zeroUU _) (w.heap.size + 1) pre.length (SdK (pre.map (·.1))) rfl M3.out _ _ rfl HK.out ?_; rw [HH.out]) | (at_mapUpdate; refine wpList_mapUpdate_own _ rfl _ _ _ 62 rfl 3 63 lawI Tryz.underlying62 (unitElem (H := Unit)) (w.heap.size + 1) pre.length (SdK (pre.map (·.1))) rfl (M3.out.alloc _) (by have := H5.out; unfold maxLen; omega) _ _ _ rfl rfl HK.out _ [] unitElem_mk ?_; intro w5 hown5 hgrow5; have M5 := h_ hown5; have F5 := h_ ((F3.out.alloc (.cells #[] 63)).grownO hgrow5 (by intro e; injection e with e; omega)); have G5 := h_ ((G3.out.alloc (.cells #[] 63)).grownO hgrow5 (by have := s3.out; intro e; injection e with e; omega)); have R5 := h_ ((R3.out.later (below1 _ (.cells #[] 63))).kept hgrow5 (by omega)); have k5 := h_ ((k3.out.alloc (Nat.le_trans (Nat.le_trans (Nat.le_add_right _ 2) s3.out) z3.out) (.cells #[] 63)).grown hgrow5 (by have h1 := s3.out; have h2 := z3.out; simp at h2 ⊢; omega) (fun k e => by cases e; omega)); have s5 := h_ (Nat.le_trans (Nat.le_trans s3.out (Nat.le_trans z3.out (by simp))) hgrow5.size); obtain ⟨q0, q1, q2, -⟩ := G5.out.three; clear hown5 hgrow5) | (go_at_call 53; refine (qb.out _ k5.out).mono ?_; rintro e w6 ⟨⟨r, rfl, ho⟩, b6⟩; obtain ⟨ru, rc, er⟩ := ownr_form ho; rw [HRN.out] at er; subst er; have HA6 := h_ (ownr_base ho s5.out); have F6 := h_ (F5.out.later b6); have G6 := h_ (G5.out.later b6); have R6 := h_ (R5.out.later b6); have M6 := h_ (ownsMap_later M5.out b6); have k6 := h_ (k5.out.trans (b6.mono k5.out.size)); have s6 := h_ (Nat.le_trans s5.out b6.size); have g6 := h_ (G6.out.lt); obtain ⟨j0, j1, j2, j3, j4, j5⟩ := (G6.out.alloc (.cells #[.int .i64 v0, .int .i64 v1, .int .u64 (v2 : Int), .int .u64 (v3 : Int), .int .u64 (v4 : Int), .int .u64 (v5 : Int), .slice ru rn rc] 34)).three; clear ho b6))
      have hne2 := g6.out
      have RA := R6.out.later (below1 w6 (.cells #[.int .i64 v0, .int .i64 v1, .int .u64 (v2 : Int), .int .u64 (v3 : Int), .int .u64 (v4 : Int), .int .u64 (v5 : Int), .slice ru rn rc] 34))
      have GA := G6.out.alloc (.cells #[.int .i64 v0, .int .i64 v1, .int .u64 (v2 : Int), .int .u64 (v3 : Int), .int .u64 (v4 : Int), .int .u64 (v5 : Int), .slice ru rn rc] 34)
      have FA := F6.out.alloc (.cells #[.int .i64 v0, .int .i64 v1, .int .u64 (v2 : Int), .int .u64 (v3 : Int), .int .u64 (v4 : Int), .int .u64 (v5 : Int), .slice ru rn rc] 34)
      have MA := M6.out.alloc (.cells #[.int .i64 v0, .int .i64 v1, .int .u64 (v2 : Int), .int .u64 (v3 : Int), .int .u64 (v4 : Int), .int .u64 (v5 : Int), .slice ru rn rc] 34)
      have HAA := ownr_later HA6.out (below1 w6 (.cells #[.int .i64 v0, .int .i64 v1, .int .u64 (v2 : Int), .int .u64 (v3 : Int), .int .u64 (v4 : Int), .int .u64 (v5 : Int), .slice ru rn rc] 34))
      have IA := AB.at0 w6 34 [.int .i64 v0, .int .i64 v1, .int .u64 (v2 : Int), .int .u64 (v3 : Int), .int .u64 (v4 : Int), .int .u64 (v5 : Int), .slice ru rn rc]
      have RY := h_ (RA.fill3 GA (.bool false) (.int .i64 0) (.int .i64 0))
      have GY := h_ (GA.set3 (.bool false) (.int .i64 0) (.int .i64 0))
      have FY := h_ (FA.farx3 (f := w3.heap.size) (by have := s3.out; omega) (.bool false) (.int .i64 0) (.int .i64 0))
      have MY := h_ (map_set3 MA (g := w3.heap.size) (by have := s3.out; omega) (.bool false) (.int .i64 0) (.int .i64 0))
      have HAY := h_ (own_set3X HAA GA (by decide) (.bool false) (.int .i64 0) (.int .i64 0))
      have IY := h_ (IA.farx3 (f := w3.heap.size) (by omega) (.bool false) (.int .i64 0) (.int .i64 0))
      have kY := h_ (below_set3 (g := w3.heap.size) (k6.out.trans ((below1 w6 (.cells #[.int .i64 v0, .int .i64 v1, .int .u64 (v2 : Int), .int .u64 (v3 : Int), .int .u64 (v4 : Int), .int .u64 (v5 : Int), .slice ru rn rc] 34)).mono k6.out.size)) (by have := s3.out; omega) (.bool false) (.int .i64 0) (.int .i64 0))
      have sY := h_ (Nat.le_trans s6.out (below_set3 (n := 0) (g := w3.heap.size) ((below1 w6 (.cells #[.int .i64 v0, .int .i64 v1, .int .u64 (v2 : Int), .int .u64 (v3 : Int), .int .u64 (v4 : Int), .int .u64 (v5 : Int), .slice ru rn rc] 34)).mono (Nat.zero_le _)) (Nat.zero_le _) (.bool false) (.int .i64 0) (.int .i64 0)).size)
      clear RA GA FA MA HAA IA
      generalize ((((w6.alloc (.cells #[.int .i64 v0, .int .i64 v1, .int .u64 (v2 : Int), .int .u64 (v3 : Int), .int .u64 (v4 : Int), .int .u64 (v5 : Int), .slice ru rn rc] 34)).setCell ⟨w3.heap.size, 0, none⟩ (.bool false)).setCell ⟨w3.heap.size, 1, none⟩ (.int .i64 0)).setCell ⟨w3.heap.size, 2, none⟩ (.int .i64 0)) = Y at *
      obtain ⟨y0, y1, y2, -⟩ := GY.out.three
      obtain ⟨i0', i1', i2', i3', i4', i5', i6', -⟩ := IY.out.k7
      have HB2 := HB2
      go_wp2_with (first | (at_builtin; refine wpList_append_newG (.tmp 47) (.tmp 49) 22 rfl 34 i0 (.agg #[.int .i64 0, .int .i64 0, .int .u64 0, .int .u64 0, .int .u64 0, .int .u64 0, .slice none 0 0]) 7 72 Tryz.underlying22 HI.out.1 HI.out.2.1 HI.out.2.2.1 HI.out.2.2.2 rfl (by decide) (w.heap.size + 2) (.slice ua m uc) m (ids P) (by simp [Act.eval, Act.put]) Y (by have := RY.out.1; rw [← HM.out] at this; exact this) [.int .i64 v0, .int .i64 v1, .int .u64 (v2 : Int), .int .u64 (v3 : Int), .int .u64 (v4 : Int), .int .u64 (v5 : Int), .slice ru rn rc] _ rfl 1 (by simp) (by simp [Value.oneCell']) (by simp [Act.eval, Act.put]) (by simp [Region.wanted]) (by unfold maxLen; omega) (by omega) sY.out ?_; intro v8 w8 own8 b8 g8))
      have R8 : IRow w8 (w.heap.size + 2) v8 (P ++ [((v0, v1, (v2, v3), (v4, v5), LO), .slice ru rn rc)]) := IRow.push RY.out (by rw [← HRN.out] at *; exact HAY.out) (by rw [← HM.out]; exact own8) g8
      have hl8 : (P ++ [((v0, v1, (v2, v3), (v4, v5), LO), Value.slice ru rn rc)]).length = m + 1 := by rw [List.length_append, ← HM.out]; rfl
      obtain ⟨ua4, uc4, e4⟩ := ownr_form R8.1
      rw [hl8] at e4
      subst e4
      have R8 := h_ R8
      have HM8 := h_ hl8.symm
      have hrb : ∀ k, (Value.slice ua m uc).ownBlock = some k → w.heap.size + 2 ≤ k := fun k e => (RY.out.1.lt _ e).1
      have M8 := h_ ((MY.out.alloc (.cells #[.int .i64 v0, .int .i64 v1, .int .u64 (v2 : Int), .int .u64 (v3 : Int), .int .u64 (v4 : Int), .int .u64 (v5 : Int), .slice ru rn rc] 34)).kept g8 (fun e => by have := hrb _ e.symm; omega))
      have F8 := h_ ((FY.out.alloc (.cells #[.int .i64 v0, .int .i64 v1, .int .u64 (v2 : Int), .int .u64 (v3 : Int), .int .u64 (v4 : Int), .int .u64 (v5 : Int), .slice ru rn rc] 34)).grownO g8 (fun e => by have := hrb _ e.symm; omega))
      have k8 := h_ (kY.out.trans (b8.mono (by omega)))
      have s8 := h_ (Nat.le_trans sY.out b8.size)
      have HPM := h_ (show (P ++ [((v0, v1, (v2, v3), (v4, v5), LO), Value.slice ru rn rc)]).map (·.1) = pre ++ [(v0, v1, (v2, v3), (v4, v5), LO)] by rw [List.map_append, HPR.out]; rfl)
      have hpl : (pre ++ [(v0, v1, (v2, v3), (v4, v5), LO)]).length = pre.length + 1 := by simp
      have hpk : (pre ++ [(v0, v1, (v2, v3), (v4, v5), LO)]).map (·.1) = pre.map (·.1) ++ [v0] := by simp
      have M8 : Hid (w8.ownsMap Tryz.prog 3 unitElem (w.heap.size + 1) (pre ++ [(v0, v1, (v2, v3), (v4, v5), LO)]).length (SdK ((pre ++ [(v0, v1, (v2, v3), (v4, v5), LO)]).map (·.1)))) := h_ (by rw [hpl, hpk, show SdK (pre.map (·.1) ++ [v0]) = _ from HSN.out]; exact M8.out)
      clear hl8 own8 g8 b8 hrb hpl hpk
      try go_wp2
      go_roundw
      case rel => exact ⟨ao2, l.length - NN, cap - NN, ua4, uc4, m + 1, l.drop NN, pre ++ [(v0, v1, (v2, v3), (v4, v5), LO)], P ++ [((v0, v1, (v2, v3), (v4, v5), LO), .slice ru rn rc)], RR, rfl, rfl, by rw [List.length_drop], HM8, HB2, R8, h_ ⟨(by rw [List.map_append]; exact hrest.out), by rw [← hpre2.out]; simp⟩, HPM, HP5, M8, F8, k8, s8⟩
      case measure => have h1 := HN8.out; have h2 := HNL.out; simp [slen2]; omega
end Go.Proofs.YthhijfphfcmniaaGreat
namespace Go.Proofs.YthhijfphfcmniaaGreat
open Go Go.RowKit Go.Maps
theorem id_bad (v : Value) (l0 : List Int) (c d : Int) (w : World) (hB : Bytes w v l0) (hP : DBad Ans [] l0 c d) :
    Calls Tryz.prog 21 #[v] w fun e w' => (e = .returned (.tuple #[.slice none 0 0, .agg #[.bool true, .int .i64 c, .int .i64 d]])) ∧ Below w.heap.size w w' := by
  have F0 := h_ (AB.at0 w 44 [.bool false, .int .i64 0, .int .i64 0])
  have B0 := h_ (below1 w (.cells #[.bool false, .int .i64 0, .int .i64 0] 44))
  obtain ⟨ao0, cap0, rfl, hbr⟩ := hB
  have hB : Bytes w (.slice ao0 l0.length cap0) l0 := ⟨ao0, cap0, rfl, hbr⟩
  have HB0 := h_ hB
  have hmm := @run_makeMap Tryz.prog
  clear hB hbr
  obtain ⟨i0, hi0, hz0, hz1, hz2⟩ := info_parts infoIn
  have HI : Hid (Tryz.prog.info? 34 = some i0 ∧ i0.zero = some (.agg #[.int .i64 0, .int .i64 0, .int .u64 0, .int .u64 0, .int .u64 0, .int .u64 0, .slice none 0 0]) ∧ i0.size = 7 ∧ i0.bytes = 72) := ⟨hi0, hz0, hz1, hz2⟩
  clear hi0 hz0 hz1 hz2
  have HP := h_ hP
  clear hP
  have MM : Hid (((w.alloc (.cells #[.bool false, .int .i64 0, .int .i64 0] 44)).alloc (.map #[] 0)).ownsMap Tryz.prog 3 (unitElem (H := Unit)) (w.heap.size + 1) 0 (SdK [])) := h_ (by have := World.ownsMap_made (H := Unit) (w.alloc (.cells #[.bool false, .int .i64 0, .int .i64 0] 44)) Tryz.prog 3 unitElem; have e : SdK [] = .map [] := rfl; rw [e]; simpa using this)
  have FM := h_ (F0.out.alloc (.map #[] 0))
  have KM := h_ (B0.out.alloc (by simp) (.map #[] 0))
  have SM := h_ (show w.heap.size + 2 ≤ ((w.alloc (.cells #[.bool false, .int .i64 0, .int .i64 0] 44)).alloc (.map #[] 0)).heap.size by simp)
  go_enter Tryz.func21, Tryz.ntmps21
  go_wp2
  go_loopw [0, 4] (fun b u wr => ∃ (ao : Option Addr) (n cap : Nat) (ua : Option Addr) (uc m : Nat) (l : List Int) (pre : List I6) (P : List PI), b = .slice ao n cap ∧ u = .slice ua m uc ∧ n = l.length ∧ Hid (m = P.length) ∧ Hid (Bytes w (.slice ao n cap) l) ∧ Hid (IRow wr (w.heap.size + 2) (.slice ua m uc) P) ∧ Hid (DBad Ans (pre.map (·.1)) l c d) ∧ Hid (P.map (·.1) = pre) ∧ Hid ((pre.map (·.1)).Nodup ∧ ∀ x ∈ pre.map (·.1), 1 ≤ x ∧ x ≤ 5) ∧ Hid (wr.ownsMap Tryz.prog 3 unitElem (w.heap.size + 1) pre.length (SdK (pre.map (·.1)))) ∧ Hid (AB wr w.heap.size 44 [.bool false, .int .i64 0, .int .i64 0]) ∧ Hid (Below w.heap.size w wr) ∧ Hid (w.heap.size + 2 ≤ wr.heap.size)) (fun b _ _ => slen2 b)
  case atStart => exact ⟨ao0, l0.length, cap0, none, 0, 0, l0, [], [], rfl, rfl, rfl, h_ rfl, HB0, h_ (IRow.nil _ _), HP, h_ rfl, h_ ⟨by simp, by simp⟩, MM, FM, KM, SM⟩
  case round =>
    obtain ⟨ao, n, cap, ua, uc, m, l, pre, P, rfl, rfl, rfl, HM, HBy, HOw, HPP, HPR, HP0, HMp, HF, KB, HS⟩ := hrel
    have H5 : Hid (pre.length ≤ 5) := h_ (by have := pig 5 _ HP0.out.1 HP0.out.2; rw [List.length_map] at this; exact this)
    have hm5 : m ≤ 5 := by have h1 := congrArg List.length HPR.out; rw [List.length_map, ← HM.out] at h1; have := H5.out; omega
    have hpo := HPP.out
    clear HPP
    cases hpo with
    | @head _ _ d hd =>
      have qh := h_ (rh_no (.slice ao l.length cap) l d wr (HBy.out.later KB.out) hd)
      have gpos : (0 : Int) < (l.length : Int) := by have := hd.1; omega
      clear hd
      go_upto_region 6 with (first | (go_at_call 51; refine (qh.out).mono ?_; rintro e w3 ⟨rfl, b3⟩; have F3 := h_ ((HF.out.later b3).alloc (.cells #[.bool true, .int .i64 3, .int .i64 d] 44)); have G3 := h_ (AB.at0 w3 44 [.bool true, .int .i64 3, .int .i64 d]); have M3 := h_ ((ownsMap_later HMp.out b3).alloc (.cells #[.bool true, .int .i64 3, .int .i64 d] 44)); have R3 := h_ ((HOw.out.later b3).later (below1 w3 (.cells #[.bool true, .int .i64 3, .int .i64 d] 44))); have k3 := h_ (KB.out.trans ((b3.trans ((below1 w3 (.cells #[.bool true, .int .i64 3, .int .i64 d] 44)).mono b3.size)).mono KB.out.size)); have s3 := h_ (Nat.le_trans HS.out b3.size); have z3 := h_ (below1 w3 (.cells #[.bool true, .int .i64 3, .int .i64 d] 44)).size; obtain ⟨f0, f1, f2, -⟩ := G3.out.three; obtain ⟨ff0, ff1, ff2, -⟩ := (G3.out.alloc (.cells #[] 63)).three; clear b3))
      have BX := k3.out
      have FW := F3.out
      generalize w3.alloc (.cells #[.bool true, .int .i64 3, .int .i64 d] 44) = X at *
      have hgw : w.heap.size < w3.heap.size := by have := s3.out; omega
      have FD : AB X.drew w.heap.size 44 [.bool false, .int .i64 0, .int .i64 0] := FW
      obtain ⟨s0, s1, s2, s3', s4, s5⟩ := FD.three
      obtain ⟨u0, u1, u2, -⟩ := (FD.set3 (.bool true) (.int .i64 3) (.int .i64 d)).three
      clear FD FW
      refine wp_region_held_drew (S := (fun w' => w'.cell? ⟨w3.heap.size, 0, none⟩ = some (.bool true) ∧ w'.cell? ⟨w3.heap.size, 1, none⟩ = some (.int .i64 3) ∧ w'.cell? ⟨w3.heap.size, 2, none⟩ = some (.int .i64 d) ∧ Below w.heap.size w w')) (by kernel_rfl) (⟨f0, f1, f2, BX.drew⟩) (fun hHeld => ?_)
      generalize X.drew = D at *
      refine tR 0 ?_ (some 24) rfl (by kernel_rfl) rfl (by rfl) ?_ (fun _ _ _ h => h) (by assumption) ?_
      rotate_left
      · intro w hSw; (try dsimp only at hSw); go_simp; (try with_reducible rfl)
      simp only [Act.put, sIb, sCz, sCs]
      refine tR 1 ?_ (some 2) rfl (by kernel_rfl) rfl (by rfl) ?_ (fun _ _ _ h => h) (by assumption) ?_
      rotate_left
      · intro w hSw; (try dsimp only at hSw); go_simp; (try with_reducible rfl)
      simp only [Act.put, sIb, sCz, sCs]
      refine wpAnyH_ready (rs := [2]) (by kernel_rfl) (by simp) ?_
      refine AllReadyH.cons rfl (fun K hK => ?_) (AllReadyH.nil)
      go_simp
      refine hK.out _ _ (kW3_3 hHeld (by omega) (by dsimp only; omega) (by dsimp only; omega) (by dsimp only; omega)) (fun hHeld => ?_)
      clear hK K
      try simp only [Act.put, sIb, sCz, sCs]
      refine wpAnyH_done (by kernel_rfl) ?_ _
      go_wp2_with fail
      exact bodyPost_ret (v := .tuple #[.slice none 0 0, .agg #[.bool true, .int .i64 3, .int .i64 d]]) (by simp [results, Tryz.results21, go_sem, u0, u1, u2]) rfl ⟨rfl, hHeld.2.2.2⟩
    | @twice _ _ kk NN hd hin =>
      have qh := h_ (rh_ok (.slice ao l.length cap) l kk NN wr (HBy.out.later KB.out) hd.1 hd.2.1 hd.2.2.1 hd.2.2.2.1 hd.2.2.2.2.1 hd.2.2.2.2.2.1 hd.2.2.2.2.2.2.1 hd.2.2.2.2.2.2.2)
      have hik := hd.2.2.2.2.2.1
      have gpos : (0 : Int) < (l.length : Int) := by have := hd.2.2.1; omega
      have HK : Hid (keyOf Tryz.prog 3 (.int .i64 kk) = some (.int .i64 kk)) := h_ (keyOf_int_mk Tryz.underlying3 (isK_wf hik))
      have HH : Hid (Maps.has (SdK (pre.map (·.1))) (.int .i64 kk) = true) := h_ (by rw [SdK_has]; exact List.contains_iff_mem.2 hin)
      clear hd hin hik
      go_wp2_with (first | (go_at_call 51; refine (qh.out).mono ?_; rintro e w3 ⟨rfl, b3⟩; have F3 := h_ ((HF.out.later b3).alloc (.cells #[.bool false, .int .i64 0, .int .i64 0] 44)); have G3 := h_ (AB.at0 w3 44 [.bool false, .int .i64 0, .int .i64 0]); have M3 := h_ ((ownsMap_later HMp.out b3).alloc (.cells #[.bool false, .int .i64 0, .int .i64 0] 44)); have R3 := h_ ((HOw.out.later b3).later (below1 w3 (.cells #[.bool false, .int .i64 0, .int .i64 0] 44))); have k3 := h_ (KB.out.trans ((b3.trans ((below1 w3 (.cells #[.bool false, .int .i64 0, .int .i64 0] 44)).mono b3.size)).mono KB.out.size)); have s3 := h_ (Nat.le_trans HS.out b3.size); have z3 := h_ (below1 w3 (.cells #[.bool false, .int .i64 0, .int .i64 0] 44)).size; obtain ⟨f0, f1, f2, -⟩ := G3.out.three; obtain ⟨ff0, ff1, ff2, -⟩ := (G3.out.alloc (.cells #[] 63)).three; clear b3) | (at_lookup; refine wpList_lookup_own_unit _ rfl _ _ 62 rfl 3 63 lawI Tryz.underlying62 (zeroUU _) (w.heap.size + 1) pre.length (SdK (pre.map (·.1))) rfl M3.out _ _ rfl HK.out ?_; rw [HH.out]) | (go_at_call 52; refine (refuse3_any 9 _).mono ?_; rintro e w9 ⟨rfl, b9⟩; have F9 := (F3.out.alloc (.cells #[] 63)).later b9; have k9 := (k3.out.alloc (Nat.le_trans (Nat.le_trans (Nat.le_add_right _ 2) s3.out) z3.out) (.cells #[] 63)); have k9 := k9.trans (b9.mono k9.size); obtain ⟨s0, s1, s2, s3', s4, s5⟩ := F9.three; obtain ⟨u0, u1, u2, -⟩ := (F9.set3 (.bool true) (.int .i64 3) (.int .i64 9)).three; have bb := below_set3 (g := w.heap.size) k9 (Nat.le_refl _) (.bool true) (.int .i64 3) (.int .i64 9)))
      exact bodyPost_ret (v := .tuple #[.slice none 0 0, .agg #[.bool true, .int .i64 3, .int .i64 9]]) (by simp [results, Tryz.results21, go_sem, u0, u1, u2]) rfl ⟨rfl, bb⟩
    | @body _ _ kk c d NN hd hnk hbo =>
      obtain ⟨hl4, hl12, hlN⟩ := hd.len
      have qh := h_ (rh_ok (.slice ao l.length cap) l kk NN wr (HBy.out.later KB.out) hd.1 hd.2.1 hd.2.2.1 hd.2.2.2.1 hd.2.2.2.2.1 hd.2.2.2.2.2.1 hd.2.2.2.2.2.2.1 hd.2.2.2.2.2.2.2)
      have hik := hd.2.2.2.2.2.1
      have gpos : (0 : Int) < (l.length : Int) := by have := hd.2.2.1; omega
      have HK : Hid (keyOf Tryz.prog 3 (.int .i64 kk) = some (.int .i64 kk)) := h_ (keyOf_int_mk Tryz.underlying3 (isK_wf hik))
      have HH : Hid (Maps.has (SdK (pre.map (·.1))) (.int .i64 kk) = false) := h_ (by rw [SdK_has]; cases hc : (pre.map (·.1)).contains kk; rfl; exact absurd (List.contains_iff_mem.1 hc) hnk)
      obtain ⟨a4, s4, hB4⟩ := bytes_mid HBy.out 4 NN (by have := hd.2.2.2.1; omega) hd.2.2.2.1.2.2
      have s4 : ∀ wx, (Instr.slice 25 (.slice ao l.length cap) (some (.int .i64 4)) (some (.int .i64 (NN : Int))) none).run Tryz.prog wx = .ok (.slice a4 (NN - 4) (cap - 4)) wx := s4
      have HB4 := h_ hB4
      have qb : Hid (∀ W, Below w.heap.size w W → Calls Tryz.prog 53 #[.int .i64 kk, .slice a4 (NN - 4) (cap - 4)] W fun e w' => e = .returned (.tuple #[.agg #[.int .i64 0, .int .i64 0, .int .u64 0, .int .u64 0, .int .u64 0, .int .u64 0, .slice none 0 0], .agg #[.bool true, .int .i64 c, .int .i64 d]]) ∧ Below W.heap.size W w') := h_ (fun W hW => rbody_no _ _ kk c d W (HB4.out.later hW) hl4 hl12 hbo)
      have hN4 : ¬ (NN : Int) < 4 := by have := hd.2.2.2.1; omega
      clear hd hnk hbo hik hl4 hl12 hlN hB4
      go_upto_region 12 with (first | (go_at_call 51; refine (qh.out).mono ?_; rintro e w3 ⟨rfl, b3⟩; have F3 := h_ ((HF.out.later b3).alloc (.cells #[.bool false, .int .i64 0, .int .i64 0] 44)); have G3 := h_ (AB.at0 w3 44 [.bool false, .int .i64 0, .int .i64 0]); have M3 := h_ ((ownsMap_later HMp.out b3).alloc (.cells #[.bool false, .int .i64 0, .int .i64 0] 44)); have R3 := h_ ((HOw.out.later b3).later (below1 w3 (.cells #[.bool false, .int .i64 0, .int .i64 0] 44))); have k3 := h_ (KB.out.trans ((b3.trans ((below1 w3 (.cells #[.bool false, .int .i64 0, .int .i64 0] 44)).mono b3.size)).mono KB.out.size)); have s3 := h_ (Nat.le_trans HS.out b3.size); have z3 := h_ (below1 w3 (.cells #[.bool false, .int .i64 0, .int .i64 0] 44)).size; obtain ⟨f0, f1, f2, -⟩ := G3.out.three; obtain ⟨ff0, ff1, ff2, -⟩ := (G3.out.alloc (.cells #[] 63)).three; clear b3) | (at_lookup; refine wpList_lookup_own_unit _ rfl _ _ 62 rfl 3 63 lawI Tryz.underlying62 (zeroUU _) (w.heap.size + 1) pre.length (SdK (pre.map (·.1))) rfl M3.out _ _ rfl HK.out ?_; rw [HH.out]) | (at_mapUpdate; refine wpList_mapUpdate_own _ rfl _ _ _ 62 rfl 3 63 lawI Tryz.underlying62 (unitElem (H := Unit)) (w.heap.size + 1) pre.length (SdK (pre.map (·.1))) rfl (M3.out.alloc _) (by have := H5.out; unfold maxLen; omega) _ _ _ rfl rfl HK.out _ [] unitElem_mk ?_; intro w5 hown5 hgrow5; have M5 := h_ hown5; have F5 := h_ ((F3.out.alloc (.cells #[] 63)).grownO hgrow5 (by intro e; injection e with e; omega)); have G5 := h_ ((G3.out.alloc (.cells #[] 63)).grownO hgrow5 (by have := s3.out; intro e; injection e with e; omega)); have R5 := h_ ((R3.out.later (below1 _ (.cells #[] 63))).kept hgrow5 (by omega)); have k5 := h_ ((k3.out.alloc (Nat.le_trans (Nat.le_trans (Nat.le_add_right _ 2) s3.out) z3.out) (.cells #[] 63)).grown hgrow5 (by have h1 := s3.out; have h2 := z3.out; simp at h2 ⊢; omega) (fun k e => by cases e; omega)); have s5 := h_ (Nat.le_trans (Nat.le_trans s3.out (Nat.le_trans z3.out (by simp))) hgrow5.size); obtain ⟨q0, q1, q2, -⟩ := G5.out.three; clear hown5 hgrow5) | (go_at_call 53; refine (qb.out _ k5.out).mono ?_; rintro e w6 ⟨rfl, b6⟩; have F6 := h_ (F5.out.later b6); have G6 := h_ (G5.out.later b6); have k6 := h_ (k5.out.trans (b6.mono k5.out.size)); have s6 := h_ (Nat.le_trans s5.out b6.size); have g6 := h_ (G6.out.lt); obtain ⟨j0, j1, j2, j3, j4, j5⟩ := (G6.out.alloc (.cells #[.int .i64 0, .int .i64 0, .int .u64 0, .int .u64 0, .int .u64 0, .int .u64 0, .slice none 0 0] 34)).three; clear b6))
      have hne2 := g6.out
      have GA := G6.out.alloc (.cells #[.int .i64 0, .int .i64 0, .int .u64 0, .int .u64 0, .int .u64 0, .int .u64 0, .slice none 0 0] 34)
      have FA := F6.out.alloc (.cells #[.int .i64 0, .int .i64 0, .int .u64 0, .int .u64 0, .int .u64 0, .int .u64 0, .slice none 0 0] 34)
      have GY := h_ (GA.set3 (.bool true) (.int .i64 c) (.int .i64 d))
      have FY := h_ (FA.farx3 (f := w3.heap.size) (by have := s3.out; omega) (.bool true) (.int .i64 c) (.int .i64 d))
      have kY := h_ (below_set3 (g := w3.heap.size) (k6.out.trans ((below1 w6 (.cells #[.int .i64 0, .int .i64 0, .int .u64 0, .int .u64 0, .int .u64 0, .int .u64 0, .slice none 0 0] 34)).mono k6.out.size)) (by have := s3.out; omega) (.bool true) (.int .i64 c) (.int .i64 d))
      clear GA FA
      generalize ((((w6.alloc (.cells #[.int .i64 0, .int .i64 0, .int .u64 0, .int .u64 0, .int .u64 0, .int .u64 0, .slice none 0 0] 34)).setCell ⟨w3.heap.size, 0, none⟩ (.bool true)).setCell ⟨w3.heap.size, 1, none⟩ (.int .i64 c)).setCell ⟨w3.heap.size, 2, none⟩ (.int .i64 d)) = Y at *
      obtain ⟨y0, y1, y2, -⟩ := GY.out.three
      have BX := kY.out
      have FW := FY.out
      go_upto_region 13 with fail
      have hgw : w.heap.size < w3.heap.size := by have := s3.out; omega
      have FD : AB Y.drew w.heap.size 44 [.bool false, .int .i64 0, .int .i64 0] := FW
      obtain ⟨s0, s1, s2, s3', s4, s5⟩ := FD.three
      obtain ⟨u0, u1, u2, -⟩ := (FD.set3 (.bool true) (.int .i64 c) (.int .i64 d)).three
      clear FD FW
      refine wp_region_held_drew (S := (fun w' => w'.cell? ⟨w3.heap.size, 0, none⟩ = some (.bool true) ∧ w'.cell? ⟨w3.heap.size, 1, none⟩ = some (.int .i64 c) ∧ w'.cell? ⟨w3.heap.size, 2, none⟩ = some (.int .i64 d) ∧ Below w.heap.size w w')) (by kernel_rfl) (⟨y0, y1, y2, BX.drew⟩) (fun hHeld => ?_)
      generalize Y.drew = D at *
      refine tR 0 ?_ (some 46) rfl (by kernel_rfl) rfl (by rfl) ?_ (fun _ _ _ h => h) (by assumption) ?_
      rotate_left
      · intro w hSw; (try dsimp only at hSw); go_simp; (try with_reducible rfl)
      simp only [Act.put, sIb, sCz, sCs]
      refine tR 1 ?_ (some 2) rfl (by kernel_rfl) rfl (by rfl) ?_ (fun _ _ _ h => h) (by assumption) ?_
      rotate_left
      · intro w hSw; (try dsimp only at hSw); go_simp; (try with_reducible rfl)
      simp only [Act.put, sIb, sCz, sCs]
      refine wpAnyH_ready (rs := [2]) (by kernel_rfl) (by simp) ?_
      refine AllReadyH.cons rfl (fun K hK => ?_) (AllReadyH.nil)
      go_simp
      refine hK.out _ _ (kW3_3 hHeld (by omega) (by dsimp only; omega) (by dsimp only; omega) (by dsimp only; omega)) (fun hHeld => ?_)
      clear hK K
      try simp only [Act.put, sIb, sCz, sCs]
      refine wpAnyH_done (by kernel_rfl) ?_ _
      go_wp2_with fail
      exact bodyPost_ret (v := .tuple #[.slice none 0 0, .agg #[.bool true, .int .i64 c, .int .i64 d]]) (by simp [results, Tryz.results21, go_sem, u0, u1, u2]) rfl ⟨rfl, hHeld.2.2.2⟩
    | @cons _ _ kk c d NN OO hd hnk hbo hrest =>
      obtain ⟨hl4, hl12, hlN⟩ := hd.len
      have hdd := hd
      obtain ⟨hK0, hN2, h8l, ⟨hN8, hNm, hNl⟩, -, hik, -, -⟩ := hdd
      have qh := h_ (rh_ok (.slice ao l.length cap) l kk NN wr (HBy.out.later KB.out) hd.1 hd.2.1 hd.2.2.1 hd.2.2.2.1 hd.2.2.2.2.1 hd.2.2.2.2.2.1 hd.2.2.2.2.2.2.1 hd.2.2.2.2.2.2.2)
      obtain ⟨a4, s4, hB4⟩ := bytes_mid HBy.out 4 NN (by omega) hNl
      have s4 : ∀ wx, (Instr.slice 25 (.slice ao l.length cap) (some (.int .i64 4)) (some (.int .i64 (NN : Int))) none).run Tryz.prog wx = .ok (.slice a4 (NN - 4) (cap - 4)) wx := s4
      have HB4 := h_ hB4
      obtain ⟨ao2, -, s2, b2⟩ := bytes_slice HBy.out NN hNl
      have HB2 := h_ b2
      have hkind := hbo.kind
      have qb : Hid (∀ W, Below w.heap.size w W → Calls Tryz.prog 53 #[.int .i64 kk, .slice a4 (NN - 4) (cap - 4)] W fun e w' => (∃ r, e = .returned (.tuple #[.agg #[.int .i64 OO.1, .int .i64 OO.2.1, .int .u64 (OO.2.2.1.1 : Int), .int .u64 (OO.2.2.1.2 : Int), .int .u64 (OO.2.2.2.1.1 : Int), .int .u64 (OO.2.2.2.1.2 : Int), r], .agg #[.bool false, .int .i64 0, .int .i64 0]]) ∧ w'.ownsRow W.heap.size 61 11 r OO.2.2.2.2.length (ads OO.2.2.2.2)) ∧ Below W.heap.size W w') := h_ (fun W hW => rbody_ok _ _ kk OO W (HB4.out.later hW) hl4 hl12 hbo)
      have HK : Hid (keyOf Tryz.prog 3 (.int .i64 kk) = some (.int .i64 kk)) := h_ (keyOf_int_mk Tryz.underlying3 (isK_wf hik))
      have HH : Hid (Maps.has (SdK (pre.map (·.1))) (.int .i64 kk) = false) := h_ (by rw [SdK_has]; cases hc : (pre.map (·.1)).contains kk; rfl; exact absurd (List.contains_iff_mem.1 hc) hnk)
      have HSN := h_ (SdK_snoc (pre.map (·.1)) kk)
      rw [← hkind] at HSN hrest
      have hrest := h_ hrest
      have HP5 : Hid (((pre ++ [OO]).map (·.1)).Nodup ∧ ∀ x ∈ (pre ++ [OO]).map (·.1), 1 ≤ x ∧ x ≤ 5) := h_ (by
        rw [List.map_append]
        refine ⟨?_, ?_⟩
        · rw [List.nodup_append]
          refine ⟨HP0.out.1, by simp, ?_⟩
          intro a ha b hb
          simp only [List.map_cons, List.map_nil, List.mem_singleton] at hb
          subst hb
          exact fun e => hnk (by rw [← hkind, ← e]; exact ha)
        · intro x hx
          rcases List.mem_append.1 hx with h | h
          · exact HP0.out.2 x h
          · simp only [List.map_cons, List.map_nil, List.mem_singleton] at h
            subst h
            rw [hkind]
            unfold isK at hik
            simpa using hik)
      obtain ⟨v0, v1, ⟨v2, v3⟩, ⟨v4, v5⟩, LO⟩ := OO
      have hkind : v0 = kk := hkind
      subst hkind
      obtain ⟨rn, hrn⟩ : ∃ rn, LO.length = rn := ⟨_, rfl⟩
      have HRN := h_ hrn
      have gpos : (0 : Int) < (l.length : Int) := by omega
      have hcap : ¬ (NN : Int) < 4 := by omega
      have HNL := h_ hNl
      have HN8 := h_ hN8
      clear b2 hd hrn hB4 hbo hl4 hl12 hlN hnk hK0 hN2 h8l hNm hik hNl hN8
      go_upto_region 12 with (first | (go_at_call 51; refine (qh.out).mono ?_; rintro e w3 ⟨rfl, b3⟩; have F3 := h_ ((HF.out.later b3).alloc (.cells #[.bool false, .int .i64 0, .int .i64 0] 44)); have G3 := h_ (AB.at0 w3 44 [.bool false, .int .i64 0, .int .i64 0]); have M3 := h_ ((ownsMap_later HMp.out b3).alloc (.cells #[.bool false, .int .i64 0, .int .i64 0] 44)); have R3 := h_ ((HOw.out.later b3).later (below1 w3 (.cells #[.bool false, .int .i64 0, .int .i64 0] 44))); have k3 := h_ (KB.out.trans ((b3.trans ((below1 w3 (.cells #[.bool false, .int .i64 0, .int .i64 0] 44)).mono b3.size)).mono KB.out.size)); have s3 := h_ (Nat.le_trans HS.out b3.size); have z3 := h_ (below1 w3 (.cells #[.bool false, .int .i64 0, .int .i64 0] 44)).size; obtain ⟨f0, f1, f2, -⟩ := G3.out.three; obtain ⟨ff0, ff1, ff2, -⟩ := (G3.out.alloc (.cells #[] 63)).three; clear b3) | (at_lookup; refine wpList_lookup_own_unit _ rfl _ _ 62 rfl 3 63 lawI Tryz.underlying62 (zeroUU _) (w.heap.size + 1) pre.length (SdK (pre.map (·.1))) rfl M3.out _ _ rfl HK.out ?_; rw [HH.out]) | (at_mapUpdate; refine wpList_mapUpdate_own _ rfl _ _ _ 62 rfl 3 63 lawI Tryz.underlying62 (unitElem (H := Unit)) (w.heap.size + 1) pre.length (SdK (pre.map (·.1))) rfl (M3.out.alloc _) (by have := H5.out; unfold maxLen; omega) _ _ _ rfl rfl HK.out _ [] unitElem_mk ?_; intro w5 hown5 hgrow5; have M5 := h_ hown5; have F5 := h_ ((F3.out.alloc (.cells #[] 63)).grownO hgrow5 (by intro e; injection e with e; omega)); have G5 := h_ ((G3.out.alloc (.cells #[] 63)).grownO hgrow5 (by have := s3.out; intro e; injection e with e; omega)); have R5 := h_ ((R3.out.later (below1 _ (.cells #[] 63))).kept hgrow5 (by omega)); have k5 := h_ ((k3.out.alloc (Nat.le_trans (Nat.le_trans (Nat.le_add_right _ 2) s3.out) z3.out) (.cells #[] 63)).grown hgrow5 (by have h1 := s3.out; have h2 := z3.out; simp at h2 ⊢; omega) (fun k e => by cases e; omega)); have s5 := h_ (Nat.le_trans (Nat.le_trans s3.out (Nat.le_trans z3.out (by simp))) hgrow5.size); obtain ⟨q0, q1, q2, -⟩ := G5.out.three; clear hown5 hgrow5) | (go_at_call 53; refine (qb.out _ k5.out).mono ?_; rintro e w6 ⟨⟨r, rfl, ho⟩, b6⟩; obtain ⟨ru, rc, er⟩ := ownr_form ho; rw [HRN.out] at er; subst er; have HA6 := h_ (ownr_base ho s5.out); have F6 := h_ (F5.out.later b6); have G6 := h_ (G5.out.later b6); have R6 := h_ (R5.out.later b6); have M6 := h_ (ownsMap_later M5.out b6); have k6 := h_ (k5.out.trans (b6.mono k5.out.size)); have s6 := h_ (Nat.le_trans s5.out b6.size); have g6 := h_ (G6.out.lt); obtain ⟨j0, j1, j2, j3, j4, j5⟩ := (G6.out.alloc (.cells #[.int .i64 v0, .int .i64 v1, .int .u64 (v2 : Int), .int .u64 (v3 : Int), .int .u64 (v4 : Int), .int .u64 (v5 : Int), .slice ru rn rc] 34)).three; clear ho b6))
      have hne2 := g6.out
      have RA := R6.out.later (below1 w6 (.cells #[.int .i64 v0, .int .i64 v1, .int .u64 (v2 : Int), .int .u64 (v3 : Int), .int .u64 (v4 : Int), .int .u64 (v5 : Int), .slice ru rn rc] 34))
      have GA := G6.out.alloc (.cells #[.int .i64 v0, .int .i64 v1, .int .u64 (v2 : Int), .int .u64 (v3 : Int), .int .u64 (v4 : Int), .int .u64 (v5 : Int), .slice ru rn rc] 34)
      have FA := F6.out.alloc (.cells #[.int .i64 v0, .int .i64 v1, .int .u64 (v2 : Int), .int .u64 (v3 : Int), .int .u64 (v4 : Int), .int .u64 (v5 : Int), .slice ru rn rc] 34)
      have MA := M6.out.alloc (.cells #[.int .i64 v0, .int .i64 v1, .int .u64 (v2 : Int), .int .u64 (v3 : Int), .int .u64 (v4 : Int), .int .u64 (v5 : Int), .slice ru rn rc] 34)
      have HAA := ownr_later HA6.out (below1 w6 (.cells #[.int .i64 v0, .int .i64 v1, .int .u64 (v2 : Int), .int .u64 (v3 : Int), .int .u64 (v4 : Int), .int .u64 (v5 : Int), .slice ru rn rc] 34))
      have IA := AB.at0 w6 34 [.int .i64 v0, .int .i64 v1, .int .u64 (v2 : Int), .int .u64 (v3 : Int), .int .u64 (v4 : Int), .int .u64 (v5 : Int), .slice ru rn rc]
      have RY := h_ (RA.fill3 GA (.bool false) (.int .i64 0) (.int .i64 0))
      have GY := h_ (GA.set3 (.bool false) (.int .i64 0) (.int .i64 0))
      have FY := h_ (FA.farx3 (f := w3.heap.size) (by have := s3.out; omega) (.bool false) (.int .i64 0) (.int .i64 0))
      have MY := h_ (map_set3 MA (g := w3.heap.size) (by have := s3.out; omega) (.bool false) (.int .i64 0) (.int .i64 0))
      have HAY := h_ (own_set3X HAA GA (by decide) (.bool false) (.int .i64 0) (.int .i64 0))
      have IY := h_ (IA.farx3 (f := w3.heap.size) (by omega) (.bool false) (.int .i64 0) (.int .i64 0))
      have kY := h_ (below_set3 (g := w3.heap.size) (k6.out.trans ((below1 w6 (.cells #[.int .i64 v0, .int .i64 v1, .int .u64 (v2 : Int), .int .u64 (v3 : Int), .int .u64 (v4 : Int), .int .u64 (v5 : Int), .slice ru rn rc] 34)).mono k6.out.size)) (by have := s3.out; omega) (.bool false) (.int .i64 0) (.int .i64 0))
      have sY := h_ (Nat.le_trans s6.out (below_set3 (n := 0) (g := w3.heap.size) ((below1 w6 (.cells #[.int .i64 v0, .int .i64 v1, .int .u64 (v2 : Int), .int .u64 (v3 : Int), .int .u64 (v4 : Int), .int .u64 (v5 : Int), .slice ru rn rc] 34)).mono (Nat.zero_le _)) (Nat.zero_le _) (.bool false) (.int .i64 0) (.int .i64 0)).size)
      clear RA GA FA MA HAA IA
      generalize ((((w6.alloc (.cells #[.int .i64 v0, .int .i64 v1, .int .u64 (v2 : Int), .int .u64 (v3 : Int), .int .u64 (v4 : Int), .int .u64 (v5 : Int), .slice ru rn rc] 34)).setCell ⟨w3.heap.size, 0, none⟩ (.bool false)).setCell ⟨w3.heap.size, 1, none⟩ (.int .i64 0)).setCell ⟨w3.heap.size, 2, none⟩ (.int .i64 0)) = Y at *
      obtain ⟨y0, y1, y2, -⟩ := GY.out.three
      obtain ⟨i0', i1', i2', i3', i4', i5', i6', -⟩ := IY.out.k7
      have HB2 := HB2
      go_wp2_with (first | (at_builtin; refine wpList_append_newG (.tmp 47) (.tmp 49) 22 rfl 34 i0 (.agg #[.int .i64 0, .int .i64 0, .int .u64 0, .int .u64 0, .int .u64 0, .int .u64 0, .slice none 0 0]) 7 72 Tryz.underlying22 HI.out.1 HI.out.2.1 HI.out.2.2.1 HI.out.2.2.2 rfl (by decide) (w.heap.size + 2) (.slice ua m uc) m (ids P) (by simp [Act.eval, Act.put]) Y (by have := RY.out.1; rw [← HM.out] at this; exact this) [.int .i64 v0, .int .i64 v1, .int .u64 (v2 : Int), .int .u64 (v3 : Int), .int .u64 (v4 : Int), .int .u64 (v5 : Int), .slice ru rn rc] _ rfl 1 (by simp) (by simp [Value.oneCell']) (by simp [Act.eval, Act.put]) (by simp [Region.wanted]) (by unfold maxLen; omega) (by omega) sY.out ?_; intro v8 w8 own8 b8 g8))
      have R8 : IRow w8 (w.heap.size + 2) v8 (P ++ [((v0, v1, (v2, v3), (v4, v5), LO), .slice ru rn rc)]) := IRow.push RY.out (by rw [← HRN.out] at *; exact HAY.out) (by rw [← HM.out]; exact own8) g8
      have hl8 : (P ++ [((v0, v1, (v2, v3), (v4, v5), LO), Value.slice ru rn rc)]).length = m + 1 := by rw [List.length_append, ← HM.out]; rfl
      obtain ⟨ua4, uc4, e4⟩ := ownr_form R8.1
      rw [hl8] at e4
      subst e4
      have R8 := h_ R8
      have HM8 := h_ hl8.symm
      have hrb : ∀ k, (Value.slice ua m uc).ownBlock = some k → w.heap.size + 2 ≤ k := fun k e => (RY.out.1.lt _ e).1
      have M8 := h_ ((MY.out.alloc (.cells #[.int .i64 v0, .int .i64 v1, .int .u64 (v2 : Int), .int .u64 (v3 : Int), .int .u64 (v4 : Int), .int .u64 (v5 : Int), .slice ru rn rc] 34)).kept g8 (fun e => by have := hrb _ e.symm; omega))
      have F8 := h_ ((FY.out.alloc (.cells #[.int .i64 v0, .int .i64 v1, .int .u64 (v2 : Int), .int .u64 (v3 : Int), .int .u64 (v4 : Int), .int .u64 (v5 : Int), .slice ru rn rc] 34)).grownO g8 (fun e => by have := hrb _ e.symm; omega))
      have k8 := h_ (kY.out.trans (b8.mono (by omega)))
      have s8 := h_ (Nat.le_trans sY.out b8.size)
      have HPM := h_ (show (P ++ [((v0, v1, (v2, v3), (v4, v5), LO), Value.slice ru rn rc)]).map (·.1) = pre ++ [(v0, v1, (v2, v3), (v4, v5), LO)] by rw [List.map_append, HPR.out]; rfl)
      have hpl : (pre ++ [(v0, v1, (v2, v3), (v4, v5), LO)]).length = pre.length + 1 := by simp
      have hpk : (pre ++ [(v0, v1, (v2, v3), (v4, v5), LO)]).map (·.1) = pre.map (·.1) ++ [v0] := by simp
      have M8 : Hid (w8.ownsMap Tryz.prog 3 unitElem (w.heap.size + 1) (pre ++ [(v0, v1, (v2, v3), (v4, v5), LO)]).length (SdK ((pre ++ [(v0, v1, (v2, v3), (v4, v5), LO)]).map (·.1)))) := h_ (by rw [hpl, hpk, show SdK (pre.map (·.1) ++ [v0]) = _ from HSN.out]; exact M8.out)
      clear hl8 own8 g8 b8 hrb hpl hpk
      try go_wp2
      go_roundw
      case rel => exact ⟨ao2, l.length - NN, cap - NN, ua4, uc4, m + 1, l.drop NN, pre ++ [(v0, v1, (v2, v3), (v4, v5), LO)], P ++ [((v0, v1, (v2, v3), (v4, v5), LO), .slice ru rn rc)], rfl, rfl, by rw [List.length_drop], HM8, HB2, R8, h_ (by rw [List.map_append]; exact hrest.out), HPM, HP5, M8, F8, k8, s8⟩
      case measure => have h1 := HN8.out; have h2 := HNL.out; simp [slen2]; omega
end Go.Proofs.YthhijfphfcmniaaGreat
namespace Go.Proofs.YthhijfphfcmniaaGreat
open Go Go.RowKit
theorem act_cells {w : World} {ad : Addr} {n cap : Nat} {L : List A11} (h : ActAt w (.slice (some ad) n cap) L) : ∀ j u, (ads L)[j]? = some u → w.cell? (ad.add j) = some u := by
  obtain ⟨s, cap', e, h1, h2, h3, h4⟩ := h
  cases e
  intro j u hu
  have hj : j < L.length * 11 := by rw [← ads_length]; exact (List.getElem?_eq_some_iff.1 hu).1
  have e1 : j / 11 * 11 + j % 11 = j := by omega
  obtain ⟨o, ho⟩ : ∃ o, L[j / 11]? = some o := ⟨_, List.getElem?_eq_getElem (by omega)⟩
  obtain ⟨q, off, e2, hc⟩ := h4 _ o ho
  cases e2
  rw [← e1, ads_at ho (by omega)] at hu
  have := hc _ u hu
  rw [Addr.add_lit]
  rw [Nat.add_assoc, e1] at this
  exact this
theorem wpList_append_act {w : World} {ops : Array Oper} {rest : List Oper} {o : Oper} {a : Act} {Q : Exit → Act → World → Prop} (hgd : o.guard = none) (s x : Operand) (t : TypeId)
    (ho : o.op = .call { callee := .builtin .append, args := #[s, x], argTypes := #[t, t] })
    (base : Nat) (i : TypeInfo) (ht : Tryz.prog.underlying t = some (.slice 61)) (hi : Tryz.prog.info? 61 = some i) (hz : i.zero = some (.agg #[.int .i64 0, .int .i64 0, .int .i64 0, .int .i64 0, .int .i64 0, .int .i64 0, .bool false, .int .u64 0, .int .u64 0, .int .u64 0, .int .u64 0]))
    (hsize : i.size = 11) (hby : i.bytes = 88)
    (v : Value) (n : Nat) (xs : List Value) (hs : a.eval s = v) (hown : w.ownsRow base 61 11 v n xs)
    (u : Value) (L : List A11) (hx : a.eval x = u) (hB : ActAt w u L)
    (h63 : n + L.length ≤ 1000000) (hbase : base ≤ w.heap.size)
    (h : ∀ v' w', w'.ownsRow base 61 11 v' (n + L.length) (xs ++ ads L) → w.grownBy w' v.ownBlock → wpList Tryz.prog ops Q rest (a.put o.dst v') w') : wpList Tryz.prog ops Q (o :: rest) a w := by
  have hB2 := hB
  obtain ⟨ad, cap, rfl, h1, h2, h3, h4⟩ := hB
  cases ad with
  | none =>
    have hc := h3 rfl
    subst hc
    have hl : L = [] := List.eq_nil_of_length_eq_zero (by omega)
    subst hl
    refine wpList_append_own_none hgd s x t ho base 61 i 11 ht hi v n xs hs hown hx ?_
    refine h v w ?_ ⟨rfl, rfl, rfl, Nat.le_refl _, fun _ _ _ => rfl⟩
    simpa [ads] using hown
  | some ad =>
    exact wpList_append_own w hgd s x t ho base 61 i (.agg #[.int .i64 0, .int .i64 0, .int .i64 0, .int .i64 0, .int .i64 0, .int .i64 0, .bool false, .int .u64 0, .int .u64 0, .int .u64 0, .int .u64 0]) 11 88 ht hi hz hsize hby rfl (by decide) v n xs hs hown ad L.length cap (ads L) hx (ads_length L) (act_cells hB2) (ads_one L) (by unfold maxLen; omega) (by omega) hbase (fun v' w' a1 a2 _ => h v' w' a1 a2)
theorem aclone_any (v : Value) (L : List A11) (w : World) (hL : ActAt w v L) (hlen : L.length ≤ 1000) :
    Calls Tryz.prog 41 #[v] w fun e w' => ∃ r, e = .returned r ∧ w'.ownsRow w.heap.size 61 11 r L.length (ads L) ∧ Below w.heap.size w w' := by
  have hB2 := h_ hL
  obtain ⟨a, cap, rfl, h1, h2, h3, h4⟩ := hL
  cases a with
  | none =>
    have hc := h3 rfl
    subst hc
    have hl : L = [] := List.eq_nil_of_length_eq_zero (by omega)
    subst hl
    simp only [List.length_nil]
    clear h1 h2 h3 h4 hB2
    have hn := fun wx => Lib.run_eql_slice_nil (P := Tryz.prog) wx 32 61 none 0 0 0 0 Tryz.underlying32
    go_enter Tryz.func41, Tryz.ntmps41
    go_wp2
    go_ret
    exact ⟨_, rfl, World.ownsRow_nil _ _ _ _, Below.refl _ _⟩
  | some ad =>
    have hn := fun wx => Lib.run_eql_slice_nil (P := Tryz.prog) wx 32 61 (some ad) L.length cap 0 0 Tryz.underlying32
    clear h3 h4
    unfold maxLen at h2
    obtain ⟨i0, hi0, hz0, hz1, hz2⟩ := info_parts infoAc
    have HI : Hid (Tryz.prog.info? 61 = some i0 ∧ i0.zero = some (.agg #[.int .i64 0, .int .i64 0, .int .i64 0, .int .i64 0, .int .i64 0, .int .i64 0, .bool false, .int .u64 0, .int .u64 0, .int .u64 0, .int .u64 0]) ∧ i0.size = 11 ∧ i0.bytes = 88) := ⟨hi0, hz0, hz1, hz2⟩
    clear hi0 hz0 hz1 hz2
    go_enter Tryz.func41, Tryz.ntmps41
    go_wp2_with (at_builtin; refine wpList_append_act rfl (.tmp 5) (.tmp 6) 32 rfl w.heap.size i0 Tryz.underlying32 HI.out.1 HI.out.2.1 HI.out.2.2.1 HI.out.2.2.2 (.slice (some ⟨w.heap.size, 0, none⟩) 0 0) 0 [] (by simp [Act.eval, Act.put]) (World.ownsRow_made w #[] 0 (Nat.le_refl _) (Nat.zero_le _) rfl) (.slice (some ad) L.length cap) L (by simp [Act.eval, Act.put]) (hB2.out.later (by go_grown)) (by omega) (by simp) ?_; intro v' w' hown hg)
    go_ret
    exact ⟨_, rfl, by simpa using hown, (by go_grown : Below w.heap.size w (w.alloc (.cells #[] 61))).trans (below_grown hg _ (by simp) (by simp [Value.ownBlock]))⟩
theorem ofclo_any (k1 t1 : Int) (a1 b1 c1 d1 : Nat) (u1 : Value) (kind : Int) (g : Nat) (w : World) (hc : w.cell? ⟨g, 0, none⟩ = some (.int .i64 kind)) :
    Calls Tryz.prog 40 #[.agg #[.int .i64 k1, .int .i64 t1, .int .u64 (a1 : Int), .int .u64 (b1 : Int), .int .u64 (c1 : Int), .int .u64 (d1 : Int), u1], .pointer (some ⟨g, 0, none⟩)] w fun e w' => e = .returned (.bool (k1 == kind)) ∧ Below w.heap.size w w' := by
  have hg := cell_later (below1 w (.cells #[.int .i64 k1, .int .i64 t1, .int .u64 (a1 : Int), .int .u64 (b1 : Int), .int .u64 (c1 : Int), .int .u64 (d1 : Int), u1] 34)) hc
  have B0 := h_ (below1 w (.cells #[.int .i64 k1, .int .i64 t1, .int .u64 (a1 : Int), .int .u64 (b1 : Int), .int .u64 (c1 : Int), .int .u64 (d1 : Int), u1] 34))
  obtain ⟨x0, x1, x2, x3, x4, x5, x6, -⟩ := (AB.at0 w 34 [.int .i64 k1, .int .i64 t1, .int .u64 (a1 : Int), .int .u64 (b1 : Int), .int .u64 (c1 : Int), .int .u64 (d1 : Int), u1]).k7
  go_enter Tryz.func40, Tryz.ntmps40
  go_wp2
  go_ret
  exact ⟨rfl, B0.out⟩
theorem ixf_found (v : Value) (L : List I6) (kind : Int) (g : Nat) (w : World) (hL : InstAt w v L) (hc : w.cell? ⟨g, 0, none⟩ = some (.int .i64 kind)) (J : Nat) (o : I6) (hjo : L[J]? = some o ∧ o.1 = kind) (hn : ∀ (i : Nat) (x : I6), i < J → L[i]? = some x → ¬ x.1 = kind) :
    Calls Tryz.prog 39 #[v, (.func (.func 40) #[] #[.pointer (some ⟨g, 0, none⟩)])] w fun e w' => e = .returned (.int .i64 (J : Int)) ∧ Below w.heap.size w w' := by
  obtain ⟨s, cap, rfl, h1, h2, h3, h4⟩ := hL
  have HL := h_ h4
  have HN := h_ hn
  have HC := h_ hc
  have HJ := h_ hjo
  have hJl := (List.getElem?_eq_some_iff.1 hjo.1).1
  have hm : L.length ≤ 9223372036854775807 := by unfold maxLen at h2; omega
  clear h1 h2 h3 h4 hn hc hjo
  go_enter Tryz.func39, Tryz.ntmps39
  go_wp2
  go_loopw [8] (fun i wr => ∃ j : Nat, j ≤ J ∧ i = .int .i64 (j : Int) ∧ Hid (Below w.heap.size w wr)) (fun i _ => L.length - (intOf i).toNat)
  case atStart => exact ⟨0, Nat.zero_le _, rfl, h_ (Below.refl _ _)⟩
  case round =>
    obtain ⟨j, hj, rfl, KB⟩ := hrel
    by_cases hlt : j < L.length
    · have hlt' : (j : Int) < (L.length : Int) := by omega
      obtain ⟨⟨k1, t1, ⟨a1, b1⟩, ⟨c1, d1⟩, M1⟩, hz1⟩ : ∃ z, L[j]? = some z := ⟨_, List.getElem?_eq_getElem hlt⟩
      obtain ⟨bq1, off1, u1, rfl, X0, X1, X2, X3, X4, X5, X6, M1A⟩ := HL.out j _ hz1
      have X0 := cell_later KB.out X0
      have X1 := cell_later KB.out X1
      have X2 := cell_later KB.out X2
      have X3 := cell_later KB.out X3
      have X4 := cell_later KB.out X4
      have X5 := cell_later KB.out X5
      have X6 := cell_later KB.out X6
      obtain ⟨su1, cu1, eu1, -⟩ := id M1A
      subst eu1
      have HX := h_ hz1
      have qc := h_ (fun W (hW : Below w.heap.size w W) => ofclo_any k1 t1 a1 b1 c1 d1 (.slice su1 M1.length cu1) kind g W (cell_later hW HC.out))
      clear hz1 M1A
      by_cases he : j = J
      · have hk : (k1 == kind) = true := by have h1 := HX.out; rw [he, HJ.out.1] at h1; have h2 := HJ.out.2; cases h1; simpa using h2
        rw [hk] at qc
        have HE9 := h_ he
        clear hk he
        go_wp2_with (go_at_call 40; refine (qc.out _ KB.out).mono ?_; rintro e w5 ⟨rfl, b5⟩)
        go_ret
        exact ⟨by rw [← HE9.out]; rfl, KB.out.trans (b5.mono KB.out.size)⟩
      · have hk : (k1 == kind) = false := by have h1 := HN.out j _ (by omega) HX.out; simpa using h1
        rw [hk] at qc
        clear hk
        go_wp2_with (go_at_call 40; refine (qc.out _ KB.out).mono ?_; rintro e w5 ⟨rfl, b5⟩)
        go_roundw
        case rel => exact ⟨j + 1, by omega, by go_num, h_ (KB.out.trans (b5.mono KB.out.size))⟩
        case measure => simp [intOf]; omega
    · exfalso; omega
end Go.Proofs.YthhijfphfcmniaaGreat
namespace Go.Proofs.YthhijfphfcmniaaGreat
open Go Go.RowKit
theorem own_set7I {w : World} {base g n size : Nat} {e : TypeId} {v : Value} {xs : List Value} (h : w.ownsRow base e size v n xs) (hg : g < base) (x0 x1 x2 x3 x4 x5 x6 : Value) : (((((((w.setCell ⟨g, 0, none⟩ x0).setCell ⟨g, 1, none⟩ x1).setCell ⟨g, 2, none⟩ x2).setCell ⟨g, 3, none⟩ x3).setCell ⟨g, 4, none⟩ x4).setCell ⟨g, 5, none⟩ x5).setCell ⟨g, 6, none⟩ x6).ownsRow base e size v n xs :=
  own_setI (own_setI (own_setI (own_setI (own_setI (own_setI (own_setI h hg x0) hg x1) hg x2) hg x3) hg x4) hg x5) hg x6
theorem of_found (v : Value) (L : List I6) (kind : Int) (w : World) (hL : InstAt w v L) (J : Nat) (k1 t1 : Int) (a1 b1 c1 d1 : Nat) (M1 : List A11) (hjo : L[J]? = some (k1, t1, (a1, b1), (c1, d1), M1) ∧ k1 = kind) (hn : ∀ (i : Nat) (x : I6), i < J → L[i]? = some x → ¬ x.1 = kind) (hlen : M1.length ≤ 1000) :
    Calls Tryz.prog 11 #[v, .int .i64 kind] w fun e w' => (∃ uc cc, e = .returned (.tuple #[.agg #[.int .i64 k1, .int .i64 t1, .int .u64 (a1 : Int), .int .u64 (b1 : Int), .int .u64 (c1 : Int), .int .u64 (d1 : Int), .slice uc M1.length cc], .bool true]) ∧ ActAt w' (.slice uc M1.length cc) M1) ∧ Below w.heap.size w w' := by
  have B0 := h_ (below2 w (.cells #[.int .i64 kind] 3) (.cells #[.int .i64 0, .int .i64 0, .int .u64 0, .int .u64 0, .int .u64 0, .int .u64 0, .slice none 0 0] 34))
  have K0 := h_ ((AB.at0 w 3 [.int .i64 kind]).alloc (.cells #[.int .i64 0, .int .i64 0, .int .u64 0, .int .u64 0, .int .u64 0, .int .u64 0, .slice none 0 0] 34))
  have R0 := h_ (AB.at1 w (.cells #[.int .i64 kind] 3) 34 [.int .i64 0, .int .i64 0, .int .u64 0, .int .u64 0, .int .u64 0, .int .u64 0, .slice none 0 0])
  have q := h_ (ixf_found _ L kind w.heap.size _ (hL.later B0.out) (K0.out.cell (j := 0) rfl).1 J (k1, t1, (a1, b1), (c1, d1), M1) hjo hn)
  have hJl := (List.getElem?_eq_some_iff.1 hjo.1).1
  obtain ⟨s, cap, rfl, h1, h2, h3, h4⟩ := hL
  obtain ⟨bq1, off1, u1, rfl, X0, X1, X2, X3, X4, X5, X6, MA⟩ := h4 J _ hjo.1
  obtain ⟨su1, cu1, eu1, -⟩ := id MA
  subst eu1
  have hm : L.length ≤ 9223372036854775807 := by unfold maxLen at h2; omega
  have hJ' : (J : Int) < (L.length : Int) := by omega
  have hJ0 : ¬ (J : Int) < 0 := by omega
  have HX := h_ (And.intro X0 (And.intro X1 (And.intro X2 (And.intro X3 (And.intro X4 (And.intro X5 X6))))))
  have qc := h_ (fun W (hW : Below w.heap.size w W) => aclone_any (.slice su1 M1.length cu1) M1 W (MA.later hW) hlen)
  clear h1 h2 h3 h4 hjo hn MA X0 X1 X2 X3 X4 X5 X6
  go_enter Tryz.func11, Tryz.ntmps11
  go_upto_region 4 with (go_at_call 39; refine q.out.mono ?_; rintro e w1 ⟨rfl, b1⟩; have R1 := h_ (R0.out.later b1); have k1' := h_ (B0.out.trans (b1.mono B0.out.size)); clear b1)
  obtain ⟨Y0, Y1, Y2, Y3, Y4, Y5, Y6⟩ := HX.out
  have Y0 := cell_later k1'.out Y0
  have Y1 := cell_later k1'.out Y1
  have Y2 := cell_later k1'.out Y2
  have Y3 := cell_later k1'.out Y3
  have Y4 := cell_later k1'.out Y4
  have Y5 := cell_later k1'.out Y5
  have Y6 := cell_later k1'.out Y6
  go_upto_region 5 with fail
  have A2 := h_ (AB.at0 w1 34 [.int .i64 k1, .int .i64 t1, .int .u64 (a1 : Int), .int .u64 (b1 : Int), .int .u64 (c1 : Int), .int .u64 (d1 : Int), .slice su1 M1.length cu1])
  have R2 := h_ (R1.out.alloc (.cells #[.int .i64 k1, .int .i64 t1, .int .u64 (a1 : Int), .int .u64 (b1 : Int), .int .u64 (c1 : Int), .int .u64 (d1 : Int), .slice su1 M1.length cu1] 34))
  have hw1 := h_ (show w.heap.size + 1 < w1.heap.size from R1.out.lt)
  have k2 := h_ (k1'.out.trans ((below1 w1 (.cells #[.int .i64 k1, .int .i64 t1, .int .u64 (a1 : Int), .int .u64 (b1 : Int), .int .u64 (c1 : Int), .int .u64 (d1 : Int), .slice su1 M1.length cu1] 34)).mono k1'.out.size))
  clear Y0 Y1 Y2 Y3 Y4 Y5 Y6
  generalize w1.alloc (.cells #[.int .i64 k1, .int .i64 t1, .int .u64 (a1 : Int), .int .u64 (b1 : Int), .int .u64 (c1 : Int), .int .u64 (d1 : Int), .slice su1 M1.length cu1] 34) = w2 at *
  generalize w1.heap.size = g7 at *
  obtain ⟨z0, z1, z2, z3, z4, z5, z6, -⟩ := A2.out.k7
  go_upto_region 6 with (go_at_call 41; refine (qc.out _ k2.out).mono ?_; rintro e w3 ⟨r3, rfl, o3, b3⟩; obtain ⟨s3, c3, e3⟩ := ownr_form o3; subst e3; have O3 := h_ o3; have A3 := h_ (A2.out.later b3); have R3 := h_ (R2.out.later b3); have k3 := h_ (k2.out.trans (b3.mono k2.out.size)); have hg3 := h_ (Nat.lt_of_lt_of_le A2.out.lt (Nat.le_refl _)); obtain ⟨p0, p1, p2, p3, p4, p5, p6, p7, p8, p9, p10, p11, p12, p13⟩ := A3.out.k7; clear o3 b3)
  have hgw := hw1.out
  have A4 := h_ (A3.out.set (j := 6) (.slice s3 M1.length c3))
  have R4 := h_ (R3.out.far (f := g7) (o := 6) (.slice s3 M1.length c3) (by omega))
  have O4 := h_ (own_setI O3.out (g := g7) hg3.out (o := 6) (.slice s3 M1.length c3))
  have k4 := h_ (k3.out.setCell (p := ⟨g7, 6, none⟩) (by show w.heap.size ≤ g7; omega) (.slice s3 M1.length c3))
  generalize w3.setCell ⟨g7, 6, none⟩ (.slice s3 M1.length c3) = w4 at *
  obtain ⟨f0, f1, f2, f3, f4, f5, f6, -⟩ := A4.out.k7
  obtain ⟨x0, x1, x2, x3, x4, x5, x6, x7, x8, x9, x10, x11, x12, x13⟩ := R4.out.k7
  obtain ⟨u0, u1, u2, u3, u4, u5, u6, -⟩ := (R4.out.set7 (.int .i64 k1) (.int .i64 t1) (.int .u64 (a1 : Int)) (.int .u64 (b1 : Int)) (.int .u64 (c1 : Int)) (.int .u64 (d1 : Int)) (.slice s3 M1.length c3)).k7
  have bb := below_set7 (n := w.heap.size + 1) k4.out (by omega) (.int .i64 k1) (.int .i64 t1) (.int .u64 (a1 : Int)) (.int .u64 (b1 : Int)) (.int .u64 (c1 : Int)) (.int .u64 (d1 : Int)) (.slice s3 M1.length c3)
  have HO := h_ (ActAt.ofOwn (own_set7I (g := w.heap.size + 1) O4.out (by have := hg3.out; omega) (.int .i64 k1) (.int .i64 t1) (.int .u64 (a1 : Int)) (.int .u64 (b1 : Int)) (.int .u64 (c1 : Int)) (.int .u64 (d1 : Int)) (.slice s3 M1.length c3)))
  go_wp2_with fail
  exact bodyPost_ret (v := .tuple #[.agg #[.int .i64 k1, .int .i64 t1, .int .u64 (a1 : Int), .int .u64 (b1 : Int), .int .u64 (c1 : Int), .int .u64 (d1 : Int), .slice s3 M1.length c3], .bool true]) (by simp [results, Tryz.results11, go_sem, u0, u1, u2, u3, u4, u5, u6]) rfl ⟨⟨_, _, rfl, HO.out⟩, bb⟩
end Go.Proofs.YthhijfphfcmniaaGreat
namespace Go.Proofs.YthhijfphfcmniaaGreat
open Go Go.RowKit Go.Maps
def a22 : A11 := (18, 0, 0, 0, 0, 0, false, 0, 0, 0, 0)
def L22 : List I6 := [(1, 2, (0, 0), (0, 0), []), (4, 0, (0, 0), (0, 0), [a22])]
theorem a22_fit : AFit [a22] := by
  intro k p x q y f m a b c d hi
  simp only [a22, List.mem_cons, List.not_mem_nil, or_false, Prod.mk.injEq] at hi
  obtain ⟨rfl, rfl, rfl, rfl, rfl, rfl, rfl, rfl, rfl, rfl, rfl⟩ := hi
  decide
theorem nil_fit : AFit [] := by
  intro k p x q y f m a b c d hi
  cases hi
theorem l22_fit : LFit L22 := by
  intro o ho
  simp only [L22, List.mem_cons, List.not_mem_nil, or_false] at ho
  rcases ho with rfl | rfl
  · exact ⟨⟨by decide, by decide, by decide, by decide, nil_fit⟩, by decide⟩
  · exact ⟨⟨by decide, by decide, by decide, by decide, a22_fit⟩, by decide⟩
theorem l22_0 : iR (1, 2, (0, 0), (0, 0), []) = true := by decide +kernel
theorem l22_1 : iR (4, 0, (0, 0), (0, 0), [a22]) = true := by decide +kernel
theorem l22_g : gI L22 2 := by
  intro i o hi ho
  have h2 : i = 0 ∨ i = 1 := by omega
  rcases h2 with rfl | rfl
  · simp [L22] at ho
    subst ho
    exact ⟨l22_0, by simp⟩
  · simp [L22] at ho
    subst ho
    exact ⟨l22_1, by simp [L22]⟩
theorem l22_4 : ∀ (i : Nat) (x : I6), i < 1 → L22[i]? = some x → ¬ x.1 = 4 := by
  intro i x hi hx
  have h0 : i = 0 := by omega
  subst h0
  simp [L22] at hx
  subst hx
  decide
theorem l22_len : (encIs L22).length = 24 := by decide +kernel
theorem l22_dok : DOk Ans [] (encIs L22) L22 := dok_enc L22 [] l22_fit (fun i o ho => by
  have hi : i < 2 := (List.getElem?_eq_some_iff.1 ho).1
  have := l22_g i o hi ho
  exact ⟨this.1, by simp, this.2⟩)
theorem a22_row (w : World) : (w.alloc (.cells #[.int .i64 18, .int .i64 0, .int .i64 0, .int .i64 0, .int .i64 0, .int .i64 0, .bool false, .int .u64 0, .int .u64 0, .int .u64 0, .int .u64 0] 61)).ownsRow w.heap.size 61 11 (.slice (some ⟨w.heap.size, 0, none⟩) 1 1) 1 (ads [a22]) :=
  ⟨by decide, .inr ⟨w.heap.size, 1, _, rfl, Nat.le_refl _, heap_alloc_last w _, by decide, by decide, by decide, rfl⟩⟩
theorem l22_row (w : World) : IRow ((w.alloc (.cells #[.int .i64 18, .int .i64 0, .int .i64 0, .int .i64 0, .int .i64 0, .int .i64 0, .bool false, .int .u64 0, .int .u64 0, .int .u64 0, .int .u64 0] 61)).alloc (.cells #[.int .i64 1, .int .i64 2, .int .u64 0, .int .u64 0, .int .u64 0, .int .u64 0, .slice none 0 0, .int .i64 4, .int .i64 0, .int .u64 0, .int .u64 0, .int .u64 0, .int .u64 0, .slice (some ⟨w.heap.size, 0, none⟩) 1 1] 34)) w.heap.size (.slice (some ⟨w.heap.size + 1, 0, none⟩) 2 2) [((1, 2, (0, 0), (0, 0), []), .slice none 0 0), ((4, 0, (0, 0), (0, 0), [a22]), .slice (some ⟨w.heap.size, 0, none⟩) 1 1)] := by
  refine ⟨⟨rfl, .inr ⟨w.heap.size + 1, 2, _, rfl, Nat.le_succ _, by have := heap_alloc_last (w.alloc (.cells #[.int .i64 18, .int .i64 0, .int .i64 0, .int .i64 0, .int .i64 0, .int .i64 0, .bool false, .int .u64 0, .int .u64 0, .int .u64 0, .int .u64 0] 61)) (.cells #[.int .i64 1, .int .i64 2, .int .u64 0, .int .u64 0, .int .u64 0, .int .u64 0, .slice none 0 0, .int .i64 4, .int .i64 0, .int .u64 0, .int .u64 0, .int .u64 0, .int .u64 0, .slice (some ⟨w.heap.size, 0, none⟩) 1 1] 34); simpa using this, Nat.le_refl _, by decide, rfl, rfl⟩⟩, fun p hp => ?_⟩
  simp only [List.mem_cons, List.not_mem_nil, or_false] at hp
  rcases hp with rfl | rfl
  · exact World.ownsRow_nil _ _ _ _
  · exact ownr_later (a22_row w) (below1 _ _)
theorem inst_form {w : World} {v : Value} {L : List I6} (h : InstAt w v L) : ∃ s c, v = .slice s L.length c := by
  obtain ⟨s, cap, rfl, -⟩ := h
  exact ⟨s, cap, rfl⟩
theorem awake22_any (w : World) :
    Calls Tryz.prog 8 #[] w fun e w' => e = .returned (.bool true) ∧ Below w.heap.size w w' := by
  have BB := h_ (below2 w (.cells #[.int .i64 18, .int .i64 0, .int .i64 0, .int .i64 0, .int .i64 0, .int .i64 0, .bool false, .int .u64 0, .int .u64 0, .int .u64 0, .int .u64 0] 61) (.cells #[.int .i64 1, .int .i64 2, .int .u64 0, .int .u64 0, .int .u64 0, .int .u64 0, .slice none 0 0, .int .i64 4, .int .i64 0, .int .u64 0, .int .u64 0, .int .u64 0, .int .u64 0, .slice (some ⟨w.heap.size, 0, none⟩) 1 1] 34))
  have HA : Hid (InstAt ((w.alloc (.cells #[.int .i64 18, .int .i64 0, .int .i64 0, .int .i64 0, .int .i64 0, .int .i64 0, .bool false, .int .u64 0, .int .u64 0, .int .u64 0, .int .u64 0] 61)).alloc (.cells #[.int .i64 1, .int .i64 2, .int .u64 0, .int .u64 0, .int .u64 0, .int .u64 0, .slice none 0 0, .int .i64 4, .int .i64 0, .int .u64 0, .int .u64 0, .int .u64 0, .int .u64 0, .slice (some ⟨w.heap.size, 0, none⟩) 1 1] 34)) (.slice (some ⟨w.heap.size + 1, 0, none⟩) 2 2) L22) := h_ (l22_row w).at_
  have HC := h_ (AB.at1 w (.cells #[.int .i64 18, .int .i64 0, .int .i64 0, .int .i64 0, .int .i64 0, .int .i64 0, .bool false, .int .u64 0, .int .u64 0, .int .u64 0, .int .u64 0] 61) 34 [.int .i64 1, .int .i64 2, .int .u64 0, .int .u64 0, .int .u64 0, .int .u64 0, .slice none 0 0, .int .i64 4, .int .i64 0, .int .u64 0, .int .u64 0, .int .u64 0, .int .u64 0, .slice (some ⟨w.heap.size, 0, none⟩) 1 1])
  have qe := h_ (ie_yes _ L22 ((w.alloc (.cells #[.int .i64 18, .int .i64 0, .int .i64 0, .int .i64 0, .int .i64 0, .int .i64 0, .bool false, .int .u64 0, .int .u64 0, .int .u64 0, .int .u64 0] 61)).alloc (.cells #[.int .i64 1, .int .i64 2, .int .u64 0, .int .u64 0, .int .u64 0, .int .u64 0, .slice none 0 0, .int .i64 4, .int .i64 0, .int .u64 0, .int .u64 0, .int .u64 0, .int .u64 0, .slice (some ⟨w.heap.size, 0, none⟩) 1 1] 34)) (l22_row w).at_ l22_fit l22_g)
  have qd := h_ (fun v W (h : Bytes W v (encIs L22)) => id_ok v _ L22 W h l22_dok)
  have qo := h_ (fun v W (h : InstAt W v L22) => of_found v L22 4 W h 1 4 0 0 0 0 0 [a22] ⟨rfl, rfl⟩ l22_4 (by decide))
  have hs := fun (v u : Value) W h1 h2 => ilsame_any v u L22 L22 W h1 h2
  rw [sameIL_true (rfl : L22 = L22)] at hs
  have hs := h_ hs
  have qr := fun W => iright_any 1 2 0 0 0 0 (.slice none 0 0) [] W (ActAt.nilI W) (l22_fit _ (by simp [L22])).1
  rw [l22_0] at qr
  have qr := h_ qr
  go_enter Tryz.func8, Tryz.ntmps8
  go_wp2_with (first
    | (go_at_call 9; refine qe.out.mono ?_; rintro e w1 ⟨⟨r1, rfl, h1⟩, b1⟩; obtain ⟨ra, rc, re⟩ := h1.bytes.short; rw [l22_len] at re; subst re; have B1 := h_ h1.bytes; have K1 := h_ (BB.out.trans (b1.mono BB.out.size)); have H1 := h_ (HA.out.later b1); have C1 := h_ (HC.out.later b1); clear h1 b1)
    | (go_at_call 21; refine (qd.out _ _ B1.out).mono ?_; rintro e w2 ⟨⟨r2, rfl, o2⟩, b2⟩; obtain ⟨sa, scc, se⟩ := inst_form o2; subst se; have jx := b2.trans ((below1 w2 (.cells #[.bool false, .int .i64 0, .int .i64 0] 44)).mono b2.size); have K2 := h_ (K1.out.trans (jx.mono K1.out.size)); have H2 := h_ (H1.out.later jx); have C2 := h_ (C1.out.later jx); have O2 := h_ (o2.later (below1 w2 (.cells #[.bool false, .int .i64 0, .int .i64 0] 44))); have F2 := h_ (AB.at0 w2 44 [.bool false, .int .i64 0, .int .i64 0]); clear o2 b2 jx)
    | (go_at_call 11; refine (qo.out _ _ H2.out).mono ?_; rintro e w3 ⟨⟨uo, co, rfl, a3⟩, b3⟩; have jy := b3.trans ((below1 w3 (.cells #[.int .i64 4, .int .i64 0, .int .u64 0, .int .u64 0, .int .u64 0, .int .u64 0, .slice uo 1 co] 34)).mono b3.size); have K3 := h_ (K2.out.trans (jy.mono K2.out.size)); have H3 := h_ (H2.out.later jy); have C3 := h_ (C2.out.later jy); have O3 := h_ (O2.out.later jy); obtain ⟨f0, f1, f2, -⟩ := (F2.out.later jy).three; have Q3 := h_ (AB.at0 w3 34 [.int .i64 4, .int .i64 0, .int .u64 0, .int .u64 0, .int .u64 0, .int .u64 0, .slice uo 1 co]); obtain ⟨g0, g1, g2, g3, g4, g5, g6, -⟩ := Q3.out.k7; clear a3 b3 jy)
    | (go_at_call 16; refine (hs.out _ _ _ H3.out O3.out).mono ?_; rintro e w4 ⟨rfl, b4⟩; have K4 := h_ (K3.out.trans (b4.mono K3.out.size)); have C4 := C3.out.later b4; have z0 := (C4.cell (j := 0) rfl).1; have z1 := (C4.cell (j := 1) rfl).1; have z2 := (C4.cell (j := 2) rfl).1; have z3 := (C4.cell (j := 3) rfl).1; have z4 := (C4.cell (j := 4) rfl).1; have z5 := (C4.cell (j := 5) rfl).1; have z6 := (C4.cell (j := 6) rfl).1; obtain ⟨p0, p1, p2, p3, p4, p5, p6, -⟩ := (Q3.out.later b4).k7; clear C4 b4)
    | (go_at_call 19; refine (qr.out _).mono ?_; rintro e w5 ⟨rfl, b5⟩))
  go_ret
  exact ⟨rfl, K4.out.trans (b5.mono K4.out.size)⟩
end Go.Proofs.YthhijfphfcmniaaGreat
