import Derived.Test.YtkhpbkdblhcepaaNLCd
import Derived.Test.YtkhpbkdblhcepaaNLAd
import Derived.Test.YtkhpbkdblhcepaaOyd
import Derived.Test.YtkhpbkdblhcepaaJTd
import Derived.Test.YtkhpbkdblhcepaaJDd
import Derived.Test.YtkhpbkdblhcepaaJHd
import Derived.Deep.RegionHeld3
import Derived.Deep.RegionWith
import Derived.Deep.MidRow
import Derived.Deep.Cut
import Derived.Maps.OwnSet
import Derived.Maps.AppendAt
import Derived.OpenShut
import Derived.ChangeSame
namespace Go.Proofs.Ytkhpbkdblhcepaa
open Go Go.RowKit Go.Maps
set_option linter.unusedVariables false
set_option linter.unusedSimpArgs false

set_option maxRecDepth 100000 in
set_option maxHeartbeats 8000000 in
theorem id_ok (v : Value) (l0 : List Int) (Ls : List I6) (w : World) (hB : Bytes w v l0) (hP : DOk Ans [] l0 Ls) :
    Calls Try.prog 24 #[v] w fun e w' => (∃ r, e = .returned (.tuple #[r, .agg #[.bool false, .int .i64 0, .int .i64 0]]) ∧ InstAt w' r Ls) ∧ Below w.heap.size w w' := by
  have F0 := hide_ (AB.at0 w 34 [.bool false, .int .i64 0, .int .i64 0])
  have B0 := hide_ (below1 w (.cells #[.bool false, .int .i64 0, .int .i64 0] 34))
  obtain ⟨ao0, cap0, rfl, hbr⟩ := hB
  have hB : Bytes w (.slice ao0 l0.length cap0) l0 := ⟨ao0, cap0, rfl, hbr⟩
  have HB0 := hide_ hB
  have hmm := @run_makeMap Try.prog
  clear hB hbr
  obtain ⟨i0, hi0, hz0, hz1, hz2⟩ := info_parts infoIn
  have HI : Hid (Try.prog.info? 49 = some i0 ∧ i0.zero = some (.agg #[.int .i64 0, .int .i64 0, .int .u64 0, .int .u64 0, .int .u64 0, .int .u64 0, .slice none 0 0]) ∧ i0.size = 7 ∧ i0.bytes = 72) := ⟨hi0, hz0, hz1, hz2⟩
  clear hi0 hz0 hz1 hz2
  have HP := hide_ hP
  clear hP
  have MM : Hid (((w.alloc (.cells #[.bool false, .int .i64 0, .int .i64 0] 34)).alloc (.map #[] 0)).ownsMap Try.prog 3 (unitElem (H := Unit)) (w.heap.size + 1) 0 (SdK [])) := hide_ (by have := World.ownsMap_made (H := Unit) (w.alloc (.cells #[.bool false, .int .i64 0, .int .i64 0] 34)) Try.prog 3 unitElem; have e : SdK [] = .map [] := rfl; rw [e]; simpa using this)
  have FM := hide_ (F0.out.alloc (.map #[] 0))
  have KM := hide_ (B0.out.alloc (by simp) (.map #[] 0))
  have SM := hide_ (show w.heap.size + 2 ≤ ((w.alloc (.cells #[.bool false, .int .i64 0, .int .i64 0] 34)).alloc (.map #[] 0)).heap.size by simp)
  go_enter Try.func24, Try.ntmps24
  go_wp2
  go_loopw [0, 4] (fun b u wr => ∃ (ao : Option Addr) (n cap : Nat) (ua : Option Addr) (uc m : Nat) (l : List Int) (pre : List I6) (P : List PI) (R : List I6), b = .slice ao n cap ∧ u = .slice ua m uc ∧ n = l.length ∧ Hid (m = P.length) ∧ Hid (Bytes w (.slice ao n cap) l) ∧ Hid (IRow wr (w.heap.size + 2) (.slice ua m uc) P) ∧ Hid (DOk Ans (pre.map (·.1)) l R ∧ pre ++ R = Ls) ∧ Hid (P.map (·.1) = pre) ∧ Hid ((pre.map (·.1)).Nodup ∧ ∀ x ∈ pre.map (·.1), 1 ≤ x ∧ x ≤ 5) ∧ Hid (wr.ownsMap Try.prog 3 unitElem (w.heap.size + 1) pre.length (SdK (pre.map (·.1)))) ∧ Hid (AB wr w.heap.size 34 [.bool false, .int .i64 0, .int .i64 0]) ∧ Hid (Below w.heap.size w wr) ∧ Hid (w.heap.size + 2 ≤ wr.heap.size)) (fun b _ _ => slen2 b)
  case atStart => exact ⟨ao0, l0.length, cap0, none, 0, 0, l0, [], [], Ls, rfl, rfl, rfl, hide_ rfl, HB0, hide_ (IRow.nil _ _), hide_ ⟨HP.out, rfl⟩, hide_ rfl, hide_ ⟨by simp, by simp⟩, MM, FM, KM, SM⟩
  case round =>
    obtain ⟨ao, n, cap, ua, uc, m, l, pre, P, R, rfl, rfl, rfl, HM, HBy, HOw, HPP, HPR, HP0, HMp, HF, KB, HS⟩ := hrel
    have H5 : Hid (pre.length ≤ 5) := hide_ (by have := pig 5 _ HP0.out.1 HP0.out.2; rw [List.length_map] at this; exact this)
    have hm5 : m ≤ 5 := by have h1 := congrArg List.length HPR.out; rw [List.length_map, ← HM.out] at h1; have := H5.out; omega
    obtain ⟨hpo, hpre⟩ := HPP.out
    clear HPP
    cases hpo with
    | nil =>
      have hpr : pre = Ls := by simpa using hpre
      obtain ⟨s0, s1, s2, s3, s4, s5⟩ := HF.out.three
      obtain ⟨u0, u1, u2, -⟩ := (HF.out.set3 (.bool false) (.int .i64 0) (.int .i64 0)).three
      have bb := below_set3 (g := w.heap.size) KB.out (Nat.le_refl _) (.bool false) (.int .i64 0) (.int .i64 0)
      have HX := hide_ ((HOw.out.fill3 HF.out (.bool false) (.int .i64 0) (.int .i64 0)).at_)
      have HKL := hide_ (show P.map (·.1) = Ls by rw [HPR.out, hpr])
      clear hpre hpr
      go_wp2
      refine bodyPost_ret (v := .tuple #[.slice ua m uc, .agg #[.bool false, .int .i64 0, .int .i64 0]]) (by simp [results, Try.results24, go_sem, u0, u1, u2]) rfl ⟨⟨_, rfl, ?_⟩, bb⟩
      rw [← HKL.out]
      exact HX.out
    | @cons _ _ kk NN OO RR hd hnk hbo hrest =>
      obtain ⟨hl4, hl12, hlN⟩ := hd.len
      have hdd := hd
      obtain ⟨hK0, hN2, h8l, ⟨hN8, hNm, hNl⟩, -, hik, -, -⟩ := hdd
      have qh := hide_ (rh_ok (.slice ao l.length cap) l kk NN wr (HBy.out.later KB.out) hd.1 hd.2.1 hd.2.2.1 hd.2.2.2.1 hd.2.2.2.2.1 hd.2.2.2.2.2.1 hd.2.2.2.2.2.2.1 hd.2.2.2.2.2.2.2)
      obtain ⟨a4, s4, hB4⟩ := bytes_mid HBy.out 4 NN (by omega) hNl
      have s4 : ∀ wx, (Instr.slice 24 (.slice ao l.length cap) (some (.int .i64 4)) (some (.int .i64 (NN : Int))) none).run Try.prog wx = .ok (.slice a4 (NN - 4) (cap - 4)) wx := s4
      have HB4 := hide_ hB4
      obtain ⟨ao2, -, s2, b2⟩ := bytes_slice HBy.out NN hNl
      have HB2 := hide_ b2
      have hkind := hbo.kind
      have qb : Hid (∀ W, Below w.heap.size w W → Calls Try.prog 52 #[.int .i64 kk, .slice a4 (NN - 4) (cap - 4)] W fun e w' => (∃ r, e = .returned (.tuple #[.agg #[.int .i64 OO.1, .int .i64 OO.2.1, .int .u64 (OO.2.2.1.1 : Int), .int .u64 (OO.2.2.1.2 : Int), .int .u64 (OO.2.2.2.1.1 : Int), .int .u64 (OO.2.2.2.1.2 : Int), r], .agg #[.bool false, .int .i64 0, .int .i64 0]]) ∧ w'.ownsRow W.heap.size 65 11 r OO.2.2.2.2.length (ads OO.2.2.2.2)) ∧ Below W.heap.size W w') := hide_ (fun W hW => rbody_ok _ _ kk OO W (HB4.out.later hW) hl4 hl12 hbo)
      have HK : Hid (keyOf Try.prog 3 (.int .i64 kk) = some (.int .i64 kk)) := hide_ (keyOf_int_mk Try.underlying3 (isK_wf hik))
      have HH : Hid (Maps.has (SdK (pre.map (·.1))) (.int .i64 kk) = false) := hide_ (by rw [SdK_has]; cases hc : (pre.map (·.1)).contains kk; rfl; exact absurd (List.contains_iff_mem.1 hc) hnk)
      have HSN := hide_ (SdK_snoc (pre.map (·.1)) kk)
      rw [← hkind] at HSN hrest
      have hrest := hide_ hrest
      have HP5 : Hid (((pre ++ [OO]).map (·.1)).Nodup ∧ ∀ x ∈ (pre ++ [OO]).map (·.1), 1 ≤ x ∧ x ≤ 5) := hide_ (by
        rw [List.map_append]
        refine ⟨?_, ?_⟩
        · rw [List.nodup_append]
          refine ⟨HP0.out.1, by simp, ?_⟩
          intro a ha b hb
          simp only [List.map_cons, List.map_nil, List.mem_singleton] at hb
          subst hb
          exact fun e => hnk (by rw [← hkind, ← e]; exact ha)
        · intro x hx
          rcases List.mem_append.1 hx with h | h
          · exact HP0.out.2 x h
          · simp only [List.map_cons, List.map_nil, List.mem_singleton] at h
            subst h
            rw [hkind]
            unfold isK at hik
            simpa using hik)
      have hpre2 := hide_ hpre
      obtain ⟨v0, v1, ⟨v2, v3⟩, ⟨v4, v5⟩, LO⟩ := OO
      have hkind : v0 = kk := hkind
      subst hkind
      obtain ⟨rn, hrn⟩ : ∃ rn, LO.length = rn := ⟨_, rfl⟩
      have HRN := hide_ hrn
      have gpos : (0 : Int) < (l.length : Int) := by omega
      have hcap : ¬ (NN : Int) < 4 := by omega
      have HNL := hide_ hNl
      have HN8 := hide_ hN8
      clear b2 hd hrn hB4 hbo hl4 hl12 hlN hnk hK0 hN2 h8l hNm hik hNl hN8
      go_upto_region 12 with (first | (go_at_call 50; refine (qh.out).mono ?_; rintro e w3 ⟨rfl, b3⟩; have F3 := hide_ ((HF.out.later b3).alloc (.cells #[.bool false, .int .i64 0, .int .i64 0] 34)); have G3 := hide_ (AB.at0 w3 34 [.bool false, .int .i64 0, .int .i64 0]); have M3 := hide_ ((ownsMap_later HMp.out b3).alloc (.cells #[.bool false, .int .i64 0, .int .i64 0] 34)); have R3 := hide_ ((HOw.out.later b3).later (below1 w3 (.cells #[.bool false, .int .i64 0, .int .i64 0] 34))); have k3 := hide_ (KB.out.trans ((b3.trans ((below1 w3 (.cells #[.bool false, .int .i64 0, .int .i64 0] 34)).mono b3.size)).mono KB.out.size)); have s3 := hide_ (Nat.le_trans HS.out b3.size); have z3 := hide_ (below1 w3 (.cells #[.bool false, .int .i64 0, .int .i64 0] 34)).size; obtain ⟨f0, f1, f2, -⟩ := G3.out.three; obtain ⟨ff0, ff1, ff2, -⟩ := (G3.out.alloc (.cells #[] 80)).three; clear b3) | (at_lookup; refine wpList_lookup_own_unit _ rfl _ _ 79 rfl 3 80 lawI Try.underlying79 (zeroUU _) (w.heap.size + 1) pre.length (SdK (pre.map (·.1))) rfl M3.out _ _ rfl HK.out ?_; rw [HH.out]) | (at_mapUpdate; refine wpList_mapUpdate_own _ rfl _ _ _ 79 rfl 3 80 lawI Try.underlying79 (unitElem (H := Unit)) (w.heap.size + 1) pre.length (SdK (pre.map (·.1))) rfl (M3.out.alloc _) (by have := H5.out; unfold maxLen; omega) _ _ _ rfl rfl HK.out _ [] unitElem_mk ?_; intro w5 hown5 hgrow5; have M5 := hide_ hown5; have F5 := hide_ ((F3.out.alloc (.cells #[] 80)).grownO hgrow5 (by intro e; injection e with e; omega)); have G5 := hide_ ((G3.out.alloc (.cells #[] 80)).grownO hgrow5 (by have := s3.out; intro e; injection e with e; omega)); have R5 := hide_ ((R3.out.later (below1 _ (.cells #[] 80))).kept hgrow5 (by omega)); have k5 := hide_ ((k3.out.alloc (Nat.le_trans (Nat.le_trans (Nat.le_add_right _ 2) s3.out) z3.out) (.cells #[] 80)).grown hgrow5 (by have h1 := s3.out; have h2 := z3.out; simp at h2 ⊢; omega) (fun k e => by cases e; omega)); have s5 := hide_ (Nat.le_trans (Nat.le_trans s3.out (Nat.le_trans z3.out (by simp))) hgrow5.size); obtain ⟨q0, q1, q2, -⟩ := G5.out.three; clear hown5 hgrow5) | (go_at_call 52; refine (qb.out _ k5.out).mono ?_; rintro e w6 ⟨⟨r, rfl, ho⟩, b6⟩; obtain ⟨ru, rc, er⟩ := ownr_form ho; rw [HRN.out] at er; subst er; have HA6 := hide_ (ownr_base ho s5.out); have F6 := hide_ (F5.out.later b6); have G6 := hide_ (G5.out.later b6); have R6 := hide_ (R5.out.later b6); have M6 := hide_ (ownsMap_later M5.out b6); have k6 := hide_ (k5.out.trans (b6.mono k5.out.size)); have s6 := hide_ (Nat.le_trans s5.out b6.size); have g6 := hide_ (G6.out.lt); obtain ⟨j0, j1, j2, j3, j4, j5⟩ := (G6.out.alloc (.cells #[.int .i64 v0, .int .i64 v1, .int .u64 (v2 : Int), .int .u64 (v3 : Int), .int .u64 (v4 : Int), .int .u64 (v5 : Int), .slice ru rn rc] 49)).three; clear ho b6))
      have hne2 := g6.out
      have RA := R6.out.later (below1 w6 (.cells #[.int .i64 v0, .int .i64 v1, .int .u64 (v2 : Int), .int .u64 (v3 : Int), .int .u64 (v4 : Int), .int .u64 (v5 : Int), .slice ru rn rc] 49))
      have GA := G6.out.alloc (.cells #[.int .i64 v0, .int .i64 v1, .int .u64 (v2 : Int), .int .u64 (v3 : Int), .int .u64 (v4 : Int), .int .u64 (v5 : Int), .slice ru rn rc] 49)
      have FA := F6.out.alloc (.cells #[.int .i64 v0, .int .i64 v1, .int .u64 (v2 : Int), .int .u64 (v3 : Int), .int .u64 (v4 : Int), .int .u64 (v5 : Int), .slice ru rn rc] 49)
      have MA := M6.out.alloc (.cells #[.int .i64 v0, .int .i64 v1, .int .u64 (v2 : Int), .int .u64 (v3 : Int), .int .u64 (v4 : Int), .int .u64 (v5 : Int), .slice ru rn rc] 49)
      have HAA := ownr_later HA6.out (below1 w6 (.cells #[.int .i64 v0, .int .i64 v1, .int .u64 (v2 : Int), .int .u64 (v3 : Int), .int .u64 (v4 : Int), .int .u64 (v5 : Int), .slice ru rn rc] 49))
      have IA := AB.at0 w6 49 [.int .i64 v0, .int .i64 v1, .int .u64 (v2 : Int), .int .u64 (v3 : Int), .int .u64 (v4 : Int), .int .u64 (v5 : Int), .slice ru rn rc]
      have RY := hide_ (RA.fill3 GA (.bool false) (.int .i64 0) (.int .i64 0))
      have GY := hide_ (GA.set3 (.bool false) (.int .i64 0) (.int .i64 0))
      have FY := hide_ (FA.farx3 (f := w3.heap.size) (by have := s3.out; omega) (.bool false) (.int .i64 0) (.int .i64 0))
      have MY := hide_ (map_set3 MA (g := w3.heap.size) (by have := s3.out; omega) (.bool false) (.int .i64 0) (.int .i64 0))
      have HAY := hide_ (own_set3X HAA GA (by decide) (.bool false) (.int .i64 0) (.int .i64 0))
      have IY := hide_ (IA.farx3 (f := w3.heap.size) (by omega) (.bool false) (.int .i64 0) (.int .i64 0))
      have kY := hide_ (below_set3 (g := w3.heap.size) (k6.out.trans ((below1 w6 (.cells #[.int .i64 v0, .int .i64 v1, .int .u64 (v2 : Int), .int .u64 (v3 : Int), .int .u64 (v4 : Int), .int .u64 (v5 : Int), .slice ru rn rc] 49)).mono k6.out.size)) (by have := s3.out; omega) (.bool false) (.int .i64 0) (.int .i64 0))
      have sY := hide_ (Nat.le_trans s6.out (below_set3 (n := 0) (g := w3.heap.size) ((below1 w6 (.cells #[.int .i64 v0, .int .i64 v1, .int .u64 (v2 : Int), .int .u64 (v3 : Int), .int .u64 (v4 : Int), .int .u64 (v5 : Int), .slice ru rn rc] 49)).mono (Nat.zero_le _)) (Nat.zero_le _) (.bool false) (.int .i64 0) (.int .i64 0)).size)
      clear RA GA FA MA HAA IA
      generalize ((((w6.alloc (.cells #[.int .i64 v0, .int .i64 v1, .int .u64 (v2 : Int), .int .u64 (v3 : Int), .int .u64 (v4 : Int), .int .u64 (v5 : Int), .slice ru rn rc] 49)).setCell ⟨w3.heap.size, 0, none⟩ (.bool false)).setCell ⟨w3.heap.size, 1, none⟩ (.int .i64 0)).setCell ⟨w3.heap.size, 2, none⟩ (.int .i64 0)) = Y at *
      obtain ⟨y0, y1, y2, -⟩ := GY.out.three
      obtain ⟨i0', i1', i2', i3', i4', i5', i6', -⟩ := IY.out.k7
      have HB2 := HB2
      go_wp2_with (first | (at_builtin; refine wpList_append_newG (.tmp 47) (.tmp 49) 38 rfl 49 i0 (.agg #[.int .i64 0, .int .i64 0, .int .u64 0, .int .u64 0, .int .u64 0, .int .u64 0, .slice none 0 0]) 7 72 Try.underlying38 HI.out.1 HI.out.2.1 HI.out.2.2.1 HI.out.2.2.2 rfl (by decide) (w.heap.size + 2) (.slice ua m uc) m (ids P) (by simp [Act.eval, Act.put]) Y (by have := RY.out.1; rw [← HM.out] at this; exact this) [.int .i64 v0, .int .i64 v1, .int .u64 (v2 : Int), .int .u64 (v3 : Int), .int .u64 (v4 : Int), .int .u64 (v5 : Int), .slice ru rn rc] _ rfl 1 (by simp) (by simp [Value.oneCell']) (by simp [Act.eval, Act.put]) (by simp [Region.wanted]) (by unfold maxLen; omega) (by omega) sY.out ?_; intro v8 w8 own8 b8 g8))
      have R8 : IRow w8 (w.heap.size + 2) v8 (P ++ [((v0, v1, (v2, v3), (v4, v5), LO), .slice ru rn rc)]) := IRow.push RY.out (by rw [← HRN.out] at *; exact HAY.out) (by rw [← HM.out]; exact own8) g8
      have hl8 : (P ++ [((v0, v1, (v2, v3), (v4, v5), LO), Value.slice ru rn rc)]).length = m + 1 := by rw [List.length_append, ← HM.out]; rfl
      obtain ⟨ua4, uc4, e4⟩ := ownr_form R8.1
      rw [hl8] at e4
      subst e4
      have R8 := hide_ R8
      have HM8 := hide_ hl8.symm
      have hrb : ∀ k, (Value.slice ua m uc).ownBlock = some k → w.heap.size + 2 ≤ k := fun k e => (RY.out.1.lt _ e).1
      have M8 := hide_ ((MY.out.alloc (.cells #[.int .i64 v0, .int .i64 v1, .int .u64 (v2 : Int), .int .u64 (v3 : Int), .int .u64 (v4 : Int), .int .u64 (v5 : Int), .slice ru rn rc] 49)).kept g8 (fun e => by have := hrb _ e.symm; omega))
      have F8 := hide_ ((FY.out.alloc (.cells #[.int .i64 v0, .int .i64 v1, .int .u64 (v2 : Int), .int .u64 (v3 : Int), .int .u64 (v4 : Int), .int .u64 (v5 : Int), .slice ru rn rc] 49)).grownO g8 (fun e => by have := hrb _ e.symm; omega))
      have k8 := hide_ (kY.out.trans (b8.mono (by omega)))
      have s8 := hide_ (Nat.le_trans sY.out b8.size)
      have HPM := hide_ (show (P ++ [((v0, v1, (v2, v3), (v4, v5), LO), Value.slice ru rn rc)]).map (·.1) = pre ++ [(v0, v1, (v2, v3), (v4, v5), LO)] by rw [List.map_append, HPR.out]; rfl)
      have hpl : (pre ++ [(v0, v1, (v2, v3), (v4, v5), LO)]).length = pre.length + 1 := by simp
      have hpk : (pre ++ [(v0, v1, (v2, v3), (v4, v5), LO)]).map (·.1) = pre.map (·.1) ++ [v0] := by simp
      have M8 : Hid (w8.ownsMap Try.prog 3 unitElem (w.heap.size + 1) (pre ++ [(v0, v1, (v2, v3), (v4, v5), LO)]).length (SdK ((pre ++ [(v0, v1, (v2, v3), (v4, v5), LO)]).map (·.1)))) := hide_ (by rw [hpl, hpk, show SdK (pre.map (·.1) ++ [v0]) = _ from HSN.out]; exact M8.out)
      clear hl8 own8 g8 b8 hrb hpl hpk
      try go_wp2
      go_roundw
      case rel => exact ⟨ao2, l.length - NN, cap - NN, ua4, uc4, m + 1, l.drop NN, pre ++ [(v0, v1, (v2, v3), (v4, v5), LO)], P ++ [((v0, v1, (v2, v3), (v4, v5), LO), .slice ru rn rc)], RR, rfl, rfl, by rw [List.length_drop], HM8, HB2, R8, hide_ ⟨(by rw [List.map_append]; exact hrest.out), by rw [← hpre2.out]; simp⟩, HPM, HP5, M8, F8, k8, s8⟩
      case measure => have h1 := HN8.out; have h2 := HNL.out; simp [slen2]; omega

end Go.Proofs.Ytkhpbkdblhcepaa

namespace Go.Proofs.Ytkhpbkdblhcepaa
open Go Go.RowKit Go.Maps
set_option linter.unusedVariables false
set_option linter.unusedSimpArgs false

set_option maxRecDepth 100000 in
set_option maxHeartbeats 8000000 in
theorem id_bad (v : Value) (l0 : List Int) (c d : Int) (w : World) (hB : Bytes w v l0) (hP : DBad Ans [] l0 c d) :
    Calls Try.prog 24 #[v] w fun e w' => (e = .returned (.tuple #[.slice none 0 0, .agg #[.bool true, .int .i64 c, .int .i64 d]])) ∧ Below w.heap.size w w' := by
  have F0 := hide_ (AB.at0 w 34 [.bool false, .int .i64 0, .int .i64 0])
  have B0 := hide_ (below1 w (.cells #[.bool false, .int .i64 0, .int .i64 0] 34))
  obtain ⟨ao0, cap0, rfl, hbr⟩ := hB
  have hB : Bytes w (.slice ao0 l0.length cap0) l0 := ⟨ao0, cap0, rfl, hbr⟩
  have HB0 := hide_ hB
  have hmm := @run_makeMap Try.prog
  clear hB hbr
  obtain ⟨i0, hi0, hz0, hz1, hz2⟩ := info_parts infoIn
  have HI : Hid (Try.prog.info? 49 = some i0 ∧ i0.zero = some (.agg #[.int .i64 0, .int .i64 0, .int .u64 0, .int .u64 0, .int .u64 0, .int .u64 0, .slice none 0 0]) ∧ i0.size = 7 ∧ i0.bytes = 72) := ⟨hi0, hz0, hz1, hz2⟩
  clear hi0 hz0 hz1 hz2
  have HP := hide_ hP
  clear hP
  have MM : Hid (((w.alloc (.cells #[.bool false, .int .i64 0, .int .i64 0] 34)).alloc (.map #[] 0)).ownsMap Try.prog 3 (unitElem (H := Unit)) (w.heap.size + 1) 0 (SdK [])) := hide_ (by have := World.ownsMap_made (H := Unit) (w.alloc (.cells #[.bool false, .int .i64 0, .int .i64 0] 34)) Try.prog 3 unitElem; have e : SdK [] = .map [] := rfl; rw [e]; simpa using this)
  have FM := hide_ (F0.out.alloc (.map #[] 0))
  have KM := hide_ (B0.out.alloc (by simp) (.map #[] 0))
  have SM := hide_ (show w.heap.size + 2 ≤ ((w.alloc (.cells #[.bool false, .int .i64 0, .int .i64 0] 34)).alloc (.map #[] 0)).heap.size by simp)
  go_enter Try.func24, Try.ntmps24
  go_wp2
  go_loopw [0, 4] (fun b u wr => ∃ (ao : Option Addr) (n cap : Nat) (ua : Option Addr) (uc m : Nat) (l : List Int) (pre : List I6) (P : List PI), b = .slice ao n cap ∧ u = .slice ua m uc ∧ n = l.length ∧ Hid (m = P.length) ∧ Hid (Bytes w (.slice ao n cap) l) ∧ Hid (IRow wr (w.heap.size + 2) (.slice ua m uc) P) ∧ Hid (DBad Ans (pre.map (·.1)) l c d) ∧ Hid (P.map (·.1) = pre) ∧ Hid ((pre.map (·.1)).Nodup ∧ ∀ x ∈ pre.map (·.1), 1 ≤ x ∧ x ≤ 5) ∧ Hid (wr.ownsMap Try.prog 3 unitElem (w.heap.size + 1) pre.length (SdK (pre.map (·.1)))) ∧ Hid (AB wr w.heap.size 34 [.bool false, .int .i64 0, .int .i64 0]) ∧ Hid (Below w.heap.size w wr) ∧ Hid (w.heap.size + 2 ≤ wr.heap.size)) (fun b _ _ => slen2 b)
  case atStart => exact ⟨ao0, l0.length, cap0, none, 0, 0, l0, [], [], rfl, rfl, rfl, hide_ rfl, HB0, hide_ (IRow.nil _ _), HP, hide_ rfl, hide_ ⟨by simp, by simp⟩, MM, FM, KM, SM⟩
  case round =>
    obtain ⟨ao, n, cap, ua, uc, m, l, pre, P, rfl, rfl, rfl, HM, HBy, HOw, HPP, HPR, HP0, HMp, HF, KB, HS⟩ := hrel
    have H5 : Hid (pre.length ≤ 5) := hide_ (by have := pig 5 _ HP0.out.1 HP0.out.2; rw [List.length_map] at this; exact this)
    have hm5 : m ≤ 5 := by have h1 := congrArg List.length HPR.out; rw [List.length_map, ← HM.out] at h1; have := H5.out; omega
    have hpo := HPP.out
    clear HPP
    cases hpo with
    | @head _ _ d hd =>
      have qh := hide_ (rh_no (.slice ao l.length cap) l d wr (HBy.out.later KB.out) hd)
      have gpos : (0 : Int) < (l.length : Int) := by have := hd.1; omega
      clear hd
      go_upto_region 6 with (first | (go_at_call 50; refine (qh.out).mono ?_; rintro e w3 ⟨rfl, b3⟩; have F3 := hide_ ((HF.out.later b3).alloc (.cells #[.bool true, .int .i64 3, .int .i64 d] 34)); have G3 := hide_ (AB.at0 w3 34 [.bool true, .int .i64 3, .int .i64 d]); have M3 := hide_ ((ownsMap_later HMp.out b3).alloc (.cells #[.bool true, .int .i64 3, .int .i64 d] 34)); have R3 := hide_ ((HOw.out.later b3).later (below1 w3 (.cells #[.bool true, .int .i64 3, .int .i64 d] 34))); have k3 := hide_ (KB.out.trans ((b3.trans ((below1 w3 (.cells #[.bool true, .int .i64 3, .int .i64 d] 34)).mono b3.size)).mono KB.out.size)); have s3 := hide_ (Nat.le_trans HS.out b3.size); have z3 := hide_ (below1 w3 (.cells #[.bool true, .int .i64 3, .int .i64 d] 34)).size; obtain ⟨f0, f1, f2, -⟩ := G3.out.three; obtain ⟨ff0, ff1, ff2, -⟩ := (G3.out.alloc (.cells #[] 80)).three; clear b3))
      have BX := k3.out
      have FW := F3.out
      generalize w3.alloc (.cells #[.bool true, .int .i64 3, .int .i64 d] 34) = X at *
      have hgw : w.heap.size < w3.heap.size := by have := s3.out; omega
      have FD : AB X.drew w.heap.size 34 [.bool false, .int .i64 0, .int .i64 0] := FW
      obtain ⟨s0, s1, s2, s3', s4, s5⟩ := FD.three
      obtain ⟨u0, u1, u2, -⟩ := (FD.set3 (.bool true) (.int .i64 3) (.int .i64 d)).three
      clear FD FW
      refine wp_region_held_drew (S := (fun w' => w'.cell? ⟨w3.heap.size, 0, none⟩ = some (.bool true) ∧ w'.cell? ⟨w3.heap.size, 1, none⟩ = some (.int .i64 3) ∧ w'.cell? ⟨w3.heap.size, 2, none⟩ = some (.int .i64 d) ∧ Below w.heap.size w w')) (by kernel_rfl) (⟨f0, f1, f2, BX.drew⟩) (fun hHeld => ?_)
      generalize X.drew = D at *
      refine takeR (i := 0) (v := ?_) rfl (by kernel_rfl) (by kernel_rfl) (by kernel_rfl) (some 24) rfl (Or.inl ⟨by rfl, ?_⟩) (fun _ _ _ h => h) (by assumption) ?_
      rotate_left
      · intro w hSw; (try dsimp only at hSw); go_simp; (try with_reducible rfl)
      simp only [Act.put, List.setIfInBounds_toArray, List.set_cons_zero, List.set_cons_succ]
      refine takeR (i := 1) (v := ?_) rfl (by kernel_rfl) (by kernel_rfl) (by kernel_rfl) (some 2) rfl (Or.inl ⟨by rfl, ?_⟩) (fun _ _ _ h => h) (by assumption) ?_
      rotate_left
      · intro w hSw; (try dsimp only at hSw); go_simp; (try with_reducible rfl)
      simp only [Act.put, List.setIfInBounds_toArray, List.set_cons_zero, List.set_cons_succ]
      refine wpAnyH_ready (rs := [2]) (by kernel_rfl) (by simp) ?_
      refine AllReadyH.cons rfl (fun K hK => ?_) (AllReadyH.nil)
      go_simp
      refine hK.out _ _ (kW3_3 hHeld (by omega) (by dsimp only; omega) (by dsimp only; omega) (by dsimp only; omega)) (fun hHeld => ?_)
      clear hK K
      try simp only [Act.put, List.setIfInBounds_toArray, List.set_cons_zero, List.set_cons_succ]
      refine wpAnyH_done (by kernel_rfl) ?_ _
      go_wp2_with fail
      exact bodyPost_ret (v := .tuple #[.slice none 0 0, .agg #[.bool true, .int .i64 3, .int .i64 d]]) (by simp [results, Try.results24, go_sem, u0, u1, u2]) rfl ⟨rfl, hHeld.2.2.2⟩
    | @twice _ _ kk NN hd hin =>
      have qh := hide_ (rh_ok (.slice ao l.length cap) l kk NN wr (HBy.out.later KB.out) hd.1 hd.2.1 hd.2.2.1 hd.2.2.2.1 hd.2.2.2.2.1 hd.2.2.2.2.2.1 hd.2.2.2.2.2.2.1 hd.2.2.2.2.2.2.2)
      have hik := hd.2.2.2.2.2.1
      have gpos : (0 : Int) < (l.length : Int) := by have := hd.2.2.1; omega
      have HK : Hid (keyOf Try.prog 3 (.int .i64 kk) = some (.int .i64 kk)) := hide_ (keyOf_int_mk Try.underlying3 (isK_wf hik))
      have HH : Hid (Maps.has (SdK (pre.map (·.1))) (.int .i64 kk) = true) := hide_ (by rw [SdK_has]; exact List.contains_iff_mem.2 hin)
      clear hd hin hik
      go_wp2_with (first | (go_at_call 50; refine (qh.out).mono ?_; rintro e w3 ⟨rfl, b3⟩; have F3 := hide_ ((HF.out.later b3).alloc (.cells #[.bool false, .int .i64 0, .int .i64 0] 34)); have G3 := hide_ (AB.at0 w3 34 [.bool false, .int .i64 0, .int .i64 0]); have M3 := hide_ ((ownsMap_later HMp.out b3).alloc (.cells #[.bool false, .int .i64 0, .int .i64 0] 34)); have R3 := hide_ ((HOw.out.later b3).later (below1 w3 (.cells #[.bool false, .int .i64 0, .int .i64 0] 34))); have k3 := hide_ (KB.out.trans ((b3.trans ((below1 w3 (.cells #[.bool false, .int .i64 0, .int .i64 0] 34)).mono b3.size)).mono KB.out.size)); have s3 := hide_ (Nat.le_trans HS.out b3.size); have z3 := hide_ (below1 w3 (.cells #[.bool false, .int .i64 0, .int .i64 0] 34)).size; obtain ⟨f0, f1, f2, -⟩ := G3.out.three; obtain ⟨ff0, ff1, ff2, -⟩ := (G3.out.alloc (.cells #[] 80)).three; clear b3) | (at_lookup; refine wpList_lookup_own_unit _ rfl _ _ 79 rfl 3 80 lawI Try.underlying79 (zeroUU _) (w.heap.size + 1) pre.length (SdK (pre.map (·.1))) rfl M3.out _ _ rfl HK.out ?_; rw [HH.out]) | (go_at_call 51; refine (refuse3_any 9 _).mono ?_; rintro e w9 ⟨rfl, b9⟩; have F9 := (F3.out.alloc (.cells #[] 80)).later b9; have k9 := (k3.out.alloc (Nat.le_trans (Nat.le_trans (Nat.le_add_right _ 2) s3.out) z3.out) (.cells #[] 80)); have k9 := k9.trans (b9.mono k9.size); obtain ⟨s0, s1, s2, s3', s4, s5⟩ := F9.three; obtain ⟨u0, u1, u2, -⟩ := (F9.set3 (.bool true) (.int .i64 3) (.int .i64 9)).three; have bb := below_set3 (g := w.heap.size) k9 (Nat.le_refl _) (.bool true) (.int .i64 3) (.int .i64 9)))
      exact bodyPost_ret (v := .tuple #[.slice none 0 0, .agg #[.bool true, .int .i64 3, .int .i64 9]]) (by simp [results, Try.results24, go_sem, u0, u1, u2]) rfl ⟨rfl, bb⟩
    | @body _ _ kk c d NN hd hnk hbo =>
      obtain ⟨hl4, hl12, hlN⟩ := hd.len
      have qh := hide_ (rh_ok (.slice ao l.length cap) l kk NN wr (HBy.out.later KB.out) hd.1 hd.2.1 hd.2.2.1 hd.2.2.2.1 hd.2.2.2.2.1 hd.2.2.2.2.2.1 hd.2.2.2.2.2.2.1 hd.2.2.2.2.2.2.2)
      have hik := hd.2.2.2.2.2.1
      have gpos : (0 : Int) < (l.length : Int) := by have := hd.2.2.1; omega
      have HK : Hid (keyOf Try.prog 3 (.int .i64 kk) = some (.int .i64 kk)) := hide_ (keyOf_int_mk Try.underlying3 (isK_wf hik))
      have HH : Hid (Maps.has (SdK (pre.map (·.1))) (.int .i64 kk) = false) := hide_ (by rw [SdK_has]; cases hc : (pre.map (·.1)).contains kk; rfl; exact absurd (List.contains_iff_mem.1 hc) hnk)
      obtain ⟨a4, s4, hB4⟩ := bytes_mid HBy.out 4 NN (by have := hd.2.2.2.1; omega) hd.2.2.2.1.2.2
      have s4 : ∀ wx, (Instr.slice 24 (.slice ao l.length cap) (some (.int .i64 4)) (some (.int .i64 (NN : Int))) none).run Try.prog wx = .ok (.slice a4 (NN - 4) (cap - 4)) wx := s4
      have HB4 := hide_ hB4
      have qb : Hid (∀ W, Below w.heap.size w W → Calls Try.prog 52 #[.int .i64 kk, .slice a4 (NN - 4) (cap - 4)] W fun e w' => e = .returned (.tuple #[.agg #[.int .i64 0, .int .i64 0, .int .u64 0, .int .u64 0, .int .u64 0, .int .u64 0, .slice none 0 0], .agg #[.bool true, .int .i64 c, .int .i64 d]]) ∧ Below W.heap.size W w') := hide_ (fun W hW => rbody_no _ _ kk c d W (HB4.out.later hW) hl4 hl12 hbo)
      have hN4 : ¬ (NN : Int) < 4 := by have := hd.2.2.2.1; omega
      clear hd hnk hbo hik hl4 hl12 hlN hB4
      go_upto_region 12 with (first | (go_at_call 50; refine (qh.out).mono ?_; rintro e w3 ⟨rfl, b3⟩; have F3 := hide_ ((HF.out.later b3).alloc (.cells #[.bool false, .int .i64 0, .int .i64 0] 34)); have G3 := hide_ (AB.at0 w3 34 [.bool false, .int .i64 0, .int .i64 0]); have M3 := hide_ ((ownsMap_later HMp.out b3).alloc (.cells #[.bool false, .int .i64 0, .int .i64 0] 34)); have R3 := hide_ ((HOw.out.later b3).later (below1 w3 (.cells #[.bool false, .int .i64 0, .int .i64 0] 34))); have k3 := hide_ (KB.out.trans ((b3.trans ((below1 w3 (.cells #[.bool false, .int .i64 0, .int .i64 0] 34)).mono b3.size)).mono KB.out.size)); have s3 := hide_ (Nat.le_trans HS.out b3.size); have z3 := hide_ (below1 w3 (.cells #[.bool false, .int .i64 0, .int .i64 0] 34)).size; obtain ⟨f0, f1, f2, -⟩ := G3.out.three; obtain ⟨ff0, ff1, ff2, -⟩ := (G3.out.alloc (.cells #[] 80)).three; clear b3) | (at_lookup; refine wpList_lookup_own_unit _ rfl _ _ 79 rfl 3 80 lawI Try.underlying79 (zeroUU _) (w.heap.size + 1) pre.length (SdK (pre.map (·.1))) rfl M3.out _ _ rfl HK.out ?_; rw [HH.out]) | (at_mapUpdate; refine wpList_mapUpdate_own _ rfl _ _ _ 79 rfl 3 80 lawI Try.underlying79 (unitElem (H := Unit)) (w.heap.size + 1) pre.length (SdK (pre.map (·.1))) rfl (M3.out.alloc _) (by have := H5.out; unfold maxLen; omega) _ _ _ rfl rfl HK.out _ [] unitElem_mk ?_; intro w5 hown5 hgrow5; have M5 := hide_ hown5; have F5 := hide_ ((F3.out.alloc (.cells #[] 80)).grownO hgrow5 (by intro e; injection e with e; omega)); have G5 := hide_ ((G3.out.alloc (.cells #[] 80)).grownO hgrow5 (by have := s3.out; intro e; injection e with e; omega)); have R5 := hide_ ((R3.out.later (below1 _ (.cells #[] 80))).kept hgrow5 (by omega)); have k5 := hide_ ((k3.out.alloc (Nat.le_trans (Nat.le_trans (Nat.le_add_right _ 2) s3.out) z3.out) (.cells #[] 80)).grown hgrow5 (by have h1 := s3.out; have h2 := z3.out; simp at h2 ⊢; omega) (fun k e => by cases e; omega)); have s5 := hide_ (Nat.le_trans (Nat.le_trans s3.out (Nat.le_trans z3.out (by simp))) hgrow5.size); obtain ⟨q0, q1, q2, -⟩ := G5.out.three; clear hown5 hgrow5) | (go_at_call 52; refine (qb.out _ k5.out).mono ?_; rintro e w6 ⟨rfl, b6⟩; have F6 := hide_ (F5.out.later b6); have G6 := hide_ (G5.out.later b6); have k6 := hide_ (k5.out.trans (b6.mono k5.out.size)); have s6 := hide_ (Nat.le_trans s5.out b6.size); have g6 := hide_ (G6.out.lt); obtain ⟨j0, j1, j2, j3, j4, j5⟩ := (G6.out.alloc (.cells #[.int .i64 0, .int .i64 0, .int .u64 0, .int .u64 0, .int .u64 0, .int .u64 0, .slice none 0 0] 49)).three; clear b6))
      have hne2 := g6.out
      have GA := G6.out.alloc (.cells #[.int .i64 0, .int .i64 0, .int .u64 0, .int .u64 0, .int .u64 0, .int .u64 0, .slice none 0 0] 49)
      have FA := F6.out.alloc (.cells #[.int .i64 0, .int .i64 0, .int .u64 0, .int .u64 0, .int .u64 0, .int .u64 0, .slice none 0 0] 49)
      have GY := hide_ (GA.set3 (.bool true) (.int .i64 c) (.int .i64 d))
      have FY := hide_ (FA.farx3 (f := w3.heap.size) (by have := s3.out; omega) (.bool true) (.int .i64 c) (.int .i64 d))
      have kY := hide_ (below_set3 (g := w3.heap.size) (k6.out.trans ((below1 w6 (.cells #[.int .i64 0, .int .i64 0, .int .u64 0, .int .u64 0, .int .u64 0, .int .u64 0, .slice none 0 0] 49)).mono k6.out.size)) (by have := s3.out; omega) (.bool true) (.int .i64 c) (.int .i64 d))
      clear GA FA
      generalize ((((w6.alloc (.cells #[.int .i64 0, .int .i64 0, .int .u64 0, .int .u64 0, .int .u64 0, .int .u64 0, .slice none 0 0] 49)).setCell ⟨w3.heap.size, 0, none⟩ (.bool true)).setCell ⟨w3.heap.size, 1, none⟩ (.int .i64 c)).setCell ⟨w3.heap.size, 2, none⟩ (.int .i64 d)) = Y at *
      obtain ⟨y0, y1, y2, -⟩ := GY.out.three
      have BX := kY.out
      have FW := FY.out
      go_upto_region 13 with fail
      have hgw : w.heap.size < w3.heap.size := by have := s3.out; omega
      have FD : AB Y.drew w.heap.size 34 [.bool false, .int .i64 0, .int .i64 0] := FW
      obtain ⟨s0, s1, s2, s3', s4, s5⟩ := FD.three
      obtain ⟨u0, u1, u2, -⟩ := (FD.set3 (.bool true) (.int .i64 c) (.int .i64 d)).three
      clear FD FW
      refine wp_region_held_drew (S := (fun w' => w'.cell? ⟨w3.heap.size, 0, none⟩ = some (.bool true) ∧ w'.cell? ⟨w3.heap.size, 1, none⟩ = some (.int .i64 c) ∧ w'.cell? ⟨w3.heap.size, 2, none⟩ = some (.int .i64 d) ∧ Below w.heap.size w w')) (by kernel_rfl) (⟨y0, y1, y2, BX.drew⟩) (fun hHeld => ?_)
      generalize Y.drew = D at *
      refine takeR (i := 0) (v := ?_) rfl (by kernel_rfl) (by kernel_rfl) (by kernel_rfl) (some 46) rfl (Or.inl ⟨by rfl, ?_⟩) (fun _ _ _ h => h) (by assumption) ?_
      rotate_left
      · intro w hSw; (try dsimp only at hSw); go_simp; (try with_reducible rfl)
      simp only [Act.put, List.setIfInBounds_toArray, List.set_cons_zero, List.set_cons_succ]
      refine takeR (i := 1) (v := ?_) rfl (by kernel_rfl) (by kernel_rfl) (by kernel_rfl) (some 2) rfl (Or.inl ⟨by rfl, ?_⟩) (fun _ _ _ h => h) (by assumption) ?_
      rotate_left
      · intro w hSw; (try dsimp only at hSw); go_simp; (try with_reducible rfl)
      simp only [Act.put, List.setIfInBounds_toArray, List.set_cons_zero, List.set_cons_succ]
      refine wpAnyH_ready (rs := [2]) (by kernel_rfl) (by simp) ?_
      refine AllReadyH.cons rfl (fun K hK => ?_) (AllReadyH.nil)
      go_simp
      refine hK.out _ _ (kW3_3 hHeld (by omega) (by dsimp only; omega) (by dsimp only; omega) (by dsimp only; omega)) (fun hHeld => ?_)
      clear hK K
      try simp only [Act.put, List.setIfInBounds_toArray, List.set_cons_zero, List.set_cons_succ]
      refine wpAnyH_done (by kernel_rfl) ?_ _
      go_wp2_with fail
      exact bodyPost_ret (v := .tuple #[.slice none 0 0, .agg #[.bool true, .int .i64 c, .int .i64 d]]) (by simp [results, Try.results24, go_sem, u0, u1, u2]) rfl ⟨rfl, hHeld.2.2.2⟩
    | @cons _ _ kk c d NN OO hd hnk hbo hrest =>
      obtain ⟨hl4, hl12, hlN⟩ := hd.len
      have hdd := hd
      obtain ⟨hK0, hN2, h8l, ⟨hN8, hNm, hNl⟩, -, hik, -, -⟩ := hdd
      have qh := hide_ (rh_ok (.slice ao l.length cap) l kk NN wr (HBy.out.later KB.out) hd.1 hd.2.1 hd.2.2.1 hd.2.2.2.1 hd.2.2.2.2.1 hd.2.2.2.2.2.1 hd.2.2.2.2.2.2.1 hd.2.2.2.2.2.2.2)
      obtain ⟨a4, s4, hB4⟩ := bytes_mid HBy.out 4 NN (by omega) hNl
      have s4 : ∀ wx, (Instr.slice 24 (.slice ao l.length cap) (some (.int .i64 4)) (some (.int .i64 (NN : Int))) none).run Try.prog wx = .ok (.slice a4 (NN - 4) (cap - 4)) wx := s4
      have HB4 := hide_ hB4
      obtain ⟨ao2, -, s2, b2⟩ := bytes_slice HBy.out NN hNl
      have HB2 := hide_ b2
      have hkind := hbo.kind
      have qb : Hid (∀ W, Below w.heap.size w W → Calls Try.prog 52 #[.int .i64 kk, .slice a4 (NN - 4) (cap - 4)] W fun e w' => (∃ r, e = .returned (.tuple #[.agg #[.int .i64 OO.1, .int .i64 OO.2.1, .int .u64 (OO.2.2.1.1 : Int), .int .u64 (OO.2.2.1.2 : Int), .int .u64 (OO.2.2.2.1.1 : Int), .int .u64 (OO.2.2.2.1.2 : Int), r], .agg #[.bool false, .int .i64 0, .int .i64 0]]) ∧ w'.ownsRow W.heap.size 65 11 r OO.2.2.2.2.length (ads OO.2.2.2.2)) ∧ Below W.heap.size W w') := hide_ (fun W hW => rbody_ok _ _ kk OO W (HB4.out.later hW) hl4 hl12 hbo)
      have HK : Hid (keyOf Try.prog 3 (.int .i64 kk) = some (.int .i64 kk)) := hide_ (keyOf_int_mk Try.underlying3 (isK_wf hik))
      have HH : Hid (Maps.has (SdK (pre.map (·.1))) (.int .i64 kk) = false) := hide_ (by rw [SdK_has]; cases hc : (pre.map (·.1)).contains kk; rfl; exact absurd (List.contains_iff_mem.1 hc) hnk)
      have HSN := hide_ (SdK_snoc (pre.map (·.1)) kk)
      rw [← hkind] at HSN hrest
      have hrest := hide_ hrest
      have HP5 : Hid (((pre ++ [OO]).map (·.1)).Nodup ∧ ∀ x ∈ (pre ++ [OO]).map (·.1), 1 ≤ x ∧ x ≤ 5) := hide_ (by
        rw [List.map_append]
        refine ⟨?_, ?_⟩
        · rw [List.nodup_append]
          refine ⟨HP0.out.1, by simp, ?_⟩
          intro a ha b hb
          simp only [List.map_cons, List.map_nil, List.mem_singleton] at hb
          subst hb
          exact fun e => hnk (by rw [← hkind, ← e]; exact ha)
        · intro x hx
          rcases List.mem_append.1 hx with h | h
          · exact HP0.out.2 x h
          · simp only [List.map_cons, List.map_nil, List.mem_singleton] at h
            subst h
            rw [hkind]
            unfold isK at hik
            simpa using hik)
      obtain ⟨v0, v1, ⟨v2, v3⟩, ⟨v4, v5⟩, LO⟩ := OO
      have hkind : v0 = kk := hkind
      subst hkind
      obtain ⟨rn, hrn⟩ : ∃ rn, LO.length = rn := ⟨_, rfl⟩
      have HRN := hide_ hrn
      have gpos : (0 : Int) < (l.length : Int) := by omega
      have hcap : ¬ (NN : Int) < 4 := by omega
      have HNL := hide_ hNl
      have HN8 := hide_ hN8
      clear b2 hd hrn hB4 hbo hl4 hl12 hlN hnk hK0 hN2 h8l hNm hik hNl hN8
      go_upto_region 12 with (first | (go_at_call 50; refine (qh.out).mono ?_; rintro e w3 ⟨rfl, b3⟩; have F3 := hide_ ((HF.out.later b3).alloc (.cells #[.bool false, .int .i64 0, .int .i64 0] 34)); have G3 := hide_ (AB.at0 w3 34 [.bool false, .int .i64 0, .int .i64 0]); have M3 := hide_ ((ownsMap_later HMp.out b3).alloc (.cells #[.bool false, .int .i64 0, .int .i64 0] 34)); have R3 := hide_ ((HOw.out.later b3).later (below1 w3 (.cells #[.bool false, .int .i64 0, .int .i64 0] 34))); have k3 := hide_ (KB.out.trans ((b3.trans ((below1 w3 (.cells #[.bool false, .int .i64 0, .int .i64 0] 34)).mono b3.size)).mono KB.out.size)); have s3 := hide_ (Nat.le_trans HS.out b3.size); have z3 := hide_ (below1 w3 (.cells #[.bool false, .int .i64 0, .int .i64 0] 34)).size; obtain ⟨f0, f1, f2, -⟩ := G3.out.three; obtain ⟨ff0, ff1, ff2, -⟩ := (G3.out.alloc (.cells #[] 80)).three; clear b3) | (at_lookup; refine wpList_lookup_own_unit _ rfl _ _ 79 rfl 3 80 lawI Try.underlying79 (zeroUU _) (w.heap.size + 1) pre.length (SdK (pre.map (·.1))) rfl M3.out _ _ rfl HK.out ?_; rw [HH.out]) | (at_mapUpdate; refine wpList_mapUpdate_own _ rfl _ _ _ 79 rfl 3 80 lawI Try.underlying79 (unitElem (H := Unit)) (w.heap.size + 1) pre.length (SdK (pre.map (·.1))) rfl (M3.out.alloc _) (by have := H5.out; unfold maxLen; omega) _ _ _ rfl rfl HK.out _ [] unitElem_mk ?_; intro w5 hown5 hgrow5; have M5 := hide_ hown5; have F5 := hide_ ((F3.out.alloc (.cells #[] 80)).grownO hgrow5 (by intro e; injection e with e; omega)); have G5 := hide_ ((G3.out.alloc (.cells #[] 80)).grownO hgrow5 (by have := s3.out; intro e; injection e with e; omega)); have R5 := hide_ ((R3.out.later (below1 _ (.cells #[] 80))).kept hgrow5 (by omega)); have k5 := hide_ ((k3.out.alloc (Nat.le_trans (Nat.le_trans (Nat.le_add_right _ 2) s3.out) z3.out) (.cells #[] 80)).grown hgrow5 (by have h1 := s3.out; have h2 := z3.out; simp at h2 ⊢; omega) (fun k e => by cases e; omega)); have s5 := hide_ (Nat.le_trans (Nat.le_trans s3.out (Nat.le_trans z3.out (by simp))) hgrow5.size); obtain ⟨q0, q1, q2, -⟩ := G5.out.three; clear hown5 hgrow5) | (go_at_call 52; refine (qb.out _ k5.out).mono ?_; rintro e w6 ⟨⟨r, rfl, ho⟩, b6⟩; obtain ⟨ru, rc, er⟩ := ownr_form ho; rw [HRN.out] at er; subst er; have HA6 := hide_ (ownr_base ho s5.out); have F6 := hide_ (F5.out.later b6); have G6 := hide_ (G5.out.later b6); have R6 := hide_ (R5.out.later b6); have M6 := hide_ (ownsMap_later M5.out b6); have k6 := hide_ (k5.out.trans (b6.mono k5.out.size)); have s6 := hide_ (Nat.le_trans s5.out b6.size); have g6 := hide_ (G6.out.lt); obtain ⟨j0, j1, j2, j3, j4, j5⟩ := (G6.out.alloc (.cells #[.int .i64 v0, .int .i64 v1, .int .u64 (v2 : Int), .int .u64 (v3 : Int), .int .u64 (v4 : Int), .int .u64 (v5 : Int), .slice ru rn rc] 49)).three; clear ho b6))
      have hne2 := g6.out
      have RA := R6.out.later (below1 w6 (.cells #[.int .i64 v0, .int .i64 v1, .int .u64 (v2 : Int), .int .u64 (v3 : Int), .int .u64 (v4 : Int), .int .u64 (v5 : Int), .slice ru rn rc] 49))
      have GA := G6.out.alloc (.cells #[.int .i64 v0, .int .i64 v1, .int .u64 (v2 : Int), .int .u64 (v3 : Int), .int .u64 (v4 : Int), .int .u64 (v5 : Int), .slice ru rn rc] 49)
      have FA := F6.out.alloc (.cells #[.int .i64 v0, .int .i64 v1, .int .u64 (v2 : Int), .int .u64 (v3 : Int), .int .u64 (v4 : Int), .int .u64 (v5 : Int), .slice ru rn rc] 49)
      have MA := M6.out.alloc (.cells #[.int .i64 v0, .int .i64 v1, .int .u64 (v2 : Int), .int .u64 (v3 : Int), .int .u64 (v4 : Int), .int .u64 (v5 : Int), .slice ru rn rc] 49)
      have HAA := ownr_later HA6.out (below1 w6 (.cells #[.int .i64 v0, .int .i64 v1, .int .u64 (v2 : Int), .int .u64 (v3 : Int), .int .u64 (v4 : Int), .int .u64 (v5 : Int), .slice ru rn rc] 49))
      have IA := AB.at0 w6 49 [.int .i64 v0, .int .i64 v1, .int .u64 (v2 : Int), .int .u64 (v3 : Int), .int .u64 (v4 : Int), .int .u64 (v5 : Int), .slice ru rn rc]
      have RY := hide_ (RA.fill3 GA (.bool false) (.int .i64 0) (.int .i64 0))
      have GY := hide_ (GA.set3 (.bool false) (.int .i64 0) (.int .i64 0))
      have FY := hide_ (FA.farx3 (f := w3.heap.size) (by have := s3.out; omega) (.bool false) (.int .i64 0) (.int .i64 0))
      have MY := hide_ (map_set3 MA (g := w3.heap.size) (by have := s3.out; omega) (.bool false) (.int .i64 0) (.int .i64 0))
      have HAY := hide_ (own_set3X HAA GA (by decide) (.bool false) (.int .i64 0) (.int .i64 0))
      have IY := hide_ (IA.farx3 (f := w3.heap.size) (by omega) (.bool false) (.int .i64 0) (.int .i64 0))
      have kY := hide_ (below_set3 (g := w3.heap.size) (k6.out.trans ((below1 w6 (.cells #[.int .i64 v0, .int .i64 v1, .int .u64 (v2 : Int), .int .u64 (v3 : Int), .int .u64 (v4 : Int), .int .u64 (v5 : Int), .slice ru rn rc] 49)).mono k6.out.size)) (by have := s3.out; omega) (.bool false) (.int .i64 0) (.int .i64 0))
      have sY := hide_ (Nat.le_trans s6.out (below_set3 (n := 0) (g := w3.heap.size) ((below1 w6 (.cells #[.int .i64 v0, .int .i64 v1, .int .u64 (v2 : Int), .int .u64 (v3 : Int), .int .u64 (v4 : Int), .int .u64 (v5 : Int), .slice ru rn rc] 49)).mono (Nat.zero_le _)) (Nat.zero_le _) (.bool false) (.int .i64 0) (.int .i64 0)).size)
      clear RA GA FA MA HAA IA
      generalize ((((w6.alloc (.cells #[.int .i64 v0, .int .i64 v1, .int .u64 (v2 : Int), .int .u64 (v3 : Int), .int .u64 (v4 : Int), .int .u64 (v5 : Int), .slice ru rn rc] 49)).setCell ⟨w3.heap.size, 0, none⟩ (.bool false)).setCell ⟨w3.heap.size, 1, none⟩ (.int .i64 0)).setCell ⟨w3.heap.size, 2, none⟩ (.int .i64 0)) = Y at *
      obtain ⟨y0, y1, y2, -⟩ := GY.out.three
      obtain ⟨i0', i1', i2', i3', i4', i5', i6', -⟩ := IY.out.k7
      have HB2 := HB2
      go_wp2_with (first | (at_builtin; refine wpList_append_newG (.tmp 47) (.tmp 49) 38 rfl 49 i0 (.agg #[.int .i64 0, .int .i64 0, .int .u64 0, .int .u64 0, .int .u64 0, .int .u64 0, .slice none 0 0]) 7 72 Try.underlying38 HI.out.1 HI.out.2.1 HI.out.2.2.1 HI.out.2.2.2 rfl (by decide) (w.heap.size + 2) (.slice ua m uc) m (ids P) (by simp [Act.eval, Act.put]) Y (by have := RY.out.1; rw [← HM.out] at this; exact this) [.int .i64 v0, .int .i64 v1, .int .u64 (v2 : Int), .int .u64 (v3 : Int), .int .u64 (v4 : Int), .int .u64 (v5 : Int), .slice ru rn rc] _ rfl 1 (by simp) (by simp [Value.oneCell']) (by simp [Act.eval, Act.put]) (by simp [Region.wanted]) (by unfold maxLen; omega) (by omega) sY.out ?_; intro v8 w8 own8 b8 g8))
      have R8 : IRow w8 (w.heap.size + 2) v8 (P ++ [((v0, v1, (v2, v3), (v4, v5), LO), .slice ru rn rc)]) := IRow.push RY.out (by rw [← HRN.out] at *; exact HAY.out) (by rw [← HM.out]; exact own8) g8
      have hl8 : (P ++ [((v0, v1, (v2, v3), (v4, v5), LO), Value.slice ru rn rc)]).length = m + 1 := by rw [List.length_append, ← HM.out]; rfl
      obtain ⟨ua4, uc4, e4⟩ := ownr_form R8.1
      rw [hl8] at e4
      subst e4
      have R8 := hide_ R8
      have HM8 := hide_ hl8.symm
      have hrb : ∀ k, (Value.slice ua m uc).ownBlock = some k → w.heap.size + 2 ≤ k := fun k e => (RY.out.1.lt _ e).1
      have M8 := hide_ ((MY.out.alloc (.cells #[.int .i64 v0, .int .i64 v1, .int .u64 (v2 : Int), .int .u64 (v3 : Int), .int .u64 (v4 : Int), .int .u64 (v5 : Int), .slice ru rn rc] 49)).kept g8 (fun e => by have := hrb _ e.symm; omega))
      have F8 := hide_ ((FY.out.alloc (.cells #[.int .i64 v0, .int .i64 v1, .int .u64 (v2 : Int), .int .u64 (v3 : Int), .int .u64 (v4 : Int), .int .u64 (v5 : Int), .slice ru rn rc] 49)).grownO g8 (fun e => by have := hrb _ e.symm; omega))
      have k8 := hide_ (kY.out.trans (b8.mono (by omega)))
      have s8 := hide_ (Nat.le_trans sY.out b8.size)
      have HPM := hide_ (show (P ++ [((v0, v1, (v2, v3), (v4, v5), LO), Value.slice ru rn rc)]).map (·.1) = pre ++ [(v0, v1, (v2, v3), (v4, v5), LO)] by rw [List.map_append, HPR.out]; rfl)
      have hpl : (pre ++ [(v0, v1, (v2, v3), (v4, v5), LO)]).length = pre.length + 1 := by simp
      have hpk : (pre ++ [(v0, v1, (v2, v3), (v4, v5), LO)]).map (·.1) = pre.map (·.1) ++ [v0] := by simp
      have M8 : Hid (w8.ownsMap Try.prog 3 unitElem (w.heap.size + 1) (pre ++ [(v0, v1, (v2, v3), (v4, v5), LO)]).length (SdK ((pre ++ [(v0, v1, (v2, v3), (v4, v5), LO)]).map (·.1)))) := hide_ (by rw [hpl, hpk, show SdK (pre.map (·.1) ++ [v0]) = _ from HSN.out]; exact M8.out)
      clear hl8 own8 g8 b8 hrb hpl hpk
      try go_wp2
      go_roundw
      case rel => exact ⟨ao2, l.length - NN, cap - NN, ua4, uc4, m + 1, l.drop NN, pre ++ [(v0, v1, (v2, v3), (v4, v5), LO)], P ++ [((v0, v1, (v2, v3), (v4, v5), LO), .slice ru rn rc)], rfl, rfl, by rw [List.length_drop], HM8, HB2, R8, hide_ (by rw [List.map_append]; exact hrest.out), HPM, HP5, M8, F8, k8, s8⟩
      case measure => have h1 := HN8.out; have h2 := HNL.out; simp [slen2]; omega

end Go.Proofs.Ytkhpbkdblhcepaa

namespace Go.Proofs.Ytkhpbkdblhcepaa
open Go Go.RowKit
set_option linter.unusedVariables false
set_option linter.unusedSimpArgs false

theorem act_cells {w : World} {ad : Addr} {n cap : Nat} {L : List A11} (h : ActAt w (.slice (some ad) n cap) L) : ∀ j u, (ads L)[j]? = some u → w.cell? (ad.add j) = some u := by
  obtain ⟨s, cap', e, h1, h2, h3, h4⟩ := h
  cases e
  intro j u hu
  have hj : j < L.length * 11 := by rw [← ads_length]; exact (List.getElem?_eq_some_iff.1 hu).1
  have e1 : j / 11 * 11 + j % 11 = j := by omega
  obtain ⟨o, ho⟩ : ∃ o, L[j / 11]? = some o := ⟨_, List.getElem?_eq_getElem (by omega)⟩
  obtain ⟨q, off, e2, hc⟩ := h4 _ o ho
  cases e2
  rw [← e1, ads_at ho (by omega)] at hu
  have := hc _ u hu
  rw [Addr.add_lit]
  rw [Nat.add_assoc, e1] at this
  exact this
theorem wpList_append_act {w : World} {ops : Array Oper} {rest : List Oper} {o : Oper} {a : Act} {Q : Exit → Act → World → Prop} (hgd : o.guard = none) (s x : Operand) (t : TypeId)
    (ho : o.op = .call { callee := .builtin .append, args := #[s, x], argTypes := #[t, t] })
    (base : Nat) (i : TypeInfo) (ht : Try.prog.underlying t = some (.slice 65)) (hi : Try.prog.info? 65 = some i) (hz : i.zero = some (.agg #[.int .i64 0, .int .i64 0, .int .i64 0, .int .i64 0, .int .i64 0, .int .i64 0, .bool false, .int .u64 0, .int .u64 0, .int .u64 0, .int .u64 0]))
    (hsize : i.size = 11) (hby : i.bytes = 88)
    (v : Value) (n : Nat) (xs : List Value) (hs : a.eval s = v) (hown : w.ownsRow base 65 11 v n xs)
    (u : Value) (L : List A11) (hx : a.eval x = u) (hB : ActAt w u L)
    (h63 : n + L.length ≤ 1000000) (hbase : base ≤ w.heap.size)
    (h : ∀ v' w', w'.ownsRow base 65 11 v' (n + L.length) (xs ++ ads L) → w.grownBy w' v.ownBlock → wpList Try.prog ops Q rest (a.put o.dst v') w') : wpList Try.prog ops Q (o :: rest) a w := by
  have hB2 := hB
  obtain ⟨ad, cap, rfl, h1, h2, h3, h4⟩ := hB
  cases ad with
  | none =>
    have hc := h3 rfl
    subst hc
    have hl : L = [] := List.eq_nil_of_length_eq_zero (by omega)
    subst hl
    refine wpList_append_own_none hgd s x t ho base 65 i 11 ht hi v n xs hs hown hx ?_
    refine h v w ?_ ⟨rfl, rfl, rfl, Nat.le_refl _, fun _ _ _ => rfl⟩
    simpa [ads] using hown
  | some ad =>
    exact wpList_append_own w hgd s x t ho base 65 i (.agg #[.int .i64 0, .int .i64 0, .int .i64 0, .int .i64 0, .int .i64 0, .int .i64 0, .bool false, .int .u64 0, .int .u64 0, .int .u64 0, .int .u64 0]) 11 88 ht hi hz hsize hby rfl (by decide) v n xs hs hown ad L.length cap (ads L) hx (ads_length L) (act_cells hB2) (ads_one L) (by unfold maxLen; omega) (by omega) hbase (fun v' w' a1 a2 _ => h v' w' a1 a2)

set_option maxRecDepth 100000 in
set_option maxHeartbeats 8000000 in
theorem aclone_any (v : Value) (L : List A11) (w : World) (hL : ActAt w v L) (hlen : L.length ≤ 1000) :
    Calls Try.prog 57 #[v] w fun e w' => ∃ r, e = .returned r ∧ w'.ownsRow w.heap.size 65 11 r L.length (ads L) ∧ Below w.heap.size w w' := by
  have hB2 := hide_ hL
  obtain ⟨a, cap, rfl, h1, h2, h3, h4⟩ := hL
  cases a with
  | none =>
    have hc := h3 rfl
    subst hc
    have hl : L = [] := List.eq_nil_of_length_eq_zero (by omega)
    subst hl
    simp only [List.length_nil]
    clear h1 h2 h3 h4 hB2
    have hn := fun wx => Lib.run_eql_slice_nil (P := Try.prog) wx 22 65 none 0 0 0 0 Try.underlying22
    go_enter Try.func57, Try.ntmps57
    go_wp2
    go_ret
    exact ⟨_, rfl, World.ownsRow_nil _ _ _ _, Below.refl _ _⟩
  | some ad =>
    have hn := fun wx => Lib.run_eql_slice_nil (P := Try.prog) wx 22 65 (some ad) L.length cap 0 0 Try.underlying22
    clear h3 h4
    unfold maxLen at h2
    obtain ⟨i0, hi0, hz0, hz1, hz2⟩ := info_parts infoAc
    have HI : Hid (Try.prog.info? 65 = some i0 ∧ i0.zero = some (.agg #[.int .i64 0, .int .i64 0, .int .i64 0, .int .i64 0, .int .i64 0, .int .i64 0, .bool false, .int .u64 0, .int .u64 0, .int .u64 0, .int .u64 0]) ∧ i0.size = 11 ∧ i0.bytes = 88) := ⟨hi0, hz0, hz1, hz2⟩
    clear hi0 hz0 hz1 hz2
    go_enter Try.func57, Try.ntmps57
    go_wp2_with (at_builtin; refine wpList_append_act rfl (.tmp 5) (.tmp 6) 22 rfl w.heap.size i0 Try.underlying22 HI.out.1 HI.out.2.1 HI.out.2.2.1 HI.out.2.2.2 (.slice (some ⟨w.heap.size, 0, none⟩) 0 0) 0 [] (by simp [Act.eval, Act.put]) (World.ownsRow_made w #[] 0 (Nat.le_refl _) (Nat.zero_le _) rfl) (.slice (some ad) L.length cap) L (by simp [Act.eval, Act.put]) (hB2.out.later (by go_grown)) (by omega) (by simp) ?_; intro v' w' hown hg)
    go_ret
    exact ⟨_, rfl, by simpa using hown, (by go_grown : Below w.heap.size w (w.alloc (.cells #[] 65))).trans (below_grown hg _ (by simp) (by simp [Value.ownBlock]))⟩

set_option maxRecDepth 100000 in
set_option maxHeartbeats 8000000 in
theorem ofclo_any (k1 t1 : Int) (a1 b1 c1 d1 : Nat) (u1 : Value) (kind : Int) (g : Nat) (w : World) (hc : w.cell? ⟨g, 0, none⟩ = some (.int .i64 kind)) :
    Calls Try.prog 56 #[.agg #[.int .i64 k1, .int .i64 t1, .int .u64 (a1 : Int), .int .u64 (b1 : Int), .int .u64 (c1 : Int), .int .u64 (d1 : Int), u1], .pointer (some ⟨g, 0, none⟩)] w fun e w' => e = .returned (.bool (k1 == kind)) ∧ Below w.heap.size w w' := by
  have hg := cell_later (below1 w (.cells #[.int .i64 k1, .int .i64 t1, .int .u64 (a1 : Int), .int .u64 (b1 : Int), .int .u64 (c1 : Int), .int .u64 (d1 : Int), u1] 49)) hc
  have B0 := hide_ (below1 w (.cells #[.int .i64 k1, .int .i64 t1, .int .u64 (a1 : Int), .int .u64 (b1 : Int), .int .u64 (c1 : Int), .int .u64 (d1 : Int), u1] 49))
  obtain ⟨x0, x1, x2, x3, x4, x5, x6, -⟩ := (AB.at0 w 49 [.int .i64 k1, .int .i64 t1, .int .u64 (a1 : Int), .int .u64 (b1 : Int), .int .u64 (c1 : Int), .int .u64 (d1 : Int), u1]).k7
  go_enter Try.func56, Try.ntmps56
  go_wp2
  go_ret
  exact ⟨rfl, B0.out⟩

set_option maxRecDepth 100000 in
set_option maxHeartbeats 8000000 in
theorem ixf_found (v : Value) (L : List I6) (kind : Int) (g : Nat) (w : World) (hL : InstAt w v L) (hc : w.cell? ⟨g, 0, none⟩ = some (.int .i64 kind)) (J : Nat) (o : I6) (hjo : L[J]? = some o ∧ o.1 = kind) (hn : ∀ (i : Nat) (x : I6), i < J → L[i]? = some x → ¬ x.1 = kind) :
    Calls Try.prog 55 #[v, (.func (.func 56) #[] #[.pointer (some ⟨g, 0, none⟩)])] w fun e w' => e = .returned (.int .i64 (J : Int)) ∧ Below w.heap.size w w' := by
  obtain ⟨s, cap, rfl, h1, h2, h3, h4⟩ := hL
  have HL := hide_ h4
  have HN := hide_ hn
  have HC := hide_ hc
  have HJ := hide_ hjo
  have hJl := (List.getElem?_eq_some_iff.1 hjo.1).1
  have hm : L.length ≤ 9223372036854775807 := by unfold maxLen at h2; omega
  clear h1 h2 h3 h4 hn hc hjo
  go_enter Try.func55, Try.ntmps55
  go_wp2
  go_loopw [8] (fun i wr => ∃ j : Nat, j ≤ J ∧ i = .int .i64 (j : Int) ∧ Hid (Below w.heap.size w wr)) (fun i _ => L.length - (intOf i).toNat)
  case atStart => exact ⟨0, Nat.zero_le _, rfl, hide_ (Below.refl _ _)⟩
  case round =>
    obtain ⟨j, hj, rfl, KB⟩ := hrel
    by_cases hlt : j < L.length
    · have hlt' : (j : Int) < (L.length : Int) := by omega
      obtain ⟨⟨k1, t1, ⟨a1, b1⟩, ⟨c1, d1⟩, M1⟩, hz1⟩ : ∃ z, L[j]? = some z := ⟨_, List.getElem?_eq_getElem hlt⟩
      obtain ⟨bq1, off1, u1, rfl, X0, X1, X2, X3, X4, X5, X6, M1A⟩ := HL.out j _ hz1
      have X0 := cell_later KB.out X0
      have X1 := cell_later KB.out X1
      have X2 := cell_later KB.out X2
      have X3 := cell_later KB.out X3
      have X4 := cell_later KB.out X4
      have X5 := cell_later KB.out X5
      have X6 := cell_later KB.out X6
      obtain ⟨su1, cu1, eu1, -⟩ := id M1A
      subst eu1
      have HX := hide_ hz1
      have qc := hide_ (fun W (hW : Below w.heap.size w W) => ofclo_any k1 t1 a1 b1 c1 d1 (.slice su1 M1.length cu1) kind g W (cell_later hW HC.out))
      clear hz1 M1A
      by_cases he : j = J
      · have hk : (k1 == kind) = true := by have h1 := HX.out; rw [he, HJ.out.1] at h1; have h2 := HJ.out.2; cases h1; simpa using h2
        rw [hk] at qc
        have HE9 := hide_ he
        clear hk he
        go_wp2_with (go_at_call 56; refine (qc.out _ KB.out).mono ?_; rintro e w5 ⟨rfl, b5⟩)
        go_ret
        exact ⟨by rw [← HE9.out]; rfl, KB.out.trans (b5.mono KB.out.size)⟩
      · have hk : (k1 == kind) = false := by have h1 := HN.out j _ (by omega) HX.out; simpa using h1
        rw [hk] at qc
        clear hk
        go_wp2_with (go_at_call 56; refine (qc.out _ KB.out).mono ?_; rintro e w5 ⟨rfl, b5⟩)
        go_roundw
        case rel => exact ⟨j + 1, by omega, by go_num, hide_ (KB.out.trans (b5.mono KB.out.size))⟩
        case measure => simp [intOf]; omega
    · exfalso; omega

end Go.Proofs.Ytkhpbkdblhcepaa

namespace Go.Proofs.Ytkhpbkdblhcepaa
open Go Go.RowKit
set_option linter.unusedVariables false
set_option linter.unusedSimpArgs false

theorem own_set7I {w : World} {base g n size : Nat} {e : TypeId} {v : Value} {xs : List Value} (h : w.ownsRow base e size v n xs) (hg : g < base) (x0 x1 x2 x3 x4 x5 x6 : Value) : (((((((w.setCell ⟨g, 0, none⟩ x0).setCell ⟨g, 1, none⟩ x1).setCell ⟨g, 2, none⟩ x2).setCell ⟨g, 3, none⟩ x3).setCell ⟨g, 4, none⟩ x4).setCell ⟨g, 5, none⟩ x5).setCell ⟨g, 6, none⟩ x6).ownsRow base e size v n xs :=
  own_setI (own_setI (own_setI (own_setI (own_setI (own_setI (own_setI h hg x0) hg x1) hg x2) hg x3) hg x4) hg x5) hg x6
set_option maxRecDepth 100000 in
set_option maxHeartbeats 8000000 in
theorem of_found (v : Value) (L : List I6) (kind : Int) (w : World) (hL : InstAt w v L) (J : Nat) (k1 t1 : Int) (a1 b1 c1 d1 : Nat) (M1 : List A11) (hjo : L[J]? = some (k1, t1, (a1, b1), (c1, d1), M1) ∧ k1 = kind) (hn : ∀ (i : Nat) (x : I6), i < J → L[i]? = some x → ¬ x.1 = kind) (hlen : M1.length ≤ 1000) :
    Calls Try.prog 26 #[v, .int .i64 kind] w fun e w' => (∃ uc cc, e = .returned (.tuple #[.agg #[.int .i64 k1, .int .i64 t1, .int .u64 (a1 : Int), .int .u64 (b1 : Int), .int .u64 (c1 : Int), .int .u64 (d1 : Int), .slice uc M1.length cc], .bool true]) ∧ ActAt w' (.slice uc M1.length cc) M1) ∧ Below w.heap.size w w' := by
  have B0 := hide_ (below2 w (.cells #[.int .i64 kind] 3) (.cells #[.int .i64 0, .int .i64 0, .int .u64 0, .int .u64 0, .int .u64 0, .int .u64 0, .slice none 0 0] 49))
  have K0 := hide_ ((AB.at0 w 3 [.int .i64 kind]).alloc (.cells #[.int .i64 0, .int .i64 0, .int .u64 0, .int .u64 0, .int .u64 0, .int .u64 0, .slice none 0 0] 49))
  have R0 := hide_ (AB.at1 w (.cells #[.int .i64 kind] 3) 49 [.int .i64 0, .int .i64 0, .int .u64 0, .int .u64 0, .int .u64 0, .int .u64 0, .slice none 0 0])
  have q := hide_ (ixf_found _ L kind w.heap.size _ (hL.later B0.out) (K0.out.cell (j := 0) rfl).1 J (k1, t1, (a1, b1), (c1, d1), M1) hjo hn)
  have hJl := (List.getElem?_eq_some_iff.1 hjo.1).1
  obtain ⟨s, cap, rfl, h1, h2, h3, h4⟩ := hL
  obtain ⟨bq1, off1, u1, rfl, X0, X1, X2, X3, X4, X5, X6, MA⟩ := h4 J _ hjo.1
  obtain ⟨su1, cu1, eu1, -⟩ := id MA
  subst eu1
  have hm : L.length ≤ 9223372036854775807 := by unfold maxLen at h2; omega
  have hJ' : (J : Int) < (L.length : Int) := by omega
  have hJ0 : ¬ (J : Int) < 0 := by omega
  have HX := hide_ (And.intro X0 (And.intro X1 (And.intro X2 (And.intro X3 (And.intro X4 (And.intro X5 X6))))))
  have qc := hide_ (fun W (hW : Below w.heap.size w W) => aclone_any (.slice su1 M1.length cu1) M1 W (MA.later hW) hlen)
  clear h1 h2 h3 h4 hjo hn MA X0 X1 X2 X3 X4 X5 X6
  go_enter Try.func26, Try.ntmps26
  go_upto_region 4 with (go_at_call 55; refine q.out.mono ?_; rintro e w1 ⟨rfl, b1⟩; have R1 := hide_ (R0.out.later b1); have k1' := hide_ (B0.out.trans (b1.mono B0.out.size)); clear b1)
  obtain ⟨Y0, Y1, Y2, Y3, Y4, Y5, Y6⟩ := HX.out
  have Y0 := cell_later k1'.out Y0
  have Y1 := cell_later k1'.out Y1
  have Y2 := cell_later k1'.out Y2
  have Y3 := cell_later k1'.out Y3
  have Y4 := cell_later k1'.out Y4
  have Y5 := cell_later k1'.out Y5
  have Y6 := cell_later k1'.out Y6
  go_upto_region 5 with fail
  have A2 := hide_ (AB.at0 w1 49 [.int .i64 k1, .int .i64 t1, .int .u64 (a1 : Int), .int .u64 (b1 : Int), .int .u64 (c1 : Int), .int .u64 (d1 : Int), .slice su1 M1.length cu1])
  have R2 := hide_ (R1.out.alloc (.cells #[.int .i64 k1, .int .i64 t1, .int .u64 (a1 : Int), .int .u64 (b1 : Int), .int .u64 (c1 : Int), .int .u64 (d1 : Int), .slice su1 M1.length cu1] 49))
  have hw1 := hide_ (show w.heap.size + 1 < w1.heap.size from R1.out.lt)
  have k2 := hide_ (k1'.out.trans ((below1 w1 (.cells #[.int .i64 k1, .int .i64 t1, .int .u64 (a1 : Int), .int .u64 (b1 : Int), .int .u64 (c1 : Int), .int .u64 (d1 : Int), .slice su1 M1.length cu1] 49)).mono k1'.out.size))
  clear Y0 Y1 Y2 Y3 Y4 Y5 Y6
  generalize w1.alloc (.cells #[.int .i64 k1, .int .i64 t1, .int .u64 (a1 : Int), .int .u64 (b1 : Int), .int .u64 (c1 : Int), .int .u64 (d1 : Int), .slice su1 M1.length cu1] 49) = w2 at *
  generalize w1.heap.size = g7 at *
  obtain ⟨z0, z1, z2, z3, z4, z5, z6, -⟩ := A2.out.k7
  go_upto_region 6 with (go_at_call 57; refine (qc.out _ k2.out).mono ?_; rintro e w3 ⟨r3, rfl, o3, b3⟩; obtain ⟨s3, c3, e3⟩ := ownr_form o3; subst e3; have O3 := hide_ o3; have A3 := hide_ (A2.out.later b3); have R3 := hide_ (R2.out.later b3); have k3 := hide_ (k2.out.trans (b3.mono k2.out.size)); have hg3 := hide_ (Nat.lt_of_lt_of_le A2.out.lt (Nat.le_refl _)); obtain ⟨p0, p1, p2, p3, p4, p5, p6, p7, p8, p9, p10, p11, p12, p13⟩ := A3.out.k7; clear o3 b3)
  have hgw := hw1.out
  have A4 := hide_ (A3.out.set (j := 6) (.slice s3 M1.length c3))
  have R4 := hide_ (R3.out.far (f := g7) (o := 6) (.slice s3 M1.length c3) (by omega))
  have O4 := hide_ (own_setI O3.out (g := g7) hg3.out (o := 6) (.slice s3 M1.length c3))
  have k4 := hide_ (k3.out.setCell (p := ⟨g7, 6, none⟩) (by show w.heap.size ≤ g7; omega) (.slice s3 M1.length c3))
  generalize w3.setCell ⟨g7, 6, none⟩ (.slice s3 M1.length c3) = w4 at *
  obtain ⟨f0, f1, f2, f3, f4, f5, f6, -⟩ := A4.out.k7
  obtain ⟨x0, x1, x2, x3, x4, x5, x6, x7, x8, x9, x10, x11, x12, x13⟩ := R4.out.k7
  obtain ⟨u0, u1, u2, u3, u4, u5, u6, -⟩ := (R4.out.set7 (.int .i64 k1) (.int .i64 t1) (.int .u64 (a1 : Int)) (.int .u64 (b1 : Int)) (.int .u64 (c1 : Int)) (.int .u64 (d1 : Int)) (.slice s3 M1.length c3)).k7
  have bb := below_set7 (n := w.heap.size + 1) k4.out (by omega) (.int .i64 k1) (.int .i64 t1) (.int .u64 (a1 : Int)) (.int .u64 (b1 : Int)) (.int .u64 (c1 : Int)) (.int .u64 (d1 : Int)) (.slice s3 M1.length c3)
  have HO := hide_ (ActAt.ofOwn (own_set7I (g := w.heap.size + 1) O4.out (by have := hg3.out; omega) (.int .i64 k1) (.int .i64 t1) (.int .u64 (a1 : Int)) (.int .u64 (b1 : Int)) (.int .u64 (c1 : Int)) (.int .u64 (d1 : Int)) (.slice s3 M1.length c3)))
  go_wp2_with fail
  exact bodyPost_ret (v := .tuple #[.agg #[.int .i64 k1, .int .i64 t1, .int .u64 (a1 : Int), .int .u64 (b1 : Int), .int .u64 (c1 : Int), .int .u64 (d1 : Int), .slice s3 M1.length c3], .bool true]) (by simp [results, Try.results26, go_sem, u0, u1, u2, u3, u4, u5, u6]) rfl ⟨⟨_, _, rfl, HO.out⟩, bb⟩

end Go.Proofs.Ytkhpbkdblhcepaa

namespace Go.Proofs.Ytkhpbkdblhcepaa
open Go Go.RowKit
set_option linter.unusedVariables false
set_option linter.unusedSimpArgs false

def tailI (o : I6) : List Int := if o.1 = 2 then wtail o.2.2.1.1 o.2.2.1.2 8 ++ wtail o.2.2.2.1.1 o.2.2.2.1.2 8 else if o.1 = 3 ∨ o.1 = 4 then encA o.2.2.2.2 else []
theorem bodyI_cons (o : I6) : bodyI o = (o.2.1 % 256) :: 0 :: 0 :: 0 :: tailI o := by
  unfold bodyI tailI
  split
  · simp [spl]
  · split
    · simp [spl]
    · simp [spl]
theorem instE_cons (o : I6) (X : List Int) : instE o ++ X = (o.1 / 256 % 256) :: (o.1 % 256) :: ((8 + ((tailI o).length : Int)) / 256 % 256) :: ((8 + ((tailI o).length : Int)) % 256) :: (o.2.1 % 256) :: 0 :: 0 :: 0 :: (tailI o ++ X) := by
  unfold instE
  rw [bodyI_cons]
  have e : (4 + (((o.2.1 % 256) :: 0 :: 0 :: 0 :: tailI o).length : Int)) = 8 + ((tailI o).length : Int) := by simp; omega
  rw [e]
  simp [spl]
theorem instE_len (o : I6) : (instE o).length = 8 + (tailI o).length := by
  have := congrArg List.length (instE_cons o [])
  simp at this
  rw [this]; omega
theorem encA_mod : ∀ L : List A11, AFit L → L.all artO = true → (encA L).length % 8 = 0
  | [], _, _ => rfl
  | (k, p, x, q, y, f, m, a, b, c, d) :: r, hF, h => by
    rw [List.all_cons, Bool.and_eq_true] at h
    obtain ⟨ha, hb, hc, hd⟩ := hF k p x q y f m a b c d (by simp)
    have h1 := (aenc_len ha hb hc hd (show art k p x q y f m a b c d = true from h.1)).2.1
    have h2 := encA_mod r hF.tail h.2
    show (aencO (k, p, x, q, y, f, m, a, b, c, d) ++ encA r).length % 8 = 0
    rw [List.length_append]
    show ((aencL k p x q y f m a b c d).length + _) % 8 = 0
    omega
theorem cl8 : cl 8 16 = 8 := by decide
theorem get8 {b : Nat} (X : List Int) (hb : b < 18446744073709551616) : gx (wtail 0 b 8 ++ X) 8 = 0 ∧ gy (wtail 0 b 8 ++ X) 8 = b := by
  have e : gv (wtail 0 b 8 ++ X) 8 = 0 * 18446744073709551616 + b := by
    rw [show (8 : Int) = ((8 : Nat) : Int) from rfl, gv_app _ X 8 (by decide) (by rw [wtail_length]; decide)]
    unfold wtail
    rw [show cl ((8 : Nat) : Int) 16 = 8 from by decide]
    exact bev_tail_h 0 b 8 (by decide) (by decide) hb (by simpa using hb)
  unfold gx gy
  rw [e]
  omega
theorem gx8 (r : List Int) (hr : isB r) (hl : 8 ≤ r.length) : gx r 8 = 0 := by
  have hk : gok r 8 = true := by simp [gok]; omega
  have hv : gv r 8 = bev (r.take 8) := by unfold gv; rw [if_pos hk]; rfl
  have hb := bev_lt (r.take 8) (isB_take hr 8)
  have hlen : (r.take 8).length = 8 := by simp; omega
  rw [hlen] at hb
  unfold gx
  rw [hv]
  exact Nat.div_eq_of_lt (by simpa using hb)
theorem andn_0 (d : Nat) : andn 0 d = 0 := by unfold andn; simp
theorem andn_64 {d : Nat} : andn d LW64.2 = 0 := by
  have e : (18446744073709551615 - LW64.2) = 0 := by decide
  unfold andn
  rw [e]
  simp
theorem msk_hi {o : I6} (hI : IFit o) (h : mskI o = true) : o.2.2.2.1.1 = 0 := by
  unfold mskI wi at h
  simp only [Bool.and_eq_true, beq_iff_eq] at h
  have := le_of_andn hI.2.2.1 (show LW64.1 < 18446744073709551616 by decide) h.1
  have e : LW64.1 = 0 := by decide
  omega
theorem val_hi {o : I6} (hI : IFit o) (h : mskI o = true) (hw : wi o.2.2.1.1 o.2.2.1.2 o.2.2.2.1.1 o.2.2.2.1.2 = true) : o.2.2.1.1 = 0 := by
  have hc := msk_hi hI h
  unfold wi at hw
  simp only [Bool.and_eq_true, beq_iff_eq] at hw
  have := le_of_andn hI.1 hI.2.2.1 hw.1
  omega
theorem tailI_len {o : I6} (hI : IFit o) (h : iR o = true) : (tailI o).length % 8 = 0 ∧ (tailI o).length ≤ 6000 ∧ fitK o.1 ((8 + (tailI o).length : Nat) : Int) = true := by
  obtain ⟨-, -, -, h1, h2⟩ := iR_parts h
  unfold tailI fitK
  by_cases e2 : o.1 = 2
  · rw [if_pos e2, if_pos e2, List.length_append, wtail_length, wtail_length, cl8]
    decide
  · rw [if_neg e2, if_neg e2]
    by_cases e3 : o.1 = 3 ∨ o.1 = 4
    · rw [if_pos e3, if_pos e3]
      exact ⟨encA_mod _ hI.2.2.2.2 h2, encA_6000 hI.2.2.2.2 h1 h2, rfl⟩
    · rw [if_neg e3, if_neg e3]
      decide
theorem own_table {o : I6} (h : o = ownI o) (h1 : ¬ o.1 = 1) : o.2.1 = 0 := by
  have e : o.2.1 = (ownI o).2.1 := congrArg (fun x : I6 => x.2.1) h
  rw [e]
  unfold ownI
  rw [if_neg h1]
  split
  · rfl
  · split <;> rfl
theorem hok_enc (o : I6) (X : List Int) (hI : IFit o) (h : iR o = true) : HOk (instE o ++ X) o.1 (8 + (tailI o).length) := by
  obtain ⟨g1, g2, g3⟩ := tailI_len hI h
  have ht := iR_table h
  obtain ⟨ho, hch, -, -, -⟩ := iR_parts h
  obtain ⟨hk, -, -⟩ := chkI_parts hch
  have hl : (instE o ++ X).length = 8 + (tailI o).length + X.length := by rw [List.length_append, instE_len]
  have ik : isK o.1 = true := by unfold isK; simp [hk.1, hk.2]
  refine ⟨?_, ?_, by rw [hl]; omega, ⟨by omega, by omega, by rw [hl]; omega⟩, by omega, ik, g3, ?_⟩
  · rw [instE_cons]
    unfold be2
    rw [if_pos (by simp)]
    simp
    omega
  · rw [instE_cons]
    unfold be2
    rw [if_pos (by simp)]
    simp
    omega
  · unfold nouI
    rw [instE_cons]
    by_cases h1 : o.1 = 1
    · rw [if_pos h1]
      simp [nzB]
    · rw [if_neg h1, own_table ho h1]
      simp [nzB]
theorem ibd_enc (o : I6) (hI : IFit o) (h : iR o = true) : BdOk Ans (bodyI o) o.1 o := by
  have ht := iR_table h
  obtain ⟨ho, hch, hms, h1, h2⟩ := iR_parts h
  obtain ⟨hk, -, hw⟩ := chkI_parts hch
  rw [bodyI_cons]
  have hd : ((o.2.1 % 256) :: 0 :: 0 :: 0 :: tailI o).drop 4 = tailI o := rfl
  have hk5 : o.1 = 1 ∨ o.1 = 2 ∨ (o.1 = 3 ∨ o.1 = 4) ∨ o.1 = 5 := by omega
  rcases hk5 with e | e | e | e
  · refine .inl ⟨e, ?_, ?_⟩
    · show o.2.1 % 256 < 255
      omega
    · show o = (1, o.2.1 % 256, (0, 0), (0, 0), [])
      have e2 : o.2.1 % 256 = o.2.1 := by omega
      rw [e2]
      have e3 : ownI o = (o.1, o.2.1, (0, 0), (0, 0), []) := by unfold ownI; rw [if_pos e]
      rw [← e, ← e3]
      exact ho
  · refine .inr (.inl ⟨e, ?_⟩)
    rw [hd]
    have hc := msk_hi hI hms
    have ha := val_hi hI hms (hw e)
    have et : tailI o = wtail 0 o.2.2.1.2 8 ++ wtail 0 o.2.2.2.1.2 8 := by unfold tailI; rw [if_pos e, ha, hc]
    have ed : (tailI o).drop 8 = wtail 0 o.2.2.2.1.2 8 ++ [] := by rw [et, List.append_nil]; exact List.drop_left' (by rw [wtail_length]; decide)
    obtain ⟨p1, p2⟩ := get8 (wtail 0 o.2.2.2.1.2 8) hI.2.1
    obtain ⟨p3, p4⟩ := get8 (b := o.2.2.2.1.2) [] hI.2.2.2.1
    rw [ed, et, p1, p2, p3, p4]
    have hw2 := hw e
    rw [ha, hc] at hw2
    refine ⟨hw2, ?_⟩
    have e3 : ownI o = (2, 0, o.2.2.1, o.2.2.2.1, []) := by unfold ownI; rw [if_neg (by omega), if_pos e]
    have e4 : o = (2, 0, o.2.2.1, o.2.2.2.1, []) := by rw [← e3]; exact ho
    have e5 : o.2.2.1 = (0, o.2.2.1.2) := Prod.ext ha rfl
    have e6 : o.2.2.2.1 = (0, o.2.2.2.1.2) := Prod.ext hc rfl
    exact e4.trans (by rw [← e5, ← e6])
  · refine .inr (.inr (.inl ⟨e, o.2.2.2.2, ?_, h1, ?_⟩))
    · rw [hd]
      have et : tailI o = encA o.2.2.2.2 := by unfold tailI; rw [if_neg (by omega), if_pos e]
      rw [et]
      exact aok_enc _ hI.2.2.2.2 h2
    · have e3 : ownI o = (o.1, 0, (0, 0), (0, 0), o.2.2.2.2) := by unfold ownI; rw [if_neg (by omega), if_neg (by omega), if_pos e]
      rw [← e3]; exact ho
  · refine .inr (.inr (.inr ⟨e, ?_⟩))
    have e3 : ownI o = (o.1, 0, (0, 0), (0, 0), []) := by unfold ownI; rw [if_neg (by omega), if_neg (by omega), if_neg (by omega)]
    rw [← e, ← e3]; exact ho
theorem dok_enc : ∀ (L : List I6) (ks : List Int), LFit L → (∀ i o, L[i]? = some o → iR o = true ∧ o.1 ∉ ks ∧ o.1 ∉ (L.take i).map (·.1)) → DOk Ans ks (encIs L) L
  | [], ks, _, _ => .nil
  | o :: r, ks, hF, h => by
    obtain ⟨h1, h2, -⟩ := h 0 o rfl
    have hI := (hF o (by simp)).1
    show DOk Ans ks (instE o ++ encIs r) (o :: r)
    have hl := instE_len o
    have e1 : ((instE o ++ encIs r).take (8 + (tailI o).length)).drop 4 = bodyI o := by
      rw [List.take_left' hl]
      unfold instE
      exact List.drop_left' (by simp [spl_len2])
    refine .cons (hok_enc o _ hI h1) h2 (by rw [e1]; exact ibd_enc o hI h1) ?_
    rw [List.drop_left' hl]
    refine dok_enc r _ (fun x hx => hF x (by simp [hx])) (fun i x hx => ?_)
    obtain ⟨k1, k2, k3⟩ := h (i + 1) x (by simpa using hx)
    rw [List.take_succ_cons, List.map_cons, List.mem_cons] at k3
    refine ⟨k1, fun hm => ?_, fun hm => k3 (.inr hm)⟩
    rcases List.mem_append.1 hm with hm | hm
    · exact k2 hm
    · exact k3 (.inl (by simpa using hm))

end Go.Proofs.Ytkhpbkdblhcepaa

namespace Go.Proofs.Ytkhpbkdblhcepaa
open Go Go.RowKit
set_option linter.unusedVariables false
set_option linter.unusedSimpArgs false

theorem be_k {c0 c1 k : Int} (h0 : 0 ≤ c0 ∧ c0 ≤ 255) (h1 : 0 ≤ c1 ∧ c1 ≤ 255) (h : c0 * 256 + c1 = k) : k / 256 % 256 = c0 ∧ k % 256 = c1 := by omega
theorem msk_zero {x : I6} (h : x.2.2.2.1 = (0, 0)) : mskI x = true := by
  unfold mskI
  rw [h]
  decide
theorem iR_of {o : I6} (h : o = ownI o) (h2 : chkI o = true) (h3 : mskI o = true) (h4 : o.2.2.2.2.length ≤ 100) (h5 : o.2.2.2.2.all artO = true) : iR o = true := by
  unfold iR aOk
  rw [(sameI_iff _ _).2 h, h2, h3, h5, decide_eq_true h4]
  rfl
theorem chk_of {o : I6} (h : isK o.1 = true) (h1 : o.1 = 1 → 0 ≤ o.2.1 ∧ o.2.1 < 255) (h2 : o.1 = 2 → wi o.2.2.1.1 o.2.2.1.2 o.2.2.2.1.1 o.2.2.2.1.2 = true) : chkI o = true := by
  unfold chkI
  rw [h]
  by_cases e1 : o.1 = 1
  · have := h1 e1
    have e2 : ¬ o.1 = 2 := by omega
    simp [e1, this]
  · by_cases e2 : o.1 = 2
    · have := h2 e2
      simp [e2, this]
    · simp [e1, e2]
theorem zlt : (0 : Nat) < 18446744073709551616 := by decide
theorem fitsNil : AFit [] := by
  intro k p x q y f m a b c d hi
  cases hi
theorem parts_all {D : List Int → Value → Prop} {y0 : Int} {R : List Int} {k : Int} {N : Nat} {o : I6} (hR : isB R) (h0 : 0 ≤ y0 ∧ y0 ≤ 255) (hN : R.length = N - 8) (h8 : 8 ≤ N) (hf : fitK k (N : Int) = true) (hk : isK k = true) (hz : ¬ k = 1 → y0 = 0)
    (hb : BdOk D (y0 :: 0 :: 0 :: 0 :: R) k o) : o.1 = k ∧ o.2.1 = y0 ∧ tailI o = R ∧ iR o = true ∧ IFit o := by
  rcases hb with ⟨rfl, hy, rfl⟩ | ⟨rfl, hw, rfl⟩ | ⟨h34, L, hA, hl, rfl⟩ | ⟨rfl, rfl⟩
  · have hr : R = [] := by
      unfold fitK at hf
      simp at hf
      exact List.eq_nil_of_length_eq_zero (by omega)
    have hy : y0 < 255 := hy
    refine ⟨rfl, rfl, by rw [hr]; rfl, ?_, zlt, zlt, zlt, zlt, fitsNil⟩
    exact iR_of rfl (chk_of hk (fun _ => ⟨h0.1, hy⟩) (fun e => by cases e)) (msk_zero rfl) (Nat.zero_le _) rfl
  · have hl16 : R.length = 16 := by
      unfold fitK at hf
      simp at hf
      omega
    have hd : (y0 :: 0 :: 0 :: 0 :: R).drop 4 = R := rfl
    rw [hd] at hw ⊢
    have hR8 := isB_dropK hR 8
    have e1 := read_put R 8 hR (by decide) (by omega)
    have e2 := read_put (R.drop 8) 8 hR8 (by decide) (by rw [List.length_drop]; omega)
    have g1 := gx8 R hR (by omega)
    have g2 := gx8 (R.drop 8) hR8 (by rw [List.length_drop]; omega)
    have f1 := gy_lt R 8
    have f2 := gy_lt (R.drop 8) 8
    have et : tailI (2, 0, (gx R 8, gy R 8), (gx (R.drop 8) 8, gy (R.drop 8) 8), []) = R := by
      show wtail (gx R 8) (gy R 8) 8 ++ wtail (gx (R.drop 8) 8) (gy (R.drop 8) 8) 8 = R
      have e1 : wtail (gx R 8) (gy R 8) 8 = R.take 8 := e1
      have e2 : wtail (gx (R.drop 8) 8) (gy (R.drop 8) 8) 8 = (R.drop 8).take 8 := e2
      rw [e1, e2, List.take_of_length_le (l := R.drop 8) (by rw [List.length_drop]; omega), List.take_append_drop]
    refine ⟨rfl, (hz (by decide)).symm, et, ?_, by rw [g1]; exact zlt, f1, by rw [g2]; exact zlt, f2, fitsNil⟩
    refine iR_of rfl (chk_of hk (fun e => by cases e) (fun _ => hw)) ?_ (Nat.zero_le _) rfl
    unfold mskI wi
    dsimp only
    rw [g2, andn_64]
    have e : LW64.1 = 0 := by decide
    rw [e, andn_0]
    rfl
  · obtain ⟨a1, a2, a3⟩ := aok_all hA
    have a1 : encA L = R := a1
    have k2 : ¬ k = 2 := by omega
    have k1 : ¬ k = 1 := by omega
    refine ⟨rfl, (hz k1).symm, ?_, ?_, zlt, zlt, zlt, zlt, a2⟩
    · unfold tailI
      rw [if_neg k2, if_pos h34]
      exact a1
    · refine iR_of ?_ (chk_of hk (fun e => absurd e k1) (fun e => absurd e k2)) (msk_zero rfl) hl a3
      unfold ownI
      rw [if_neg k1, if_neg k2, if_pos h34]
  · have hr : R = [] := by
      unfold fitK at hf
      simp at hf
      exact List.eq_nil_of_length_eq_zero (by omega)
    refine ⟨rfl, (hz (by decide)).symm, by rw [hr]; rfl, ?_, zlt, zlt, zlt, zlt, fitsNil⟩
    exact iR_of rfl (chk_of hk (fun e => by cases e) (fun e => by cases e)) (msk_zero rfl) (Nat.zero_le _) rfl
theorem istep_all {D : List Int → Value → Prop} {l : List Int} {k : Int} {N : Nat} {o : I6} (hl : isB l) (h : HOk l k N) (hb : BdOk D ((l.take N).drop 4) k o) : instE o = l.take N ∧ iR o = true ∧ IFit o ∧ o.1 = k ∧ (Lit.int .i64 o.1).wf = true := by
  obtain ⟨h1, h2, h8, ⟨n1, n2, n3⟩, h6, hk, hf, hn⟩ := h
  match l, h8 with
  | c0 :: c1 :: c2 :: c3 :: y0 :: y1 :: y2 :: y3 :: r, _ =>
    have b0 := hl c0 (by simp)
    have b1 := hl c1 (by simp)
    have b2 := hl c2 (by simp)
    have b3 := hl c3 (by simp)
    have b4 := hl y0 (by simp)
    have hr : isB r := fun z hz => hl z (by simp [hz])
    have h1 : c0 * 256 + c1 = k := by
      unfold be2 at h1
      rw [if_pos (by simp)] at h1
      exact h1
    have h2 : c2 * 256 + c3 = (N : Int) := by
      unfold be2 at h2
      rw [if_pos (by simp)] at h2
      exact h2
    have hz : y1 = 0 ∧ y2 = 0 ∧ y3 = 0 ∧ (¬ k = 1 → y0 = 0) := by
      unfold nouI at hn
      by_cases k1 : k = 1
      · rw [if_pos k1] at hn
        simp [nzB] at hn
        exact ⟨hn.1, hn.2.1, hn.2.2, fun e => absurd k1 e⟩
      · rw [if_neg k1] at hn
        simp [nzB] at hn
        exact ⟨hn.2.1, hn.2.2.1, hn.2.2.2, fun _ => hn.1⟩
    obtain ⟨rfl, rfl, rfl, hz⟩ := hz
    obtain ⟨M, rfl⟩ : ∃ M, N = M + 8 := ⟨N - 8, by omega⟩
    have e : (c0 :: c1 :: c2 :: c3 :: y0 :: 0 :: 0 :: 0 :: r).take (M + 8) = c0 :: c1 :: c2 :: c3 :: y0 :: 0 :: 0 :: 0 :: r.take M := rfl
    rw [e] at hb ⊢
    have hRl : (r.take M).length = M + 8 - 8 := by
      simp at n3
      rw [List.length_take]; omega
    obtain ⟨p1, p2, p3, p4, p5⟩ := parts_all (R := r.take M) (isB_takeK hr M) b4 hRl (by omega) hf hk hz hb
    refine ⟨?_, p4, p5, p1, by rw [p1]; exact isK_wf hk⟩
    have e2 := instE_cons o []
    rw [List.append_nil, List.append_nil, p1, p2, p3] at e2
    rw [e2]
    obtain ⟨q0, q1⟩ := be_k b0 b1 h1
    have e3 : (8 + ((r.take M).length : Int)) = ((M + 8 : Nat) : Int) := by rw [hRl]; omega
    obtain ⟨q2, q3⟩ := be_k b2 b3 h2
    rw [e3, q0, q1, q2, q3]
    have q4 : y0 % 256 = y0 := by omega
    rw [q4]
theorem dok_all {D : List Int → Value → Prop} {ks l : List Int} {Os : List I6} (h : DOk D ks l Os) : isB l → encIs Os = l ∧ LFit Os ∧ ∀ i o, Os[i]? = some o → iR o = true ∧ o.1 ∉ ks ∧ o.1 ∉ (Os.take i).map (·.1) := by
  induction h with
  | nil =>
    intro _
    refine ⟨rfl, ?_, ?_⟩
    · intro o ho
      cases ho
    · intro i o ho
      simp at ho
  | @cons ks l k N o Os hd hk hb hp ih =>
    intro hl
    obtain ⟨e1, e2, e3⟩ := ih (isB_dropK hl N)
    obtain ⟨s1, s2, s3, s4, s5⟩ := istep_all hl hd hb
    refine ⟨?_, ?_, ?_⟩
    · show instE o ++ encIs Os = l
      rw [s1, e1, List.take_append_drop]
    · intro x hx
      rcases List.mem_cons.1 hx with rfl | hx
      · exact ⟨s3, s5⟩
      · exact e2 x hx
    · intro i x hx
      cases i with
      | zero =>
        simp at hx
        subst hx
        exact ⟨s2, by rw [s4]; exact hk, by simp⟩
      | succ i =>
        obtain ⟨t1, t2, t3⟩ := e3 i x (by simpa using hx)
        refine ⟨t1, fun hm => t2 (List.mem_append.2 (.inl hm)), fun hm => ?_⟩
        rw [List.take_succ_cons, List.map_cons, List.mem_cons] at hm
        rcases hm with hm | hm
        · exact t2 (List.mem_append.2 (.inr (by rw [hm, s4]; simp)))
        · exact t3 hm

end Go.Proofs.Ytkhpbkdblhcepaa

namespace Go.Proofs.Ytkhpbkdblhcepaa
open Go Go.RowKit Go.Maps
set_option linter.unusedVariables false
set_option linter.unusedSimpArgs false

def a22 : A11 := (18, 0, 0, 0, 0, 0, false, 0, 0, 0, 0)
def L22 : List I6 := [(1, 2, (0, 0), (0, 0), []), (4, 0, (0, 0), (0, 0), [a22])]
theorem a22_fit : AFit [a22] := by
  intro k p x q y f m a b c d hi
  simp only [a22, List.mem_cons, List.not_mem_nil, or_false, Prod.mk.injEq] at hi
  obtain ⟨rfl, rfl, rfl, rfl, rfl, rfl, rfl, rfl, rfl, rfl, rfl⟩ := hi
  decide
theorem nil_fit : AFit [] := by
  intro k p x q y f m a b c d hi
  cases hi
theorem l22_fit : LFit L22 := by
  intro o ho
  simp only [L22, List.mem_cons, List.not_mem_nil, or_false] at ho
  rcases ho with rfl | rfl
  · exact ⟨⟨by decide, by decide, by decide, by decide, nil_fit⟩, by decide⟩
  · exact ⟨⟨by decide, by decide, by decide, by decide, a22_fit⟩, by decide⟩
theorem l22_0 : iR (1, 2, (0, 0), (0, 0), []) = true := by decide +kernel
theorem l22_1 : iR (4, 0, (0, 0), (0, 0), [a22]) = true := by decide +kernel
theorem l22_g : gI L22 2 := by
  intro i o hi ho
  have h2 : i = 0 ∨ i = 1 := by omega
  rcases h2 with rfl | rfl
  · simp [L22] at ho
    subst ho
    exact ⟨l22_0, by simp⟩
  · simp [L22] at ho
    subst ho
    exact ⟨l22_1, by simp [L22]⟩
theorem l22_4 : ∀ (i : Nat) (x : I6), i < 1 → L22[i]? = some x → ¬ x.1 = 4 := by
  intro i x hi hx
  have h0 : i = 0 := by omega
  subst h0
  simp [L22] at hx
  subst hx
  decide
theorem l22_len : (encIs L22).length = 24 := by decide +kernel
theorem l22_dok : DOk Ans [] (encIs L22) L22 := dok_enc L22 [] l22_fit (fun i o ho => by
  have hi : i < 2 := (List.getElem?_eq_some_iff.1 ho).1
  have := l22_g i o hi ho
  exact ⟨this.1, by simp, this.2⟩)
theorem a22_row (w : World) : (w.alloc (.cells #[.int .i64 18, .int .i64 0, .int .i64 0, .int .i64 0, .int .i64 0, .int .i64 0, .bool false, .int .u64 0, .int .u64 0, .int .u64 0, .int .u64 0] 65)).ownsRow w.heap.size 65 11 (.slice (some ⟨w.heap.size, 0, none⟩) 1 1) 1 (ads [a22]) :=
  ⟨by decide, .inr ⟨w.heap.size, 1, _, rfl, Nat.le_refl _, heap_alloc_last w _, by decide, by decide, by decide, rfl⟩⟩
theorem l22_row (w : World) : IRow ((w.alloc (.cells #[.int .i64 18, .int .i64 0, .int .i64 0, .int .i64 0, .int .i64 0, .int .i64 0, .bool false, .int .u64 0, .int .u64 0, .int .u64 0, .int .u64 0] 65)).alloc (.cells #[.int .i64 1, .int .i64 2, .int .u64 0, .int .u64 0, .int .u64 0, .int .u64 0, .slice none 0 0, .int .i64 4, .int .i64 0, .int .u64 0, .int .u64 0, .int .u64 0, .int .u64 0, .slice (some ⟨w.heap.size, 0, none⟩) 1 1] 49)) w.heap.size (.slice (some ⟨w.heap.size + 1, 0, none⟩) 2 2) [((1, 2, (0, 0), (0, 0), []), .slice none 0 0), ((4, 0, (0, 0), (0, 0), [a22]), .slice (some ⟨w.heap.size, 0, none⟩) 1 1)] := by
  refine ⟨⟨rfl, .inr ⟨w.heap.size + 1, 2, _, rfl, Nat.le_succ _, by have := heap_alloc_last (w.alloc (.cells #[.int .i64 18, .int .i64 0, .int .i64 0, .int .i64 0, .int .i64 0, .int .i64 0, .bool false, .int .u64 0, .int .u64 0, .int .u64 0, .int .u64 0] 65)) (.cells #[.int .i64 1, .int .i64 2, .int .u64 0, .int .u64 0, .int .u64 0, .int .u64 0, .slice none 0 0, .int .i64 4, .int .i64 0, .int .u64 0, .int .u64 0, .int .u64 0, .int .u64 0, .slice (some ⟨w.heap.size, 0, none⟩) 1 1] 49); simpa using this, Nat.le_refl _, by decide, rfl, rfl⟩⟩, fun p hp => ?_⟩
  simp only [List.mem_cons, List.not_mem_nil, or_false] at hp
  rcases hp with rfl | rfl
  · exact World.ownsRow_nil _ _ _ _
  · exact ownr_later (a22_row w) (below1 _ _)
theorem inst_form {w : World} {v : Value} {L : List I6} (h : InstAt w v L) : ∃ s c, v = .slice s L.length c := by
  obtain ⟨s, cap, rfl, -⟩ := h
  exact ⟨s, cap, rfl⟩

set_option maxRecDepth 100000 in
set_option maxHeartbeats 8000000 in
theorem awake22_any (w : World) :
    Calls Try.prog 22 #[] w fun e w' => e = .returned (.bool true) ∧ Below w.heap.size w w' := by
  have BB := hide_ (below2 w (.cells #[.int .i64 18, .int .i64 0, .int .i64 0, .int .i64 0, .int .i64 0, .int .i64 0, .bool false, .int .u64 0, .int .u64 0, .int .u64 0, .int .u64 0] 65) (.cells #[.int .i64 1, .int .i64 2, .int .u64 0, .int .u64 0, .int .u64 0, .int .u64 0, .slice none 0 0, .int .i64 4, .int .i64 0, .int .u64 0, .int .u64 0, .int .u64 0, .int .u64 0, .slice (some ⟨w.heap.size, 0, none⟩) 1 1] 49))
  have HA : Hid (InstAt ((w.alloc (.cells #[.int .i64 18, .int .i64 0, .int .i64 0, .int .i64 0, .int .i64 0, .int .i64 0, .bool false, .int .u64 0, .int .u64 0, .int .u64 0, .int .u64 0] 65)).alloc (.cells #[.int .i64 1, .int .i64 2, .int .u64 0, .int .u64 0, .int .u64 0, .int .u64 0, .slice none 0 0, .int .i64 4, .int .i64 0, .int .u64 0, .int .u64 0, .int .u64 0, .int .u64 0, .slice (some ⟨w.heap.size, 0, none⟩) 1 1] 49)) (.slice (some ⟨w.heap.size + 1, 0, none⟩) 2 2) L22) := hide_ (l22_row w).at_
  have HC := hide_ (AB.at1 w (.cells #[.int .i64 18, .int .i64 0, .int .i64 0, .int .i64 0, .int .i64 0, .int .i64 0, .bool false, .int .u64 0, .int .u64 0, .int .u64 0, .int .u64 0] 65) 49 [.int .i64 1, .int .i64 2, .int .u64 0, .int .u64 0, .int .u64 0, .int .u64 0, .slice none 0 0, .int .i64 4, .int .i64 0, .int .u64 0, .int .u64 0, .int .u64 0, .int .u64 0, .slice (some ⟨w.heap.size, 0, none⟩) 1 1])
  have qe := hide_ (ie_yes _ L22 ((w.alloc (.cells #[.int .i64 18, .int .i64 0, .int .i64 0, .int .i64 0, .int .i64 0, .int .i64 0, .bool false, .int .u64 0, .int .u64 0, .int .u64 0, .int .u64 0] 65)).alloc (.cells #[.int .i64 1, .int .i64 2, .int .u64 0, .int .u64 0, .int .u64 0, .int .u64 0, .slice none 0 0, .int .i64 4, .int .i64 0, .int .u64 0, .int .u64 0, .int .u64 0, .int .u64 0, .slice (some ⟨w.heap.size, 0, none⟩) 1 1] 49)) (l22_row w).at_ l22_fit l22_g)
  have qd := hide_ (fun v W (h : Bytes W v (encIs L22)) => id_ok v _ L22 W h l22_dok)
  have qo := hide_ (fun v W (h : InstAt W v L22) => of_found v L22 4 W h 1 4 0 0 0 0 0 [a22] ⟨rfl, rfl⟩ l22_4 (by decide))
  have hs := fun (v u : Value) W h1 h2 => ilsame_any v u L22 L22 W h1 h2
  rw [sameIL_true (rfl : L22 = L22)] at hs
  have hs := hide_ hs
  have qr := fun W => iright_any 1 2 0 0 0 0 (.slice none 0 0) [] W (ActAt.nilI W) (l22_fit _ (by simp [L22])).1
  rw [l22_0] at qr
  have qr := hide_ qr
  go_enter Try.func22, Try.ntmps22
  go_wp2_with (first
    | (go_at_call 23; refine qe.out.mono ?_; rintro e w1 ⟨⟨r1, rfl, h1⟩, b1⟩; obtain ⟨ra, rc, re⟩ := h1.bytes.short; rw [l22_len] at re; subst re; have B1 := hide_ h1.bytes; have K1 := hide_ (BB.out.trans (b1.mono BB.out.size)); have H1 := hide_ (HA.out.later b1); have C1 := hide_ (HC.out.later b1); clear h1 b1)
    | (go_at_call 24; refine (qd.out _ _ B1.out).mono ?_; rintro e w2 ⟨⟨r2, rfl, o2⟩, b2⟩; obtain ⟨sa, scc, se⟩ := inst_form o2; subst se; have jx := b2.trans ((below1 w2 (.cells #[.bool false, .int .i64 0, .int .i64 0] 34)).mono b2.size); have K2 := hide_ (K1.out.trans (jx.mono K1.out.size)); have H2 := hide_ (H1.out.later jx); have C2 := hide_ (C1.out.later jx); have O2 := hide_ (o2.later (below1 w2 (.cells #[.bool false, .int .i64 0, .int .i64 0] 34))); have F2 := hide_ (AB.at0 w2 34 [.bool false, .int .i64 0, .int .i64 0]); clear o2 b2 jx)
    | (go_at_call 26; refine (qo.out _ _ H2.out).mono ?_; rintro e w3 ⟨⟨uo, co, rfl, a3⟩, b3⟩; have jy := b3.trans ((below1 w3 (.cells #[.int .i64 4, .int .i64 0, .int .u64 0, .int .u64 0, .int .u64 0, .int .u64 0, .slice uo 1 co] 49)).mono b3.size); have K3 := hide_ (K2.out.trans (jy.mono K2.out.size)); have H3 := hide_ (H2.out.later jy); have C3 := hide_ (C2.out.later jy); have O3 := hide_ (O2.out.later jy); obtain ⟨f0, f1, f2, -⟩ := (F2.out.later jy).three; have Q3 := hide_ (AB.at0 w3 49 [.int .i64 4, .int .i64 0, .int .u64 0, .int .u64 0, .int .u64 0, .int .u64 0, .slice uo 1 co]); obtain ⟨g0, g1, g2, g3, g4, g5, g6, -⟩ := Q3.out.k7; clear a3 b3 jy)
    | (go_at_call 25; refine (hs.out _ _ _ H3.out O3.out).mono ?_; rintro e w4 ⟨rfl, b4⟩; have K4 := hide_ (K3.out.trans (b4.mono K3.out.size)); have C4 := C3.out.later b4; have z0 := (C4.cell (j := 0) rfl).1; have z1 := (C4.cell (j := 1) rfl).1; have z2 := (C4.cell (j := 2) rfl).1; have z3 := (C4.cell (j := 3) rfl).1; have z4 := (C4.cell (j := 4) rfl).1; have z5 := (C4.cell (j := 5) rfl).1; have z6 := (C4.cell (j := 6) rfl).1; obtain ⟨p0, p1, p2, p3, p4, p5, p6, -⟩ := (Q3.out.later b4).k7; clear C4 b4)
    | (go_at_call 27; refine (qr.out _).mono ?_; rintro e w5 ⟨rfl, b5⟩))
  go_ret
  exact ⟨rfl, K4.out.trans (b5.mono K4.out.size)⟩

end Go.Proofs.Ytkhpbkdblhcepaa

namespace Go.Proofs.Ytkhpbkdblhcepaa
open Go Go.RowKit Go.Maps
set_option linter.unusedVariables false
set_option linter.unusedSimpArgs false

theorem AB.row {w : World} {g : Nat} {ty : TypeId} {cs cs' : List Value} (h : AB w g ty cs) : AB (w.setRow g cs'.toArray) g ty cs' := setRow_heap w g _ _ ty _ h

def good (L : List I6) : Prop := LFit L ∧ ∀ i o, L[i]? = some o → iR o = true ∧ o.1 ∉ (L.take i).map (·.1)
theorem good_nil : good [] := by
  refine ⟨?_, ?_⟩
  · intro o ho
    cases ho
  · intro i o ho
    simp at ho
theorem idec_any (l : List Int) (hl : isB l) : ∃ (L : List I6) (z : Bool) (c d : Int), good L ∧ (z = true → L = []) ∧ (z = false → encIs L = l) ∧ ∀ (v : Value) (w : World), Bytes w v l → Calls Try.prog 24 #[v] w fun e w' => (∃ s cap, e = .returned (.tuple #[.slice s L.length cap, .agg #[.bool z, .int .i64 c, .int .i64 d]]) ∧ InstAt w' (.slice s L.length cap) L) ∧ Below w.heap.size w w' := by
  rcases insts_all _ [] l (Nat.le_refl _) hl with ⟨Os, h, -⟩ | ⟨c, d, h, -⟩
  · obtain ⟨e1, e2, e3⟩ := dok_all h hl
    refine ⟨Os, false, 0, 0, ⟨e2, fun i o ho => ⟨(e3 i o ho).1, (e3 i o ho).2.2⟩⟩, (fun e => by cases e), fun _ => e1, fun v w hB => (id_ok v l Os w hB h).mono ?_⟩
    rintro e w' ⟨⟨r, rfl, hI⟩, hb⟩
    obtain ⟨s, cc, rfl⟩ := inst_form hI
    exact ⟨⟨s, cc, rfl, hI⟩, hb⟩
  · refine ⟨[], true, c, d, good_nil, fun _ => rfl, (fun e => by cases e), fun v w hB => (id_bad v l c d w hB h).mono ?_⟩
    rintro e w' ⟨rfl, hb⟩
    exact ⟨⟨none, 0, rfl, InstAt.nil _⟩, hb⟩

end Go.Proofs.Ytkhpbkdblhcepaa

namespace Go.Proofs.Ytkhpbkdblhcepaa
open Go Go.RowKit
set_option linter.unusedVariables false
set_option linter.unusedSimpArgs false

def IsBoolI (e : Ending) : Prop := ∃ z, e = .returned (.bool z)
theorem isBI_mk (z : Bool) : IsBoolI (.returned (.bool z)) := ⟨z, rfl⟩

set_option maxRecDepth 100000 in
set_option maxHeartbeats 8000000 in
theorem pactsI_any (s : Option Addr) (n cap : Nat) (w : World) (hn : n ≤ 9223372036854775807) :
    Calls Try.prog 48 #[.slice s n cap] w fun e w' => IsBoolI e ∧ w' = w := by
  go_enter Try.func48, Try.ntmps48
  go_wp2
  go_ret
  exact ⟨isBI_mk _, rfl⟩

set_option maxRecDepth 100000 in
set_option maxHeartbeats 8000000 in
theorem pcloI_any (k1 t1 : Int) (a1 b1 c1 d1 : Nat) (su1 : Option Addr) (n1 cu1 : Nat) (w : World) (hn : n1 ≤ 9223372036854775807) :
    Calls Try.prog 47 #[.agg #[.int .i64 k1, .int .i64 t1, .int .u64 (a1 : Int), .int .u64 (b1 : Int), .int .u64 (c1 : Int), .int .u64 (d1 : Int), .slice su1 n1 cu1]] w fun e w' => IsBoolI e ∧ Below w.heap.size w w' := by
  have B0 := hide_ (below1 w (.cells #[.int .i64 k1, .int .i64 t1, .int .u64 (a1 : Int), .int .u64 (b1 : Int), .int .u64 (c1 : Int), .int .u64 (d1 : Int), .slice su1 n1 cu1] 49))
  obtain ⟨x0, x1, x2, x3, x4, x5, x6, -⟩ := (AB.at0 w 49 [.int .i64 k1, .int .i64 t1, .int .u64 (a1 : Int), .int .u64 (b1 : Int), .int .u64 (c1 : Int), .int .u64 (d1 : Int), .slice su1 n1 cu1]).k7
  go_enter Try.func47, Try.ntmps47
  go_wp2_with (go_at_call 48; refine (pactsI_any _ _ _ _ hn).mono ?_; rintro e w1 ⟨hz, rfl⟩; obtain ⟨z, rfl⟩ := hz)
  go_ret
  exact ⟨isBI_mk _, B0.out⟩

set_option maxRecDepth 100000 in
set_option maxHeartbeats 8000000 in
theorem pidxI_any (v : Value) (L : List I6) (w : World) (hL : InstAt w v L) :
    Calls Try.prog 55 #[v, .func (.func 47) #[] #[]] w fun e w' => (∃ i : Int, e = .returned (.int .i64 i)) ∧ Below w.heap.size w w' := by
  obtain ⟨s, cap, rfl, h1, h2, h3, h4⟩ := hL
  have HL := hide_ h4
  have hm : L.length ≤ 9223372036854775807 := by unfold maxLen at h2; omega
  clear h1 h2 h3 h4
  go_enter Try.func55, Try.ntmps55
  go_wp2
  go_loopw [5, 8] (fun _ i wr => ∃ j : Nat, j ≤ L.length ∧ i = .int .i64 j ∧ Hid (Below w.heap.size w wr)) (fun _ i _ => L.length - (intOf i).toNat)
  case atStart => exact ⟨0, Nat.zero_le _, rfl, hide_ (Below.refl _ _)⟩
  case round =>
    obtain ⟨j, hj, rfl, KB⟩ := hrel
    by_cases hlt : j < L.length
    · have hlt' : (j : Int) < (L.length : Int) := by omega
      obtain ⟨⟨k1, t1, ⟨a1, b1⟩, ⟨c1, d1⟩, M1⟩, hz1⟩ : ∃ z, L[j]? = some z := ⟨_, List.getElem?_eq_getElem hlt⟩
      obtain ⟨bq1, off1, u1, rfl, X0, X1, X2, X3, X4, X5, X6, M1A⟩ := HL.out j _ hz1
      have X0 := cell_later KB.out X0
      have X1 := cell_later KB.out X1
      have X2 := cell_later KB.out X2
      have X3 := cell_later KB.out X3
      have X4 := cell_later KB.out X4
      have X5 := cell_later KB.out X5
      have X6 := cell_later KB.out X6
      obtain ⟨su1, cu1, eu1, -⟩ := id M1A
      subst eu1
      have hn1 : M1.length ≤ 9223372036854775807 := by obtain ⟨_, _, e9, h8, h9, _⟩ := M1A; cases e9; have h8 : M1.length ≤ _ := h8; unfold maxLen at h9; omega
      have qc := hide_ (fun w => pcloI_any k1 t1 a1 b1 c1 d1 su1 M1.length cu1 w hn1)
      clear hz1 M1A
      go_wp2_with (go_at_call 47; refine (qc.out _).mono ?_; rintro e w1 ⟨hz, b1⟩; obtain ⟨z, rfl⟩ := hz; cases z)
      · go_roundw
        case rel => exact ⟨j + 1, by omega, by go_num, hide_ (KB.out.trans (b1.mono KB.out.size))⟩
        case measure => simp [intOf]; omega
      · go_ret
        exact ⟨⟨_, rfl⟩, KB.out.trans (b1.mono KB.out.size)⟩
    · have hlt' : ¬ (j : Int) < (L.length : Int) := by omega
      go_wp2
      go_ret
      exact ⟨⟨_, rfl⟩, KB.out⟩

set_option maxRecDepth 100000 in
set_option maxHeartbeats 8000000 in
theorem pconI_any (v : Value) (L : List I6) (w : World) (hL : InstAt w v L) :
    Calls Try.prog 46 #[v, .func (.func 47) #[] #[]] w fun e w' => IsBoolI e ∧ Below w.heap.size w w' := by
  have q := hide_ (pidxI_any v L w hL)
  obtain ⟨s, cap, rfl, -⟩ := hL
  go_enter Try.func46, Try.ntmps46
  go_wp2_with (go_at_call 55; refine q.out.mono ?_; rintro e w1 ⟨⟨i, rfl⟩, b1⟩)
  go_ret
  exact ⟨isBI_mk _, b1⟩

set_option maxRecDepth 100000 in
set_option maxHeartbeats 8000000 in
theorem plainI_any (v : Value) (L : List I6) (w : World) (hL : InstAt w v L) :
    Calls Try.prog 21 #[v] w fun e w' => IsBoolI e ∧ Below w.heap.size w w' := by
  have q := hide_ (pconI_any v L w hL)
  obtain ⟨s, cap, rfl, h1, h2, -⟩ := hL
  have hm : L.length ≤ 9223372036854775807 := by unfold maxLen at h2; omega
  clear h1 h2
  by_cases hn : (L.length : Int) ≤ 8
  · go_enter Try.func21, Try.ntmps21
    go_wp2_with (go_at_call 46; refine q.out.mono ?_; rintro e w1 ⟨hz, b1⟩; obtain ⟨z, rfl⟩ := hz)
    go_ret
    exact ⟨isBI_mk _, b1⟩
  · go_enter Try.func21, Try.ntmps21
    go_wp2
    go_ret
    exact ⟨isBI_mk _, Below.refl _ _⟩

end Go.Proofs.Ytkhpbkdblhcepaa

namespace Go.Proofs.Ytkhpbkdblhcepaa
set_option maxRecDepth 100000
open Go Go.RowKit Go.ChangeShapes Go.WideShapes Go.Deep
set_option linter.unusedVariables false
set_option linter.unusedSimpArgs false

theorem inst_of {H : Type} {enc : TypeId × Value → H} {W : World} {base : Nat} {spare : Nat → Bool} {held : Bool} {fuel : Nat} {cs : List Value} {x : DataW H × List MemPlace}
    (h : DataW.trod enc Try.prog W base spare held fuel 49 cs = some x) : ∃ p : PI, cs = icl p ∧ ActAt W p.2 p.1.2.2.2.2 ∧ IFit p.1 ∧ (Lit.int .i64 p.1.1).wf = true := by
  have h28 : Try.prog.cellsOf 49 = 7 := by kernel_rfl
  have h22 : Try.prog.cellsOf 22 = 1 := by kernel_rfl
  have h3 : Try.prog.cellsOf 3 = 1 := by kernel_rfl
  have hw2 : Try.prog.cellsOf 47 = 2 := by kernel_rfl
  have hu1 : Try.prog.cellsOf 45 = 1 := by kernel_rfl
  obtain ⟨xs, n, _, rfl, hl, hlen, hf⟩ := DataW.trod_struct Try.underlying49 h
  have hlen' : xs.length = 5 := hlen
  match xs, hlen' with
  | [w0, w1, w2, w3, w4], _ =>
    have e0 := hf 0 _ rfl
    have e1 := hf 1 _ rfl
    have e2 := hf 2 _ rfl
    have e3 := hf 3 _ rfl
    have e4 := hf 4 _ rfl
    obtain ⟨k, ek, _, wk⟩ := DataW.trod_int Try.underlying3 e0
    obtain ⟨t, et, _, _⟩ := DataW.trod_int Try.underlying3 e1
    obtain ⟨z0, z1, n0, _, _, a0, a1⟩ := trod_struct2 Try.underlying47 e2
    obtain ⟨z2, z3, n1, _, _, a2, a3⟩ := trod_struct2 Try.underlying47 e3
    obtain ⟨a, ea, _, wa⟩ := DataW.trod_int Try.underlying45 a0
    obtain ⟨b, eb, _, wb⟩ := DataW.trod_int Try.underlying45 a1
    obtain ⟨c, ec, _, wc⟩ := DataW.trod_int Try.underlying45 a2
    obtain ⟨d, ed, _, wd⟩ := DataW.trod_int Try.underlying45 a3
    obtain ⟨A, rfl, gA⟩ := u64_nat wa
    obtain ⟨B, rfl, gB⟩ := u64_nat wb
    obtain ⟨C, rfl, gC⟩ := u64_nat wc
    obtain ⟨D, rfl, gD⟩ := u64_nat wd
    obtain ⟨u, L, eu, hA, hF⟩ := open_actsT e4
    refine ⟨((k, t, (A, B), (C, D), L), u), ?_, hA, ⟨gA, gB, gC, gD, hF⟩, wk⟩
    rw [h28] at hl
    match cs, hl with
    | [c0, c1, c2, c3, c4, c5, c6], _ =>
      simp [h22, h3, hw2, hu1] at ek et ea eb ec ed eu
      rw [ek, et, ea, eb, ec, ed, eu]
      rfl
/-- a slice of instructions that came in -/
theorem open_insts {H : Type} {enc : TypeId × Value → H} {W : World} {r : Reach} {b0 base : Nat} {spare : Nat → Bool} {held : Bool} {v : Value} {d : DataW H} {p : List MemPlace}
    (hv' : Value.okWide Try.prog W r b0 38 v) (h : DataW.Trod enc Try.prog W base spare held 38 v d p) : ∃ L, InstAt W v L ∧ LFit L := by
  have : Inhabited PI := ⟨((0, 0, (0, 0), (0, 0), []), .slice none 0 0)⟩
  obtain ⟨a, cap, P, rfl, h1, h2, h3, h4, h5⟩ := open_each icl (fun p : PI => ActAt W p.2 p.1.2.2.2.2 ∧ IFit p.1 ∧ (Lit.int .i64 p.1.1).wf = true) 7 (by omega) (fun o => rfl) Try.underlying38 (by kernel_rfl) (fun hh => inst_of hh) hv' h
  refine ⟨P.map (·.1), ⟨a, cap, by rw [List.length_map], by rw [List.length_map]; exact h1, h2, h3, fun i o hi => ?_⟩, fun o ho => ?_⟩
  · rw [List.getElem?_map] at hi
    obtain ⟨p, hp, rfl⟩ := Option.map_eq_some_iff.1 hi
    obtain ⟨q, off, e, hc⟩ := h5 i p hp
    exact ⟨q, off, p.2, e, hc 0 _ rfl, hc 1 _ rfl, hc 2 _ rfl, hc 3 _ rfl, hc 4 _ rfl, hc 5 _ rfl, hc 6 _ rfl, (h4 p (List.mem_of_getElem? hp)).1⟩
  · obtain ⟨p, hp, rfl⟩ := List.mem_map.1 ho
    exact (h4 p hp).2

end Go.Proofs.Ytkhpbkdblhcepaa

namespace Go.Proofs.Ytkhpbkdblhcepaa
open Go Go.RowKit Go.Maps
set_option linter.unusedVariables false
set_option linter.unusedSimpArgs false

set_option maxRecDepth 100000 in
set_option maxHeartbeats 8000000 in
theorem ib_go (sl : Option Addr) (cl : Nat) (L L2 : List I6) (ao : Option Addr) (cap : Nat) (m B : List Int) (c dd : Int) (w : World) (hL : InstAt w (.slice sl L.length cl) L) (hB : Bytes w (.slice ao m.length cap) m) (h7 : m.length ≤ 4000)
    (qe : Hid (∀ W, Below w.heap.size w W → Calls Try.prog 23 #[.slice sl L.length cl] W fun e w' => (∃ s cc, e = .returned (.tuple #[.slice s B.length cc, .int .i64 0]) ∧ Bytes w' (.slice s B.length cc) B) ∧ Below W.heap.size W w'))
    (qd1 : Hid (∀ v W, Bytes W v B → Calls Try.prog 24 #[v] W fun e w' => (∃ s cc, e = .returned (.tuple #[.slice s L.length cc, .agg #[.bool false, .int .i64 0, .int .i64 0]]) ∧ InstAt w' (.slice s L.length cc) L) ∧ Below W.heap.size W w'))
    (qd2 : Hid (∀ v W, Bytes W v m → Calls Try.prog 24 #[v] W fun e w' => (∃ s cc, e = .returned (.tuple #[.slice s L2.length cc, .agg #[.bool false, .int .i64 c, .int .i64 dd]]) ∧ InstAt w' (.slice s L2.length cc) L2) ∧ Below W.heap.size W w'))
    (qe2 : Hid (∀ v W, InstAt W v L2 → Calls Try.prog 23 #[v] W fun e w' => (∃ s cc, e = .returned (.tuple #[.slice s m.length cc, .int .i64 0]) ∧ Bytes w' (.slice s m.length cc) m) ∧ Below W.heap.size W w')) :
    Calls Try.prog 5 #[.slice sl L.length cl, .slice ao m.length cap] w fun e w' => e = .returned (.bool true) ∧ Below w.heap.size w w' := by
  have qp := hide_ (fun W (hW : Below w.heap.size w W) => plainI_any (.slice sl L.length cl) L W (hL.later hW))
  have qs := fun v u W h1 h2 => ilsame_any v u L L W h1 h2
  rw [sameIL_true (rfl : L = L)] at qs
  have qs := hide_ qs
  have qq := fun v u W h1 h2 => equal_any v u m m W h1 h2
  rw [show (m == m) = true by simp] at qq
  have qq := hide_ qq
  have h7' : ¬ (4000 : Int) < (m.length : Int) := by omega
  have HL := hide_ hL
  have HB := hide_ hB
  obtain ⟨n1, hn1⟩ : ∃ n1, B.length = n1 := ⟨_, rfl⟩
  rw [hn1] at qe
  clear hL hB h7 hn1
  go_enter Try.func5, Try.ntmps5
  go_wp2_with (first | (go_at_call 21; refine (qp.out _ (Below.refl _ _)).mono ?_; rintro e w1 ⟨hz, b1⟩; obtain ⟨zp, rfl⟩ := hz; have k1 := hide_ b1; clear b1; cases zp) | (first | (go_at_call 23; refine (qe2.out _ _ HK.out).mono ?_; rintro e w6 ⟨⟨sF, cF, rfl, hF⟩, b6⟩; have HF6 := hide_ hF; have k6 := hide_ (k5.out.trans (b6.mono k5.out.size)); clear hF b6) | (go_at_call 23; refine (qe.out _ k1.out).mono ?_; rintro e w2 ⟨⟨sE, cE, rfl, hE⟩, b2⟩; have HE := hide_ hE; have k2 := hide_ (k1.out.trans (b2.mono k1.out.size)); clear hE b2)) | (first | (go_at_call 24; refine (qd2.out _ _ (HB.out.later k4.out)).mono ?_; rintro e w5 ⟨⟨sK, cK, rfl, hK⟩, b5⟩; have jy := b5.trans ((below1 w5 (.cells #[.bool false, .int .i64 c, .int .i64 dd] 34)).mono b5.size); have HK := hide_ (hK.later (below1 w5 (.cells #[.bool false, .int .i64 c, .int .i64 dd] 34))); have k5 := hide_ (k4.out.trans (jy.mono k4.out.size)); obtain ⟨g0, g1, g2, -⟩ := (AB.at0 w5 34 [.bool false, .int .i64 c, .int .i64 dd]).three; clear hK b5 jy) | (go_at_call 24; refine (qd1.out _ _ HE.out).mono ?_; rintro e w3 ⟨⟨sD, cD, rfl, hD⟩, b3⟩; have jx := b3.trans ((below1 w3 (.cells #[.bool false, .int .i64 0, .int .i64 0] 34)).mono b3.size); have HD := hide_ (hD.later (below1 w3 (.cells #[.bool false, .int .i64 0, .int .i64 0] 34))); have k3 := hide_ (k2.out.trans (jx.mono k2.out.size)); obtain ⟨f0, f1, f2, -⟩ := (AB.at0 w3 34 [.bool false, .int .i64 0, .int .i64 0]).three; clear hD b3 jx)) | (go_at_call 25; refine (qs.out _ _ _ HD.out (HL.out.later k3.out)).mono ?_; rintro e w4 ⟨rfl, b4⟩; have k4 := hide_ (k3.out.trans (b4.mono k3.out.size)); clear b4) | (go_at_call 11; refine (qq.out _ _ _ HF6.out (HB.out.later k6.out)).mono ?_; rintro e w7 ⟨rfl, b7⟩; have k7 := hide_ (k6.out.trans (b7.mono k6.out.size)); clear b7) | (go_at_call 22; refine (awake22_any _).mono ?_; rintro e w9 ⟨rfl, b9⟩))
  · go_ret
    exact ⟨rfl, k1.out.trans (b9.mono k1.out.size)⟩
  · go_ret
    exact ⟨rfl, k7.out.trans (b9.mono k7.out.size)⟩

set_option maxRecDepth 100000 in
set_option maxHeartbeats 8000000 in
theorem ib_gx (sl : Option Addr) (cl : Nat) (L L2 : List I6) (ao : Option Addr) (cap : Nat) (m B : List Int) (c dd : Int) (w : World) (hL : InstAt w (.slice sl L.length cl) L) (hB : Bytes w (.slice ao m.length cap) m) (h7 : m.length ≤ 4000)
    (qe : Hid (∀ W, Below w.heap.size w W → Calls Try.prog 23 #[.slice sl L.length cl] W fun e w' => (∃ s cc, e = .returned (.tuple #[.slice s B.length cc, .int .i64 0]) ∧ Bytes w' (.slice s B.length cc) B) ∧ Below W.heap.size W w'))
    (qd1 : Hid (∀ v W, Bytes W v B → Calls Try.prog 24 #[v] W fun e w' => (∃ s cc, e = .returned (.tuple #[.slice s L.length cc, .agg #[.bool false, .int .i64 0, .int .i64 0]]) ∧ InstAt w' (.slice s L.length cc) L) ∧ Below W.heap.size W w'))
    (qd2 : Hid (∀ v W, Bytes W v m → Calls Try.prog 24 #[v] W fun e w' => (∃ s cc, e = .returned (.tuple #[.slice s 0 cc, .agg #[.bool true, .int .i64 c, .int .i64 dd]]) ∧ InstAt w' (.slice s 0 cc) L2) ∧ Below W.heap.size W w'))
     :
    Calls Try.prog 5 #[.slice sl L.length cl, .slice ao m.length cap] w fun e w' => e = .returned (.bool true) ∧ Below w.heap.size w w' := by
  have qp := hide_ (fun W (hW : Below w.heap.size w W) => plainI_any (.slice sl L.length cl) L W (hL.later hW))
  have qs := fun v u W h1 h2 => ilsame_any v u L L W h1 h2
  rw [sameIL_true (rfl : L = L)] at qs
  have qs := hide_ qs
  have qq := fun v u W h1 h2 => equal_any v u m m W h1 h2
  rw [show (m == m) = true by simp] at qq
  have qq := hide_ qq
  have h7' : ¬ (4000 : Int) < (m.length : Int) := by omega
  have HL := hide_ hL
  have HB := hide_ hB
  obtain ⟨n1, hn1⟩ : ∃ n1, B.length = n1 := ⟨_, rfl⟩
  rw [hn1] at qe
  clear hL hB h7 hn1
  go_enter Try.func5, Try.ntmps5
  go_wp2_with (first | (go_at_call 21; refine (qp.out _ (Below.refl _ _)).mono ?_; rintro e w1 ⟨hz, b1⟩; obtain ⟨zp, rfl⟩ := hz; have k1 := hide_ b1; clear b1; cases zp) | (go_at_call 23; refine (qe.out _ k1.out).mono ?_; rintro e w2 ⟨⟨sE, cE, rfl, hE⟩, b2⟩; have HE := hide_ hE; have k2 := hide_ (k1.out.trans (b2.mono k1.out.size)); clear hE b2) | (first | (go_at_call 24; refine (qd2.out _ _ (HB.out.later k4.out)).mono ?_; rintro e w5 ⟨⟨sK, cK, rfl, hK⟩, b5⟩; have jy := b5.trans ((below1 w5 (.cells #[.bool true, .int .i64 c, .int .i64 dd] 34)).mono b5.size); have HK := hide_ (hK.later (below1 w5 (.cells #[.bool true, .int .i64 c, .int .i64 dd] 34))); have k5 := hide_ (k4.out.trans (jy.mono k4.out.size)); obtain ⟨g0, g1, g2, -⟩ := (AB.at0 w5 34 [.bool true, .int .i64 c, .int .i64 dd]).three; clear hK b5 jy) | (go_at_call 24; refine (qd1.out _ _ HE.out).mono ?_; rintro e w3 ⟨⟨sD, cD, rfl, hD⟩, b3⟩; have jx := b3.trans ((below1 w3 (.cells #[.bool false, .int .i64 0, .int .i64 0] 34)).mono b3.size); have HD := hide_ (hD.later (below1 w3 (.cells #[.bool false, .int .i64 0, .int .i64 0] 34))); have k3 := hide_ (k2.out.trans (jx.mono k2.out.size)); obtain ⟨f0, f1, f2, -⟩ := (AB.at0 w3 34 [.bool false, .int .i64 0, .int .i64 0]).three; clear hD b3 jx)) | (go_at_call 25; refine (qs.out _ _ _ HD.out (HL.out.later k3.out)).mono ?_; rintro e w4 ⟨rfl, b4⟩; have k4 := hide_ (k3.out.trans (b4.mono k3.out.size)); clear b4) | (go_at_call 22; refine (awake22_any _).mono ?_; rintro e w9 ⟨rfl, b9⟩))
  · go_ret
    exact ⟨rfl, k1.out.trans (b9.mono k1.out.size)⟩
  · go_ret
    exact ⟨rfl, k5.out.trans (b9.mono k5.out.size)⟩

set_option maxRecDepth 100000 in
set_option maxHeartbeats 8000000 in
theorem ib_no (sl : Option Addr) (cl : Nat) (L L2 : List I6) (ao : Option Addr) (cap : Nat) (m B : List Int) (c dd : Int) (w : World) (hL : InstAt w (.slice sl L.length cl) L) (hB : Bytes w (.slice ao m.length cap) m) (h7 : m.length ≤ 4000)
    (qe : Hid (∀ W, Below w.heap.size w W → Calls Try.prog 23 #[.slice sl L.length cl] W fun e w' => e = .returned (.tuple #[.slice none 0 0, .int .i64 1]) ∧ Below W.heap.size W w'))
    
    (qd2 : Hid (∀ v W, Bytes W v m → Calls Try.prog 24 #[v] W fun e w' => (∃ s cc, e = .returned (.tuple #[.slice s L2.length cc, .agg #[.bool false, .int .i64 c, .int .i64 dd]]) ∧ InstAt w' (.slice s L2.length cc) L2) ∧ Below W.heap.size W w'))
    (qe2 : Hid (∀ v W, InstAt W v L2 → Calls Try.prog 23 #[v] W fun e w' => (∃ s cc, e = .returned (.tuple #[.slice s m.length cc, .int .i64 0]) ∧ Bytes w' (.slice s m.length cc) m) ∧ Below W.heap.size W w')) :
    Calls Try.prog 5 #[.slice sl L.length cl, .slice ao m.length cap] w fun e w' => e = .returned (.bool true) ∧ Below w.heap.size w w' := by
  have qp := hide_ (fun W (hW : Below w.heap.size w W) => plainI_any (.slice sl L.length cl) L W (hL.later hW))
  have qs := fun v u W h1 h2 => ilsame_any v u L L W h1 h2
  rw [sameIL_true (rfl : L = L)] at qs
  have qs := hide_ qs
  have qq := fun v u W h1 h2 => equal_any v u m m W h1 h2
  rw [show (m == m) = true by simp] at qq
  have qq := hide_ qq
  have h7' : ¬ (4000 : Int) < (m.length : Int) := by omega
  have HL := hide_ hL
  have HB := hide_ hB
  obtain ⟨n1, hn1⟩ : ∃ n1, B.length = n1 := ⟨_, rfl⟩
  skip
  clear hL hB h7 hn1
  go_enter Try.func5, Try.ntmps5
  go_wp2_with (first | (go_at_call 21; refine (qp.out _ (Below.refl _ _)).mono ?_; rintro e w1 ⟨hz, b1⟩; obtain ⟨zp, rfl⟩ := hz; have k1 := hide_ b1; clear b1; cases zp) | (first | (go_at_call 23; refine (qe2.out _ _ HK.out).mono ?_; rintro e w6 ⟨⟨sF, cF, rfl, hF⟩, b6⟩; have HF6 := hide_ hF; have k6 := hide_ (k5.out.trans (b6.mono k5.out.size)); clear hF b6) | (go_at_call 23; refine (qe.out _ k1.out).mono ?_; rintro e w2 ⟨rfl, b2⟩; have k2 := hide_ (k1.out.trans (b2.mono k1.out.size)); clear b2)) | (go_at_call 24; refine (qd2.out _ _ (HB.out.later k2.out)).mono ?_; rintro e w5 ⟨⟨sK, cK, rfl, hK⟩, b5⟩; have jy := b5.trans ((below1 w5 (.cells #[.bool false, .int .i64 c, .int .i64 dd] 34)).mono b5.size); have HK := hide_ (hK.later (below1 w5 (.cells #[.bool false, .int .i64 c, .int .i64 dd] 34))); have k5 := hide_ (k2.out.trans (jy.mono k2.out.size)); obtain ⟨g0, g1, g2, -⟩ := (AB.at0 w5 34 [.bool false, .int .i64 c, .int .i64 dd]).three; clear hK b5 jy) | (go_at_call 11; refine (qq.out _ _ _ HF6.out (HB.out.later k6.out)).mono ?_; rintro e w7 ⟨rfl, b7⟩; have k7 := hide_ (k6.out.trans (b7.mono k6.out.size)); clear b7) | (go_at_call 22; refine (awake22_any _).mono ?_; rintro e w9 ⟨rfl, b9⟩))
  · go_ret
    exact ⟨rfl, k1.out.trans (b9.mono k1.out.size)⟩
  · go_ret
    exact ⟨rfl, k7.out.trans (b9.mono k7.out.size)⟩

set_option maxRecDepth 100000 in
set_option maxHeartbeats 8000000 in
theorem ib_nx (sl : Option Addr) (cl : Nat) (L L2 : List I6) (ao : Option Addr) (cap : Nat) (m B : List Int) (c dd : Int) (w : World) (hL : InstAt w (.slice sl L.length cl) L) (hB : Bytes w (.slice ao m.length cap) m) (h7 : m.length ≤ 4000)
    (qe : Hid (∀ W, Below w.heap.size w W → Calls Try.prog 23 #[.slice sl L.length cl] W fun e w' => e = .returned (.tuple #[.slice none 0 0, .int .i64 1]) ∧ Below W.heap.size W w'))
    
    (qd2 : Hid (∀ v W, Bytes W v m → Calls Try.prog 24 #[v] W fun e w' => (∃ s cc, e = .returned (.tuple #[.slice s 0 cc, .agg #[.bool true, .int .i64 c, .int .i64 dd]]) ∧ InstAt w' (.slice s 0 cc) L2) ∧ Below W.heap.size W w'))
     :
    Calls Try.prog 5 #[.slice sl L.length cl, .slice ao m.length cap] w fun e w' => e = .returned (.bool true) ∧ Below w.heap.size w w' := by
  have qp := hide_ (fun W (hW : Below w.heap.size w W) => plainI_any (.slice sl L.length cl) L W (hL.later hW))
  have qs := fun v u W h1 h2 => ilsame_any v u L L W h1 h2
  rw [sameIL_true (rfl : L = L)] at qs
  have qs := hide_ qs
  have qq := fun v u W h1 h2 => equal_any v u m m W h1 h2
  rw [show (m == m) = true by simp] at qq
  have qq := hide_ qq
  have h7' : ¬ (4000 : Int) < (m.length : Int) := by omega
  have HL := hide_ hL
  have HB := hide_ hB
  obtain ⟨n1, hn1⟩ : ∃ n1, B.length = n1 := ⟨_, rfl⟩
  skip
  clear hL hB h7 hn1
  go_enter Try.func5, Try.ntmps5
  go_wp2_with (first | (go_at_call 21; refine (qp.out _ (Below.refl _ _)).mono ?_; rintro e w1 ⟨hz, b1⟩; obtain ⟨zp, rfl⟩ := hz; have k1 := hide_ b1; clear b1; cases zp) | (go_at_call 23; refine (qe.out _ k1.out).mono ?_; rintro e w2 ⟨rfl, b2⟩; have k2 := hide_ (k1.out.trans (b2.mono k1.out.size)); clear b2) | (go_at_call 24; refine (qd2.out _ _ (HB.out.later k2.out)).mono ?_; rintro e w5 ⟨⟨sK, cK, rfl, hK⟩, b5⟩; have jy := b5.trans ((below1 w5 (.cells #[.bool true, .int .i64 c, .int .i64 dd] 34)).mono b5.size); have HK := hide_ (hK.later (below1 w5 (.cells #[.bool true, .int .i64 c, .int .i64 dd] 34))); have k5 := hide_ (k2.out.trans (jy.mono k2.out.size)); obtain ⟨g0, g1, g2, -⟩ := (AB.at0 w5 34 [.bool true, .int .i64 c, .int .i64 dd]).three; clear hK b5 jy) | (go_at_call 22; refine (awake22_any _).mono ?_; rintro e w9 ⟨rfl, b9⟩))
  · go_ret
    exact ⟨rfl, k1.out.trans (b9.mono k1.out.size)⟩
  · go_ret
    exact ⟨rfl, k5.out.trans (b9.mono k5.out.size)⟩

set_option maxRecDepth 100000 in
set_option maxHeartbeats 8000000 in
theorem ib_big (sl : Option Addr) (cl : Nat) (L : List I6) (ao : Option Addr) (cap : Nat) (m : List Int) (w : World) (hL : InstAt w (.slice sl L.length cl) L) (hm : m.length ≤ 9223372036854775807) (h7 : 4000 < m.length) :
    Calls Try.prog 5 #[.slice sl L.length cl, .slice ao m.length cap] w fun e w' => e = .returned (.bool true) ∧ Below w.heap.size w w' := by
  have qp := hide_ (fun W (hW : Below w.heap.size w W) => plainI_any (.slice sl L.length cl) L W (hL.later hW))
  have h7' : (4000 : Int) < (m.length : Int) := by omega
  clear hL h7
  go_enter Try.func5, Try.ntmps5
  go_wp2_with (first | (go_at_call 21; refine (qp.out _ (Below.refl _ _)).mono ?_; rintro e w1 ⟨hz, b1⟩; obtain ⟨zp, rfl⟩ := hz; have k1 := hide_ b1; clear b1; cases zp) | (go_at_call 22; refine (awake22_any _).mono ?_; rintro e w9 ⟨rfl, b9⟩))
  · go_ret
    exact ⟨rfl, k1.out.trans (b9.mono k1.out.size)⟩
  · go_ret
    exact ⟨rfl, k1.out.trans (b9.mono k1.out.size)⟩

theorem instBack_walk (u v : Value) (L : List I6) (m : List Int) (w : World) (hL : InstAt w u L) (hF : LFit L) (hB : Bytes w v m) :
    Calls Try.prog 5 #[u, v] w fun e w' => e = .returned (.bool true) ∧ Below w.heap.size w w' := by
  have hm : m.length ≤ 9223372036854775807 := by obtain ⟨ao, cap, rfl, h1, h2, -⟩ := hB; unfold maxLen at h2; omega
  have hi := hB.isB_
  obtain ⟨ao, cap, rfl⟩ := hB.short
  obtain ⟨sl, cl, rfl⟩ := inst_form hL
  by_cases h7 : m.length ≤ 4000
  · obtain ⟨L2, z, c, dd, hG, hz1, hz0, qd2⟩ := idec_any m hi
    have qe2 : z = false → Hid (∀ v W, InstAt W v L2 → Calls Try.prog 23 #[v] W fun e w' => (∃ s cc, e = .returned (.tuple #[.slice s m.length cc, .int .i64 0]) ∧ Bytes w' (.slice s m.length cc) m) ∧ Below W.heap.size W w') := fun hz => hide_ (fun v W h => (ie_yes v L2 W h hG.1 (fun i o _ ho => hG.2 i o ho)).mono (by
      rintro e w' ⟨⟨r, rfl, ho⟩, hb⟩
      have h := ho.bytes
      rw [hz0 hz] at h
      obtain ⟨s, cc, rfl⟩ := h.short
      exact ⟨⟨s, cc, rfl, h⟩, hb⟩))
    by_cases hg : gI L L.length
    · have hdk : DOk Ans [] (encIs L) L := dok_enc L [] hF (fun i o ho => by
        have := hg i o (List.getElem?_eq_some_iff.1 ho).1 ho
        exact ⟨this.1, by simp, this.2⟩)
      have qe := hide_ (fun W (hW : Below w.heap.size w W) => (ie_yes (.slice sl L.length cl) L W (hL.later hW) hF hg).mono (R' := fun e w' => (∃ s cc, e = .returned (.tuple #[.slice s (encIs L).length cc, .int .i64 0]) ∧ Bytes w' (.slice s (encIs L).length cc) (encIs L)) ∧ Below W.heap.size W w') (by
        rintro e w' ⟨⟨r, rfl, ho⟩, hb⟩
        obtain ⟨s, cc, rfl⟩ := ho.bytes.short
        exact ⟨⟨s, cc, rfl, ho.bytes⟩, hb⟩))
      have qd1 := hide_ (fun v W (h : Bytes W v (encIs L)) => (id_ok v _ L W h hdk).mono (R' := fun e w' => (∃ s cc, e = .returned (.tuple #[.slice s L.length cc, .agg #[.bool false, .int .i64 0, .int .i64 0]]) ∧ InstAt w' (.slice s L.length cc) L) ∧ Below W.heap.size W w') (by
        rintro e w' ⟨⟨r, rfl, ho⟩, hb⟩
        obtain ⟨s, cc, rfl⟩ := inst_form ho
        exact ⟨⟨s, cc, rfl, ho⟩, hb⟩))
      cases z
      · exact ib_go sl cl L L2 ao cap m (encIs L) c dd w hL hB h7 qe qd1 (hide_ qd2) (qe2 rfl)
      · obtain rfl := hz1 rfl
        exact ib_gx sl cl L [] ao cap m (encIs L) c dd w hL hB h7 qe qd1 (hide_ qd2)
    · have qe := hide_ (fun W (hW : Below w.heap.size w W) => ie_no (.slice sl L.length cl) L W (hL.later hW) hF hg)
      cases z
      · exact ib_no sl cl L L2 ao cap m [] c dd w hL hB h7 qe (hide_ qd2) (qe2 rfl)
      · obtain rfl := hz1 rfl
        exact ib_nx sl cl L [] ao cap m [] c dd w hL hB h7 qe (hide_ qd2)
  · exact ib_big sl cl L ao cap m w hL hm (by omega)

end Go.Proofs.Ytkhpbkdblhcepaa

