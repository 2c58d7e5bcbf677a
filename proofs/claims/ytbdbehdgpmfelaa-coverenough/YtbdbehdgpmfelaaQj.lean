import Derived.Test.YtbdbehdgpmfelaaProg
import Derived.Test.YtbdbehdgpmfelaaXa
import Derived.Test.YtbdbehdgpmfelaaXb
import Derived.Test.YtbdbehdgpmfelaaXc
import Derived.Test.YtbdbehdgpmfelaaXd
import Derived.Test.YtbdbehdgpmfelaaXe
import Derived.Test.YtbdbehdgpmfelaaXf
import Derived.Test.YtbdbehdgpmfelaaXh
import Derived.Test.YtbdbehdgpmfelaaXi
import Derived.Test.YtbdbehdgpmfelaaQc
import Derived.Test.YtbdbehdgpmfelaaQd
import Derived.Below
import Derived.BigQuiet
import Derived.BigRegion
import Derived.ChangeAlike
import Derived.ChangeKeysEq
import Derived.ChangeSame
import Derived.DataElems
import Derived.Deep.MidRow
import Derived.Deep.QuietTactic
import Derived.Deep.RegionHeld
import Derived.Deep.RegionHeld3
import Derived.Deep.RegionLaw
import Derived.Deep.RegionLawGrows
import Derived.Deep.RegionWith
import Derived.Deep.WholeRow
import Derived.Great.BuildSlice
import Derived.Handy
import Derived.Laws.AppendOwn
import Derived.Laws.AppendOwnNone
import Derived.Laws.BitsAllLaws
import Derived.Laws.BitsLemmas
import Derived.Laws.CopyOwn
import Derived.Laws.OwnMore
import Derived.Laws.Rows
import Derived.Laws.StructEq
import Derived.Laws.Tables
import Derived.Lib.BitFns
import Derived.Lib.SmallJoins
import Derived.OpenShut
import Derived.ProofKit
import Derived.RegionTactic
import Derived.WalkKit
import Derived.WalkLawsBesides
import Derived.WalkSmall
import Derived.WalkSpells
import Derived.WideShapes
namespace Go.Proofs.Ytbdbehdgpmfelaa
open Go Go.RowKit
set_option linter.unusedVariables false
set_option linter.unusedSimpArgs false

set_option maxRecDepth 100000 in
set_option maxHeartbeats 2000000 in
theorem rcwithin_any (l m : List Q4) (hl : isC l) (hm : isC m) (w : World) :
    Calls Try.prog 35 #[cv l, cv m] w fun e w' => e = .returned (.bool (inC l m)) ∧ Below w.heap.size w w' := by
  have HL := hide_ hl
  have HM := hide_ hm
  clear hl hm
  unfold inC
  obtain ⟨p, hp⟩ : ∃ p : Nat → Bool, (fun k => twz4 (cq l k) (cq m k)) = p := ⟨_, rfl⟩
  have HP := hide_ (fun k => congrFun hp k)
  rw [hp]
  clear hp
  obtain ⟨z, hz⟩ : ∃ z, allB p 24 = z := ⟨_, rfl⟩
  have HZ := hide_ hz
  rw [hz]
  clear hz
  have A0 := hide_ ((AB.at0 w 28 (tdc l)).alloc (.cells (tdc m).toArray 28))
  have C0 := hide_ (AB.at1 w (.cells (tdc l).toArray 28) 28 (tdc m))
  have B0 := hide_ (below2 w (.cells (tdc l).toArray 28) (.cells (tdc m).toArray 28))
  unfold cv at *
  skip
  go_enter Try.func35, Try.ntmps35
  go_wp2_with fail
  generalize (w.alloc (.cells (tdc l).toArray 28)).alloc (.cells (tdc m).toArray 28) = W at *
  go_loopw [5] (fun i wr => ∃ j : Nat, j ≤ 24 ∧ i = .int .i64 (j : Int) ∧ Hid (allB p j = true) ∧ Hid (AB wr w.heap.size 28 (tdc l)) ∧ Hid (AB wr (w.heap.size + 1) 28 (tdc m)) ∧ Below w.heap.size w wr) (fun i _ => 24 - (intOf i).toNat)
  case atStart => exact ⟨0, by omega, rfl, hide_ rfl, A0, C0, B0.out⟩
  case round =>
    obtain ⟨j, hj, rfl, HT, HA, HC, hb⟩ := hrel
    by_cases hlt : j < 24
    · have hlt' : (j : Int) < 24 := by omega
      have hj0 : (0 : Int) ≤ (j : Int) := by omega
      obtain ⟨a, b, c, d, e1, h1, h2, h3, h4⟩ := HL.out.get hlt
      obtain ⟨a2, b2, c2, d2, e2, k1, k2, k3, k4⟩ := HM.out.get hlt
      obtain ⟨o0, o1, o2, o3, -⟩ := HA.out.quad e1
      obtain ⟨o4, o5, o6, o7, -⟩ := HC.out.quad e2
      have q := fun w => rtwithin_z a b c d a2 b2 c2 d2 w h1 h2 h3 h4 k1 k2 k3 k4
      have hpj : p j = twz a b c d a2 b2 c2 d2 := by
        rw [← HP.out j]
        show twz4 (cq l j) (cq m j) = twz a b c d a2 b2 c2 d2; rw [cq_at e1, cq_at e2]; rfl
      rw [← hpj] at q
      have q := hide_ q
      unfold td at q
      skip
      clear hpj e1 h1 h2 h3 h4 e2 k1 k2 k3 k4
      go_wp2_with fail
      go_region_held3 (fun w' => w'.cell? ⟨w.heap.size, j * 4, none⟩ = some (.int .u64 (a : Int)) ∧ w'.cell? ⟨w.heap.size, j * 4 + 1, none⟩ = some (.int .u64 (b : Int)) ∧ w'.cell? ⟨w.heap.size, j * 4 + 2, none⟩ = some (.int .u64 (c : Int)) ∧ w'.cell? ⟨w.heap.size, j * 4 + 3, none⟩ = some (.int .u64 (d : Int)) ∧ w'.cell? ⟨w.heap.size + 1, j * 4, none⟩ = some (.int .u64 (a2 : Int)) ∧ w'.cell? ⟨w.heap.size + 1, j * 4 + 1, none⟩ = some (.int .u64 (b2 : Int)) ∧ w'.cell? ⟨w.heap.size + 1, j * 4 + 2, none⟩ = some (.int .u64 (c2 : Int)) ∧ w'.cell? ⟨w.heap.size + 1, j * 4 + 3, none⟩ = some (.int .u64 (d2 : Int)) ∧ Below wr.heap.size wr w')
        (first | (with_reducible exact keepA8 (by assumption) (by assumption)) | (exact ⟨o0, o1, o2, o3, o4, o5, o6, o7, (Below.refl _ _).drew⟩) | (exact ⟨o0, o1, o2, o3, o4, o5, o6, o7, Below.refl _ _⟩))
        (first | (go_at_call 54; refine (q.out _).mono ?_; rintro e w' ⟨rfl, hb'⟩))
      rename_i hH
      have bel := hH.2.2.2.2.2.2.2.2
      clear hH hb'
      cases hp : p j
      · have HE : Hid (false = z) := hide_ (by rw [← HZ.out, allB_false hlt hp])
        try rw [hp]
        go_wp2_with fail
        go_ret
        exact ⟨ret_bool HE.out, hb.trans (bel.mono hb.size)⟩
      · have HE : Hid (allB p (j + 1) = true) := hide_ (by rw [allB_succ, HT.out, hp]; rfl)
        try rw [hp]
        go_wp2_with fail
        go_roundw
        case rel => exact ⟨j + 1, by omega, by go_num, HE, hide_ (HA.out.later bel), hide_ (HC.out.later bel), hb.trans (bel.mono hb.size)⟩
        case measure => simp [intOf]; omega
    · have hlt' : ¬ (j : Int) < 24 := by omega
      have e : j = 24 := by omega
      subst e
      have HE : Hid (true = z) := hide_ (by rw [← HZ.out, HT.out])
      go_wp2_with fail
      go_ret
      exact ⟨ret_bool HE.out, hb⟩

def clK (l : List Q4) : Nat → List Q4
  | 0 => l
  | j + 1 => (clK l j).set j (clean4 (cq l j))

theorem clK_len (l : List Q4) : ∀ j, (clK l j).length = l.length
  | 0 => rfl
  | j + 1 => by rw [clK, List.length_set, clK_len l j]

theorem clK_at (l : List Q4) : ∀ j k, j ≤ k → (clK l j)[k]? = l[k]?
  | 0, _, _ => rfl
  | j + 1, k, h => by rw [clK, List.getElem?_set_ne (by omega), clK_at l j k (by omega)]

theorem clK_low (l : List Q4) (hl : l.length = 24) : ∀ j k, k < j → j ≤ 24 → (clK l j)[k]? = some (clean4 (cq l k))
  | 0, k, h, _ => by omega
  | j + 1, k, h, h2 => by
    rw [clK]
    by_cases e : k = j
    · subst e; rw [List.getElem?_set_self (by rw [clK_len, hl]; omega)]
    · rw [List.getElem?_set_ne (by omega), clK_low l hl j k (by omega) (by omega)]

theorem clK_all (l : List Q4) (hl : l.length = 24) : clK l 24 = cleanC l := by
  apply List.ext_getElem?
  intro k
  by_cases hk : k < 24
  · rw [clK_low l hl 24 k hk (Nat.le_refl _), cleanC_at l k hk]
  · rw [List.getElem?_eq_none (by rw [clK_len, hl]; omega), List.getElem?_eq_none (by simp [cleanC]; omega)]

set_option maxRecDepth 100000 in
set_option maxHeartbeats 2000000 in
theorem rcclean_any (l : List Q4) (hl : isC l) (w : World) :
    Calls Try.prog 56 #[cv l] w fun e w' => e = .returned (cv (cleanC l)) ∧ Below w.heap.size w w' := by
  have HL := hide_ hl
  have HR := hide_ (clK_all l hl.1)
  have HCL := hide_ (show (cleanC l).length = 24 by simp [cleanC])
  clear hl
  have A0 := hide_ ((AB.at0 w 28 (tdc l)).alloc (.cells (tdc z24q).toArray 28))
  have Z0 := hide_ (zero_at1 w (.cells (tdc l).toArray 28))
  have B0 := hide_ (below2 w (.cells (tdc l).toArray 28) (.cells (tdc z24q).toArray 28))
  generalize hcl : cleanC l = r at *
  clear hcl
  unfold cv at *
  obtain ⟨hz0, -⟩ := zero_of_info zC'
  go_enter Try.func56, Try.ntmps56
  go_wp2_with fail
  generalize ((w.alloc (.cells (tdc l).toArray 28)).alloc (.cells (tdc z24q).toArray 28)) = W at *
  go_loopw [3] (fun i wr => ∃ j : Nat, j ≤ 24 ∧ i = .int .i64 (j : Int) ∧ Hid (AB wr w.heap.size 28 (tdc (clK l j))) ∧ Hid (AB wr (w.heap.size + 1) 28 (tdc z24q)) ∧ Below w.heap.size w wr) (fun i _ => 24 - (intOf i).toNat)
  case atStart => exact ⟨0, by omega, rfl, A0, Z0, B0.out⟩
  case round =>
    obtain ⟨j, hj, rfl, HA, HZ, hb⟩ := hrel
    by_cases hlt : j < 24
    · have hlt' : (j : Int) < 24 := by omega
      have hj0 : (0 : Int) ≤ (j : Int) := by omega
      obtain ⟨a, b, c, d, e1, h1, h2, h3, h4⟩ := HL.out.get hlt
      have HQ := hide_ ((clK_at l j j (Nat.le_refl _)).trans e1)
      have HS : Hid ((clK l j).set j (a &&& c, b &&& d, c, d) = clK l (j + 1)) := hide_ (by rw [clK, cq_at e1]; rfl)
      have q := hide_ (fun w => rtclean_any a b c d w h1 h2 h3 h4)
      generalize a &&& c = m1 at *
      generalize b &&& d = m2 at *
      unfold td at q
      clear e1 h1 h2 h3 h4
      obtain ⟨o0, o1, o2, o3, -⟩ := HA.out.quad HQ.out
      go_wp2_with (go_at_call 55; refine (q.out _).mono ?_; rintro e w1 ⟨rfl, b1⟩; obtain ⟨s0, s1, s2, s3, s4, s5, s6, s7⟩ := (HA.out.later b1).quad HQ.out)
      go_roundw
      case rel => exact ⟨j + 1, by omega, by go_num, by rw [← HS.out]; exact hide_ ((HA.out.later b1).setq j m1 m2 c d), hide_ (((((HZ.out.later b1).far _ (by omega)).far _ (by omega)).far _ (by omega)).far _ (by omega)), below_fillq (hb.trans (b1.mono hb.size)) (Nat.le_refl _) _ _ _ _ _ _ _ _⟩
      case measure => simp [intOf]; omega
    · have hlt' : ¬ (j : Int) < 24 := by omega
      have e : j = 24 := by omega
      subst e
      rw [HR.out] at HA
      go_wp2_with (first | (refine wpList_loadA Try.underlying28 rfl (.tmp 1) rfl w.heap.size (by simp [Act.eval, Act.put]) (tdc r) (szC HCL.out) HA.out ?_) | (refine wpList_storeA rfl (.tmp 2) (.tmp 14) rfl (w.heap.size + 1) (by simp [Act.eval, Act.put]) (tdc z24q) (tdc r) (by rw [tdc_length, tdc_length, HCL.out, z24q_len]) (szC HCL.out) (tdc_one _) (by simp [Act.eval, Act.put]) HZ.out ?_))
      exact bodyPost_ret (results_A Try.underlying28 Try.results56 _ _ (w.heap.size + 1) (tdc r) (szC HCL.out) rfl HZ.out.row) rfl ⟨rfl, hb.trans (below_row _ _ _ _ (Nat.le_succ _))⟩

set_option maxRecDepth 100000 in
set_option maxHeartbeats 2000000 in
theorem rcsize_any (l : List Q4) (hl : isC l) (w : World) :
    Calls Try.prog 26 #[cv l] w fun e w' => e = .returned (.int .i64 (sizeK l 24 : Nat)) ∧ Below w.heap.size w w' := by
  have HL := hide_ hl
  have A0 := hide_ (AB.at0 w 28 (tdc l))
  have B0 := hide_ (below1 w (.cells (tdc l).toArray 28))
  clear hl
  obtain ⟨N, hN⟩ : ∃ N : Nat, sizeK l 24 = N := ⟨_, rfl⟩
  have HN := hide_ hN
  rw [hN]
  clear hN
  unfold cv at *
  go_enter Try.func26, Try.ntmps26
  go_wp2_with fail
  generalize w.alloc (.cells (tdc l).toArray 28) = W at *
  go_loopw [3, 4] (fun s i wr => ∃ j n : Nat, j ≤ 24 ∧ s = .int .i64 (n : Int) ∧ i = .int .i64 (j : Int) ∧ n ≤ j * 128 ∧ Hid (n = sizeK l j) ∧ Hid (AB wr w.heap.size 28 (tdc l)) ∧ Below w.heap.size w wr) (fun _ i _ => 24 - (intOf i).toNat)
  case atStart => exact ⟨0, 0, by omega, rfl, rfl, by omega, hide_ rfl, A0, B0.out⟩
  case round =>
    obtain ⟨j, n, hj, rfl, rfl, hnj, HS, HA, hb⟩ := hrel
    by_cases hlt : j < 24
    · have hlt' : (j : Int) < 24 := by omega
      have hj0 : (0 : Int) ≤ (j : Int) := by omega
      obtain ⟨a, b, c, d, e, h1, h2, h3, h4⟩ := HL.out.get hlt
      obtain ⟨o0, o1, o2, o3, -⟩ := HA.out.quad e
      have HE : Hid (n + (pc c + pc d) = sizeK l (j + 1)) := hide_ (by rw [sizeK, cq_at e, ← HS.out])
      have q := hide_ (fun w => rmany_any c d w h3 h4)
      have p1 := pc_le c h3
      have p2 := pc_le d h4
      have hs : pc c + pc d ≤ 128 := by omega
      generalize pc c + pc d = s1 at *
      clear e h1 h2 h3 h4 p1 p2
      unfold wd at q
      have hw2 : IntKind.i64.wrap ((n : Int) + (s1 : Int)) = (n : Int) + (s1 : Int) := by rw [IntKind.wrap_i64]; omega
      go_wp2_with (go_at_call 43; refine (q.out _).mono ?_; rintro e w1 ⟨rfl, b1⟩)
      go_roundw
      case rel => exact ⟨j + 1, n + s1, by omega, by go_num, by go_num, by omega, HE, hide_ (HA.out.later b1), hb.trans (b1.mono hb.size)⟩
      case measure => simp [intOf]; omega
    · have hlt' : ¬ (j : Int) < 24 := by omega
      have e : j = 24 := by omega
      subst e
      have HE : Hid (n = N) := hide_ (by rw [← HN.out]; exact HS.out)
      go_wp2_with fail
      go_ret
      exact ⟨ret_int (by rw [HE.out]), hb⟩

set_option maxRecDepth 100000 in
set_option maxHeartbeats 2000000 in
theorem rcpick_any (l : List Q4) (hl : isC l) (w : World) :
    Calls Try.prog 36 #[cv l] w fun e w' => e = .returned (hv (pickC l)) ∧ Below w.heap.size w w' := by
  have HL := hide_ hl
  have hcq := hide_ (fun k (hk : k < 24) => cq_clean l k hk)
  rw [← pickK_all l]
  clear hl
  have hf0 := fun x y c d w => fld0 x y c d w
  have A0 := hide_ (((AB.at0 w 28 (tdc l)).alloc (.cells #[.int .u64 0, .int .u64 0, .int .u64 0, .int .u64 0, .int .u64 0, .int .u64 0, .int .u64 0, .int .u64 0, .int .u64 0, .int .u64 0, .int .u64 0, .int .u64 0, .int .u64 0, .int .u64 0, .int .u64 0, .int .u64 0, .int .u64 0, .int .u64 0, .int .u64 0, .int .u64 0, .int .u64 0, .int .u64 0, .int .u64 0, .int .u64 0, .int .u64 0, .int .u64 0, .int .u64 0, .int .u64 0, .int .u64 0, .int .u64 0, .int .u64 0, .int .u64 0, .int .u64 0, .int .u64 0, .int .u64 0, .int .u64 0, .int .u64 0, .int .u64 0, .int .u64 0, .int .u64 0, .int .u64 0, .int .u64 0, .int .u64 0, .int .u64 0, .int .u64 0, .int .u64 0, .int .u64 0, .int .u64 0] 33)).alloc (.cells #[.int .u64 0, .int .u64 0, .int .u64 0, .int .u64 0, .int .u64 0, .int .u64 0, .int .u64 0, .int .u64 0, .int .u64 0, .int .u64 0, .int .u64 0, .int .u64 0, .int .u64 0, .int .u64 0, .int .u64 0, .int .u64 0, .int .u64 0, .int .u64 0, .int .u64 0, .int .u64 0, .int .u64 0, .int .u64 0, .int .u64 0, .int .u64 0, .int .u64 0, .int .u64 0, .int .u64 0, .int .u64 0, .int .u64 0, .int .u64 0, .int .u64 0, .int .u64 0, .int .u64 0, .int .u64 0, .int .u64 0, .int .u64 0, .int .u64 0, .int .u64 0, .int .u64 0, .int .u64 0, .int .u64 0, .int .u64 0, .int .u64 0, .int .u64 0, .int .u64 0, .int .u64 0, .int .u64 0, .int .u64 0] 33))
  have Z0 : Hid (AB (((w.alloc (.cells (tdc l).toArray 28)).alloc (.cells #[.int .u64 0, .int .u64 0, .int .u64 0, .int .u64 0, .int .u64 0, .int .u64 0, .int .u64 0, .int .u64 0, .int .u64 0, .int .u64 0, .int .u64 0, .int .u64 0, .int .u64 0, .int .u64 0, .int .u64 0, .int .u64 0, .int .u64 0, .int .u64 0, .int .u64 0, .int .u64 0, .int .u64 0, .int .u64 0, .int .u64 0, .int .u64 0, .int .u64 0, .int .u64 0, .int .u64 0, .int .u64 0, .int .u64 0, .int .u64 0, .int .u64 0, .int .u64 0, .int .u64 0, .int .u64 0, .int .u64 0, .int .u64 0, .int .u64 0, .int .u64 0, .int .u64 0, .int .u64 0, .int .u64 0, .int .u64 0, .int .u64 0, .int .u64 0, .int .u64 0, .int .u64 0, .int .u64 0, .int .u64 0] 33)).alloc (.cells #[.int .u64 0, .int .u64 0, .int .u64 0, .int .u64 0, .int .u64 0, .int .u64 0, .int .u64 0, .int .u64 0, .int .u64 0, .int .u64 0, .int .u64 0, .int .u64 0, .int .u64 0, .int .u64 0, .int .u64 0, .int .u64 0, .int .u64 0, .int .u64 0, .int .u64 0, .int .u64 0, .int .u64 0, .int .u64 0, .int .u64 0, .int .u64 0, .int .u64 0, .int .u64 0, .int .u64 0, .int .u64 0, .int .u64 0, .int .u64 0, .int .u64 0, .int .u64 0, .int .u64 0, .int .u64 0, .int .u64 0, .int .u64 0, .int .u64 0, .int .u64 0, .int .u64 0, .int .u64 0, .int .u64 0, .int .u64 0, .int .u64 0, .int .u64 0, .int .u64 0, .int .u64 0, .int .u64 0, .int .u64 0] 33)) (w.heap.size + 1) 33 (wdc z24)) := hide_ (by rw [zh48]; exact (AB.at1 w (.cells (tdc l).toArray 28) 33 (wdc z24)).alloc _)
  have Y0 : Hid (AB (((w.alloc (.cells (tdc l).toArray 28)).alloc (.cells #[.int .u64 0, .int .u64 0, .int .u64 0, .int .u64 0, .int .u64 0, .int .u64 0, .int .u64 0, .int .u64 0, .int .u64 0, .int .u64 0, .int .u64 0, .int .u64 0, .int .u64 0, .int .u64 0, .int .u64 0, .int .u64 0, .int .u64 0, .int .u64 0, .int .u64 0, .int .u64 0, .int .u64 0, .int .u64 0, .int .u64 0, .int .u64 0, .int .u64 0, .int .u64 0, .int .u64 0, .int .u64 0, .int .u64 0, .int .u64 0, .int .u64 0, .int .u64 0, .int .u64 0, .int .u64 0, .int .u64 0, .int .u64 0, .int .u64 0, .int .u64 0, .int .u64 0, .int .u64 0, .int .u64 0, .int .u64 0, .int .u64 0, .int .u64 0, .int .u64 0, .int .u64 0, .int .u64 0, .int .u64 0] 33)).alloc (.cells #[.int .u64 0, .int .u64 0, .int .u64 0, .int .u64 0, .int .u64 0, .int .u64 0, .int .u64 0, .int .u64 0, .int .u64 0, .int .u64 0, .int .u64 0, .int .u64 0, .int .u64 0, .int .u64 0, .int .u64 0, .int .u64 0, .int .u64 0, .int .u64 0, .int .u64 0, .int .u64 0, .int .u64 0, .int .u64 0, .int .u64 0, .int .u64 0, .int .u64 0, .int .u64 0, .int .u64 0, .int .u64 0, .int .u64 0, .int .u64 0, .int .u64 0, .int .u64 0, .int .u64 0, .int .u64 0, .int .u64 0, .int .u64 0, .int .u64 0, .int .u64 0, .int .u64 0, .int .u64 0, .int .u64 0, .int .u64 0, .int .u64 0, .int .u64 0, .int .u64 0, .int .u64 0, .int .u64 0, .int .u64 0] 33)) (w.heap.size + 1 + 1) 33 (wdc z24)) := hide_ (by rw [zh48]; exact AB.at2 w (.cells (tdc l).toArray 28) _ 33 (wdc z24))
  have B0 := hide_ (below3 w (.cells (tdc l).toArray 28) (.cells #[.int .u64 0, .int .u64 0, .int .u64 0, .int .u64 0, .int .u64 0, .int .u64 0, .int .u64 0, .int .u64 0, .int .u64 0, .int .u64 0, .int .u64 0, .int .u64 0, .int .u64 0, .int .u64 0, .int .u64 0, .int .u64 0, .int .u64 0, .int .u64 0, .int .u64 0, .int .u64 0, .int .u64 0, .int .u64 0, .int .u64 0, .int .u64 0, .int .u64 0, .int .u64 0, .int .u64 0, .int .u64 0, .int .u64 0, .int .u64 0, .int .u64 0, .int .u64 0, .int .u64 0, .int .u64 0, .int .u64 0, .int .u64 0, .int .u64 0, .int .u64 0, .int .u64 0, .int .u64 0, .int .u64 0, .int .u64 0, .int .u64 0, .int .u64 0, .int .u64 0, .int .u64 0, .int .u64 0, .int .u64 0] 33) (.cells #[.int .u64 0, .int .u64 0, .int .u64 0, .int .u64 0, .int .u64 0, .int .u64 0, .int .u64 0, .int .u64 0, .int .u64 0, .int .u64 0, .int .u64 0, .int .u64 0, .int .u64 0, .int .u64 0, .int .u64 0, .int .u64 0, .int .u64 0, .int .u64 0, .int .u64 0, .int .u64 0, .int .u64 0, .int .u64 0, .int .u64 0, .int .u64 0, .int .u64 0, .int .u64 0, .int .u64 0, .int .u64 0, .int .u64 0, .int .u64 0, .int .u64 0, .int .u64 0, .int .u64 0, .int .u64 0, .int .u64 0, .int .u64 0, .int .u64 0, .int .u64 0, .int .u64 0, .int .u64 0, .int .u64 0, .int .u64 0, .int .u64 0, .int .u64 0, .int .u64 0, .int .u64 0, .int .u64 0, .int .u64 0] 33))
  have ezh : Hid ((.agg #[.int .u64 0, .int .u64 0, .int .u64 0, .int .u64 0, .int .u64 0, .int .u64 0, .int .u64 0, .int .u64 0, .int .u64 0, .int .u64 0, .int .u64 0, .int .u64 0, .int .u64 0, .int .u64 0, .int .u64 0, .int .u64 0, .int .u64 0, .int .u64 0, .int .u64 0, .int .u64 0, .int .u64 0, .int .u64 0, .int .u64 0, .int .u64 0, .int .u64 0, .int .u64 0, .int .u64 0, .int .u64 0, .int .u64 0, .int .u64 0, .int .u64 0, .int .u64 0, .int .u64 0, .int .u64 0, .int .u64 0, .int .u64 0, .int .u64 0, .int .u64 0, .int .u64 0, .int .u64 0, .int .u64 0, .int .u64 0, .int .u64 0, .int .u64 0, .int .u64 0, .int .u64 0, .int .u64 0, .int .u64 0] : Value) = .agg (wdc z24).toArray) := hide_ (by rw [zh48])
  generalize hr : cleanC l = r at *
  clear hr
  unfold cv at *
  unfold hv at *
  go_enter Try.func36, Try.ntmps36
  go_wp2_with (first | (refine wpList_storeA rfl (.tmp 3) (.tmp 5) rfl (w.heap.size + 1 + 1) (by simp [Act.eval, Act.put]) (wdc z24) (wdc z24) rfl (szW z24_len) (wdc_one _) (by first | (simp [Act.eval, Act.put]; exact ezh.out) | exact ezh.out) Y0.out ?_))
  have A1 := hide_ (A0.out.row_far (f := w.heap.size + 1 + 1) (wdc z24).toArray (by omega))
  have Z1 := hide_ (Z0.out.row_far (f := w.heap.size + 1 + 1) (wdc z24).toArray (by omega))
  have Y1 := hide_ (Y0.out.row (cs' := wdc z24))
  have B1 := B0.out.trans (below_row _ (w.heap.size + 1 + 1) _ (wdc z24).toArray (by omega))
  clear A0 Z0 Y0 B0 ezh
  try simp only [Act.put]
  generalize (((w.alloc (.cells (tdc l).toArray 28)).alloc (.cells #[.int .u64 0, .int .u64 0, .int .u64 0, .int .u64 0, .int .u64 0, .int .u64 0, .int .u64 0, .int .u64 0, .int .u64 0, .int .u64 0, .int .u64 0, .int .u64 0, .int .u64 0, .int .u64 0, .int .u64 0, .int .u64 0, .int .u64 0, .int .u64 0, .int .u64 0, .int .u64 0, .int .u64 0, .int .u64 0, .int .u64 0, .int .u64 0, .int .u64 0, .int .u64 0, .int .u64 0, .int .u64 0, .int .u64 0, .int .u64 0, .int .u64 0, .int .u64 0, .int .u64 0, .int .u64 0, .int .u64 0, .int .u64 0, .int .u64 0, .int .u64 0, .int .u64 0, .int .u64 0, .int .u64 0, .int .u64 0, .int .u64 0, .int .u64 0, .int .u64 0, .int .u64 0, .int .u64 0, .int .u64 0] 33)).alloc (.cells #[.int .u64 0, .int .u64 0, .int .u64 0, .int .u64 0, .int .u64 0, .int .u64 0, .int .u64 0, .int .u64 0, .int .u64 0, .int .u64 0, .int .u64 0, .int .u64 0, .int .u64 0, .int .u64 0, .int .u64 0, .int .u64 0, .int .u64 0, .int .u64 0, .int .u64 0, .int .u64 0, .int .u64 0, .int .u64 0, .int .u64 0, .int .u64 0, .int .u64 0, .int .u64 0, .int .u64 0, .int .u64 0, .int .u64 0, .int .u64 0, .int .u64 0, .int .u64 0, .int .u64 0, .int .u64 0, .int .u64 0, .int .u64 0, .int .u64 0, .int .u64 0, .int .u64 0, .int .u64 0, .int .u64 0, .int .u64 0, .int .u64 0, .int .u64 0, .int .u64 0, .int .u64 0, .int .u64 0, .int .u64 0] 33)).setRow (w.heap.size + 1 + 1) (wdc z24).toArray = W at *
  go_loopw [4] (fun i wr => ∃ j : Nat, j ≤ 24 ∧ i = .int .i64 (j : Int) ∧ Hid (AB wr w.heap.size 28 (tdc l)) ∧ Hid (AB wr (w.heap.size + 1 + 1) 33 (wdc (pickK r j))) ∧ Hid (AB wr (w.heap.size + 1) 33 (wdc z24)) ∧ Below w.heap.size w wr) (fun i _ => 24 - (intOf i).toNat)
  case atStart => exact ⟨0, by omega, rfl, A1, Y1, Z1, B1⟩
  case round =>
    obtain ⟨j, hj, rfl, HC, HA, HZ, hb⟩ := hrel
    by_cases hlt : j < 24
    · have hlt' : (j : Int) < 24 := by omega
      have hj0 : (0 : Int) ≤ (j : Int) := by omega
      obtain ⟨a, b, c, d, e1, h1, h2, h3, h4⟩ := HL.out.get hlt
      have HQ := hide_ (pickK_at r j hlt)
      have HS := pickK_set r j hlt
      rw [hcq.out j hlt, cq_at e1] at HS
      have HS : Hid ((pickK r j).set j (a &&& c, b &&& d) = pickK r (j + 1)) := hide_ HS
      have q := hide_ (fun w => rtclean_any a b c d w h1 h2 h3 h4)
      generalize a &&& c = m1 at *
      generalize b &&& d = m2 at *
      unfold td at q
      obtain ⟨o0, o1, o2, o3, -⟩ := HC.out.quad e1
      clear e1 h1 h2 h3 h4
      go_wp2_with (go_at_call 55; refine (q.out _).mono ?_; rintro e w1 ⟨rfl, b1⟩; obtain ⟨s0, s1, s2, s3⟩ := (HA.out.later b1).pair HQ.out)
      go_roundw
      case rel => exact ⟨j + 1, by omega, by go_num, hide_ (((HC.out.later b1).far _ (by omega)).far _ (by omega)), by rw [← HS.out]; exact hide_ ((HA.out.later b1).setp j m1 m2), hide_ (((HZ.out.later b1).far _ (by omega)).far _ (by omega)), ((hb.trans (b1.mono hb.size)).setCell (p := ⟨w.heap.size + 1 + 1, j * 2, none⟩) (by dsimp only; omega) _).setCell (p := ⟨w.heap.size + 1 + 1, j * 2 + 1, none⟩) (by dsimp only; omega) _⟩
      case measure => simp [intOf]; omega
    · have hlt' : ¬ (j : Int) < 24 := by omega
      have e : j = 24 := by omega
      subst e
      go_wp2_with (first | (refine wpList_loadA Try.underlying33 rfl (.tmp 3) rfl (w.heap.size + 1 + 1) (by simp [Act.eval, Act.put]) (wdc (pickK r 24)) (szW (pickK_len r 24 (Nat.le_refl _))) HA.out ?_) | (refine wpList_storeA rfl (.tmp 2) (.tmp 17) rfl (w.heap.size + 1) (by simp [Act.eval, Act.put]) (wdc z24) (wdc (pickK r 24)) (by rw [wdc_length, wdc_length, pickK_len r 24 (Nat.le_refl _), z24_len]) (szW (pickK_len r 24 (Nat.le_refl _))) (wdc_one _) (by simp [Act.eval, Act.put]) HZ.out ?_))
      exact bodyPost_ret (results_A Try.underlying33 Try.results36 _ _ (w.heap.size + 1) (wdc (pickK r 24)) (szW (pickK_len r 24 (Nat.le_refl _))) rfl HZ.out.row) rfl ⟨rfl, hb.trans (below_row _ _ _ _ (Nat.le_succ _))⟩

end Go.Proofs.Ytbdbehdgpmfelaa
