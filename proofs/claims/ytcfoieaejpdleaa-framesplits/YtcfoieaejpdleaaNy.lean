import Derived.Test.YtcfoieaejpdleaaNx
import Derived.Deep.RegionHeld3
import Derived.Deep.RegionWith
import Derived.Deep.MidRow
import Derived.Deep.Cut
import Derived.WalkMore
namespace Go.Proofs.Ytcfoieaejpdleaa
open Go Go.RowKit
set_option linter.unusedVariables false
set_option linter.unusedSimpArgs false
attribute [local go_sem] Oper.semAt_some

theorem app1_own {w1 w8 : World} {v8 : Value} {X : List Int} {n : Nat} (hX : X.length = n) (hB : isB X) (hn : 0 < n) (hown : w8.ownsRow w1.heap.size 5 1 v8 (0 + X.length) ([] ++ u8s X)) (hg : (w1.alloc (.cells #[] 5)).grownBy w8 (Value.slice (some ⟨w1.heap.size, 0, none⟩) 0 0).ownBlock) :
    ∃ g c, v8 = .slice (some ⟨g, 0, none⟩) n c ∧ OwnE w8 (.slice (some ⟨g, 0, none⟩) n c) X ∧ Below w1.heap.size w1 w8 := by
  have hown' : w8.ownsRow w1.heap.size 5 1 v8 n (u8s X) := by simpa [hX] using hown
  obtain ⟨g8, c8, rfl, -, -⟩ := own_form hown' hn
  exact ⟨g8, c8, rfl, ⟨by rw [hX]; exact ownsRow_base hown' (Nat.zero_le _), hB⟩, (below1 w1 (.cells #[] 5)).trans (below_grown hg w1.heap.size (by simp) (by simp [Value.ownBlock]))⟩

set_option maxRecDepth 100000 in
set_option maxHeartbeats 8000000 in
theorem rlist_any (v : Value) (b r : List Int) (M : List (List Int)) (w : World) (hB : Bytes w v b) (hl : b.length ≤ 100000000000) (hC : Cuts b M r) :
    Calls Try.prog 9 #[v] w fun e w' => ∃ u, e = .returned u ∧ RowsAt w' u M ∧ Below w.heap.size w w' := by
  obtain ⟨ao, cap, rfl⟩ := hB.short
  have hML := hC.len
  obtain ⟨i0, hi0, hz0, hz1, hz2⟩ := info_parts info5
  have HI : Hid (Try.prog.info? 5 = some i0 ∧ i0.zero = some (.int .u8 0) ∧ i0.size = 1 ∧ i0.bytes = 1) := ⟨hi0, hz0, hz1, hz2⟩
  obtain ⟨j0, hj0, hy0, hy1, hy2⟩ := info_parts infoS
  have HJ : Hid (Try.prog.info? 22 = some j0 ∧ j0.zero = some (.slice none 0 0) ∧ j0.size = 1 ∧ j0.bytes = 24) := hide_ ⟨hj0, hy0, hy1, hy2⟩
  have HB := hide_ hB
  have HC := hide_ hC
  have hM : M.length ≤ 12500000000 := by omega
  have B0 := hide_ (below1 w (.cells #[] 22))
  have R0 : Hid (RowsE (w.alloc (.cells #[] 22)) w.heap.size (.slice (some ⟨w.heap.size, 0, none⟩) 0 0) [] []) := hide_ ⟨World.ownsRow_made w #[] 0 (Nat.le_refl _) (Nat.zero_le _) rfl, rfl, fun i v x h => by simp at h⟩
  clear hi0 hz0 hz1 hz2 hB hC hj0 hy0 hy1 hy2 hML
  go_enter Try.func9, Try.ntmps9
  go_wp2
  go_loopw [0, 3] (fun v o wr => ∃ (b' : List Int) (M' pre : List (List Int)) (a' oa : Option Addr) (c' oc : Nat) (vs : List Value), v = .slice a' b'.length c' ∧ o = .slice oa pre.length oc ∧ b'.length ≤ 100000000000 ∧ Hid (pre ++ M' = M) ∧ Hid (Cuts b' M' r) ∧ Hid (Bytes w (.slice a' b'.length c') b') ∧ Hid (RowsE wr w.heap.size (.slice oa pre.length oc) pre vs) ∧ Hid (Below w.heap.size w wr)) (fun v _ _ => lenV v)
  case atStart => exact ⟨b, M, [], ao, _, cap, _, [], rfl, rfl, hl, hide_ rfl, HC, HB, R0, B0⟩
  case round =>
    obtain ⟨b', M', pre, a', oa, c', oc, vs, rfl, rfl, hlb, HPM, HCU, HBv, HRW, KB⟩ := hrel
    have HBw := hide_ (HBv.out.later KB.out)
    have hm := HBw.out.big
    have hcu := HCU.out
    cases hcu with
    | stop hn =>
      have q := hide_ (says_none _ _ _ HBw.out hn)
      have hpre : pre = M := by simpa using HPM.out
      subst hpre
      clear hn HCU
      go_wp2_with (go_at_call 25; refine q.out.mono ?_; rintro e w1 ⟨⟨z, rfl⟩, b1⟩; have k1 := hide_ (KB.out.trans (b1.mono KB.out.size)); have R1 := hide_ (HRW.out.later b1); clear b1)
      go_ret
      exact ⟨_, rfl, R1.out.rows, k1.out⟩
    | @step _ n M2 _ hn hrest =>
      have q := hide_ (says_some _ _ n _ HBw.out hn)
      obtain ⟨h8, hle⟩ := wholeF_some hn
      obtain ⟨a3, sl2, sl3, b3⟩ := bytes_slice HBv.out n hle
      obtain ⟨tk2, tk3, btk⟩ := bytes_take HBv.out n hle
      have hd : (b'.drop n).length = b'.length - n := List.length_drop
      rw [← hd] at sl2 sl3 b3
      have B3 := hide_ b3
      have HR2 := hide_ hrest
      have hlt : (b'.drop n).length < b'.length := by omega
      have hle2 : (b'.drop n).length ≤ 100000000000 := by omega
      have hxl : (b'.take n).length = n := by rw [List.length_take]; omega
      have hpl : pre.length < M.length := by rw [← HPM.out]; simp
      clear hn HCU b3 hrest hd
      generalize b'.drop n = b2 at *
      generalize b'.take n = X at *
      have HXL := hide_ hxl
      have HXB := hide_ btk.isB_
      have BT := hide_ btk
      have hn0 : 0 < n := by omega
      clear hxl btk h8
      go_wp2_with (first
        | (go_at_call 25; refine q.out.mono ?_; rintro e w1 ⟨rfl, b1⟩; have B1 := hide_ b1; have k1 := hide_ (KB.out.trans (b1.mono KB.out.size)); have BX := hide_ (BT.out.later k1.out); clear b1)
        | (at_builtin; refine wpList_append_ownB rfl (.tmp 16) (.tmp 19) 22 rfl w1.heap.size 5 i0 Try.underlying22 HI.out.1 HI.out.2.1 HI.out.2.2.1 HI.out.2.2.2 (.slice (some ⟨w1.heap.size, 0, none⟩) 0 0) 0 [] (by simp [Act.eval, Act.put]) (World.ownsRow_made w1 #[] 0 (Nat.le_refl _) (Nat.zero_le _) rfl) (.slice a' n c') X (by simp [Act.eval, Act.put]) (BX.out.later (below1 w1 (.cells #[] 5))) (by rw [HXL.out]; omega) (by simp) ?_; intro v8 w8 hown hg; obtain ⟨g8, c8, e8, E8, b8⟩ := app1_own HXL.out HXB.out hn0 hown hg; have E8 := hide_ E8; subst e8; have R8 := hide_ ((HRW.out.later B1.out).later b8); have k8 := hide_ (k1.out.trans (b8.mono k1.out.size)); clear hown hg b8)
        | (at_builtin; refine wpList_append_own_at _ rfl (.tmp 15) (.tmp 21) 27 rfl w.heap.size 22 j0 (.slice none 0 0) 1 24 Try.underlying27 HJ.out.1 HJ.out.2.1 HJ.out.2.2.1 HJ.out.2.2.2 rfl (by decide) (.slice oa pre.length oc) pre.length vs (by simp [Act.eval, Act.put]) (R8.out.later (below1 w8 (.cells #[.slice (some ⟨g8, 0, none⟩) n c8] 22))).1 ⟨w8.heap.size, 0, none⟩ 1 1 [.slice (some ⟨g8, 0, none⟩) n c8] (by simp [Act.eval, Act.put]) (by simp) (news_alloc _ _ _) (by intro v hv; simp at hv; subst hv; rfl) (by unfold maxLen; omega) (by omega) (by have := k8.out.size; simp; omega) ?_; intro v3 w3 ho3 hg3 hnil3 hat3; have R2 := R8.out.later (below1 w8 (.cells #[.slice (some ⟨g8, 0, none⟩) n c8] 22)); have R3 := hide_ (RowsE.push R2 (E8.out.later (below1 w8 (.cells #[.slice (some ⟨g8, 0, none⟩) n c8] 22))) ⟨some ⟨g8, 0, none⟩, c8, by rw [HXL.out]⟩ ho3 hg3); have b3 := below_grown hg3 w.heap.size (by have := k8.out.size; simp; omega) (fun g e => (own_block_lt R2.1 e).1); have K3 := hide_ (k8.out.trans (((below1 w8 (.cells #[.slice (some ⟨g8, 0, none⟩) n c8] 22)).mono k8.out.size).trans b3)); obtain ⟨g3, c3, rfl, -, -⟩ := own_form ho3 (by omega); clear R2 ho3 hg3 hnil3 hat3 b3))
      go_roundw
      case rel => exact ⟨b2, M2, pre ++ [X], a3, some ⟨g3, 0, none⟩, _, c3, _, rfl, by simp, hle2, hide_ (by rw [← HPM.out]; simp), HR2, B3, hide_ (by rw [List.length_append]; exact R3.out), K3⟩
      case measure => simp [lenV]; omega

end Go.Proofs.Ytcfoieaejpdleaa
