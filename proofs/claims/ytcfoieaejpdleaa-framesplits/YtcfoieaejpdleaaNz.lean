import Derived.Test.YtcfoieaejpdleaaNy
import Derived.Deep.RegionHeld3
import Derived.Deep.RegionWith
import Derived.Deep.MidRow
import Derived.Deep.Cut
import Derived.WalkMore
import Derived.Maps.AppendAt
namespace Go.Proofs.Ytcfoieaejpdleaa
open Go Go.RowKit
set_option linter.unusedVariables false
set_option linter.unusedSimpArgs false
attribute [local go_sem] Oper.semAt_some

theorem noOutThen {K : Act → World → Prop} {Q : Exit → Act → World → Prop} (h : ¬ LetsOut Q) : ¬ LetsOut (Exit.then K Q) := fun ⟨a, w, k⟩ => h ⟨a, w, k⟩
set_option maxRecDepth 100000 in
set_option maxHeartbeats 8000000 in
theorem all_any (v : Value) (b r : List Int) (M : List (List Int)) (kn : Nat) (w : World) (hB : Bytes w v b) (hl : b.length ≤ 100000000000) (hC : Cuts b M r) (hk0 : 0 < kn) (hk1 : kn ≤ 1000) :
    Calls Try.prog 13 #[v, .int .i64 (kn : Int)] w fun e w' => ∃ u, e = .returned u ∧ RowsAt w' u (M.take kn) ∧ Below w.heap.size w w' := by
  obtain ⟨ao, cap, rfl⟩ := hB.short
  have bw0 : Hid (Below w.heap.size w (w.alloc (.cells #[.int .i64 (kn : Int)] 3))) := hide_ (below1 w _)
  have bw2 : Below w.heap.size w ((w.alloc (.cells #[.int .i64 (kn : Int)] 3)).alloc (.cells #[.slice none 0 0] 27)) := below2 w _ _
  have q := hide_ (split_any (.slice ao b.length cap) b r M ((w.alloc (.cells #[.int .i64 (kn : Int)] 3)).alloc (.cells #[.slice none 0 0] 27)) (hB.later bw2) (by omega) hC)
  clear hB hC hl
  refine calls_of_wp_marks Try.func13 rfl ?_
  simp only [Try.ntmps13, List.size_toArray, List.length_cons, List.length_nil, Nat.reduceAdd, Nat.reduceSub, Array.replicate_succ, Array.replicate_zero, List.push_toArray, List.append_toArray, List.nil_append, List.cons_append]
  go_wp2_with (go_at_call 8; refine q.out.mono ?_; rintro e w1 ⟨gf, lb, rfl, hs, b1⟩; have hs := hide_ hs; have b1 := hide_ b1)
  generalize hfv : Value.func (.func gf) #[] lb = fv at *
  have hsz : (w.alloc (.cells #[.int .i64 (kn : Int)] 3)).heap.size = w.heap.size + 1 := by simp
  have hbox : Boxed w1 (w.heap.size + 1) 27 (.slice none 0 0) := by
    have := Boxed.new (w.alloc (.cells #[.int .i64 (kn : Int)] 3)) 27 (.slice none 0 0)
    rw [World.size_alloc] at this
    exact (b1.out.block _ (by simp)).trans this
  have bw1 : Below (w.heap.size + 1) (w.alloc (.cells #[.int .i64 (kn : Int)] 3)) w1 := ((below1 (w.alloc (.cells #[.int .i64 (kn : Int)] 3)) (.cells #[.slice none 0 0] 27)).mono (by simp)).trans (b1.out.mono (by simp))
  have hz1 : w.heap.size + 2 ≤ w1.heap.size := by have := b1.out.size; simp at this; omega
  refine wp_rangeT (v := fv) (by rfl) hs.out (fun k hk => hk.elim) (Below.refl _ _) rfl
    (fun S T pre W => RowT (w.heap.size + 1) (w.heap.size + 1) (w.alloc (.cells #[.int .i64 (kn : Int)] 3)) (fun _ => False) S T pre W ∧ pre.length < kn) (fun c S T pre W => c = .exit 0 ∧ RowT (w.heap.size + 1) (w.heap.size + 1) (w.alloc (.cells #[.int .i64 (kn : Int)] 3)) (fun _ => False) S T pre W ∧ pre.length = kn)
    (fun S x a' W => ∃ u xa xc, ¬ S (w.heap.size + 1) ∧ Boxed W (w.heap.size + 1) 27 u ∧ Piece S (w.heap.size + 1) u W (.slice xa x.length xc) x ∧ a' = { tmps := #[.slice ao b.length cap, .int .i64 (kn : Int), undef, .pointer (some ⟨w.heap.size, 0, none⟩), .slice none 0 0, .pointer (some ⟨w.heap.size + 1, 0, none⟩), .slice xa x.length xc, .slice ao b.length cap, fv, .slice xa x.length xc, undef, undef, undef, undef, undef, undef, undef, undef, undef], defers := [] })
    (fun S T pre A A' h ho => ⟨h.1.out ho (Nat.le_refl _) (by simp), h.2⟩) (fun S T S' T' pre A A' h hg => ⟨h.1.grow hg (Nat.le_refl _) (by simp), h.2⟩) (fun c S T pre A A' h ho => ⟨h.1, h.2.1.out ho (Nat.le_refl _) (by simp), h.2.2⟩)
    ?ax ?start ?assign ?body ?done ?stop
  case ax =>
    rintro S x a' A A' ⟨u, xa, xc, h1, h2, h3, h4⟩ ho
    exact ⟨u, xa, xc, h1, (ho.block _ h2.lt h1).trans h2, h3.same ho.size (fun g h5 h6 _ _ => ho.block g h5 h6) (fun _ _ h => h) (fun _ _ h => h), h4⟩
  case start =>
    intro W hb hsz2
    refine ⟨⟨fun k hk => ?_, ⟨.slice none 0 0, [], (hb.block _ (by omega)).trans hbox, World.ownsRow_nil _ _ _ _, (fun g e => by cases e), rfl, fun i v x h => by simp at h⟩, bw1.trans (hb.mono (by omega))⟩, hk0⟩
    rcases hk with hk | hk
    · rcases hk with hk | hk
      · exact hk.elim
      · omega
    · exact hk.elim
  case assign =>
    rintro l S T pre x args W hpre ⟨hi, hpk⟩ ht
    obtain ⟨g, off, e, cs, fz, e1, hh⟩ := ht.lt
    obtain ⟨g', off', e2, hB, hST, h0⟩ := ht
    have e3 : g' = g ∧ off' = off := by rw [e2] at e1; simp at e1; exact e1
    obtain ⟨rfl, rfl⟩ := e3
    subst e2
    obtain ⟨hS, ⟨u, vs, hu, hr, hg, hl, hp⟩, hb⟩ := id hi
    have hTg : T g' := hST.2.resolve_left id
    have hPc : Piece S (w.heap.size + 1) u W (.slice (some ⟨g', off', none⟩) x.length x.length) x := ⟨g', off', rfl, hB, h0, hST.1, by have := (hS g' (.inr hTg)).1; omega, fun e => (hg g' e).2.2 hTg, (hS g' (.inr hTg)).2⟩
    have hnS : ¬ S (w.heap.size + 1) := fun h => by have := (hS _ (.inl h)).1; omega
    have HI := hide_ hi
    have HP := hide_ hPc
    have HU := hide_ hu
    clear hi hPc hu hS hr hg hl hp hb hh hB hST e1
    refine wpIn_region_of noOut rfl ?_
    go_wp2_with fail
    exact ⟨Keep.refl _ _, ⟨HI.out, hpk⟩, u, _, _, hnS, HU.out, HP.out, rfl⟩
  case body =>
    rintro l S T pre x a' W hpre ⟨⟨hS, ⟨u, vs, hu, hr, hg, hl, hp⟩, hb⟩, hpk⟩ ⟨u', xa, xc, hnS, hu', hPx, rfl⟩
    have hu1 : u' = u := by
      have := hu'.symm.trans hu
      simp at this
      exact this
    subst hu1
    have hlen := (pre_mem hpre).2
    have hc0 := hu.cell
    obtain ⟨i0, hi0, hz0, hz1', hz2⟩ := info_parts infoS
    have HI : Hid (Try.prog.info? 22 = some i0 ∧ i0.zero = some (.slice none 0 0) ∧ i0.size = 1 ∧ i0.bytes = 24) := hide_ ⟨hi0, hz0, hz1', hz2⟩
    have HSS := hide_ hS
    have HU := hide_ hu
    have HR := hide_ hr
    have HG := hide_ hg
    have HLv := hide_ hl
    have HP := hide_ hp
    have HB := hide_ hb
    have HX := hide_ hPx
    clear hS hu hr hg hl hp hb hPx hi0 hz0 hz1' hz2 hu' hbox bw1
    refine wpIn_block ?_
    refine wpIn_seq ?_
    refine wpIn_region_of (noOutThen (noOutB noOutT_)) rfl ?_
    go_wp2_with (at_builtin; refine wpList_append_own_at _ rfl (.tmp 10) (.tmp 12) 27 rfl ((w.heap.size + 1) + 1) 22 i0 (.slice none 0 0) 1 24 Try.underlying27 HI.out.1 HI.out.2.1 HI.out.2.2.1 HI.out.2.2.2 rfl (by decide) u' pre.length vs (by simp [Act.eval, Act.put]) (HR.out.alloc _) ⟨W.heap.size, 0, none⟩ 1 1 [.slice xa x.length xc] (by simp [Act.eval, Act.put]) (by simp) (news_alloc _ _ _) (by intro v hv; simp at hv; subst hv; rfl) (by unfold maxLen; omega) (by omega) (by have := HU.out.lt; simp; omega) ?_; intro v1 w3 ho1 hgrow hnil hat; obtain ⟨hv1, hkeep, hrow⟩ := RowT.push HSS.out HU.out HR.out HG.out HLv.out HP.out HB.out (Nat.le_refl _) (by simp) (fun k h => h.elim) HX.out ho1 hgrow hat; obtain ⟨g', cap', rfl⟩ := ownsRow_succ ho1; have hkeep := hide_ hkeep; have hrow := hide_ hrow; have hv1c := hv1.cell; have hv1f := hv1.frozen)
    have hn4 : ∀ z, (w3.setCell ⟨w.heap.size + 1, 0, none⟩ z) = (w3.setCell ⟨w.heap.size + 1, 0, none⟩ (.slice (some ⟨g', 0, none⟩) (pre.length + 1) cap')) → (w3.setCell ⟨w.heap.size + 1, 0, none⟩ z).cell? ⟨w.heap.size, 0, none⟩ = some (.int .i64 (kn : Int)) := fun z hz => by
      rw [hz]
      have hbx := hrow.out.2.2
      exact (show Boxed _ w.heap.size 3 (.int .i64 (kn : Int)) from (hbx.block w.heap.size (Nat.lt_succ_self _)).trans (Boxed.new w 3 _)).cell
    have hn5 := hn4 _ rfl
    clear hn4
    refine wpIn_seq ?_
    refine wpIn_region_of (noOutThen (noOutB noOutT_)) rfl ?_
    by_cases hkn : kn ≤ pre.length + 1
    · have g1 : (kn : Int) ≤ ((pre.length + 1 : Nat) : Int) := by omega
      have g2 : (kn : Int) ≤ (pre.length : Int) + 1 := by omega
      go_wp2_with fail
      refine wpIn_cond_true (by simp [Act.eval, Act.put, hkn, g1, g2]) ?_
      refine wpIn_exit ?_
      exact ⟨hkeep.out, rfl, hrow.out, by simp; omega⟩
    · have g1 : ¬ (kn : Int) ≤ ((pre.length + 1 : Nat) : Int) := by omega
      have g2 : ¬ (kn : Int) ≤ (pre.length : Int) + 1 := by omega
      go_wp2_with fail
      refine wpIn_cond_false (by simp [Act.eval, Act.put, hkn, g1, g2]) ?_
      refine wpIn_skip ?_
      exact ⟨hkeep.out, hrow.out, by simp; omega⟩
  case done =>
    rintro D S T W hD hSD ⟨⟨hS, ⟨u, vs, hu, hr, hg, hl, hp⟩, hb⟩, hpk⟩ hK
    have HTK := hide_ (show M.take kn = M from List.take_of_length_le (by omega))
    have hc := hu.cell
    have HK := hide_ hK
    have hO := Out.putObj (W := W) (.deferred none) hSD
    have HR := hide_ (own_out hO (fun g e => (hg g e).1) hr)
    have HB := hide_ (bw0.out.trans ((hO.below hb (by simp) (fun k hk => by have := (hS k (.inl hk)).1; omega)).mono (by omega)))
    have HP : Hid (∀ (i : Nat) (v : Value) (x : List Int), vs[i]? = some v → M[i]? = some x → Bytes (W.putObj D (.deferred none)) v x ∧ ∃ a c, v = .slice a x.length c) := hide_ (fun i v x h1 h2 => by
      obtain ⟨g, off, rfl, k1, k2, k3, k4, k5, k6⟩ := hp i v x h1 h2
      exact ⟨bytes_of_block k1 (hO.block g k6 k3), _, _, rfl⟩)
    have HL := hide_ hl
    clear hK hr hb hg hu hS hp hO hl
    go_wp2_with fail
    refine marksR (marks_ret HK.out (results_tmp rfl _ _ _) ?_)
    exact ⟨u, rfl, by rw [HTK.out]; exact ⟨vs, ownsRow_base HR.out (Nat.zero_le _), HL.out, HP.out⟩, HB.out⟩
  case stop =>
    rintro D S T c pre W hD hSD hpre ⟨rfl, ⟨hS, ⟨u, vs, hu, hr, hg, hl, hp⟩, hb⟩, hpk⟩ hK
    have HTK := hide_ (show M.take kn = pre by rw [← hpk]; exact (List.prefix_iff_eq_take.1 hpre).symm)
    have hc := hu.cell
    have HK := hide_ hK
    have hO := Out.putObj (W := W) (.deferred none) hSD
    have HR := hide_ (own_out hO (fun g e => (hg g e).1) hr)
    have HB := hide_ (bw0.out.trans ((hO.below hb (by simp) (fun k hk => by have := (hS k (.inl hk)).1; omega)).mono (by omega)))
    have HP : Hid (∀ (i : Nat) (v : Value) (x : List Int), vs[i]? = some v → pre[i]? = some x → Bytes (W.putObj D (.deferred none)) v x ∧ ∃ a c, v = .slice a x.length c) := hide_ (fun i v x h1 h2 => by
      obtain ⟨g, off, rfl, k1, k2, k3, k4, k5, k6⟩ := hp i v x h1 h2
      exact ⟨bytes_of_block k1 (hO.block g k6 k3), _, _, rfl⟩)
    have HL := hide_ hl
    clear hK hr hb hg hu hS hp hO hl
    go_wp2_with fail
    refine marksR (marks_ret HK.out (results_tmp rfl _ _ _) ?_)
    exact ⟨u, rfl, by rw [HTK.out]; exact ⟨vs, ownsRow_base HR.out (Nat.zero_le _), HL.out, HP.out⟩, HB.out⟩


end Go.Proofs.Ytcfoieaejpdleaa
