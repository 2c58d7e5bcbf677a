import Derived.Test.YtfeioclnhnipmaaNf
import Derived.Deep.RegionHeld3
import Derived.Deep.RegionWith
import Derived.Deep.MidRow
import Derived.Deep.Cut
import Derived.WalkMore
namespace Go.Proofs.Ytfeioclnhnipmaa
open Go Go.RowKit
set_option linter.unusedVariables false
set_option linter.unusedSimpArgs false
attribute [local go_sem] Oper.semAt_some

theorem pre_mem {α : Type} {pre L : List α} {x : α} (h : pre ++ [x] <+: L) : x ∈ L ∧ pre.length + 1 ≤ L.length := by
  obtain ⟨r, rfl⟩ := h
  exact ⟨by simp, by simp⟩
theorem noOutB {id : Nat} {Q : Exit → Act → World → Prop} (h : ¬ LetsOut Q) : ¬ LetsOut (Exit.inBlock id Q) := fun ⟨a, w, k⟩ => h ⟨a, w, k⟩
theorem noOutT_ {R S T : Nat → Prop} {I : (Nat → Prop) → (Nat → Prop) → List (List Int) → World → Prop} {Ix : Code → (Nat → Prop) → (Nat → Prop) → List (List Int) → World → Prop} {xs : List (List Int)} {W : World} : ¬ LetsOut (postT R S T I Ix xs W) := fun ⟨_, _, h⟩ => h
theorem news_alloc (W : World) (cs : List Value) (e : TypeId) : ∀ j u, cs[j]? = some u → (W.alloc (.cells cs.toArray e)).cell? ((⟨W.heap.size, 0, none⟩ : Addr).add j) = some u := by
  intro j u hu
  rw [Addr.add_lit, World.cell?_alloc_new]
  simpa using hu
/-- a row of slices of bytes as a value -/
def RowsAt (W : World) (u : Value) (M : List (List Int)) : Prop := ∃ vs, W.ownsRow 0 24 1 u M.length vs ∧ vs.length = M.length ∧ ∀ (i : Nat) (v : Value) (x : List Int), vs[i]? = some v → M[i]? = some x → Bytes W v x ∧ ∃ a c, v = .slice a x.length c
set_option maxRecDepth 100000 in
set_option maxHeartbeats 8000000 in
theorem appendSeq_any (v : Value) (L : List (List Int)) (w : World) (hs : IsSeqT Try.prog v L (fun _ => False) w) (hn : L.length ≤ 100000000000) :
    Calls Try.prog 32 #[.slice none 0 0, v] w fun e w' => ∃ u, e = .returned u ∧ RowsAt w' u L ∧ (∀ g, u.ownBlock = some g → w.heap.size ≤ g) ∧ Below w.heap.size w w' := by
  refine calls_of_wp_marks Try.func32 rfl ?_
  simp only [Try.ntmps32, List.size_toArray, List.length_cons, List.length_nil, Nat.reduceAdd, Nat.reduceSub, Array.replicate_succ, Array.replicate_zero, List.push_toArray, List.append_toArray, List.nil_append, List.cons_append]
  go_wp2_with fail
  have bw := below1 w (.cells #[.slice none 0 0] 35)
  refine wp_rangeT (v := v) (by rfl) hs (fun k hk => hk.elim) bw rfl
    (fun S T pre W => RowT w.heap.size w.heap.size w (fun _ => False) S T pre W) (fun _ _ _ _ _ => False)
    (fun S x a' W => ∃ u xa xc, ¬ S w.heap.size ∧ Boxed W w.heap.size 35 u ∧ Piece S w.heap.size u W (.slice xa x.length xc) x ∧ a' = { tmps := #[.slice none 0 0, v, .pointer (some ⟨w.heap.size, 0, none⟩), undef, .slice none 0 0, .slice xa x.length xc, v, .slice xa x.length xc, undef, undef, undef, undef, undef], defers := [] })
    (fun S T pre A A' h ho => h.out ho (Nat.le_refl _) (Nat.le_refl _)) (fun S T S' T' pre A A' h hg => h.grow hg (Nat.le_refl _) (Nat.le_refl _)) (fun _ _ _ _ _ _ h _ => h)
    ?ax ?start ?assign ?body ?done (fun _ _ _ _ _ _ _ _ _ h => h.elim)
  case ax =>
    rintro S x a' A A' ⟨u, xa, xc, h1, h2, h3, h4⟩ ho
    exact ⟨u, xa, xc, h1, (ho.block _ h2.lt h1).trans h2, h3.same ho.size (fun g h5 h6 _ _ => ho.block g h5 h6) (fun _ _ h => h) (fun _ _ h => h), h4⟩
  case start =>
    intro W hb hsz
    have hlt : w.heap.size < (w.alloc (.cells #[.slice none 0 0] 35)).heap.size := by simp
    refine ⟨fun k hk => ?_, ⟨.slice none 0 0, [], (hb.block _ hlt).trans (Boxed.new w 35 _), World.ownsRow_nil _ _ _ _, (fun g e => by cases e), rfl, fun i v x h => by simp at h⟩, bw.trans (hb.mono bw.size)⟩
    rcases hk with hk | hk
    · rcases hk with hk | hk
      · exact hk.elim
      · simp at hk hsz; omega
    · exact hk.elim
  case assign =>
    intro l S T pre x args W hpre hi ht
    obtain ⟨g, off, e, cs, fz, e1, hh⟩ := ht.lt
    obtain ⟨g', off', e2, hB, hST, h0⟩ := ht
    have e3 : g' = g ∧ off' = off := by rw [e2] at e1; simp at e1; exact e1
    obtain ⟨rfl, rfl⟩ := e3
    subst e2
    obtain ⟨hS, ⟨u, vs, hu, hr, hg, hl, hp⟩, hb⟩ := id hi
    have hTg : T g' := hST.2.resolve_left id
    have hPc : Piece S w.heap.size u W (.slice (some ⟨g', off', none⟩) x.length x.length) x := ⟨g', off', rfl, hB, h0, hST.1, by have := (hS g' (.inr hTg)).1; omega, fun e => (hg g' e).2.2 hTg, (hS g' (.inr hTg)).2⟩
    have hnS : ¬ S w.heap.size := fun h => by have := (hS _ (.inl h)).1; omega
    have HI := hide_ hi
    have HP := hide_ hPc
    have HU := hide_ hu
    clear hi hPc hu hS hr hg hl hp hb hh hB hST e1
    refine wpIn_region_of noOut rfl ?_
    go_wp2_with fail
    exact ⟨Keep.refl _ _, HI.out, u, _, _, hnS, HU.out, HP.out, rfl⟩
  case body =>
    rintro l S T pre x a' W hpre ⟨hS, ⟨u, vs, hu, hr, hg, hl, hp⟩, hb⟩ ⟨u', xa, xc, hnS, hu', hPx, rfl⟩
    have hu1 : u' = u := by
      have := hu'.symm.trans hu
      simp at this
      exact this
    subst hu1
    have hlen := (pre_mem hpre).2
    have hc0 := hu.cell
    obtain ⟨i0, hi0, hz0, hz1, hz2⟩ := info_parts infoS
    have HI : Hid (Try.prog.info? 24 = some i0 ∧ i0.zero = some (.slice none 0 0) ∧ i0.size = 1 ∧ i0.bytes = 24) := hide_ ⟨hi0, hz0, hz1, hz2⟩
    have HSS := hide_ hS
    have HU := hide_ hu
    have HR := hide_ hr
    have HG := hide_ hg
    have HLv := hide_ hl
    have HP := hide_ hp
    have HB := hide_ hb
    have HX := hide_ hPx
    clear hS hu hr hg hl hp hb hPx hi0 hz0 hz1 hz2 hu'
    refine wpIn_block ?_
    refine wpIn_region_of (noOutB noOutT_) rfl ?_
    go_wp2_with (at_builtin; refine wpList_append_own_at _ rfl (.tmp 8) (.tmp 10) 35 rfl (w.heap.size + 1) 24 i0 (.slice none 0 0) 1 24 Try.underlying35 HI.out.1 HI.out.2.1 HI.out.2.2.1 HI.out.2.2.2 rfl (by decide) u' pre.length vs (by simp [Act.eval, Act.put]) (HR.out.alloc _) ⟨W.heap.size, 0, none⟩ 1 1 [.slice xa x.length xc] (by simp [Act.eval, Act.put]) (by simp) (news_alloc _ _ _) (by intro v hv; simp at hv; subst hv; rfl) (by unfold maxLen; omega) (by omega) (by have := HU.out.lt; simp; omega) ?_; intro v1 w1 ho1 hgrow hnil hat; obtain ⟨hv1, hkeep, hrow⟩ := RowT.push HSS.out HU.out HR.out HG.out HLv.out HP.out HB.out (Nat.le_refl _) (Nat.le_refl _) (fun k h => h.elim) HX.out ho1 hgrow hat; obtain ⟨g', cap', rfl⟩ := ownsRow_succ ho1; have hkeep := hide_ hkeep; have hrow := hide_ hrow; have hv1c := hv1.cell; have hv1f := hv1.frozen)
    exact ⟨hkeep.out, hrow.out⟩
  case done =>
    rintro D S T W hD hSD ⟨hS, ⟨u, vs, hu, hr, hg, hl, hp⟩, hb⟩ hK
    have hc := hu.cell
    have HK := hide_ hK
    have hO := Out.putObj (W := W) (.deferred none) hSD
    have HR := hide_ (own_out hO (fun g e => (hg g e).1) hr)
    have HB := hide_ (hO.below hb (Nat.le_refl _) (fun k hk => by have := (hS k (.inl hk)).1; omega))
    have HP : Hid (∀ (i : Nat) (v : Value) (x : List Int), vs[i]? = some v → L[i]? = some x → Bytes (W.putObj D (.deferred none)) v x ∧ ∃ a c, v = .slice a x.length c) := hide_ (fun i v x h1 h2 => by
      obtain ⟨g, off, rfl, k1, k2, k3, k4, k5, k6⟩ := hp i v x h1 h2
      exact ⟨bytes_of_block k1 (hO.block g k6 k3), _, _, rfl⟩)
    have HG := hide_ (fun g (e : u.ownBlock = some g) => Nat.le_trans (Nat.le_succ _) (own_block_lt hr e).1)
    have HL := hide_ hl
    clear hK hr hb hg hu hS hp hO hl
    go_wp2_with fail
    refine marksR (marks_ret HK.out (results_tmp rfl _ _ _) ?_)
    exact ⟨u, rfl, ⟨vs, ownsRow_base HR.out (Nat.zero_le _), HL.out, HP.out⟩, HG.out, HB.out⟩

set_option maxRecDepth 100000 in
set_option maxHeartbeats 8000000 in
theorem collect_any (v : Value) (L : List (List Int)) (w : World) (hs : IsSeqT Try.prog v L (fun _ => False) w) (hn : L.length ≤ 100000000000) :
    Calls Try.prog 27 #[v] w fun e w' => ∃ u, e = .returned u ∧ RowsAt w' u L ∧ (∀ g, u.ownBlock = some g → w.heap.size ≤ g) ∧ Below w.heap.size w w' := by
  have q := hide_ (appendSeq_any v L w hs hn)
  clear hs hn
  go_enter Try.func27, Try.ntmps27
  go_wp2_with (go_at_call 32; refine q.out.mono ?_; rintro e w1 ⟨u, rfl, ho, hg, b1⟩; have ho := hide_ ho; have hg := hide_ hg; have b1 := hide_ b1)
  go_ret
  exact ⟨u, rfl, ho.out, hg.out, b1.out⟩

set_option maxRecDepth 100000 in
set_option maxHeartbeats 8000000 in
theorem list_any (v : Value) (b r : List Int) (M : List (List Int)) (w : World) (hB : Bytes w v b) (hl : b.length ≤ 100000000000) (hC : Cuts b M r) :
    Calls Try.prog 16 #[v] w fun e w' => ∃ u, e = .returned u ∧ RowsAt w' u M ∧ (∀ g, u.ownBlock = some g → w.heap.size ≤ g) ∧ Below w.heap.size w w' := by
  have hn := hC.len
  have q := hide_ (split_any v b r M w hB (by omega) hC)
  have hm : M.length ≤ 100000000000 := by omega
  have HM := hide_ hm
  obtain ⟨ao, cap, rfl⟩ := hB.short
  clear hB hl hC hn hm
  go_enter Try.func16, Try.ntmps16
  go_wp2_with (first | (go_at_call 28; refine q.out.mono ?_; rintro e w1 ⟨gf, lb, rfl, hs, b1⟩; have hs := hide_ hs; have b1 := hide_ b1) | (go_at_call 27; refine (collect_any _ M w1 hs.out HM.out).mono ?_; rintro e w2 ⟨u, rfl, ho, hg, b2⟩; have ho := hide_ ho; have hg := hide_ hg; have b2 := hide_ b2))
  go_ret
  exact ⟨u, rfl, ho.out, fun g e => Nat.le_trans b1.out.size (hg.out g e), b1.out.trans (b2.out.mono b1.out.size)⟩

end Go.Proofs.Ytfeioclnhnipmaa
