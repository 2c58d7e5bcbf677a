import Derived.Test.YtfeioclnhnipmaaNd
import Derived.Deep.RegionHeld3
import Derived.Deep.RegionWith
import Derived.Deep.MidRow
import Derived.Deep.Cut
import Derived.WalkMore
namespace Go.Proofs.Ytfeioclnhnipmaa
open Go Go.RowKit
set_option linter.unusedVariables false
set_option linter.unusedSimpArgs false
attribute [local go_sem] Oper.semAt_some

theorem Bytes.big {w : World} {v : Value} {l : List Int} (h : Bytes w v l) : l.length ≤ 9223372036854775807 := by
  obtain ⟨ao, cap, rfl, h1, h2, -⟩ := h
  unfold maxLen at h2; omega
theorem own_block_lt {w : World} {base n g : Nat} {e : TypeId} {v : Value} {xs : List Value} (ho : w.ownsRow base e 1 v n xs) (hg : v.ownBlock = some g) : base ≤ g ∧ g < w.heap.size := by
  rcases ho.2 with ⟨rfl, -⟩ | ⟨g', cap, cur, rfl, hb, hk, r⟩
  · cases hg
  · have e2 : g' = g := by simpa [Value.ownBlock] using hg
    subst e2; exact ⟨hb, (Array.getElem?_eq_some_iff.1 hk).1⟩
set_option maxRecDepth 100000 in
set_option maxHeartbeats 8000000 in
theorem split_seq (v : Value) (b r : List Int) (M : List (List Int)) (gb : Nat) (w : World) (hB : Bytes w v b) (hl : b.length ≤ 100000000000000) (hA : AB w gb 24 [v]) (hC : Cuts b M r) :
    SeqT Try.prog 33 #[.pointer (some ⟨gb, 0, none⟩)] M (fun _ => False) w := by
  intro l J Jx W hW hJ hJx hJg hY h0
  obtain ⟨ao, cap, rfl⟩ := hB.short
  have HJ := hide_ hJ
  have HJx := hide_ hJx
  have HJg := hide_ hJg
  have HY := hide_ hY
  have H0 := hide_ h0
  obtain ⟨x0, -⟩ := ((hA.later hW).cell (j := 0) rfl)
  have q1 := hide_ (bclone_any (.slice ao b.length cap) b W (hB.later hW) hl)
  have HB := hide_ hB.isB_
  have HC := hide_ hC
  clear hJ hJx hJg hY h0 hA hC hB hW
  show Calls Try.prog 33 #[.func (.yield l) #[] #[], .pointer (some ⟨gb, 0, none⟩)] W _
  go_enter Try.func33, Try.ntmps33
  go_wp2_with (first
    | (go_at_call 26; refine q1.out.mono ?_; rintro e w1 ⟨u, rfl, ho, b1⟩; have HO := hide_ ho; have h1 := hide_ (Bytes.ofOwn ho HB.out); clear ho)
    | (go_at_call 34; refine (pieces_any _ b r M w1 h1.out HC.out).mono ?_; rintro e w2 ⟨u2, rfl, ⟨gf, lb, rfl, eg, hs⟩, b2, z2⟩; have hs := hide_ hs; have eg := hide_ eg; have k2 := hide_ (b1.trans (b2.mono b1.size))))
  refine (hs.out l (fun S T pre W => J S (fun k => T k ∨ (k = w1.heap.size ∨ (u.ownBlock = some k ∧ k < w1.heap.size))) pre W) (fun S T pre W => Jx S (fun k => T k ∨ (k = w1.heap.size ∨ (u.ownBlock = some k ∧ k < w1.heap.size))) pre W) w2 (Below.refl _ _) (fun S T pre A A' h ho => HJ.out _ _ _ _ _ h ho) (fun S T pre A A' h ho => HJx.out _ _ _ _ _ h ho) ?gr ?yi ?st).mono ?fin
  case gr =>
    intro S T S' T' pre A A' h hg
    refine HJg.out _ _ _ _ _ _ _ h ⟨hg.b, hg.s, fun k hk => ?_⟩
    rcases hk with hk | hk
    · exact (hg.t k hk).imp .inl id
    · exact .inl (.inr hk)
  case yi =>
    intro S T pre x args W1 hp hj ht
    obtain ⟨g, off, e1, h2, ⟨h3, h4⟩, h5⟩ := ht
    obtain ⟨fn, tmps, assign, body, hy, hR⟩ := HY.out S (fun k => T k ∨ (k = w1.heap.size ∨ (u.ownBlock = some k ∧ k < w1.heap.size))) pre x args W1 hp hj ⟨g, off, e1, h2, ⟨h3, .inr (h4.symm)⟩, h5⟩
    refine ⟨fn, tmps, assign, body, hy, hR.mono ?_⟩
    have hsub : ∀ k, Kp (fun k => k = w1.heap.size ∨ (u.ownBlock = some k ∧ k < w1.heap.size)) S T k → Kp (fun _ => False) S (fun k => T k ∨ (k = w1.heap.size ∨ (u.ownBlock = some k ∧ k < w1.heap.size))) k := by
      rintro k (hk | hk | hk)
      · exact .inr (.inr (.inr hk))
      · exact .inr (.inl hk)
      · exact .inr (.inr (.inl hk))
    rintro e W3 (⟨rfl, J9, kp⟩ | ⟨rfl, J9, kp⟩)
    · exact .inl ⟨rfl, J9, kp.sub hsub⟩
    · exact .inr ⟨rfl, J9, kp.sub hsub⟩
  case st =>
    refine HJg.out _ _ _ _ _ _ _ H0.out ⟨k2.out, fun k h => h.elim, fun k hk => .inr ?_⟩
    have hk2 := k2.out.size
    have hb1 := b1.size
    rcases hk with hk | hk | hk
    · exact hk.elim
    · omega
    · have := own_block_lt HO.out hk.1; omega
  case fin =>
    rintro e W3 ⟨⟨v3, rfl⟩, hfin⟩
    have hfin := hide_ hfin
    go_wp2_with fail
    go_end0
    refine ⟨⟨_, rfl⟩, ?_⟩
    rcases hfin.out with ⟨S, T, h⟩ | ⟨S, T, pre, h1, h2⟩
    · exact .inl ⟨_, _, h⟩
    · exact .inr ⟨_, _, pre, h1, h2⟩

set_option maxRecDepth 100000 in
set_option maxHeartbeats 8000000 in
theorem split_any (v : Value) (b r : List Int) (M : List (List Int)) (w : World) (hB : Bytes w v b) (hl : b.length ≤ 100000000000000) (hC : Cuts b M r) :
    Calls Try.prog 28 #[v] w fun e w' => ∃ gf lb, e = .returned (.func (.func gf) #[] lb) ∧ IsSeqT Try.prog (.func (.func gf) #[] lb) M (fun _ => False) w' ∧ Below w.heap.size w w' := by
  obtain ⟨ao, cap, rfl⟩ := hB.short
  have hl' := hide_ hl
  have q1 := hide_ (bclone_any (.slice ao b.length cap) b w hB hl)
  have HI := hide_ hB.isB_
  clear hB hl
  go_enter Try.func28, Try.ntmps28
  go_wp2_with (go_at_call 26; refine q1.out.mono ?_; rintro e w1 ⟨u, rfl, ho, b1⟩; have h1 := hide_ (Bytes.ofOwn ho HI.out); have k1 := hide_ b1; obtain ⟨a1, c1, hre⟩ := h1.out.short; subst hre; clear ho)
  go_ret
  have B1 := below1 w1 (.cells #[.slice a1 b.length c1] 24)
  exact ⟨_, _, rfl, ⟨_, _, rfl, enters_of Try.func33 (by kernel_rfl) rfl, split_seq (.slice a1 b.length c1) b r M w1.heap.size _ (h1.out.later B1) hl'.out (AB.at0 w1 24 [.slice a1 b.length c1]) hC⟩, k1.out.trans (B1.mono k1.out.size)⟩

end Go.Proofs.Ytfeioclnhnipmaa
