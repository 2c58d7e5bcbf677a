import Derived.Test.YtickphnfgaibiabVe
import Derived.Test.YtickphnfgaibiabGa
import Derived.Maps.AppendAt
import Derived.Great.BuildSlice
import Derived.Great.FillDense
namespace Go.Proofs.Ytickphnfgaibiab
open Go Go.RowKit
set_option linter.unusedVariables false
set_option linter.unusedSimpArgs false

theorem infoC : (Try.prog.info? 28).map (fun i => (i.zero, i.size, i.bytes)) = some (some (.agg (tdc z24q).toArray), 96, 768) := by kernel_rfl
/-- a slice literal of one array -/
theorem wpList_build1 {P : Program} {ops : Array Oper} {rest : List Oper} {o : Oper} {a : Act} {w : World} {Q : Exit → Act → World → Prop} (hg : o.guard = none) (t e : TypeId) (x : Operand) (ho : o.op = .buildSlice t 1 #[(0, x)])
    (cs : List Value) (z : Value) (n by' : Nat) (hx : a.eval x = .agg cs.toArray) (hu : P.underlying t = some (.slice e)) (hi : (P.info? e).map (fun i => (i.zero, i.size, i.bytes)) = some (some z, n, by')) (hz : z.cells.size = n) (hn : cs.length = n) (h0 : 0 < n) (h24 : n ≤ 2 ^ 24)
    (h : wpList P ops Q rest (a.put o.dst (.slice (some ⟨w.heap.size, 0, none⟩) 1 1)) (w.alloc (.cells cs.toArray e))) : wpList P ops Q (o :: rest) a w := by
  obtain ⟨i0, hi0, hz0, hz1, hz2⟩ := info_parts hi
  refine wpList_buildSlice hg t e 1 _ ho cs.toArray i0 z hu hi0 hz0 (by rw [hz1]; omega) (by rw [hz1]; omega) ?_ h
  have := Great.fill_whole (s := n) h0 [.agg cs.toArray] ((Array.range (1 * i0.size)).map (z.cells[· % z.cells.size]!)) (by simp [Value.cells, hn]) (by simp [hz1])
  rw [hz1] at this ⊢
  simpa [hx, Value.cells] using this
/-- a box holds a slice whose row is the call's own: these cubes -/
def RowI (n0 Bx : Nat) (w : World) (R S : Nat → Prop) (pre : List (List Q4)) (W : World) : Prop :=
  (∀ k, S k → Bx < k ∧ k < W.heap.size) ∧ (∃ u, Boxed W Bx 33 u ∧ W.ownsRow (Bx + 1) 28 96 u pre.length (pre.flatMap tdc) ∧ ∀ g, u.ownBlock = some g → ¬ S g ∧ ¬ R g) ∧ Below n0 w W
theorem own_out {S : Nat → Prop} {w w' : World} {base : Nat} {e : TypeId} {size : Nat} {v : Value} {n : Nat} {xs : List Value} (h : Out S w w') (hg : ∀ g, v.ownBlock = some g → ¬ S g) (ho : w.ownsRow base e size v n xs) : w'.ownsRow base e size v n xs := by
  refine ⟨ho.1, ?_⟩
  rcases ho.2 with k | ⟨g, cap, cur, rfl, hb, hk, r⟩
  · exact .inl k
  · exact .inr ⟨g, cap, cur, rfl, hb, (h.block g (Array.getElem?_eq_some_iff.1 hk).1 (hg g rfl)).trans hk, r⟩
theorem own_lt {w : World} {base : Nat} {e : TypeId} {size : Nat} {v : Value} {n g : Nat} {xs : List Value} (ho : w.ownsRow base e size v n xs) (hg : v.ownBlock = some g) : base ≤ g ∧ g < w.heap.size := by
  rcases ho.2 with ⟨rfl, -⟩ | ⟨g', cap, cur, rfl, hb, hk, r⟩
  · cases hg
  · have e2 : g' = g := by simpa [Value.ownBlock] using hg
    subst e2; exact ⟨hb, (Array.getElem?_eq_some_iff.1 hk).1⟩
theorem RowI.out {n0 Bx : Nat} {w A A' : World} {R S : Nat → Prop} {pre : List (List Q4)} (h : RowI n0 Bx w R S pre A) (ho : Out S A A') (hn : n0 ≤ Bx) (hw : n0 ≤ w.heap.size) : RowI n0 Bx w R S pre A' := by
  obtain ⟨hS, ⟨u, hu, hr, hg⟩, hb⟩ := h
  refine ⟨fun k hk => ⟨(hS k hk).1, Nat.lt_of_lt_of_le (hS k hk).2 ho.size⟩, ⟨u, ?_, own_out ho (fun g e => (hg g e).1) hr, hg⟩, ho.below hb hw (fun k hk => by have := (hS k hk).1; omega)⟩
  exact (ho.block Bx hu.lt (fun e => by have := (hS _ e).1; omega)).trans hu
theorem RowI.grow {n0 Bx : Nat} {w A A' : World} {R S : Nat → Prop} {pre : List (List Q4)} (h : RowI n0 Bx w R S pre A) (ho : Below A.heap.size A A') (hn : n0 ≤ Bx) (hw : n0 ≤ w.heap.size) : RowI n0 Bx w R (Grow S A A') pre A' := by
  obtain ⟨hS, ⟨u, hu, hr, hg⟩, hb⟩ := h
  have hl := hu.lt
  have hsz := ho.size
  refine ⟨fun k hk => ?_, ⟨u, ?_, ?_, fun g e => ⟨?_, (hg g e).2⟩⟩, hb.trans (ho.mono (by have := hb.size; omega))⟩
  · rcases hk with hk | hk
    · have := hS k hk; omega
    · omega
  · exact (ho.block Bx hl).trans hu
  · exact own_out (Out.of_below (S := S) ho) (fun g e => (hg g e).1) hr
  · rintro (hk | hk)
    · exact (hg g e).1 hk
    · have := own_lt hr e; omega
theorem RowI.push {n0 Bx : Nat} {w W w1 : World} {R S : Nat → Prop} {pre : List (List Q4)} {x : List Q4} {u v' : Value} {tmp : Obj} (hS : ∀ k, S k → Bx < k ∧ k < W.heap.size) (hu : Boxed W Bx 33 u) (hr : W.ownsRow (Bx + 1) 28 96 u pre.length (pre.flatMap tdc)) (hg : ∀ g, u.ownBlock = some g → ¬ S g ∧ ¬ R g) (hb : Below n0 w W)
    (hn : n0 ≤ Bx) (hw : n0 ≤ w.heap.size) (hR : ∀ k, R k → k < W.heap.size ∧ k ≠ Bx)
    (hown : w1.ownsRow (Bx + 1) 28 96 v' (pre.length + 1) (pre.flatMap tdc ++ tdc x)) (hgrow : (W.alloc tmp).grownBy w1 u.ownBlock) (hat : v'.ownBlock = u.ownBlock ∨ v'.ownBlock = some (W.alloc tmp).heap.size) :
    Boxed w1 Bx 33 u ∧ Keep (Both R S) W (w1.setCell ⟨Bx, 0, none⟩ v') ∧ RowI n0 Bx w R S (pre ++ [x]) (w1.setCell ⟨Bx, 0, none⟩ v') := by
  have hl := hu.lt
  have hne : some Bx ≠ u.ownBlock := fun e => by have := (own_lt hr e.symm).1; omega
  have hv1 : Boxed w1 Bx 33 u := (hu.alloc tmp).kept hgrow hne
  have hs1 : W.heap.size + 1 ≤ w1.heap.size := by have := hgrow.size; simpa using this
  have hne' : v'.ownBlock ≠ some Bx := fun e => by have := (own_lt hown e).1; omega
  refine ⟨hv1, ⟨by simp [World.setCell]; omega, fun k hk => ?_⟩, fun k hk => ⟨(hS k hk).1, by simp [World.setCell]; have := (hS k hk).2; omega⟩, ⟨v', hv1.set v', ?_, fun g e => ?_⟩, ?_⟩
  · have hk1 : k < W.heap.size ∧ k ≠ Bx ∧ u.ownBlock ≠ some k := by
      rcases hk with hk | hk
      · exact ⟨(hR k hk).1, (hR k hk).2, fun e => (hg k e).2 hk⟩
      · exact ⟨(hS k hk).2, by have := (hS k hk).1; omega, fun e => (hg k e).1 hk⟩
    rw [Below.heap_setCell _ _ _ _ hk1.2.1, hgrow.block k (by simp; omega) (fun e => hk1.2.2 e.symm), Below.heap_alloc _ _ _ hk1.1]
  · have := own_set (o := 0) hown hne' v'
    simpa using this
  · rcases hat with hat | hat
    · exact hg g (hat ▸ e)
    · rw [hat] at e
      have e2 : W.heap.size + 1 = g := by simpa using e
      refine ⟨fun h => by have := (hS g h).2; omega, fun h => by have := (hR g h).1; omega⟩
  · refine (hb.trans ((Below.refl n0 W).alloc (by have := hb.size; omega) tmp)).trans ?_
    refine ((Below.refl n0 _).grown hgrow (by have := hb.size; simp; omega) (fun k e => by have := (own_lt hr e).1; omega)).setCell (p := ⟨Bx, 0, none⟩) hn _
theorem noOut {K : Act → World → Prop} : ¬ LetsOut (Exit.then K (fun _ _ _ => False)) := fun ⟨_, _, h⟩ => h
theorem noOutP {α : Type} {R S : Nat → Prop} {I : (Nat → Prop) → List α → World → Prop} {Ix : Code → (Nat → Prop) → List α → World → Prop} {xs : List α} {W : World} : ¬ LetsOut (postX R S I Ix xs W) := fun ⟨_, _, h⟩ => h
theorem noOutB {id : Nat} {Q : Exit → Act → World → Prop} (h : ¬ LetsOut Q) : ¬ LetsOut (Exit.inBlock id Q) := fun ⟨a, w, k⟩ => h ⟨a, w, k⟩
theorem pre_mem {α : Type} {pre L : List α} {x : α} (h : pre ++ [x] <+: L) : x ∈ L ∧ pre.length + 1 ≤ L.length := by
  obtain ⟨r, rfl⟩ := h
  exact ⟨by simp, by simp⟩
theorem news_alloc (W : World) (cs : List Value) (e : TypeId) : ∀ j u, cs[j]? = some u → (W.alloc (.cells cs.toArray e)).cell? ((⟨W.heap.size, 0, none⟩ : Addr).add j) = some u := by
  intro j u hu
  rw [Addr.add_lit, World.cell?_alloc_new]
  simpa using hu
theorem szC0 : (tdc z24q).length = 96 := by rw [tdc_length, z24q_len]
theorem lenC {l : List Q4} (h : isC l) : (tdc l).length = 96 := by rw [tdc_length, h.1]
theorem noOutT {K : Act → World → Prop} {Q : Exit → Act → World → Prop} (h : ¬ LetsOut Q) : ¬ LetsOut (Exit.then K Q) := fun ⟨a, w, k⟩ => h ⟨a, w, k⟩

set_option maxRecDepth 100000 in
set_option maxHeartbeats 4000000 in
theorem appendSeq_any (v : Value) (L : List (List Q4)) (R : Nat → Prop) (w : World) (hs : IsSeq Try.prog v (fun x => #[cv x]) L R w) (hR : ∀ k, R k → k < w.heap.size) (hL : ∀ x ∈ L, isC x) (hn : L.length ≤ 100000) :
    Calls Try.prog 53 #[.slice none 0 0, v] w fun e w' => ∃ u, e = .returned u ∧ w'.ownsRow w.heap.size 28 96 u L.length (L.flatMap tdc) ∧ Below w.heap.size w w' := by
  refine calls_of_wp_marks Try.func53 rfl ?_
  simp only [Try.ntmps53, List.size_toArray, List.length_cons, List.length_nil, Nat.reduceAdd, Nat.reduceSub, Array.replicate_succ, Array.replicate_zero, List.push_toArray, List.append_toArray, List.nil_append, List.cons_append]
  go_wp2_with fail
  have bw := below1 w (.cells #[.slice none 0 0] 33)
  refine wp_rangeX (α := List Q4) (v := v) (by rfl) hs (fun k hk => by have := hR k hk; simp; omega) bw (fun _ => rfl)
    (fun S pre W => RowI w.heap.size w.heap.size w R S pre W) (fun _ _ _ _ => False)
    (fun S x a' W => ∃ Bv, AB W Bv 28 (tdc x) ∧ ¬ S Bv ∧ a' = { tmps := #[.slice none 0 0, v, .pointer (some ⟨w.heap.size, 0, none⟩), undef, .slice none 0 0, .pointer (some ⟨Bv, 0, none⟩), v, .agg (tdc x).toArray, undef, undef, undef, undef, undef], defers := [] })
    (fun S pre A A' h ho => h.out ho (Nat.le_refl _) (Nat.le_refl _)) (fun S pre A A' h ho => h.grow ho (Nat.le_refl _) (Nat.le_refl _)) (fun _ _ _ _ _ h _ => h)
    (fun S x a' A A' ⟨Bv, h1, h2, h3⟩ ho => ⟨Bv, (ho.block Bv h1.lt h2).trans h1, h2, h3⟩)
    ?start ?assign ?body ?done (fun _ _ _ _ _ _ _ _ h => h.elim)
  case start =>
    intro W hb hsz
    have hlt : w.heap.size < (w.alloc (.cells #[.slice none 0 0] 33)).heap.size := by simp
    refine ⟨fun k hk => ?_, ⟨.slice none 0 0, (hb.block _ hlt).trans (Boxed.new w 33 _), World.ownsRow_nil _ _ _ _, fun g e => by cases e⟩, bw.trans (hb.mono bw.size)⟩
    rcases hk with hk | hk
    · exact hk.elim
    · simp at hk hsz; omega
  case assign =>
    intro l S pre x W hpre hi
    have hx := hL x (pre_mem hpre).1
    have HZ : Hid (AB (W.alloc (.cells Try.zeroCells28 28)) W.heap.size 28 (tdc z24q)) := hide_ (by rw [zcC]; exact AB.at0 W 28 (tdc z24q))
    have hlx := hide_ hx.1
    have HI := hide_ hi
    clear hi hx
    refine wpIn_region_of noOut rfl ?_
    unfold cv
    go_wp2_with (refine wpList_storeA rfl (.tmp 5) (.tmp 7) rfl W.heap.size (by simp [Act.eval, Act.put]) (tdc z24q) (tdc x) (by rw [tdc_length, tdc_length, hlx.out, z24q_len]) (szC hlx.out) (tdc_one _) (by simp [Act.eval, Act.put]) HZ.out ?_)
    have hbW : Below W.heap.size W ((W.alloc (.cells Try.zeroCells28 28)).setRow W.heap.size (tdc x).toArray) := (below1 W (.cells Try.zeroCells28 28)).trans (below_row _ W.heap.size _ _ (Nat.le_refl _))
    refine ⟨Keep.of_below hbW (fun k hk => ?_), HI.out.out (Out.of_below hbW) (Nat.le_refl _) (Nat.le_refl _), W.heap.size, HZ.out.row, fun h => ?_, rfl⟩
    · rcases hk with hk | hk
      · exact Nat.lt_of_lt_of_le (hR k hk) HI.out.2.2.size
      · exact (HI.out.1 k hk).2
    · have := (HI.out.1 _ h).2; omega
  case body =>
    rintro l S pre x a' W hpre ⟨hS, ⟨u, hu, hr, hg⟩, hb⟩ ⟨Bv, hBv, hnS, rfl⟩
    have hx := hL x (pre_mem hpre).1
    have hlen := (pre_mem hpre).2
    have hlx := hide_ hx.1
    have hc0 := hu.cell
    obtain ⟨i0, hi0, hz0, hz1, hz2⟩ := info_parts infoC
    have HI : Hid (Try.prog.info? 28 = some i0 ∧ i0.zero = some (.agg (tdc z24q).toArray) ∧ i0.size = 96 ∧ i0.bytes = 768) := hide_ ⟨hi0, hz0, hz1, hz2⟩
    have HSS := hide_ hS
    have HU := hide_ hu
    have HR := hide_ hr
    have HG := hide_ hg
    have HB := hide_ hb
    have HBv := hide_ hBv
    have HRB : Hid (∀ k, R k → k < W.heap.size ∧ k ≠ w.heap.size) := hide_ (fun k hk => by have := hR k hk; have := hu.lt; omega)
    clear hS hu hr hg hb hBv hi0 hz0 hz1 hz2 hx
    refine wpIn_block ?_
    refine wpIn_region_of (noOutB noOutP) rfl ?_
    go_wp2_with (first | (refine wpList_loadA Try.underlying28 rfl (.tmp 5) rfl Bv (by simp [Act.eval, Act.put]) (tdc x) (szC hlx.out) HBv.out ?_) | (refine wpList_build1 rfl 33 28 (.tmp 9) rfl (tdc x) (.agg (tdc z24q).toArray) 96 768 (by simp [Act.eval, Act.put]) Try.underlying33 infoC (by simp [Value.cells, szC0]) (by rw [tdc_length, hlx.out]) (by decide) (by decide) ?_) | (at_builtin; refine wpList_append_own_at _ rfl (.tmp 8) (.tmp 10) 33 rfl (w.heap.size + 1) 28 i0 (.agg (tdc z24q).toArray) 96 768 Try.underlying33 HI.out.1 HI.out.2.1 HI.out.2.2.1 HI.out.2.2.2 (by simp [Value.cells, szC0]) (by decide) u pre.length (pre.flatMap tdc) (by simp [Act.eval, Act.put]) (HR.out.alloc _) ⟨W.heap.size, 0, none⟩ 1 1 (tdc x) (by simp [Act.eval, Act.put]) (by rw [tdc_length, hlx.out]) (news_alloc _ _ _) (tdc_one _) (by unfold maxLen; omega) (by omega) (by have := HU.out.lt; simp; omega) ?_; intro v1 w1 ho1 hgrow hnil hat; obtain ⟨g', cap', rfl⟩ := ownsRow_succ ho1; obtain ⟨hv1, hkeep, hrow⟩ := RowI.push HSS.out HU.out HR.out HG.out HB.out (Nat.le_refl _) (Nat.le_refl _) HRB.out ho1 hgrow hat; have hc1 := hv1.cell; have hf1 := hv1.frozen; have hv1 := hide_ hv1; have hkeep := hide_ hkeep; have hrow := hide_ hrow; clear ho1 hgrow hnil hat))
    exact ⟨hkeep.out, hrow.out⟩
  case done =>
    rintro D S W hD hSD ⟨hS, ⟨u, hu, hr, hg⟩, hb⟩ hK
    have hc := hu.cell
    have HK := hide_ hK
    have HR := hide_ (ownsRow_mono (own_out (Out.putObj (.deferred none) hSD) (fun g e => (hg g e).1) hr) (Nat.le_succ _))
    have HB := hide_ ((Out.putObj (.deferred none) hSD).below hb (Nat.le_refl _) (fun k hk => by have := (hS k hk).1; omega))
    clear hK hr hb hg hu hS
    go_wp2_with fail
    exact marksR (marks_ret HK.out (results_tmp rfl _ _ _) ⟨u, rfl, HR.out, HB.out⟩)

set_option maxRecDepth 100000 in
set_option maxHeartbeats 1000000 in
theorem collect_any (v : Value) (L : List (List Q4)) (R : Nat → Prop) (w : World) (hs : IsSeq Try.prog v (fun x => #[cv x]) L R w) (hR : ∀ k, R k → k < w.heap.size) (hL : ∀ x ∈ L, isC x) (hn : L.length ≤ 100000) :
    Calls Try.prog 33 #[v] w fun e w' => ∃ u, e = .returned u ∧ w'.ownsRow w.heap.size 28 96 u L.length (L.flatMap tdc) ∧ Below w.heap.size w w' := by
  have q := hide_ (appendSeq_any v L R w hs hR hL hn)
  clear hs hR hL hn
  go_enter Try.func33, Try.ntmps33
  go_wp2_with (go_at_call 53; refine q.out.mono ?_; rintro e w1 ⟨u, rfl, ho, b1⟩; have ho := hide_ ho; have b1 := hide_ b1)
  go_ret
  exact ⟨u, rfl, ho.out, b1.out⟩

set_option maxRecDepth 100000 in
set_option maxHeartbeats 1000000 in
theorem clist_any (a b : List Q4) (ha : isC a) (hb : isC b) (w : World) :
    Calls Try.prog 10 #[cv a, cv b] w fun e w' => ∃ u, e = .returned u ∧ w'.ownsRow w.heap.size 28 96 u (partsC a b).length ((partsC a b).flatMap tdc) ∧ Below w.heap.size w w' := by
  have q0 := hide_ (fun w => parts_any a b ha hb w)
  have hla := hide_ ha.1
  have hlb := hide_ hb.1
  have HL := hide_ (partsC_isC a b ha)
  have HN := hide_ (partsC_len a b)
  have A0 := hide_ ((AB.at0 w 28 (tdc a)).alloc (.cells (tdc b).toArray 28))
  have C0 := hide_ (AB.at1 w (.cells (tdc a).toArray 28) 28 (tdc b))
  have B0 := hide_ (below2 w (.cells (tdc a).toArray 28) (.cells (tdc b).toArray 28))
  generalize partsC a b = L at *
  unfold cv at *
  clear ha hb
  go_enter Try.func10, Try.ntmps10
  go_wp2_with (first | (refine wpList_loadA Try.underlying28 rfl (.tmp 2) rfl w.heap.size (by simp [Act.eval, Act.put]) (tdc a) (szC hla.out) A0.out ?_) | (refine wpList_loadA Try.underlying28 rfl (.tmp 3) rfl (w.heap.size + 1) (by simp [Act.eval, Act.put]) (tdc b) (szC hlb.out) C0.out ?_) | (go_at_call 9; refine (q0.out _).mono ?_; rintro e w1 ⟨v, rfl, hs, b1⟩; have hs := hide_ hs; have b1 := hide_ b1) | (go_at_call 33; refine (collect_any v L _ w1 hs.out (fun k hk => hk.2) HL.out (by have := HN.out; omega)).mono ?_; rintro e w2 ⟨u, rfl, ho, b2⟩; have ho := hide_ ho; have b2 := hide_ b2))
  go_ret
  have k1 := B0.out.trans (b1.out.mono B0.out.size)
  exact ⟨u, rfl, ownsRow_mono ho.out k1.size, k1.trans (b2.out.mono k1.size)⟩

end Go.Proofs.Ytickphnfgaibiab
