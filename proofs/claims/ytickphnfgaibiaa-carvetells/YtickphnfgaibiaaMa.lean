import Derived.Test.YtickphnfgaibiaaVe
import Derived.Test.YtickphnfgaibiaaGa
import Derived.Maps.AppendAt
import Derived.Great.BuildSlice
import Derived.Great.FillDense
import Derived.Test.YtickphnfgaibiaaVb
import Derived.Test.YtickphnfgaibiaaQh
import Derived.Test.YtickphnfgaibiaaTh
import Derived.Test.YtickphnfgaibiaaQf
import Derived.Test.YtickphnfgaibiaaHg
import Derived.Test.YtickphnfgaibiaaQe
import Derived.Test.YtickphnfgaibiaaQk
namespace Go.Proofs.Ytickphnfgaibiaa
section
open Go Go.RowKit
set_option linter.unusedVariables false
set_option linter.unusedSimpArgs false

theorem infoC : (Try.prog.info? 28).map (fun i => (i.zero, i.size, i.bytes)) = some (some (.agg (tdc z24q).toArray), 96, 768) := by kernel_rfl
/-- a slice literal of one array -/
theorem wpList_build1 {P : Program} {ops : Array Oper} {rest : List Oper} {o : Oper} {a : Act} {w : World} {Q : Exit → Act → World → Prop} (hg : o.guard = none) (t e : TypeId) (x : Operand) (ho : o.op = .buildSlice t 1 #[(0, x)])
    (cs : List Value) (z : Value) (n by' : Nat) (hx : a.eval x = .agg cs.toArray) (hu : P.underlying t = some (.slice e)) (hi : (P.info? e).map (fun i => (i.zero, i.size, i.bytes)) = some (some z, n, by')) (hz : z.cells.size = n) (hn : cs.length = n) (h0 : 0 < n) (h24 : n ≤ 2 ^ 24)
    (h : wpList P ops Q rest (a.put o.dst (.slice (some ⟨w.heap.size, 0, none⟩) 1 1)) (w.alloc (.cells cs.toArray e))) : wpList P ops Q (o :: rest) a w := by
  obtain ⟨i0, hi0, hz0, hz1, hz2⟩ := info_parts hi
  refine wpList_buildSlice hg t e 1 _ ho cs.toArray i0 z hu hi0 hz0 (by rw [hz1]; omega) (by rw [hz1]; omega) ?_ h
  have := Great.fill_whole (s := n) h0 [.agg cs.toArray] ((Array.range (1 * i0.size)).map (z.cells[· % z.cells.size]!)) (by simp [Value.cells, hn]) (by simp [hz1])
  rw [hz1] at this ⊢
  simpa [hx, Value.cells] using this
/-- a box holds a slice whose row is the call's own: these cubes -/
def RowI (n0 Bx : Nat) (w : World) (R S : Nat → Prop) (pre : List (List Q4)) (W : World) : Prop :=
  (∀ k, S k → Bx < k ∧ k < W.heap.size) ∧ (∃ u, Boxed W Bx 47 u ∧ W.ownsRow (Bx + 1) 28 96 u pre.length (pre.flatMap tdc) ∧ ∀ g, u.ownBlock = some g → ¬ S g ∧ ¬ R g) ∧ Below n0 w W
theorem own_out {S : Nat → Prop} {w w' : World} {base : Nat} {e : TypeId} {size : Nat} {v : Value} {n : Nat} {xs : List Value} (h : Out S w w') (hg : ∀ g, v.ownBlock = some g → ¬ S g) (ho : w.ownsRow base e size v n xs) : w'.ownsRow base e size v n xs := by
  refine ⟨ho.1, ?_⟩
  rcases ho.2 with k | ⟨g, cap, cur, rfl, hb, hk, r⟩
  · exact .inl k
  · exact .inr ⟨g, cap, cur, rfl, hb, (h.block g (Array.getElem?_eq_some_iff.1 hk).1 (hg g rfl)).trans hk, r⟩
theorem own_lt {w : World} {base : Nat} {e : TypeId} {size : Nat} {v : Value} {n g : Nat} {xs : List Value} (ho : w.ownsRow base e size v n xs) (hg : v.ownBlock = some g) : base ≤ g ∧ g < w.heap.size := by
  rcases ho.2 with ⟨rfl, -⟩ | ⟨g', cap, cur, rfl, hb, hk, r⟩
  · cases hg
  · have e2 : g' = g := by simpa [Value.ownBlock] using hg
    subst e2; exact ⟨hb, (Array.getElem?_eq_some_iff.1 hk).1⟩
theorem RowI.out {n0 Bx : Nat} {w A A' : World} {R S : Nat → Prop} {pre : List (List Q4)} (h : RowI n0 Bx w R S pre A) (ho : Out S A A') (hn : n0 ≤ Bx) (hw : n0 ≤ w.heap.size) : RowI n0 Bx w R S pre A' := by
  obtain ⟨hS, ⟨u, hu, hr, hg⟩, hb⟩ := h
  refine ⟨fun k hk => ⟨(hS k hk).1, Nat.lt_of_lt_of_le (hS k hk).2 ho.size⟩, ⟨u, ?_, own_out ho (fun g e => (hg g e).1) hr, hg⟩, ho.below hb hw (fun k hk => by have := (hS k hk).1; omega)⟩
  exact (ho.block Bx hu.lt (fun e => by have := (hS _ e).1; omega)).trans hu
theorem RowI.grow {n0 Bx : Nat} {w A A' : World} {R S : Nat → Prop} {pre : List (List Q4)} (h : RowI n0 Bx w R S pre A) (ho : Below A.heap.size A A') (hn : n0 ≤ Bx) (hw : n0 ≤ w.heap.size) : RowI n0 Bx w R (Grow S A A') pre A' := by
  obtain ⟨hS, ⟨u, hu, hr, hg⟩, hb⟩ := h
  have hl := hu.lt
  have hsz := ho.size
  refine ⟨fun k hk => ?_, ⟨u, ?_, ?_, fun g e => ⟨?_, (hg g e).2⟩⟩, hb.trans (ho.mono (by have := hb.size; omega))⟩
  · rcases hk with hk | hk
    · have := hS k hk; omega
    · omega
  · exact (ho.block Bx hl).trans hu
  · exact own_out (Out.of_below (S := S) ho) (fun g e => (hg g e).1) hr
  · rintro (hk | hk)
    · exact (hg g e).1 hk
    · have := own_lt hr e; omega
theorem RowI.push {n0 Bx : Nat} {w W w1 : World} {R S : Nat → Prop} {pre : List (List Q4)} {x : List Q4} {u v' : Value} {tmp : Obj} (hS : ∀ k, S k → Bx < k ∧ k < W.heap.size) (hu : Boxed W Bx 47 u) (hr : W.ownsRow (Bx + 1) 28 96 u pre.length (pre.flatMap tdc)) (hg : ∀ g, u.ownBlock = some g → ¬ S g ∧ ¬ R g) (hb : Below n0 w W)
    (hn : n0 ≤ Bx) (hw : n0 ≤ w.heap.size) (hR : ∀ k, R k → k < W.heap.size ∧ k ≠ Bx)
    (hown : w1.ownsRow (Bx + 1) 28 96 v' (pre.length + 1) (pre.flatMap tdc ++ tdc x)) (hgrow : (W.alloc tmp).grownBy w1 u.ownBlock) (hat : v'.ownBlock = u.ownBlock ∨ v'.ownBlock = some (W.alloc tmp).heap.size) :
    Boxed w1 Bx 47 u ∧ Keep (Both R S) W (w1.setCell ⟨Bx, 0, none⟩ v') ∧ RowI n0 Bx w R S (pre ++ [x]) (w1.setCell ⟨Bx, 0, none⟩ v') := by
  have hl := hu.lt
  have hne : some Bx ≠ u.ownBlock := fun e => by have := (own_lt hr e.symm).1; omega
  have hv1 : Boxed w1 Bx 47 u := (hu.alloc tmp).kept hgrow hne
  have hs1 : W.heap.size + 1 ≤ w1.heap.size := by have := hgrow.size; simpa using this
  have hne' : v'.ownBlock ≠ some Bx := fun e => by have := (own_lt hown e).1; omega
  refine ⟨hv1, ⟨by simp [World.setCell]; omega, fun k hk => ?_⟩, fun k hk => ⟨(hS k hk).1, by simp [World.setCell]; have := (hS k hk).2; omega⟩, ⟨v', hv1.set v', ?_, fun g e => ?_⟩, ?_⟩
  · have hk1 : k < W.heap.size ∧ k ≠ Bx ∧ u.ownBlock ≠ some k := by
      rcases hk with hk | hk
      · exact ⟨(hR k hk).1, (hR k hk).2, fun e => (hg k e).2 hk⟩
      · exact ⟨(hS k hk).2, by have := (hS k hk).1; omega, fun e => (hg k e).1 hk⟩
    rw [Below.heap_setCell _ _ _ _ hk1.2.1, hgrow.block k (by simp; omega) (fun e => hk1.2.2 e.symm), Below.heap_alloc _ _ _ hk1.1]
  · have := own_set (o := 0) hown hne' v'
    simpa using this
  · rcases hat with hat | hat
    · exact hg g (hat ▸ e)
    · rw [hat] at e
      have e2 : W.heap.size + 1 = g := by simpa using e
      refine ⟨fun h => by have := (hS g h).2; omega, fun h => by have := (hR g h).1; omega⟩
  · refine (hb.trans ((Below.refl n0 W).alloc (by have := hb.size; omega) tmp)).trans ?_
    refine ((Below.refl n0 _).grown hgrow (by have := hb.size; simp; omega) (fun k e => by have := (own_lt hr e).1; omega)).setCell (p := ⟨Bx, 0, none⟩) hn _
theorem noOut {K : Act → World → Prop} : ¬ LetsOut (Exit.then K (fun _ _ _ => False)) := fun ⟨_, _, h⟩ => h
theorem noOutP {α : Type} {R S : Nat → Prop} {I : (Nat → Prop) → List α → World → Prop} {Ix : Code → (Nat → Prop) → List α → World → Prop} {xs : List α} {W : World} : ¬ LetsOut (postX R S I Ix xs W) := fun ⟨_, _, h⟩ => h
theorem noOutB {id : Nat} {Q : Exit → Act → World → Prop} (h : ¬ LetsOut Q) : ¬ LetsOut (Exit.inBlock id Q) := fun ⟨a, w, k⟩ => h ⟨a, w, k⟩
theorem pre_mem {α : Type} {pre L : List α} {x : α} (h : pre ++ [x] <+: L) : x ∈ L ∧ pre.length + 1 ≤ L.length := by
  obtain ⟨r, rfl⟩ := h
  exact ⟨by simp, by simp⟩
theorem news_alloc (W : World) (cs : List Value) (e : TypeId) : ∀ j u, cs[j]? = some u → (W.alloc (.cells cs.toArray e)).cell? ((⟨W.heap.size, 0, none⟩ : Addr).add j) = some u := by
  intro j u hu
  rw [Addr.add_lit, World.cell?_alloc_new]
  simpa using hu
theorem szC0 : (tdc z24q).length = 96 := by rw [tdc_length, z24q_len]
theorem lenC {l : List Q4} (h : isC l) : (tdc l).length = 96 := by rw [tdc_length, h.1]
theorem noOutT {K : Act → World → Prop} {Q : Exit → Act → World → Prop} (h : ¬ LetsOut Q) : ¬ LetsOut (Exit.then K Q) := fun ⟨a, w, k⟩ => h ⟨a, w, k⟩

set_option maxRecDepth 100000 in
set_option maxHeartbeats 4000000 in
theorem appendSeq_any (v : Value) (L : List (List Q4)) (R : Nat → Prop) (w : World) (hs : IsSeq Try.prog v (fun x => #[cv x]) L R w) (hR : ∀ k, R k → k < w.heap.size) (hL : ∀ x ∈ L, isC x) (hn : L.length ≤ 100000) :
    Calls Try.prog 73 #[.slice none 0 0, v] w fun e w' => ∃ u, e = .returned u ∧ w'.ownsRow w.heap.size 28 96 u L.length (L.flatMap tdc) ∧ Below w.heap.size w w' := by
  refine calls_of_wp_marks Try.func73 rfl ?_
  simp only [Try.ntmps73, List.size_toArray, List.length_cons, List.length_nil, Nat.reduceAdd, Nat.reduceSub, Array.replicate_succ, Array.replicate_zero, List.push_toArray, List.append_toArray, List.nil_append, List.cons_append]
  go_wp2_with fail
  have bw := below1 w (.cells #[.slice none 0 0] 47)
  refine wp_rangeX (α := List Q4) (v := v) (by rfl) hs (fun k hk => by have := hR k hk; simp; omega) bw (fun _ => rfl)
    (fun S pre W => RowI w.heap.size w.heap.size w R S pre W) (fun _ _ _ _ => False)
    (fun S x a' W => ∃ Bv, AB W Bv 28 (tdc x) ∧ ¬ S Bv ∧ a' = { tmps := #[.slice none 0 0, v, .pointer (some ⟨w.heap.size, 0, none⟩), undef, .slice none 0 0, .pointer (some ⟨Bv, 0, none⟩), v, .agg (tdc x).toArray, undef, undef, undef, undef, undef], defers := [] })
    (fun S pre A A' h ho => h.out ho (Nat.le_refl _) (Nat.le_refl _)) (fun S pre A A' h ho => h.grow ho (Nat.le_refl _) (Nat.le_refl _)) (fun _ _ _ _ _ h _ => h)
    (fun S x a' A A' ⟨Bv, h1, h2, h3⟩ ho => ⟨Bv, (ho.block Bv h1.lt h2).trans h1, h2, h3⟩)
    ?start ?assign ?body ?done (fun _ _ _ _ _ _ _ _ h => h.elim)
  case start =>
    intro W hb hsz
    have hlt : w.heap.size < (w.alloc (.cells #[.slice none 0 0] 47)).heap.size := by simp
    refine ⟨fun k hk => ?_, ⟨.slice none 0 0, (hb.block _ hlt).trans (Boxed.new w 47 _), World.ownsRow_nil _ _ _ _, fun g e => by cases e⟩, bw.trans (hb.mono bw.size)⟩
    rcases hk with hk | hk
    · exact hk.elim
    · simp at hk hsz; omega
  case assign =>
    intro l S pre x W hpre hi
    have hx := hL x (pre_mem hpre).1
    have HZ : Hid (AB (W.alloc (.cells Try.zeroCells28 28)) W.heap.size 28 (tdc z24q)) := hide_ (by rw [zcC]; exact AB.at0 W 28 (tdc z24q))
    have hlx := hide_ hx.1
    have HI := hide_ hi
    clear hi hx
    refine wpIn_region_of noOut rfl ?_
    unfold cv
    go_wp2_with (refine wpList_storeA rfl (.tmp 5) (.tmp 7) rfl W.heap.size (by simp [Act.eval, Act.put]) (tdc z24q) (tdc x) (by rw [tdc_length, tdc_length, hlx.out, z24q_len]) (szC hlx.out) (tdc_one _) (by simp [Act.eval, Act.put]) HZ.out ?_)
    have hbW : Below W.heap.size W ((W.alloc (.cells Try.zeroCells28 28)).setRow W.heap.size (tdc x).toArray) := (below1 W (.cells Try.zeroCells28 28)).trans (below_row _ W.heap.size _ _ (Nat.le_refl _))
    refine ⟨Keep.of_below hbW (fun k hk => ?_), HI.out.out (Out.of_below hbW) (Nat.le_refl _) (Nat.le_refl _), W.heap.size, HZ.out.row, fun h => ?_, rfl⟩
    · rcases hk with hk | hk
      · exact Nat.lt_of_lt_of_le (hR k hk) HI.out.2.2.size
      · exact (HI.out.1 k hk).2
    · have := (HI.out.1 _ h).2; omega
  case body =>
    rintro l S pre x a' W hpre ⟨hS, ⟨u, hu, hr, hg⟩, hb⟩ ⟨Bv, hBv, hnS, rfl⟩
    have hx := hL x (pre_mem hpre).1
    have hlen := (pre_mem hpre).2
    have hlx := hide_ hx.1
    have hc0 := hu.cell
    obtain ⟨i0, hi0, hz0, hz1, hz2⟩ := info_parts infoC
    have HI : Hid (Try.prog.info? 28 = some i0 ∧ i0.zero = some (.agg (tdc z24q).toArray) ∧ i0.size = 96 ∧ i0.bytes = 768) := hide_ ⟨hi0, hz0, hz1, hz2⟩
    have HSS := hide_ hS
    have HU := hide_ hu
    have HR := hide_ hr
    have HG := hide_ hg
    have HB := hide_ hb
    have HBv := hide_ hBv
    have HRB : Hid (∀ k, R k → k < W.heap.size ∧ k ≠ w.heap.size) := hide_ (fun k hk => by have := hR k hk; have := hu.lt; omega)
    clear hS hu hr hg hb hBv hi0 hz0 hz1 hz2 hx
    refine wpIn_block ?_
    refine wpIn_region_of (noOutB noOutP) rfl ?_
    go_wp2_with (first | (refine wpList_loadA Try.underlying28 rfl (.tmp 5) rfl Bv (by simp [Act.eval, Act.put]) (tdc x) (szC hlx.out) HBv.out ?_) | (refine wpList_build1 rfl 47 28 (.tmp 9) rfl (tdc x) (.agg (tdc z24q).toArray) 96 768 (by simp [Act.eval, Act.put]) Try.underlying47 infoC (by simp [Value.cells, szC0]) (by rw [tdc_length, hlx.out]) (by decide) (by decide) ?_) | (at_builtin; refine wpList_append_own_at _ rfl (.tmp 8) (.tmp 10) 47 rfl (w.heap.size + 1) 28 i0 (.agg (tdc z24q).toArray) 96 768 Try.underlying47 HI.out.1 HI.out.2.1 HI.out.2.2.1 HI.out.2.2.2 (by simp [Value.cells, szC0]) (by decide) u pre.length (pre.flatMap tdc) (by simp [Act.eval, Act.put]) (HR.out.alloc _) ⟨W.heap.size, 0, none⟩ 1 1 (tdc x) (by simp [Act.eval, Act.put]) (by rw [tdc_length, hlx.out]) (news_alloc _ _ _) (tdc_one _) (by unfold maxLen; omega) (by omega) (by have := HU.out.lt; simp; omega) ?_; intro v1 w1 ho1 hgrow hnil hat; obtain ⟨g', cap', rfl⟩ := ownsRow_succ ho1; obtain ⟨hv1, hkeep, hrow⟩ := RowI.push HSS.out HU.out HR.out HG.out HB.out (Nat.le_refl _) (Nat.le_refl _) HRB.out ho1 hgrow hat; have hc1 := hv1.cell; have hf1 := hv1.frozen; have hv1 := hide_ hv1; have hkeep := hide_ hkeep; have hrow := hide_ hrow; clear ho1 hgrow hnil hat))
    exact ⟨hkeep.out, hrow.out⟩
  case done =>
    rintro D S W hD hSD ⟨hS, ⟨u, hu, hr, hg⟩, hb⟩ hK
    have hc := hu.cell
    have HK := hide_ hK
    have HR := hide_ (ownsRow_mono (own_out (Out.putObj (.deferred none) hSD) (fun g e => (hg g e).1) hr) (Nat.le_succ _))
    have HB := hide_ ((Out.putObj (.deferred none) hSD).below hb (Nat.le_refl _) (fun k hk => by have := (hS k hk).1; omega))
    clear hK hr hb hg hu hS
    go_wp2_with fail
    exact marksR (marks_ret HK.out (results_tmp rfl _ _ _) ⟨u, rfl, HR.out, HB.out⟩)

set_option maxRecDepth 100000 in
set_option maxHeartbeats 1000000 in
theorem collect_any (v : Value) (L : List (List Q4)) (R : Nat → Prop) (w : World) (hs : IsSeq Try.prog v (fun x => #[cv x]) L R w) (hR : ∀ k, R k → k < w.heap.size) (hL : ∀ x ∈ L, isC x) (hn : L.length ≤ 100000) :
    Calls Try.prog 62 #[v] w fun e w' => ∃ u, e = .returned u ∧ w'.ownsRow w.heap.size 28 96 u L.length (L.flatMap tdc) ∧ Below w.heap.size w w' := by
  have q := hide_ (appendSeq_any v L R w hs hR hL hn)
  clear hs hR hL hn
  go_enter Try.func62, Try.ntmps62
  go_wp2_with (go_at_call 73; refine q.out.mono ?_; rintro e w1 ⟨u, rfl, ho, b1⟩; have ho := hide_ ho; have b1 := hide_ b1)
  go_ret
  exact ⟨u, rfl, ho.out, b1.out⟩

set_option maxRecDepth 100000 in
set_option maxHeartbeats 1000000 in
theorem clist_any (a b : List Q4) (ha : isC a) (hb : isC b) (w : World) :
    Calls Try.prog 33 #[cv a, cv b] w fun e w' => ∃ u, e = .returned u ∧ w'.ownsRow w.heap.size 28 96 u (partsC a b).length ((partsC a b).flatMap tdc) ∧ Below w.heap.size w w' := by
  have q0 := hide_ (fun w => parts_any a b ha hb w)
  have hla := hide_ ha.1
  have hlb := hide_ hb.1
  have HL := hide_ (partsC_isC a b ha)
  have HN := hide_ (partsC_len a b)
  have A0 := hide_ ((AB.at0 w 28 (tdc a)).alloc (.cells (tdc b).toArray 28))
  have C0 := hide_ (AB.at1 w (.cells (tdc a).toArray 28) 28 (tdc b))
  have B0 := hide_ (below2 w (.cells (tdc a).toArray 28) (.cells (tdc b).toArray 28))
  generalize partsC a b = L at *
  unfold cv at *
  clear ha hb
  go_enter Try.func33, Try.ntmps33
  go_wp2_with (first | (refine wpList_loadA Try.underlying28 rfl (.tmp 2) rfl w.heap.size (by simp [Act.eval, Act.put]) (tdc a) (szC hla.out) A0.out ?_) | (refine wpList_loadA Try.underlying28 rfl (.tmp 3) rfl (w.heap.size + 1) (by simp [Act.eval, Act.put]) (tdc b) (szC hlb.out) C0.out ?_) | (go_at_call 30; refine (q0.out _).mono ?_; rintro e w1 ⟨v, rfl, hs, b1⟩; have hs := hide_ hs; have b1 := hide_ b1) | (go_at_call 62; refine (collect_any v L _ w1 hs.out (fun k hk => hk.2) HL.out (by have := HN.out; omega)).mono ?_; rintro e w2 ⟨u, rfl, ho, b2⟩; have ho := hide_ ho; have b2 := hide_ b2))
  go_ret
  have k1 := B0.out.trans (b1.out.mono B0.out.size)
  exact ⟨u, rfl, ownsRow_mono ho.out k1.size, k1.trans (b2.out.mono k1.size)⟩
end

section
open Go Go.RowKit
set_option linter.unusedVariables false
set_option linter.unusedSimpArgs false

theorem half_bits (v m x : Nat) (hm : m < 18446744073709551616) : ((v ^^^ x) &&& m == 0) = true ↔ ∀ i, i < 64 → m.testBit i = true → v.testBit i = x.testBit i := by
  rw [beq_iff_eq, tb_has]
  constructor
  · exact fun h i _ hi => h i hi
  · intro h i hi
    by_cases k : i < 64
    · exact h i k hi
    · rw [tb_high m i hm (by omega)] at hi; cases hi
theorem thz_bits (a b c d x y : Nat) (hc : c < 18446744073709551616) (hd : d < 18446744073709551616) : thz a b c d x y = true ↔ ∀ i, i < 128 → hasb c d i = true → hasb a b i = hasb x y i := by
  unfold thz
  rw [Bool.and_eq_true, half_bits a c x hc, half_bits b d y hd]
  constructor
  · rintro ⟨h1, h2⟩ i hi hm
    by_cases k : i < 64
    · rw [hasb_lo _ _ _ k] at hm ⊢
      rw [hasb_lo _ _ _ k]; exact h2 i k hm
    · rw [hasb_hi _ _ _ k] at hm ⊢
      rw [hasb_hi _ _ _ k]; exact h1 (i - 64) (by omega) hm
  · intro h
    constructor
    · intro i hi hm
      have := h (i + 64) (by omega)
      rw [hasb_hi _ _ _ (by omega), hasb_hi _ _ _ (by omega), hasb_hi _ _ _ (by omega), Nat.add_sub_cancel] at this
      exact this hm
    · intro i hi hm
      have := h i (by omega)
      rw [hasb_lo _ _ _ hi, hasb_lo _ _ _ hi, hasb_lo _ _ _ hi] at this
      exact this hm
theorem hasb_and (c d c2 d2 i : Nat) : hasb (c &&& c2) (d &&& d2) i = (hasb c d i && hasb c2 d2 i) := by
  unfold hasb; split <;> rw [Nat.testBit_and]
theorem hasb_or (c d c2 d2 i : Nat) : hasb (c ||| c2) (d ||| d2) i = (hasb c d i || hasb c2 d2 i) := by
  unfold hasb; split <;> rw [Nat.testBit_or]
theorem mok_bits {q r : Q4} (h : mok4 q r = true) (h3 : q.2.2.1 < 18446744073709551616) (h4 : q.2.2.2 < 18446744073709551616) (i : Nat) (hi : i < 128) (m1 : hasb q.2.2.1 q.2.2.2 i = true) (m2 : hasb r.2.2.1 r.2.2.2 i = true) : hasb q.1 q.2.1 i = hasb r.1 r.2.1 i := by
  have h' : thz q.1 q.2.1 (q.2.2.1 &&& r.2.2.1) (q.2.2.2 &&& r.2.2.2) r.1 r.2.1 = true := h
  rw [thz_bits _ _ _ _ _ _ (and_lt _ _ h3) (and_lt _ _ h4)] at h'
  exact h' i hi (by rw [hasb_and, m1, m2]; rfl)
theorem fall_nodup (p : Nat → Bool) : ∀ k, (fall p k).Nodup
  | 0 => List.nodup_nil
  | k + 1 => by
    unfold fall
    split
    · refine List.nodup_cons.2 ⟨fun h => ?_, fall_nodup p k⟩
      have := ((fall_mem p k k).1 h).1
      omega
    · exact fall_nodup p k
/-- whether a value has a bit as a tern's value has it -/
def agr (r : Q4) (p : Nat × Nat) (i : Nat) : Bool := hasb p.1 p.2 i == onq r i
theorem fixq_has (q : Q4) (p : Nat × Nat) (i : Nat) (on : Bool) (hi : i < 128) (hq : q.1 < 18446744073709551616 ∧ q.2.1 < 18446744073709551616 ∧ q.2.2.1 < 18446744073709551616 ∧ q.2.2.2 < 18446744073709551616) (hp : p.1 < 18446744073709551616 ∧ p.2 < 18446744073709551616) (hfree : hasb q.2.2.1 q.2.2.2 i = false) :
    thz4 (fixq q i on) p = ((hasb p.1 p.2 i == on) && thz4 q p) := by
  have e := fix_free q.1 q.2.1 q.2.2.1 q.2.2.2 p.1 p.2 i hi hq.1 hq.2.1 hq.2.2.1 hq.2.2.2 hp.1 hp.2 hfree
  cases on
  · have := fix_off q.1 q.2.1 q.2.2.1 q.2.2.2 p.1 p.2 i hi hq.1 hq.2.1 hq.2.2.1 hq.2.2.2 hp.1 hp.2
    rw [e] at this
    show thz _ _ _ _ _ _ = _
    refine this.trans ?_
    cases hasb p.1 p.2 i <;> rfl
  · have := fix_on q.1 q.2.1 q.2.2.1 q.2.2.2 p.1 p.2 i hi hq.1 hq.2.1 hq.2.2.1 hq.2.2.2 hp.1 hp.2
    rw [e] at this
    show thz _ _ _ _ _ _ = _
    refine this.trans ?_
    cases hasb p.1 p.2 i <;> rfl
theorem cq_set_same {l : List Q4} {f : Nat} (q : Q4) (hf : f < l.length) : cq (l.set f q) f = q := cq_at (List.getElem?_set_self hf)
theorem cq_set_ne {l : List Q4} {f k : Nat} (q : Q4) (h : f ≠ k) : cq (l.set f q) k = cq l k := by
  unfold cq; rw [List.getD_eq_getElem?_getD, List.getD_eq_getElem?_getD, List.getElem?_set_ne h]
theorem hasC_set (l : List Q4) (v : List (Nat × Nat)) (f : Nat) (q : Q4) (z : Bool) (hl : l.length = 24) (hf : f < 24) (h : thz4 q (wq v f) = (z && thz4 (cq l f) (wq v f))) : hasC (l.set f q) v = (z && hasC l v) := by
  unfold hasC
  cases z
  · rw [Bool.false_and] at h ⊢
    exact allB_false hf (by rw [cq_set_same q (by omega)]; exact h)
  · rw [Bool.true_and] at h ⊢
    refine allB_congr (fun k hk => ?_)
    by_cases e : f = k
    · subst e; rw [cq_set_same q (by omega)]; exact h
    · rw [cq_set_ne q e]
theorem wq_lt {v : List (Nat × Nat)} (hv : isH v) {k : Nat} (hk : k < 24) : (wq v k).1 < 18446744073709551616 ∧ (wq v k).2 < 18446744073709551616 := by
  obtain ⟨x, y, e, h1, h2⟩ := hv.get hk
  rw [wq_at e]; exact ⟨h1, h2⟩
/-- how many of some cubes have a header -/
def cntH (L : List (List Q4)) (v : List (Nat × Nat)) : Nat := (L.filter (fun c => hasC c v)).length
theorem cntH_cons (x : List Q4) (L : List (List Q4)) (v : List (Nat × Nat)) : cntH (x :: L) v = (match hasC x v with | true => 1 | false => 0) + cntH L v := by
  unfold cntH
  rw [List.filter_cons]
  cases hasC x v <;> simp; omega
theorem cntH_app (K L : List (List Q4)) (v : List (Nat × Nat)) : cntH (K ++ L) v = cntH K v + cntH L v := by
  unfold cntH; rw [List.filter_append, List.length_append]
def one (z : Bool) : Nat := match z with | true => 1 | false => 0
theorem bits_count (r : Q4) (f : Nat) (v : List (Nat × Nat)) (hv : isH v) (hf : f < 24) : ∀ (is : List Nat) (l : List Q4), isC l → is.Nodup → (∀ i ∈ is, i < 128 ∧ hasb (cq l f).2.2.1 (cq l f).2.2.2 i = false) →
    cntH (bitsP r f is l) v = one (hasC l v && !(is.all (agr r (wq v f)))) ∧ hasC (bitsL r f is l) v = (hasC l v && is.all (agr r (wq v f))) ∧ (∀ k, k ≠ f → cq (bitsL r f is l) k = cq l k) ∧ isC (bitsL r f is l)
  | [], l, hl, _, _ => ⟨by simp [bitsP, cntH, one], by simp [bitsL], fun _ _ => rfl, hl⟩
  | i :: is, l, hl, hd, h => by
    have hi := h i List.mem_cons_self
    have hd' := List.nodup_cons.1 hd
    have hq := cq_lt hl hf
    have hp := wq_lt hv hf
    have e1 : ∀ on, hasC (putq l f i on) v = ((hasb (wq v f).1 (wq v f).2 i == on) && hasC l v) := fun on =>
      hasC_set l v f _ _ hl.1 hf (fixq_has (cq l f) (wq v f) i on hi.1 hq hp hi.2)
    have hc' : isC (putq l f i (onq r i)) := putq_isC hl hf hi.1 _
    have hfree : ∀ j ∈ is, j < 128 ∧ hasb (cq (putq l f i (onq r i)) f).2.2.1 (cq (putq l f i (onq r i)) f).2.2.2 j = false := fun j hj => by
      have hj' := h j (List.mem_cons_of_mem _ hj)
      refine ⟨hj'.1, ?_⟩
      unfold putq
      rw [cq_set_same _ (by rw [hl.1]; exact hf)]
      show hasb (_ ||| bh i) (_ ||| bl i) j = false
      rw [hasb_or, hj'.2, bit_hasb i j hi.1 hj'.1, decide_eq_false (fun e : j = i => hd'.1 (e ▸ hj))]
      rfl
    obtain ⟨k1, k2, k3, k4⟩ := bits_count r f v hv hf is (putq l f i (onq r i)) hc' hd'.2 hfree
    refine ⟨?_, ?_, ?_, k4⟩
    · show cntH (putq l f i (!onq r i) :: bitsP r f is (putq l f i (onq r i))) v = _
      rw [cntH_cons, k1, e1, e1, List.all_cons]
      unfold agr
      cases hasb (wq v f).1 (wq v f).2 i <;> cases onq r i <;> cases hasC l v <;> cases (is.all _) <;> rfl
    · show hasC (bitsL r f is (putq l f i (onq r i))) v = _
      rw [k2, e1, List.all_cons]
      unfold agr
      cases hasb (wq v f).1 (wq v f).2 i <;> cases onq r i <;> cases hasC l v <;> cases (is.all _) <;> rfl
    · intro k hk
      show cq (bitsL r f is (putq l f i (onq r i))) k = _
      rw [k3 k hk]
      exact cq_set_ne _ (fun e => hk e.symm)
theorem fields_count (a b : List Q4) (v : List (Nat × Nat)) (hv : isH v) (ha : isC a) (hb : isC b) : ∀ (fs : List Nat) (l : List Q4), isC l → fs.Nodup → (∀ f ∈ fs, f < 24 ∧ cq l f = clean4 (cq a f)) →
    cntH (fieldsP a b fs l) v = one (hasC l v && !(fs.all fun f => (bitsq (cq a f) (cq b f)).all (agr (cq b f) (wq v f))))
  | [], l, _, _, _ => by simp [fieldsP, cntH, one]
  | f :: fs, l, hl, hd, h => by
    have hf := h f List.mem_cons_self
    have hd' := List.nodup_cons.1 hd
    obtain ⟨k1, k2, k3, k4⟩ := bits_count (cq b f) f v hv hf.1 (bitsq (cq a f) (cq b f)) l hl (fall_nodup _ _) (fun i hi => by
      obtain ⟨h1, h2⟩ := (fall_mem _ 128 i).1 hi
      refine ⟨h1, ?_⟩
      rw [less_hasb _ _ _ _ i (cq_lt ha hf.1).2.2.1 (cq_lt ha hf.1).2.2.2 h1] at h2
      rw [hf.2]
      show hasb (cq a f).2.2.1 (cq a f).2.2.2 i = false
      cases hh : hasb (cq a f).2.2.1 (cq a f).2.2.2 i
      · rfl
      · rw [hh] at h2; simp at h2)
    have ih := fields_count a b v hv ha hb fs _ k4 hd'.2 (fun g hg => by
      have := h g (List.mem_cons_of_mem _ hg)
      refine ⟨this.1, ?_⟩
      rw [k3 g (fun e => hd'.1 (e ▸ hg))]
      exact this.2)
    rw [fieldsP, cntH_app, k1, ih, k2, List.all_cons]
    cases hasC l v <;> cases ((bitsq (cq a f) (cq b f)).all _) <;> cases (fs.all _) <;> rfl
theorem clean_hasC (a : List Q4) (v : List (Nat × Nat)) : hasC (cleanC a) v = hasC a v := by
  unfold hasC
  refine allB_congr (fun k hk => ?_)
  rw [cq_at (cleanC_at a k hk)]
  show thz ((cq a k).1 &&& (cq a k).2.2.1) ((cq a k).2.1 &&& (cq a k).2.2.2) (cq a k).2.2.1 (cq a k).2.2.2 _ _ = thz _ _ _ _ _ _
  have t : ∀ x m y : Nat, ((x &&& m) ^^^ y) &&& m = (x ^^^ y) &&& m := fun x m y => by
    apply Nat.eq_of_testBit_eq
    intro i
    rw [Nat.testBit_and, Nat.testBit_xor, Nat.testBit_and, Nat.testBit_and, Nat.testBit_xor]
    cases x.testBit i <;> cases m.testBit i <;> cases y.testBit i <;> rfl
  unfold thz
  rw [t, t]
theorem field_agr (q r : Q4) (p : Nat × Nat) (hq : q.2.2.1 < 18446744073709551616 ∧ q.2.2.2 < 18446744073709551616) (hr : r.2.2.1 < 18446744073709551616 ∧ r.2.2.2 < 18446744073709551616) (hm : mok4 q r = true) (h : thz4 q p = true) : (bitsq q r).all (agr r p) = thz4 r p := by
  have h' := (thz_bits _ _ _ _ _ _ hq.1 hq.2).1 h
  rw [Bool.eq_iff_iff, List.all_eq_true]
  show _ ↔ thz _ _ _ _ _ _ = true
  rw [thz_bits _ _ _ _ _ _ hr.1 hr.2]
  constructor
  · intro k i hi hmr
    cases hma : hasb q.2.2.1 q.2.2.2 i
    · have : i ∈ bitsq q r := (fall_mem _ 128 i).2 ⟨hi, by rw [less_hasb _ _ _ _ i hq.1 hq.2 hi, hma, hmr]; rfl⟩
      have := k i this
      unfold agr onq at this
      rw [beq_iff_eq] at this
      exact this.symm
    · rw [← mok_bits hm hq.1 hq.2 i hi hma hmr]; exact h' i hi hma
  · intro k i hi
    obtain ⟨h1, h2⟩ := (fall_mem _ 128 i).1 hi
    rw [less_hasb _ _ _ _ i hq.1 hq.2 h1, Bool.and_eq_true] at h2
    unfold agr onq
    rw [beq_iff_eq]
    exact (k i h1 h2.1).symm
theorem parts_count (a b : List Q4) (v : List (Nat × Nat)) (ha : isC a) (hb : isC b) (hv : isH v) : cntH (partsC a b) v = one (hasC a v && !hasC b v) := by
  cases hok : okC a b
  · rw [partsC_no hok, cntH_cons, clean_hasC]
    have := meetC_rel a b v
    rw [hok, Bool.false_and] at this
    revert this
    cases hasC a v <;> cases hasC b v <;> simp [cntH, one]
  · rw [partsC_ok hok, fields_count a b v hv ha hb _ _ (cleanC_isC a ha) (List.nodup_range' ..) (fun f hf => by
      have : f < 24 := by simp at hf; omega
      exact ⟨this, cq_at (cleanC_at a f this)⟩), clean_hasC]
    cases h : hasC a v
    · rfl
    · congr 3
      rw [Bool.eq_iff_iff, List.all_eq_true]
      have e : ∀ f, f < 24 → (bitsq (cq a f) (cq b f)).all (agr (cq b f) (wq v f)) = thz4 (cq b f) (wq v f) := fun f hf =>
        field_agr _ _ _ ⟨(cq_lt ha hf).2.2.1, (cq_lt ha hf).2.2.2⟩ ⟨(cq_lt hb hf).2.2.1, (cq_lt hb hf).2.2.2⟩ (allB_at (p := fun k => mok4 (cq a k) (cq b k)) hok hf) (allB_at (p := fun k => thz4 (cq a k) (wq v k)) h hf)
      constructor
      · intro k
        exact allB_intro (fun f hf => by rw [← e f hf]; exact k f (by simp; omega))
      · intro k f hf
        have hf : f < 24 := by simp at hf; omega
        rw [e f hf]; exact allB_at (p := fun f => thz4 (cq b f) (wq v f)) k hf
end

section
open Go Go.RowKit
set_option linter.unusedVariables false
set_option linter.unusedSimpArgs false

/-- a box holds how many have come -/
def CntI (n0 Bx : Nat) (w : World) (S : Nat → Prop) (pre : List (List Q4)) (W : World) : Prop :=
  (∀ k, S k → Bx < k) ∧ Boxed W Bx 3 (.int .i64 (pre.length : Int)) ∧ Below n0 w W
theorem CntI.out {n0 Bx : Nat} {w A A' : World} {S : Nat → Prop} {pre : List (List Q4)} (h : CntI n0 Bx w S pre A) (ho : Out S A A') (hn : n0 ≤ Bx) (hw : n0 ≤ w.heap.size) : CntI n0 Bx w S pre A' := by
  obtain ⟨hS, hu, hb⟩ := h
  exact ⟨hS, (ho.block Bx hu.lt (fun e => by have := hS _ e; omega)).trans hu, ho.below hb hw (fun k hk => by have := hS k hk; omega)⟩
theorem CntI.grow {n0 Bx : Nat} {w A A' : World} {S : Nat → Prop} {pre : List (List Q4)} (h : CntI n0 Bx w S pre A) (ho : Below A.heap.size A A') (hw : n0 ≤ w.heap.size) : CntI n0 Bx w (Grow S A A') pre A' := by
  obtain ⟨hS, hu, hb⟩ := h
  have hl := hu.lt
  refine ⟨fun k hk => ?_, (ho.block Bx hl).trans hu, hb.trans (ho.mono (by have := hb.size; omega))⟩
  rcases hk with hk | hk
  · exact hS k hk
  · omega

set_option maxRecDepth 100000 in
set_option maxHeartbeats 4000000 in
theorem cmany_any (a b : List Q4) (ha : isC a) (hb : isC b) (w : World) :
    Calls Try.prog 34 #[cv a, cv b] w fun e w' => e = .returned (.int .i64 ((partsC a b).length : Int)) ∧ Below w.heap.size w w' := by
  have q0 := hide_ (fun w => parts_any a b ha hb w)
  have hla := hide_ ha.1
  have hlb := hide_ hb.1
  have HL := hide_ (partsC_isC a b ha)
  have hn := partsC_len a b
  have A0 := hide_ (((AB.at0 w 28 (tdc a)).alloc (.cells (tdc b).toArray 28)).alloc (.cells #[.int .i64 0] 3))
  have C0 := hide_ ((AB.at1 w (.cells (tdc a).toArray 28) 28 (tdc b)).alloc (.cells #[.int .i64 0] 3))
  have N0 : Hid (Boxed (((w.alloc (.cells (tdc a).toArray 28)).alloc (.cells (tdc b).toArray 28)).alloc (.cells #[.int .i64 0] 3)) (w.heap.size + 1 + 1) 3 (.int .i64 0)) := hide_ (by have := Boxed.new ((w.alloc (.cells (tdc a).toArray 28)).alloc (.cells (tdc b).toArray 28)) 3 (.int .i64 0); simpa using this)
  have B0 := hide_ (below3 w (.cells (tdc a).toArray 28) (.cells (tdc b).toArray 28) (.cells #[.int .i64 0] 3))
  generalize partsC a b = L at *
  unfold cv at *
  clear ha hb
  refine calls_of_wp_marks Try.func34 rfl ?_
  simp only [Try.ntmps34, List.size_toArray, List.length_cons, List.length_nil, Nat.reduceAdd, Nat.reduceSub, Array.replicate_succ, Array.replicate_zero, List.push_toArray, List.append_toArray, List.nil_append, List.cons_append]
  go_wp2_with (first | (refine wpList_loadA Try.underlying28 rfl (.tmp 2) rfl w.heap.size (by simp [Act.eval, Act.put]) (tdc a) (szC hla.out) A0.out ?_) | (refine wpList_loadA Try.underlying28 rfl (.tmp 3) rfl (w.heap.size + 1) (by simp [Act.eval, Act.put]) (tdc b) (szC hlb.out) C0.out ?_) | (go_at_call 30; refine (q0.out _).mono ?_; rintro e w1 ⟨v, rfl, hs, b1⟩; have hs := hide_ hs; have b1 := hide_ b1))
  have bw : Below w.heap.size w w1 := B0.out.trans (b1.out.mono B0.out.size)
  have hN1 : Boxed w1 (w.heap.size + 1 + 1) 3 (.int .i64 0) := (b1.out.block _ N0.out.lt).trans N0.out
  have hRB : ∀ k, (((w.alloc (.cells (tdc a).toArray 28)).alloc (.cells (tdc b).toArray 28)).alloc (.cells #[.int .i64 0] 3)).heap.size ≤ k ∧ k < w1.heap.size → w.heap.size + 1 + 1 < k := fun k hk => by have := hk.1; simp at this; omega
  have hs1 := hs.out
  clear hs
  refine wp_rangeX (α := List Q4) (v := v) (by rfl) hs1 (fun k hk => hk.2) (Below.refl _ _) (fun _ => rfl)
    (fun S pre W => CntI w.heap.size (w.heap.size + 1 + 1) w S pre W) (fun _ _ _ _ => False)
    (fun S x a' W => a' = { tmps := #[.agg (tdc a).toArray, .agg (tdc b).toArray, .pointer (some ⟨w.heap.size, 0, none⟩), .pointer (some ⟨w.heap.size + 1, 0, none⟩), .int .i64 0, .pointer (some ⟨w.heap.size + 1 + 1, 0, none⟩), .agg (tdc a).toArray, .agg (tdc b).toArray, v, .agg (tdc x).toArray, undef, undef, undef], defers := [] })
    (fun S pre A A' h ho => h.out ho (by omega) (Nat.le_refl _)) (fun S pre A A' h ho => h.grow ho (Nat.le_refl _)) (fun _ _ _ _ _ h _ => h)
    (fun S x a' A A' h _ => h) ?start ?assign ?body ?done (fun _ _ _ _ _ _ _ _ h => h.elim)
  case start =>
    intro W hb hsz
    refine ⟨fun k hk => ?_, (hb.block _ hN1.lt).trans hN1, bw.trans (hb.mono bw.size)⟩
    rcases hk with hk | hk
    · exact hk.elim
    · have := hN1.lt; omega
  case assign =>
    intro l S pre x W hpre hi
    refine wpIn_skip ?_
    exact ⟨Keep.refl _ _, hi, by simp⟩
  case body =>
    rintro l S pre x a' W hpre ⟨hS, hu, hb⟩ rfl
    have hlen := (pre_mem hpre).2
    have hc0 := hu.cell
    have hf0 := hu.frozen
    have hw1 : IntKind.i64.wrap ((pre.length : Int) + 1) = (pre.length : Int) + 1 := by rw [IntKind.wrap_i64]; omega
    have HS := hide_ hS
    have HU := hide_ hu
    have HB := hide_ hb
    clear hS hu hb
    refine wpIn_block ?_
    refine wpIn_region_of (noOutB noOutP) rfl ?_
    go_wp2_with fail
    refine ⟨Keep.setCell (fun h => ?_) _, HS.out, ?_, HB.out.setCell (p := ⟨w.heap.size + 1 + 1, 0, none⟩) (by dsimp only; omega) _⟩
    · rcases h with h | h
      · have := hRB _ h; dsimp only at this; omega
      · have := HS.out _ h; dsimp only at this; omega
    · have := HU.out.set (.int .i64 ((pre.length : Int) + 1))
      simpa using this
  case done =>
    rintro D S W hD hSD ⟨hS, hu, hb⟩ hK
    have hc := hu.cell
    have HK := hide_ hK
    have HB := hide_ ((Out.putObj (.deferred none) hSD).below hb (Nat.le_refl _) (fun k hk => by have := hS k hk; omega))
    clear hK hb hu hS
    go_wp2_with fail
    exact marksR (marks_ret HK.out (results_tmp rfl _ _ _) ⟨rfl, HB.out⟩)
end

section
open Go Go.RowKit
set_option linter.unusedVariables false
set_option linter.unusedSimpArgs false

def b7 : List Q4 := z24q.set 0 (0, 1, 0, 3)
theorem b7_isC : isC b7 := isC_of _ (by decide +kernel)
theorem aw7_facts : (partsC z24q b7).length = 2 ∧ (partsC z24q b7)[0]?.bind (·[0]?) = some (0, 2, 0, 2) ∧ (partsC b7 b7).length = 0 := by
  refine ⟨by decide +kernel, by decide +kernel, by decide +kernel⟩
theorem own_at {w : World} {base : Nat} {e : TypeId} {size : Nat} {v x : Value} {n j : Nat} {xs : List Value} (h : w.ownsRow base e size v n xs) (hj : xs[j]? = some x) : ∃ g cap, v = .slice (some ⟨g, 0, none⟩) n cap ∧ base ≤ g ∧ w.cell? ⟨g, j, none⟩ = some x := by
  have hl := h.1
  have hjl : j < xs.length := (List.getElem?_eq_some_iff.1 hj).1
  rcases h.2 with ⟨rfl, rfl⟩ | ⟨g, cap, cur, rfl, hb, hg, h1, h2, h3, h4⟩
  · omega
  · refine ⟨g, cap, rfl, hb, ?_⟩
    rw [cell_of_row w g j _ e _ hg]
    rw [← h4, List.getElem?_take] at hj
    split at hj
    · simpa using hj
    · cases hj
theorem flat_first {L : List (List Q4)} {a b c d : Nat} (h : L[0]?.bind (·[0]?) = some (a, b, c, d)) : (L.flatMap tdc)[1]? = some (.int .u64 (b : Int)) := by
  cases L with
  | nil => simp at h
  | cons p r =>
    cases p with
    | nil => simp at h
    | cons q l =>
      have : q = (a, b, c, d) := by simpa using h
      subst this
      simp [tdc]
theorem neq_nilF (gf : Nat) (lb : Array Value) (w : World) : Sem.run Try.prog (binOp BinOp.neq 45 (.func (.func gf) #[] lb) .nilFunc) w = .ok (.bool true) w := by rfl
theorem eq_nilF (gf : Nat) (lb : Array Value) (w : World) : Sem.run Try.prog (binOp BinOp.eql 45 (.func (.func gf) #[] lb) .nilFunc) w = .ok (.bool false) w := by rfl
theorem keepV1 {w0 wa wb : World} {g1 : Nat} {c1 : List Value} (k : Below wa.heap.size wa wb) (h : wa.rangeAt g1 0 c1 ∧ Below w0.heap.size w0 wa) : wb.rangeAt g1 0 c1 ∧ Below w0.heap.size w0 wb :=
  ⟨range_later h.1 k, h.2.trans (k.mono h.2.size)⟩
theorem keepV2 {w0 wa wb : World} {g1 : Nat} {c1 : List Value} {p : Addr} {x : Value} (k : Below wa.heap.size wa wb) (h : wa.rangeAt g1 0 c1 ∧ wa.cell? p = some x ∧ Below w0.heap.size w0 wa) : wb.rangeAt g1 0 c1 ∧ wb.cell? p = some x ∧ Below w0.heap.size w0 wb :=
  ⟨range_later h.1 k, cell_later k h.2.1, h.2.2.trans (k.mono h.2.2.size)⟩

set_option maxRecDepth 100000 in
set_option maxHeartbeats 4000000 in
theorem awake7_any (w : World) :
    Calls Try.prog 29 #[] w fun e w' => e = .returned (.bool true) ∧ Below w.heap.size w w' := by
  obtain ⟨f1, f2, f3⟩ := aw7_facts
  have q9 : Hid (∀ w, Calls Try.prog 23 #[] w fun e w' => e = .returned (.agg (tdc z24q).toArray) ∧ Below w.heap.size w w') := hide_ (fun w => call_any w)
  have qL1 : Hid (∀ w, Calls Try.prog 33 #[.agg (tdc z24q).toArray, .agg (tdc b7).toArray] w fun e w' => ∃ g cap, e = .returned (.slice (some ⟨g, 0, none⟩) 2 cap) ∧ w'.cell? ⟨g, 1, none⟩ = some (.int .u64 2) ∧ Below w.heap.size w w') := hide_ (fun w => (clist_any z24q b7 z24q_isC b7_isC w).mono (by
    rintro e w' ⟨u, rfl, ho, b⟩
    obtain ⟨g, cap, rfl, -, hc⟩ := own_at ho (flat_first f2)
    rw [f1]
    exact ⟨g, cap, rfl, hc, b⟩))
  have qL2 : Hid (∀ w, Calls Try.prog 33 #[.agg (tdc b7).toArray, .agg (tdc b7).toArray] w fun e w' => ∃ ad cap, e = .returned (.slice ad 0 cap) ∧ Below w.heap.size w w') := hide_ (fun w => (clist_any b7 b7 b7_isC b7_isC w).mono (by
    rintro e w' ⟨u, rfl, ho, b⟩
    rw [f3] at ho
    obtain ⟨-, ad, cap, rfl, -⟩ := Cells.ofOwn ho
    exact ⟨ad, cap, rfl, b⟩))
  have qM := fun w => cmany_any z24q b7 z24q_isC b7_isC w
  rw [f1] at qM
  have qM : Hid (∀ w, Calls Try.prog 34 #[.agg (tdc z24q).toArray, .agg (tdc b7).toArray] w fun e w' => e = .returned (.int .i64 2) ∧ Below w.heap.size w w') := hide_ qM
  have qP : Hid (∀ w, Calls Try.prog 30 #[.agg (tdc b7).toArray, .agg (tdc b7).toArray] w fun e w' => ∃ gf lb, e = .returned (.func (.func gf) #[] lb) ∧ Below w.heap.size w w') := hide_ (fun w => (parts_any b7 b7 b7_isC b7_isC w).mono (by
    rintro e w' ⟨v, rfl, ⟨gf, lb, rfl, -⟩, b⟩
    exact ⟨gf, lb, rfl, b⟩))
  have hc := hide_ b7_isC.1
  have hnn := fun gf lb w => neq_nilF gf lb w
  have e7 : Hid ((.agg ((((Try.zeroCells28.setIfInBounds 0 (.int .u64 0)).setIfInBounds 1 (.int .u64 1)).setIfInBounds 2 (.int .u64 0)).setIfInBounds 3 (.int .u64 3)) : Value) = .agg (tdc b7).toArray) := hide_ (by rw [zcC]; rfl)
  have e7s : Hid ((.agg (((((tdc z24q).set 0 (.int .u64 0)).set 1 (.int .u64 1)).set 2 (.int .u64 0)).set 3 (.int .u64 3)).toArray : Value) = .agg (tdc b7).toArray) := hide_ rfl
  have hz96 : (tdc z24q).length = 96 := by rw [tdc_length, z24q_len]
  have Z0 : Hid (AB (w.alloc (.cells Try.zeroCells28 28)) w.heap.size 28 (tdc z24q)) := hide_ (by rw [zcC]; exact AB.at0 w 28 (tdc z24q))
  clear f1 f2 f3
  generalize b7 = c at *
  go_enter Try.func29, Try.ntmps29
  go_wp2_with (first | (refine wpList_storeA rfl (.tmp 1) (.tmp 6) rfl w.heap.size (by simp [Act.eval, Act.put]) (tdc z24q) (tdc c) (by rw [tdc_length, tdc_length, hc.out, z24q_len]) (szC hc.out) (tdc_one _) (by first | (simp [Act.eval, Act.put]; exact e7.out) | exact e7.out | (simp [Act.eval, Act.put]; exact e7s.out) | exact e7s.out | (simp [Act.eval, Act.put]; exact Value.agg.inj e7s.out)) Z0.out ?_))
  have R1 := (Z0.out.row (cs' := tdc c)).range
  have BV : Hid (Below w.heap.size w ((w.alloc (.cells Try.zeroCells28 28)).setRow w.heap.size (tdc c).toArray)) := hide_ ((below1 w (.cells Try.zeroCells28 28)).trans (below_row _ _ _ _ (Nat.le_refl _)))
  simp only [Act.put]
  first | rw [e7.out] | rw [e7s.out] | skip
  clear Z0 e7 e7s
  generalize (w.alloc (.cells Try.zeroCells28 28)).setRow w.heap.size (tdc c).toArray = W at *
  refine wp_region_held_drew (S := fun w' => w'.rangeAt w.heap.size 0 (tdc c) ∧ Below W.heap.size W w') (by kernel_rfl) (keepV1 (Below.refl _ _).drew ⟨R1, Below.refl _ _⟩) (fun hHeld => ?_)
  refine takeL Try.underlying28 (i := 1) rfl (by kernel_rfl) (by kernel_rfl) (by kernel_rfl) (some 8) rfl (.tmp 1) rfl (by rfl) w.heap.size rfl (tdc c) (szC hc.out) (fun w h => h.1) (fun _ _ _ h => h) (by assumption) ?_
  simp only [Act.put, List.setIfInBounds_toArray, List.set_cons_zero, List.set_cons_succ]
  refine wpAnyH_ready (rs := [0]) (by kernel_rfl) (by simp) (AllReadyH.cons rfl (fun K hK => ?_) AllReadyH.nil)
  go_simp
  refine (q9.out _).mono ?_
  rintro e w9 ⟨rfl, b9⟩
  refine hK.out _ _ (keepV1 b9 hHeld) (fun hHeld => ?_)
  clear hK K
  try simp only [Act.put, List.setIfInBounds_toArray, List.set_cons_zero, List.set_cons_succ]
  refine wpAnyH_ready (rs := [2]) (by kernel_rfl) (by simp) (AllReadyH.cons rfl (fun K hK => ?_) AllReadyH.nil)
  go_simp
  refine (qL1.out _).mono ?_
  rintro e w9 ⟨g2, cap2, rfl, hcell, b9⟩
  have hcell := hide_ hcell
  refine hK.out _ _ (keepV1 b9 hHeld) (fun hHeld => ?_)
  clear hK K
  try simp only [Act.put, List.setIfInBounds_toArray, List.set_cons_zero, List.set_cons_succ]
  refine takeR (i := 3) (v := ?_) rfl (by kernel_rfl) (by kernel_rfl) (by kernel_rfl) (some 2) rfl (Or.inl ⟨by rfl, ?_⟩) (fun _ _ _ h => h) (by assumption) ?_
  rotate_left
  · intro w hSw; (try dsimp only at hSw); go_simp; (try with_reducible rfl)
  simp only [Act.put, List.setIfInBounds_toArray, List.set_cons_zero, List.set_cons_succ]
  refine wpAnyH_done (by kernel_rfl) ?_ _
  have bel := hHeld.2
  obtain ⟨R2, -⟩ := hHeld
  have BV := hide_ (BV.out.trans (bel.mono BV.out.size))
  clear bel R1 b9
  go_wp2_with fail
  try simp only [Act.put]
  generalize w9 = V at *
  refine wp_region_held_drew (S := fun w' => w'.rangeAt w.heap.size 0 (tdc c) ∧ w'.cell? ⟨g2, 1, none⟩ = some (.int .u64 2) ∧ Below V.heap.size V w') (by kernel_rfl) (keepV2 (Below.refl _ _).drew ⟨R2, hcell.out, Below.refl _ _⟩) (fun hHeld => ?_)
  refine takeR (i := 0) (v := ?_) rfl (by kernel_rfl) (by kernel_rfl) (by kernel_rfl) (some 10) rfl (Or.inl ⟨by rfl, ?_⟩) (fun _ _ _ h => h) (by assumption) ?_
  rotate_left
  · intro w hSw; (try dsimp only at hSw); go_simp; (try with_reducible rfl)
  simp only [Act.put, List.setIfInBounds_toArray, List.set_cons_zero, List.set_cons_succ]
  refine takeR (i := 1) (v := ?_) rfl (by kernel_rfl) (by kernel_rfl) (by kernel_rfl) (some 11) rfl (Or.inl ⟨by rfl, ?_⟩) (fun _ _ _ h => h) (by assumption) ?_
  rotate_left
  · intro w hSw; (try dsimp only at hSw); go_simp; (try with_reducible rfl)
  simp only [Act.put, List.setIfInBounds_toArray, List.set_cons_zero, List.set_cons_succ]
  refine takeR (i := 2) (v := ?_) rfl (by kernel_rfl) (by kernel_rfl) (by kernel_rfl) (some 12) rfl (Or.inl ⟨by rfl, ?_⟩) (fun _ _ _ h => h) (by assumption) ?_
  rotate_left
  · intro w hSw; (try dsimp only at hSw); go_simp; (try with_reducible rfl)
  simp only [Act.put, List.setIfInBounds_toArray, List.set_cons_zero, List.set_cons_succ]
  refine takeR (i := 3) (v := ?_) rfl (by kernel_rfl) (by kernel_rfl) (by kernel_rfl) (some 13) rfl (Or.inl ⟨by rfl, ?_⟩) (fun _ _ _ h => h) (by assumption) ?_
  rotate_left
  · intro w hSw; (try dsimp only at hSw); go_simp; (try with_reducible rfl)
  simp only [Act.put, List.setIfInBounds_toArray, List.set_cons_zero, List.set_cons_succ]
  refine takeR (i := 4) (v := ?_) rfl (by kernel_rfl) (by kernel_rfl) (by kernel_rfl) (some 14) rfl (Or.inl ⟨by rfl, ?_⟩) (fun _ _ _ h => h) (by assumption) ?_
  rotate_left
  · intro w hSw; (try dsimp only at hSw); go_simp; (try with_reducible rfl)
  simp only [Act.put, List.setIfInBounds_toArray, List.set_cons_zero, List.set_cons_succ]
  refine takeR (i := 5) (v := ?_) rfl (by kernel_rfl) (by kernel_rfl) (by kernel_rfl) (some 15) rfl (Or.inl ⟨by rfl, ?_⟩) (fun _ _ _ h => h) (by assumption) ?_
  rotate_left
  · intro w hSw; (try dsimp only at hSw); go_simp; (try with_reducible rfl)
  simp only [Act.put, List.setIfInBounds_toArray, List.set_cons_zero, List.set_cons_succ]
  refine takeR (i := 6) (v := ?_) rfl (by kernel_rfl) (by kernel_rfl) (by kernel_rfl) (some 16) rfl (Or.inl ⟨by rfl, ?_⟩) (fun _ _ _ h => h) (by assumption) ?_
  rotate_left
  · intro w hSw; (try dsimp only at hSw); go_simp; (try with_reducible rfl)
  simp only [Act.put, List.setIfInBounds_toArray, List.set_cons_zero, List.set_cons_succ]
  refine takeR (i := 7) (v := ?_) rfl (by kernel_rfl) (by kernel_rfl) (by kernel_rfl) (some 17) rfl (Or.inl ⟨by rfl, ?_⟩) (fun _ _ _ h => h) (by assumption) ?_
  rotate_left
  · intro w hSw; (try dsimp only at hSw); go_simp; (try with_reducible rfl)
  simp only [Act.put, List.setIfInBounds_toArray, List.set_cons_zero, List.set_cons_succ]
  refine takeR (i := 8) (v := ?_) rfl (by kernel_rfl) (by kernel_rfl) (by kernel_rfl) (some 18) rfl (Or.inl ⟨by rfl, ?_⟩) (fun _ _ _ h => h) (by assumption) ?_
  rotate_left
  · intro w hSw; (try dsimp only at hSw); go_simp; (try with_reducible rfl)
  simp only [Act.put, List.setIfInBounds_toArray, List.set_cons_zero, List.set_cons_succ]
  refine takeR (i := 9) (v := ?_) rfl (by kernel_rfl) (by kernel_rfl) (by kernel_rfl) (some 19) rfl (Or.inl ⟨by rfl, ?_⟩) (fun _ _ _ h => h) (by assumption) ?_
  rotate_left
  · intro w hSw; (try dsimp only at hSw); go_simp; (try with_reducible rfl)
  simp only [Act.put, List.setIfInBounds_toArray, List.set_cons_zero, List.set_cons_succ]
  refine takeR (i := 10) (v := ?_) rfl (by kernel_rfl) (by kernel_rfl) (by kernel_rfl) (some 20) rfl (Or.inl ⟨by rfl, ?_⟩) (fun _ _ _ h => h) (by assumption) ?_
  rotate_left
  · intro w hSw; (try dsimp only at hSw); go_simp; (try with_reducible rfl)
  simp only [Act.put, List.setIfInBounds_toArray, List.set_cons_zero, List.set_cons_succ]
  refine takeR (i := 11) (v := ?_) rfl (by kernel_rfl) (by kernel_rfl) (by kernel_rfl) (some 21) rfl (Or.inl ⟨by rfl, ?_⟩) (fun _ _ _ h => h) (by assumption) ?_
  rotate_left
  · intro w hSw; (try dsimp only at hSw); go_simp; (try with_reducible rfl)
  simp only [Act.put, List.setIfInBounds_toArray, List.set_cons_zero, List.set_cons_succ]
  refine takeR (i := 12) (v := ?_) rfl (by kernel_rfl) (by kernel_rfl) (by kernel_rfl) (some 22) rfl (Or.inl ⟨by rfl, ?_⟩) (fun _ _ _ h => h) (by assumption) ?_
  rotate_left
  · intro w hSw; (try dsimp only at hSw); go_simp; (try with_reducible rfl)
  simp only [Act.put, List.setIfInBounds_toArray, List.set_cons_zero, List.set_cons_succ]
  refine takeL Try.underlying28 (i := 14) rfl (by kernel_rfl) (by kernel_rfl) (by kernel_rfl) (some 24) rfl (.tmp 1) rfl (by rfl) w.heap.size rfl (tdc c) (szC hc.out) (fun w h => h.1) (fun _ _ _ h => h) (by assumption) ?_
  simp only [Act.put, List.setIfInBounds_toArray, List.set_cons_zero, List.set_cons_succ]
  refine wpAnyH_ready (rs := [13]) (by kernel_rfl) (by simp) (AllReadyH.cons rfl (fun K hK => ?_) AllReadyH.nil)
  go_simp
  refine (q9.out _).mono ?_
  rintro e w9 ⟨rfl, b9⟩
  refine hK.out _ _ (keepV2 b9 hHeld) (fun hHeld => ?_)
  clear hK K
  try simp only [Act.put, List.setIfInBounds_toArray, List.set_cons_zero, List.set_cons_succ]
  refine wpAnyH_ready (rs := [15]) (by kernel_rfl) (by simp) (AllReadyH.cons rfl (fun K hK => ?_) AllReadyH.nil)
  go_simp
  refine (qM.out _).mono ?_
  rintro e w9 ⟨rfl, b9⟩
  refine hK.out _ _ (keepV2 b9 hHeld) (fun hHeld => ?_)
  clear hK K
  try simp only [Act.put, List.setIfInBounds_toArray, List.set_cons_zero, List.set_cons_succ]
  refine takeR (i := 16) (v := ?_) rfl (by kernel_rfl) (by kernel_rfl) (by kernel_rfl) (some 26) rfl (Or.inl ⟨by rfl, ?_⟩) (fun _ _ _ h => h) (by assumption) ?_
  rotate_left
  · intro w hSw; (try dsimp only at hSw); go_simp; (try with_reducible rfl)
  simp only [Act.put, List.setIfInBounds_toArray, List.set_cons_zero, List.set_cons_succ]
  refine takeR (i := 17) (v := ?_) rfl (by kernel_rfl) (by kernel_rfl) (by kernel_rfl) (some 27) rfl (Or.inl ⟨by rfl, ?_⟩) (fun _ _ _ h => h) (by assumption) ?_
  rotate_left
  · intro w hSw; (try dsimp only at hSw); go_simp; (try with_reducible rfl)
  simp only [Act.put, List.setIfInBounds_toArray, List.set_cons_zero, List.set_cons_succ]
  refine takeR (i := 18) (v := ?_) rfl (by kernel_rfl) (by kernel_rfl) (by kernel_rfl) (some 28) rfl (Or.inl ⟨by rfl, ?_⟩) (fun _ _ _ h => h) (by assumption) ?_
  rotate_left
  · intro w hSw; (try dsimp only at hSw); go_simp; (try with_reducible rfl)
  simp only [Act.put, List.setIfInBounds_toArray, List.set_cons_zero, List.set_cons_succ]
  refine takeL Try.underlying28 (i := 19) rfl (by kernel_rfl) (by kernel_rfl) (by kernel_rfl) (some 29) rfl (.tmp 1) rfl (by rfl) w.heap.size rfl (tdc c) (szC hc.out) (fun w h => h.1) (fun _ _ _ h => h) (by assumption) ?_
  simp only [Act.put, List.setIfInBounds_toArray, List.set_cons_zero, List.set_cons_succ]
  refine takeL Try.underlying28 (i := 20) rfl (by kernel_rfl) (by kernel_rfl) (by kernel_rfl) (some 30) rfl (.tmp 1) rfl (by rfl) w.heap.size rfl (tdc c) (szC hc.out) (fun w h => h.1) (fun _ _ _ h => h) (by assumption) ?_
  simp only [Act.put, List.setIfInBounds_toArray, List.set_cons_zero, List.set_cons_succ]
  refine wpAnyH_ready (rs := [21]) (by kernel_rfl) (by simp) (AllReadyH.cons rfl (fun K hK => ?_) AllReadyH.nil)
  go_simp
  refine (qL2.out _).mono ?_
  rintro e w9 ⟨ad3, cap3, rfl, b9⟩
  refine hK.out _ _ (keepV2 b9 hHeld) (fun hHeld => ?_)
  clear hK K
  try simp only [Act.put, List.setIfInBounds_toArray, List.set_cons_zero, List.set_cons_succ]
  refine takeR (i := 22) (v := ?_) rfl (by kernel_rfl) (by kernel_rfl) (by kernel_rfl) (some 32) rfl (Or.inl ⟨by rfl, ?_⟩) (fun _ _ _ h => h) (by assumption) ?_
  rotate_left
  · intro w hSw; (try dsimp only at hSw); go_simp; (try with_reducible rfl)
  simp only [Act.put, List.setIfInBounds_toArray, List.set_cons_zero, List.set_cons_succ]
  refine takeR (i := 23) (v := ?_) rfl (by kernel_rfl) (by kernel_rfl) (by kernel_rfl) (some 33) rfl (Or.inl ⟨by rfl, ?_⟩) (fun _ _ _ h => h) (by assumption) ?_
  rotate_left
  · intro w hSw; (try dsimp only at hSw); go_simp; (try with_reducible rfl)
  simp only [Act.put, List.setIfInBounds_toArray, List.set_cons_zero, List.set_cons_succ]
  refine takeR (i := 24) (v := ?_) rfl (by kernel_rfl) (by kernel_rfl) (by kernel_rfl) (some 34) rfl (Or.inl ⟨by rfl, ?_⟩) (fun _ _ _ h => h) (by assumption) ?_
  rotate_left
  · intro w hSw; (try dsimp only at hSw); go_simp; (try with_reducible rfl)
  simp only [Act.put, List.setIfInBounds_toArray, List.set_cons_zero, List.set_cons_succ]
  refine takeR (i := 25) (v := ?_) rfl (by kernel_rfl) (by kernel_rfl) (by kernel_rfl) (some 35) rfl (Or.inl ⟨by rfl, ?_⟩) (fun _ _ _ h => h) (by assumption) ?_
  rotate_left
  · intro w hSw; (try dsimp only at hSw); go_simp; (try with_reducible rfl)
  simp only [Act.put, List.setIfInBounds_toArray, List.set_cons_zero, List.set_cons_succ]
  refine takeL Try.underlying28 (i := 26) rfl (by kernel_rfl) (by kernel_rfl) (by kernel_rfl) (some 36) rfl (.tmp 1) rfl (by rfl) w.heap.size rfl (tdc c) (szC hc.out) (fun w h => h.1) (fun _ _ _ h => h) (by assumption) ?_
  simp only [Act.put, List.setIfInBounds_toArray, List.set_cons_zero, List.set_cons_succ]
  refine takeL Try.underlying28 (i := 27) rfl (by kernel_rfl) (by kernel_rfl) (by kernel_rfl) (some 37) rfl (.tmp 1) rfl (by rfl) w.heap.size rfl (tdc c) (szC hc.out) (fun w h => h.1) (fun _ _ _ h => h) (by assumption) ?_
  simp only [Act.put, List.setIfInBounds_toArray, List.set_cons_zero, List.set_cons_succ]
  refine wpAnyH_ready (rs := [28]) (by kernel_rfl) (by simp) (AllReadyH.cons rfl (fun K hK => ?_) AllReadyH.nil)
  go_simp
  refine (qP.out _).mono ?_
  rintro e w9 ⟨gf, lb, rfl, b9⟩
  refine hK.out _ _ (keepV2 b9 hHeld) (fun hHeld => ?_)
  clear hK K
  try simp only [Act.put, List.setIfInBounds_toArray, List.set_cons_zero, List.set_cons_succ]
  refine takeR (i := 29) (v := ?_) rfl (by kernel_rfl) (by kernel_rfl) (by kernel_rfl) (some 39) rfl (Or.inl ⟨by rfl, ?_⟩) (fun _ _ _ h => h) (by assumption) ?_
  rotate_left
  · intro w hSw; (try dsimp only at hSw); go_simp; (try with_reducible rfl)
  simp only [Act.put, List.setIfInBounds_toArray, List.set_cons_zero, List.set_cons_succ]
  refine takeR (i := 30) (v := ?_) rfl (by kernel_rfl) (by kernel_rfl) (by kernel_rfl) (some 40) rfl (Or.inl ⟨by rfl, ?_⟩) (fun _ _ _ h => h) (by assumption) ?_
  rotate_left
  · intro w hSw; (try dsimp only at hSw); go_simp; (try with_reducible rfl)
  simp only [Act.put, List.setIfInBounds_toArray, List.set_cons_zero, List.set_cons_succ]
  refine takeR (i := 31) (v := ?_) rfl (by kernel_rfl) (by kernel_rfl) (by kernel_rfl) (some 0) rfl (Or.inl ⟨by rfl, ?_⟩) (fun _ _ _ h => h) (by assumption) ?_
  rotate_left
  · intro w hSw; (try dsimp only at hSw); go_simp; (try with_reducible rfl)
  simp only [Act.put, List.setIfInBounds_toArray, List.set_cons_zero, List.set_cons_succ]
  refine wpAnyH_done (by kernel_rfl) ?_ _
  have bel := hHeld.2.2
  clear hHeld
  go_wp2_with fail
  go_ret
  exact ⟨rfl, BV.out.trans (bel.mono BV.out.size)⟩
end

section
open Go Go.RowKit
set_option linter.unusedVariables false
set_option linter.unusedSimpArgs false

theorem flat_at : ∀ (L : List (List Q4)) (j k : Nat) (x : List Q4), (∀ y ∈ L, (tdc y).length = 96) → L[j]? = some x → k < 96 → (L.flatMap tdc)[j * 96 + k]? = (tdc x)[k]?
  | [], j, k, x, _, h, _ => by simp at h
  | y :: L, 0, k, x, hl, h, hk => by
    have : y = x := by simpa using h
    subst this
    rw [List.flatMap_cons, List.getElem?_append_left (by rw [hl y List.mem_cons_self]; omega)]
    simp
  | y :: L, j + 1, k, x, hl, h, hk => by
    rw [List.flatMap_cons, List.getElem?_append_right (by rw [hl y List.mem_cons_self]; omega), hl y List.mem_cons_self, show (j + 1) * 96 + k - 96 = j * 96 + k by omega]
    exact flat_at L j k x (fun z hz => hl z (List.mem_cons_of_mem _ hz)) (by simpa using h) hk
theorem own_range {w : World} {base : Nat} {e : TypeId} {v : Value} {n j : Nat} {L : List (List Q4)} {x : List Q4} (h : w.ownsRow base e 96 v n (L.flatMap tdc)) (hl : ∀ y ∈ L, isC y) (hj : L[j]? = some x) : ∃ g cap, v = .slice (some ⟨g, 0, none⟩) n cap ∧ base ≤ g ∧ w.rangeAt g (j * 96) (tdc x) := by
  have hx := lenC (hl x (List.mem_of_getElem? hj))
  have hf := fun k (hk : k < 96) => flat_at L j k x (fun y hy => lenC (hl y hy)) hj hk
  have h0 : ((tdc x)[0]?).isSome := by rw [List.getElem?_eq_getElem (by omega)]; rfl
  obtain ⟨v0, hv0⟩ := Option.isSome_iff_exists.1 h0
  obtain ⟨g, cap, rfl, hb, -⟩ := own_at h (by rw [hf 0 (by omega)]; exact hv0)
  refine ⟨g, cap, rfl, hb, fun k u hu => ?_⟩
  have hk : k < 96 := by have := (List.getElem?_eq_some_iff.1 hu).1; omega
  obtain ⟨g', cap', e1, -, hc⟩ := own_at h (by rw [hf k hk]; exact hu)
  cases e1
  exact hc
theorem own_later {w w' : World} {base : Nat} {e : TypeId} {size : Nat} {v : Value} {n : Nat} {xs : List Value} (h : w.ownsRow base e size v n xs) (hb : Below w.heap.size w w') : w'.ownsRow base e size v n xs :=
  own_out (S := fun _ => False) (Out.of_below hb) (fun _ _ h => h) h
theorem cntH_take {L : List (List Q4)} {j : Nat} {x : List Q4} (v : List (Nat × Nat)) (h : L[j]? = some x) : cntH (L.take (j + 1)) v = cntH (L.take j) v + one (hasC x v) := by
  obtain ⟨hj, e⟩ := List.getElem?_eq_some_iff.1 h
  rw [List.take_succ_eq_append_getElem hj, e, cntH_app, cntH_cons]
  unfold one cntH
  cases hasC x v <;> rfl
end

section
open Go Go.RowKit
set_option linter.unusedVariables false
set_option linter.unusedSimpArgs false

theorem takeM {P : Program} {ty e : TypeId} {n : Nat} (hu : P.underlying ty = some (.array n e)) {ops : Array Oper} {Q : Exit → Act → World → Prop} {S : World → Prop} {md : Region.Mode} {fuel : Nat} {listed : Array Bool} {a : Act} {w : World} {i : Nat} {oi : Oper} (hi : ops[i]? = some oi)
    (hs : Region.noSelect ops = true) (hf : Region.free md ops listed i = true) (hr : (Region.ready md ops listed).contains i = true)
    (d : Option Tmp) (hd : oi.dst = d) (x : Operand) (ho : oi.op = .load ty x) (hw : Region.wanted oi (yielded ops a.tmps) = true) (g o : Nat) (hx : a.eval x = .pointer (some ⟨g, o, none⟩)) (cs : List Value) (hz : (P.info? ty).map (·.size) = some cs.length) (hS : ∀ w, S w → w.rangeAt g o cs)
    (hQ : ∀ c a w, Q (.panic c) (a.put d (.agg cs.toArray)) w → Q (.panic c) a w) (h0 : S w)
    (h : wpAnyH P md ops Q S fuel (listed.setIfInBounds i true) (a.put d (.agg cs.toArray)) w) : wpAnyH P md ops Q S (fuel + 1) listed a w := by
  subst hd
  exact wpAnyH_take hi hs hf hr hQ (yieldsIf_load_mid hw ty x ho g o hx cs _ hS hu rfl hz) h0 h
theorem keepE {w0 wa wb : World} {g1 g2 o1 o2 : Nat} {c1 c2 : List Value} (k : Below wa.heap.size wa wb) (h : wa.rangeAt g1 o1 c1 ∧ wa.rangeAt g2 o2 c2 ∧ Below w0.heap.size w0 wa) : wb.rangeAt g1 o1 c1 ∧ wb.rangeAt g2 o2 c2 ∧ Below w0.heap.size w0 wb :=
  ⟨range_later h.1 k, range_later h.2.1 k, h.2.2.trans (k.mono h.2.2.size)⟩
theorem Cells.at2 {w : World} {a : Option Addr} {n m cap size : Nat} {xs : List Value} (h : Cells w (.slice a m cap) size n xs) : m = n ∧ n ≤ maxLen ∧ xs.length = n * size ∧ ∀ j u, xs[j]? = some u → ∃ b off, a = some ⟨b, off, none⟩ ∧ w.cell? ⟨b, off + j, none⟩ = some u := by
  obtain ⟨h0, a', cap', e, h1, h2, h3, h4⟩ := h
  cases e
  refine ⟨rfl, Nat.le_trans h1 h2, h0, fun j u hu => ?_⟩
  have hj : j < xs.length := (List.getElem?_eq_some_iff.1 hu).1
  cases a with
  | none =>
    have := h3 rfl
    subst this
    have : n = 0 := by omega
    subst this
    omega
  | some ad =>
    have hc := h4 ad rfl j u hu
    obtain ⟨b, off, spot⟩ := ad
    have hspot : spot = none := by
      have hc0 := h4 _ rfl 0 xs[0] (List.getElem?_eq_getElem (by omega))
      simpa [Addr.add] using World.cell?_spot hc0
    subst hspot
    exact ⟨b, off, rfl, by rw [Addr.add_lit] at hc; exact hc⟩
/-- a slice of cubes -/
def CubesAt (w : World) (v : Value) (L : List (List Q4)) : Prop := Cells w v 96 L.length (L.flatMap tdc) ∧ ∀ x ∈ L, isC x
theorem CubesAt.later {w w' : World} {v : Value} {L : List (List Q4)} (h : CubesAt w v L) (hb : Below w.heap.size w w') : CubesAt w' v L := ⟨h.1.later hb, h.2⟩
theorem CubesAt.form {w : World} {v : Value} {L : List (List Q4)} (h : CubesAt w v L) : ∃ ad cap, v = .slice ad L.length cap ∧ L.length ≤ cap ∧ cap ≤ maxLen := by
  obtain ⟨⟨-, ad, cap, rfl, h1, h2, -⟩, -⟩ := h
  exact ⟨ad, cap, rfl, h1, h2⟩
theorem CubesAt.range {w : World} {ad : Option Addr} {n cap j : Nat} {L : List (List Q4)} {x : List Q4} (h : CubesAt w (.slice ad n cap) L) (hj : L[j]? = some x) : ∃ b o, ad = some ⟨b, o, none⟩ ∧ w.rangeAt b (o + j * 96) (tdc x) := by
  have hx := lenC (h.2 x (List.mem_of_getElem? hj))
  have hf := fun k (hk : k < 96) => flat_at L j k x (fun y hy => lenC (h.2 y hy)) hj hk
  obtain ⟨-, -, -, hc⟩ := Cells.at2 h.1
  have h0 : ((tdc x)[0]?).isSome := by rw [List.getElem?_eq_getElem (by omega)]; rfl
  obtain ⟨v0, hv0⟩ := Option.isSome_iff_exists.1 h0
  obtain ⟨b, o, rfl, -⟩ := hc _ _ ((hf 0 (by omega)).trans hv0)
  refine ⟨b, o, rfl, fun k u hu => ?_⟩
  have hk : k < 96 := by have := (List.getElem?_eq_some_iff.1 hu).1; omega
  obtain ⟨b', o', e1, hcc⟩ := hc _ _ ((hf k hk).trans hu)
  cases e1
  rw [Nat.add_assoc]; exact hcc

set_option maxRecDepth 100000 in
set_option maxHeartbeats 4000000 in
theorem cequal_same (u v : Value) (L : List (List Q4)) (w : World) (hu : CubesAt w u L) (hv : CubesAt w v L) :
    Calls Try.prog 32 #[u, v] w fun e w' => e = .returned (.bool true) ∧ Below w.heap.size w w' := by
  obtain ⟨ad, cap, rfl, h1, h2⟩ := hu.form
  obtain ⟨ad2, cap2, rfl, h3, h4⟩ := hv.form
  have HU := hide_ hu
  have HV := hide_ hv
  unfold maxLen at h2
  obtain ⟨nn, hnn⟩ : ∃ nn, L.length = nn := ⟨_, rfl⟩
  rw [hnn] at HU HV h1 h3 ⊢
  have HNN := hide_ hnn
  have heq0 : ((nn : Int) != (nn : Int)) = false := by simp
  clear hnn hu hv h3 h4
  go_enter Try.func32, Try.ntmps32
  go_wp2_with fail
  go_loopw [5, 13] (fun _ i wr => ∃ j : Nat, j ≤ nn ∧ i = .int .i64 (j : Int) ∧ Below w.heap.size w wr) (fun _ i _ => nn - (intOf i).toNat)
  case atStart => exact ⟨0, by omega, rfl, Below.refl _ _⟩
  case round =>
    obtain ⟨j, hj, rfl, hb⟩ := hrel
    by_cases hlt : j < nn
    · have hlt' : (j : Int) < (nn : Int) := by omega
      have hj0 : (0 : Int) ≤ (j : Int) := by omega
      obtain ⟨x, hx⟩ : ∃ x, L[j]? = some x := ⟨_, List.getElem?_eq_getElem (by have := HNN.out; omega)⟩
      have hlx := hide_ (HU.out.2 x (List.mem_of_getElem? hx)).1
      obtain ⟨b1, o1, e1, r1⟩ := (HU.out.later hb).range hx
      obtain ⟨b2, o2, e2, r2⟩ := (HV.out.later hb).range hx
      subst e1
      subst e2
      have heq := fun w => run_ceqIn x x hlx.out hlx.out w
      rw [decide_eq_true rfl] at heq
      clear hx
      go_wp2_with fail
      try simp only [Act.put]
      refine wp_region_held_drew (S := fun w' => w'.rangeAt b1 (o1 + j * 96) (tdc x) ∧ w'.rangeAt b2 (o2 + j * 96) (tdc x) ∧ Below w.heap.size w w') (by kernel_rfl) (keepE (Below.refl _ _).drew ⟨r1, r2, hb⟩) (fun hHeld => ?_)
      refine takeR (i := 0) (v := ?_) rfl (by kernel_rfl) (by kernel_rfl) (by kernel_rfl) (some 16) rfl (Or.inl ⟨by rfl, ?_⟩) (fun _ _ _ h => h) (by assumption) ?_
      rotate_left
      · intro w hSw; (try dsimp only at hSw); go_simp; (try with_reducible rfl)
      simp only [Act.put, List.setIfInBounds_toArray, List.set_cons_zero, List.set_cons_succ]
      refine takeR (i := 1) (v := ?_) rfl (by kernel_rfl) (by kernel_rfl) (by kernel_rfl) (some 17) rfl (Or.inl ⟨by rfl, ?_⟩) (fun _ _ _ h => h) (by assumption) ?_
      rotate_left
      · intro w hSw; (try dsimp only at hSw); go_simp; (try with_reducible rfl)
      simp only [Act.put, List.setIfInBounds_toArray, List.set_cons_zero, List.set_cons_succ]
      refine takeR (i := 2) (v := ?_) rfl (by kernel_rfl) (by kernel_rfl) (by kernel_rfl) (some 18) rfl (Or.inl ⟨by rfl, ?_⟩) (fun _ _ _ h => h) (by assumption) ?_
      rotate_left
      · intro w hSw; (try dsimp only at hSw); go_simp; (try with_reducible rfl)
      simp only [Act.put, List.setIfInBounds_toArray, List.set_cons_zero, List.set_cons_succ]
      refine takeM Try.underlying28 (i := 3) rfl (by kernel_rfl) (by kernel_rfl) (by kernel_rfl) (some 19) rfl (.tmp 18) rfl (by rfl) b1 (o1 + j * 96) rfl (tdc x) (szC hlx.out) (fun w h => h.1) (fun _ _ _ h => h) (by assumption) ?_
      simp only [Act.put, List.setIfInBounds_toArray, List.set_cons_zero, List.set_cons_succ]
      refine takeR (i := 4) (v := ?_) rfl (by kernel_rfl) (by kernel_rfl) (by kernel_rfl) (some 20) rfl (Or.inl ⟨by rfl, ?_⟩) (fun _ _ _ h => h) (by assumption) ?_
      rotate_left
      · intro w hSw; (try dsimp only at hSw); go_simp; (try with_reducible rfl)
      simp only [Act.put, List.setIfInBounds_toArray, List.set_cons_zero, List.set_cons_succ]
      refine takeR (i := 5) (v := ?_) rfl (by kernel_rfl) (by kernel_rfl) (by kernel_rfl) (some 21) rfl (Or.inl ⟨by rfl, ?_⟩) (fun _ _ _ h => h) (by assumption) ?_
      rotate_left
      · intro w hSw; (try dsimp only at hSw); go_simp; (try with_reducible rfl)
      simp only [Act.put, List.setIfInBounds_toArray, List.set_cons_zero, List.set_cons_succ]
      refine takeR (i := 6) (v := ?_) rfl (by kernel_rfl) (by kernel_rfl) (by kernel_rfl) (some 22) rfl (Or.inl ⟨by rfl, ?_⟩) (fun _ _ _ h => h) (by assumption) ?_
      rotate_left
      · intro w hSw; (try dsimp only at hSw); go_simp; (try with_reducible rfl)
      simp only [Act.put, List.setIfInBounds_toArray, List.set_cons_zero, List.set_cons_succ]
      refine takeM Try.underlying28 (i := 7) rfl (by kernel_rfl) (by kernel_rfl) (by kernel_rfl) (some 23) rfl (.tmp 22) rfl (by rfl) b2 (o2 + j * 96) rfl (tdc x) (szC hlx.out) (fun w h => h.2.1) (fun _ _ _ h => h) (by assumption) ?_
      simp only [Act.put, List.setIfInBounds_toArray, List.set_cons_zero, List.set_cons_succ]
      refine takeR (i := 8) (v := ?_) rfl (by kernel_rfl) (by kernel_rfl) (by kernel_rfl) (some 24) rfl (Or.inl ⟨by rfl, ?_⟩) (fun _ _ _ h => h) (by assumption) ?_
      rotate_left
      · intro w hSw; (try dsimp only at hSw); go_simp; (try with_reducible rfl)
      simp only [Act.put, List.setIfInBounds_toArray, List.set_cons_zero, List.set_cons_succ]
      refine wpAnyH_done (by kernel_rfl) ?_ _
      have bel := hHeld.2.2
      clear hHeld r1 r2
      go_wp2_with fail
      go_roundw
      case rel => exact ⟨j + 1, by omega, by go_num, bel⟩
      case measure => simp [intOf]; omega
    · have hlt' : ¬ (j : Int) < (nn : Int) := by omega
      go_wp2_with fail
      go_ret
      exact ⟨rfl, hb⟩
end

section
open Go Go.RowKit
set_option linter.unusedVariables false
set_option linter.unusedSimpArgs false

set_option maxRecDepth 100000 in
set_option maxHeartbeats 4000000 in
theorem lall_any (a b : List Q4) (ha : isC a) (hb : isC b) (w : World) :
    Calls Try.prog 35 #[cv a, cv b] w fun e w' => ∃ u, e = .returned u ∧ CubesAt w' u (partsC a b) ∧ Below w.heap.size w w' := by
  have q0 := hide_ (fun w => parts_any a b ha hb w)
  have hla := hide_ ha.1
  have hlb := hide_ hb.1
  have hL := partsC_isC a b ha
  have hn := partsC_len a b
  have A0 := hide_ (((AB.at0 w 28 (tdc a)).alloc (.cells (tdc b).toArray 28)).alloc (.cells #[.slice none 0 0] 47))
  have C0 := hide_ ((AB.at1 w (.cells (tdc a).toArray 28) 28 (tdc b)).alloc (.cells #[.slice none 0 0] 47))
  have N0 : Hid (Boxed (((w.alloc (.cells (tdc a).toArray 28)).alloc (.cells (tdc b).toArray 28)).alloc (.cells #[.slice none 0 0] 47)) (w.heap.size + 1 + 1) 47 (.slice none 0 0)) := hide_ (by have := Boxed.new ((w.alloc (.cells (tdc a).toArray 28)).alloc (.cells (tdc b).toArray 28)) 47 (.slice none 0 0); simpa using this)
  have B0 := hide_ (below3 w (.cells (tdc a).toArray 28) (.cells (tdc b).toArray 28) (.cells #[.slice none 0 0] 47))
  generalize partsC a b = L at *
  unfold cv at *
  clear ha hb
  refine calls_of_wp_marks Try.func35 rfl ?_
  simp only [Try.ntmps35, List.size_toArray, List.length_cons, List.length_nil, Nat.reduceAdd, Nat.reduceSub, Array.replicate_succ, Array.replicate_zero, List.push_toArray, List.append_toArray, List.nil_append, List.cons_append]
  go_wp2_with (first | (refine wpList_loadA Try.underlying28 rfl (.tmp 2) rfl w.heap.size (by simp [Act.eval, Act.put]) (tdc a) (szC hla.out) A0.out ?_) | (refine wpList_loadA Try.underlying28 rfl (.tmp 3) rfl (w.heap.size + 1) (by simp [Act.eval, Act.put]) (tdc b) (szC hlb.out) C0.out ?_) | (go_at_call 30; refine (q0.out _).mono ?_; rintro e w1 ⟨v, rfl, hs, b1⟩; have hs := hide_ hs; have b1 := hide_ b1))
  have bw : Below w.heap.size w w1 := B0.out.trans (b1.out.mono B0.out.size)
  have hN1 : Boxed w1 (w.heap.size + 1 + 1) 47 (.slice none 0 0) := (b1.out.block _ N0.out.lt).trans N0.out
  obtain ⟨R, hRdef⟩ : ∃ R : Nat → Prop, (fun k => (((w.alloc (.cells (tdc a).toArray 28)).alloc (.cells (tdc b).toArray 28)).alloc (.cells #[.slice none 0 0] 47)).heap.size ≤ k ∧ k < w1.heap.size) = R := ⟨_, rfl⟩
  have hR : ∀ k, R k → w.heap.size + 1 + 1 < k ∧ k < w1.heap.size := fun k hk => by
    rw [← hRdef] at hk
    have := hk.1
    simp at this
    exact ⟨by omega, hk.2⟩
  have hs1 := hs.out
  rw [hRdef] at hs1
  clear hs hRdef
  refine wp_rangeX (α := List Q4) (v := v) (by rfl) hs1 (fun k hk => (hR k hk).2) (Below.refl _ _) (fun _ => rfl)
    (fun S pre W => RowI w.heap.size (w.heap.size + 1 + 1) w R S pre W ∧ w1.heap.size ≤ W.heap.size) (fun _ _ _ _ => False)
    (fun S x a' W => ∃ Bv, AB W Bv 28 (tdc x) ∧ ¬ S Bv ∧ a' = { tmps := #[.agg (tdc a).toArray, .agg (tdc b).toArray, .pointer (some ⟨w.heap.size, 0, none⟩), .pointer (some ⟨w.heap.size + 1, 0, none⟩), .slice none 0 0, .pointer (some ⟨w.heap.size + 1 + 1, 0, none⟩), .pointer (some ⟨Bv, 0, none⟩), .agg (tdc a).toArray, .agg (tdc b).toArray, v, .agg (tdc x).toArray, undef, undef, undef, undef, undef], defers := [] })
    (fun S pre A A' h ho => ⟨h.1.out ho (by omega) (Nat.le_refl _), Nat.le_trans h.2 ho.size⟩) (fun S pre A A' h ho => ⟨h.1.grow ho (by omega) (Nat.le_refl _), Nat.le_trans h.2 ho.size⟩) (fun _ _ _ _ _ h _ => h)
    (fun S x a' A A' ⟨Bv, h1, h2, h3⟩ ho => ⟨Bv, (ho.block Bv h1.lt h2).trans h1, h2, h3⟩)
    ?start ?assign ?body ?done (fun _ _ _ _ _ _ _ _ h => h.elim)
  case start =>
    intro W hb hsz
    refine ⟨⟨fun k hk => ?_, ⟨.slice none 0 0, (hb.block _ hN1.lt).trans hN1, World.ownsRow_nil _ _ _ _, fun g e => by cases e⟩, bw.trans (hb.mono bw.size)⟩, hb.size⟩
    rcases hk with hk | hk
    · exact hk.elim
    · have := hN1.lt; omega
  case assign =>
    intro l S pre x W hpre hi
    have hx := hL x (pre_mem hpre).1
    have HZ : Hid (AB (W.alloc (.cells Try.zeroCells28 28)) W.heap.size 28 (tdc z24q)) := hide_ (by rw [zcC]; exact AB.at0 W 28 (tdc z24q))
    have hlx := hide_ hx.1
    have HI := hide_ hi
    clear hi hx
    refine wpIn_region_of noOut rfl ?_
    go_wp2_with (refine wpList_storeA rfl (.tmp 6) (.tmp 10) rfl W.heap.size (by simp [Act.eval, Act.put]) (tdc z24q) (tdc x) (by rw [tdc_length, tdc_length, hlx.out, z24q_len]) (szC hlx.out) (tdc_one _) (by simp [Act.eval, Act.put]) HZ.out ?_)
    have hbW : Below W.heap.size W ((W.alloc (.cells Try.zeroCells28 28)).setRow W.heap.size (tdc x).toArray) := (below1 W (.cells Try.zeroCells28 28)).trans (below_row _ W.heap.size _ _ (Nat.le_refl _))
    refine ⟨Keep.of_below hbW (fun k hk => ?_), ⟨HI.out.1.out (Out.of_below hbW) (by omega) (Nat.le_refl _), Nat.le_trans HI.out.2 hbW.size⟩, W.heap.size, HZ.out.row, fun h => ?_, rfl⟩
    · rcases hk with hk | hk
      · exact Nat.lt_of_lt_of_le (hR k hk).2 HI.out.2
      · exact (HI.out.1.1 k hk).2
    · have := (HI.out.1.1 _ h).2; omega
  case body =>
    rintro l S pre x a' W hpre ⟨⟨hS, ⟨u, hu, hr, hg⟩, hb⟩, hsW⟩ ⟨Bv, hBv, hnS, rfl⟩
    have hx := hL x (pre_mem hpre).1
    have hlen := (pre_mem hpre).2
    have hlx := hide_ hx.1
    have hc0 := hu.cell
    obtain ⟨i0, hi0, hz0, hz1, hz2⟩ := info_parts infoC
    have HI : Hid (Try.prog.info? 28 = some i0 ∧ i0.zero = some (.agg (tdc z24q).toArray) ∧ i0.size = 96 ∧ i0.bytes = 768) := hide_ ⟨hi0, hz0, hz1, hz2⟩
    have HSS := hide_ hS
    have HU := hide_ hu
    have HR := hide_ hr
    have HG := hide_ hg
    have HB := hide_ hb
    have HBv := hide_ hBv
    have HRB : Hid (∀ k, R k → k < W.heap.size ∧ k ≠ (w.heap.size + 1 + 1)) := hide_ (fun k hk => by have := hR k hk; omega)
    clear hS hu hr hg hb hBv hi0 hz0 hz1 hz2 hx
    refine wpIn_block ?_
    refine wpIn_region_of (noOutB noOutP) rfl ?_
    go_wp2_with (first | (refine wpList_loadA Try.underlying28 rfl (.tmp 6) rfl Bv (by simp [Act.eval, Act.put]) (tdc x) (szC hlx.out) HBv.out ?_) | (refine wpList_build1 rfl 47 28 (.tmp 12) rfl (tdc x) (.agg (tdc z24q).toArray) 96 768 (by simp [Act.eval, Act.put]) Try.underlying47 infoC (by simp [Value.cells, szC0]) (by rw [tdc_length, hlx.out]) (by decide) (by decide) ?_) | (at_builtin; refine wpList_append_own_at _ rfl (.tmp 11) (.tmp 13) 47 rfl ((w.heap.size + 1 + 1) + 1) 28 i0 (.agg (tdc z24q).toArray) 96 768 Try.underlying47 HI.out.1 HI.out.2.1 HI.out.2.2.1 HI.out.2.2.2 (by simp [Value.cells, szC0]) (by decide) u pre.length (pre.flatMap tdc) (by simp [Act.eval, Act.put]) (HR.out.alloc _) ⟨W.heap.size, 0, none⟩ 1 1 (tdc x) (by simp [Act.eval, Act.put]) (by rw [tdc_length, hlx.out]) (news_alloc _ _ _) (tdc_one _) (by unfold maxLen; omega) (by omega) (by have := HU.out.lt; simp; omega) ?_; intro v1 w9 ho1 hgrow hnil hat; obtain ⟨g', cap', rfl⟩ := ownsRow_succ ho1; obtain ⟨hv1, hkeep, hrow⟩ := RowI.push HSS.out HU.out HR.out HG.out HB.out (by omega) (Nat.le_refl _) HRB.out ho1 hgrow hat; have hc1 := hv1.cell; have hf1 := hv1.frozen; have hv1 := hide_ hv1; have hkeep := hide_ hkeep; have hrow := hide_ hrow; clear ho1 hgrow hnil hat))
    exact ⟨hkeep.out, hrow.out, Nat.le_trans hsW hkeep.out.size⟩
  case done =>
    rintro D S W hD hSD ⟨⟨hS, ⟨u, hu, hr, hg⟩, hb⟩, hsW⟩ hK
    have hc := hu.cell
    have HK := hide_ hK
    have HR := hide_ (own_out (Out.putObj (.deferred none) hSD) (fun g e => (hg g e).1) hr)
    have HB := hide_ ((Out.putObj (.deferred none) hSD).below hb (Nat.le_refl _) (fun k hk => by have := (hS k hk).1; omega))
    clear hK hr hb hg hu hS
    go_wp2_with fail
    exact marksR (marks_ret HK.out (results_tmp rfl _ _ _) ⟨u, rfl, ⟨Cells.ofOwn HR.out, hL⟩, HB.out⟩)
end

section
open Go Go.RowKit
set_option linter.unusedVariables false
set_option linter.unusedSimpArgs false

theorem own_ne2 {w : World} {b1 b2 s1 s2 n1 n2 : Nat} {e1 e2 : TypeId} {v1 v2 : Value} {x1 x2 : List Value} (h1 : w.ownsRow b1 e1 s1 v1 n1 x1) (h2 : w.ownsRow b2 e2 s2 v2 n2 x2) (hne : e1 ≠ e2) (g : Nat) (k1 : v1.ownBlock = some g) (k2 : v2.ownBlock = some g) : False := by
  rcases h1.2 with ⟨rfl, -⟩ | ⟨g1, cap, cur, rfl, -, hg, -⟩
  · cases k1
  · rcases h2.2 with ⟨rfl, -⟩ | ⟨g2, cap2, cur2, rfl, -, hg2, -⟩
    · cases k2
    · have e1 : g1 = g := by simpa [Value.ownBlock] using k1
      have e2 : g2 = g := by simpa [Value.ownBlock] using k2
      subst e1
      subst e2
      rw [hg] at hg2
      simp at hg2
      exact hne hg2.2
theorem own_grown {w w' : World} {base : Nat} {e : TypeId} {size : Nat} {v : Value} {n : Nat} {xs : List Value} {row : Option Nat} (h : w.ownsRow base e size v n xs) (hg : w.grownBy w' row) (hne : ∀ g, v.ownBlock = some g → row ≠ some g) : w'.ownsRow base e size v n xs := by
  refine ⟨h.1, ?_⟩
  rcases h.2 with k | ⟨g, cap, cur, rfl, hb, hk, r⟩
  · exact .inl k
  · exact .inr ⟨g, cap, cur, rfl, hb, (hg.block g (Array.getElem?_eq_some_iff.1 hk).1 (fun e => hne g rfl e.symm)).trans hk, r⟩
theorem AB.grown {w w' : World} {n : Nat} {ty : TypeId} {cs : List Value} {row : Option Nat} (h : AB w n ty cs) (hg : w.grownBy w' row) (hne : row ≠ some n) : AB w' n ty cs := (hg.block n h.lt (fun e => hne e.symm)).trans h
theorem keepA3 {p0 p1 p2 : Addr} {x0 x1 x2 : Value} {w0 wa wb : World} (k : Below wa.heap.size wa wb) (h : wa.cell? p0 = some x0 ∧ wa.cell? p1 = some x1 ∧ wa.cell? p2 = some x2 ∧ Below w0.heap.size w0 wa) : wb.cell? p0 = some x0 ∧ wb.cell? p1 = some x1 ∧ wb.cell? p2 = some x2 ∧ Below w0.heap.size w0 wb :=
  ⟨cell_later k h.1, cell_later k h.2.1, cell_later k h.2.2.1, h.2.2.2.trans (k.mono h.2.2.2.size)⟩
theorem keepA5 {p0 p1 p2 p3 p4 : Addr} {x0 x1 x2 x3 x4 : Value} {w0 wa wb : World} (k : Below wa.heap.size wa wb) (h : wa.cell? p0 = some x0 ∧ wa.cell? p1 = some x1 ∧ wa.cell? p2 = some x2 ∧ wa.cell? p3 = some x3 ∧ wa.cell? p4 = some x4 ∧ Below w0.heap.size w0 wa) : wb.cell? p0 = some x0 ∧ wb.cell? p1 = some x1 ∧ wb.cell? p2 = some x2 ∧ wb.cell? p3 = some x3 ∧ wb.cell? p4 = some x4 ∧ Below w0.heap.size w0 wb :=
  ⟨cell_later k h.1, cell_later k h.2.1, cell_later k h.2.2.1, cell_later k h.2.2.2.1, cell_later k h.2.2.2.2.1, h.2.2.2.2.2.trans (k.mono h.2.2.2.2.2.size)⟩
theorem cell_fillq {w : World} {g i0 i1 i2 i3 : Nat} {p : Addr} (hp : g ≠ p.block) (x y z u : Value) : ((((w.setCell ⟨g, i0, none⟩ x).setCell ⟨g, i1, none⟩ y).setCell ⟨g, i2, none⟩ z).setCell ⟨g, i3, none⟩ u).cell? p = w.cell? p := by
  rw [World.cell?_of_block (w := _) (Below.heap_setCell _ _ _ _ (fun e => hp e.symm)), World.cell?_of_block (w := _) (Below.heap_setCell _ _ _ _ (fun e => hp e.symm)), World.cell?_of_block (w := _) (Below.heap_setCell _ _ _ _ (fun e => hp e.symm)), World.cell?_of_block (w := _) (Below.heap_setCell _ _ _ _ (fun e => hp e.symm))]
theorem keepA5s {p0 p1 p2 p3 p4 : Addr} {x0 x1 x2 x3 x4 y0 y1 y2 y3 : Value} {w0 wa : World} {g i0 i1 i2 i3 : Nat} (h : wa.cell? p0 = some x0 ∧ wa.cell? p1 = some x1 ∧ wa.cell? p2 = some x2 ∧ wa.cell? p3 = some x3 ∧ wa.cell? p4 = some x4 ∧ Below w0.heap.size w0 wa) (hg : w0.heap.size ≤ g) (n0 : g ≠ p0.block) (n1 : g ≠ p1.block) (n2 : g ≠ p2.block) (n3 : g ≠ p3.block) (n4 : g ≠ p4.block) :
    ((((wa.setCell ⟨g, i0, none⟩ y0).setCell ⟨g, i1, none⟩ y1).setCell ⟨g, i2, none⟩ y2).setCell ⟨g, i3, none⟩ y3).cell? p0 = some x0 ∧ ((((wa.setCell ⟨g, i0, none⟩ y0).setCell ⟨g, i1, none⟩ y1).setCell ⟨g, i2, none⟩ y2).setCell ⟨g, i3, none⟩ y3).cell? p1 = some x1 ∧ ((((wa.setCell ⟨g, i0, none⟩ y0).setCell ⟨g, i1, none⟩ y1).setCell ⟨g, i2, none⟩ y2).setCell ⟨g, i3, none⟩ y3).cell? p2 = some x2 ∧ ((((wa.setCell ⟨g, i0, none⟩ y0).setCell ⟨g, i1, none⟩ y1).setCell ⟨g, i2, none⟩ y2).setCell ⟨g, i3, none⟩ y3).cell? p3 = some x3 ∧ ((((wa.setCell ⟨g, i0, none⟩ y0).setCell ⟨g, i1, none⟩ y1).setCell ⟨g, i2, none⟩ y2).setCell ⟨g, i3, none⟩ y3).cell? p4 = some x4 ∧ Below w0.heap.size w0 ((((wa.setCell ⟨g, i0, none⟩ y0).setCell ⟨g, i1, none⟩ y1).setCell ⟨g, i2, none⟩ y2).setCell ⟨g, i3, none⟩ y3) :=
  ⟨(cell_fillq n0 _ _ _ _).trans h.1, (cell_fillq n1 _ _ _ _).trans h.2.1, (cell_fillq n2 _ _ _ _).trans h.2.2.1, (cell_fillq n3 _ _ _ _).trans h.2.2.2.1, (cell_fillq n4 _ _ _ _).trans h.2.2.2.2.1, below_fillq h.2.2.2.2.2 hg _ _ _ _ _ _ _ _⟩
set_option maxRecDepth 100000 in
set_option maxHeartbeats 2000000 in
theorem rtbits_own (a b c d a2 b2 c2 d2 : Nat) (w : World) (ha : a < 18446744073709551616) (hb : b < 18446744073709551616) (hc : c < 18446744073709551616) (hd : d < 18446744073709551616) (ha2 : a2 < 18446744073709551616) (hb2 : b2 < 18446744073709551616) (hc2 : c2 < 18446744073709551616) (hd2 : d2 < 18446744073709551616) :
    Calls Try.prog 59 #[td a b c d, td a2 b2 c2 d2] w fun e w' => ∃ u, e = .returned u ∧ w'.ownsRow w.heap.size 3 1 u (fall (hasb (andn c2 c) (andn d2 d)) 128).length (i64s (fall (hasb (andn c2 c) (andn d2 d)) 128)) ∧ Below w.heap.size w w' := by
  have Y1 := hide_ (fun (j : Nat) (hj : j < 128) w => rhasb c2 d2 j w hc2 hd2 hj)
  have Y2 := hide_ (fun (j : Nat) (hj : j < 128) w => rhasb c d j w hc hd hj)
  rw [show fall (hasb (andn c2 c) (andn d2 d)) 128 = fall (fun i => hasb c2 d2 i && !hasb c d i) 128 from fall_congr (fun i hi => less_hasb c2 d2 c d i hc hd hi)]
  have HL0 := fall_len (fun i => hasb c2 d2 i && !hasb c d i) 128
  obtain ⟨P, hP⟩ : ∃ P : Nat → Bool, (fun i => hasb c2 d2 i && !hasb c d i) = P := ⟨_, rfl⟩
  have HPP : Hid (∀ i, P i = (hasb c2 d2 i && !hasb c d i)) := hide_ (fun i => by rw [← hP])
  rw [hP] at HL0 ⊢
  clear hP
  generalize hasb c2 d2 = p1 at *
  generalize hasb c d = p2 at *
  obtain ⟨L, HL⟩ : ∃ L, fall P 128 = L := ⟨_, rfl⟩
  rw [HL] at HL0 ⊢
  obtain ⟨i0, hi0, hz0, hz1, hz2⟩ := info_parts info3
  have HI : Hid (Try.prog.info? 3 = some i0 ∧ i0.zero = some (.int .i64 0) ∧ i0.size = 1 ∧ i0.bytes = 8) := ⟨hi0, hz0, hz1, hz2⟩
  clear hi0 hz0 hz1 hz2 ha hb hc hd ha2 hb2 hc2 hd2
  have HF := hide_ HL
  clear HL
  unfold td at *
  unfold wd at *
  have hA := hide_ (((AB.at0 w 26 [.int .u64 (a : Int), .int .u64 (b : Int), .int .u64 (c : Int), .int .u64 (d : Int)]).alloc (.cells #[.int .u64 (a2 : Int), .int .u64 (b2 : Int), .int .u64 (c2 : Int), .int .u64 (d2 : Int)] 26)).alloc (.cells #[] 3))
  have hC := hide_ ((AB.at1 w (.cells #[.int .u64 (a : Int), .int .u64 (b : Int), .int .u64 (c : Int), .int .u64 (d : Int)] 26) 26 [.int .u64 (a2 : Int), .int .u64 (b2 : Int), .int .u64 (c2 : Int), .int .u64 (d2 : Int)]).alloc (.cells #[] 3))
  have hB := hide_ (below3 w (.cells #[.int .u64 (a : Int), .int .u64 (b : Int), .int .u64 (c : Int), .int .u64 (d : Int)] 26) (.cells #[.int .u64 (a2 : Int), .int .u64 (b2 : Int), .int .u64 (c2 : Int), .int .u64 (d2 : Int)] 26) (.cells #[] 3))
  have hO : Hid (World.ownsRow (((w.alloc (.cells #[.int .u64 (a : Int), .int .u64 (b : Int), .int .u64 (c : Int), .int .u64 (d : Int)] 26)).alloc (.cells #[.int .u64 (a2 : Int), .int .u64 (b2 : Int), .int .u64 (c2 : Int), .int .u64 (d2 : Int)] 26)).alloc (.cells #[] 3)) (w.heap.size + 1 + 1) 3 1 (.slice (some ⟨w.heap.size + 1 + 1, 0, none⟩) 0 0) 0 []) := hide_ (by have := World.ownsRow_made (base := w.heap.size + 1 + 1) (e := 3) (size := 1) ((w.alloc (.cells #[.int .u64 (a : Int), .int .u64 (b : Int), .int .u64 (c : Int), .int .u64 (d : Int)] 26)).alloc (.cells #[.int .u64 (a2 : Int), .int .u64 (b2 : Int), .int .u64 (c2 : Int), .int .u64 (d2 : Int)] 26)) #[] 0 (by simp) (Nat.zero_le _) rfl; simpa using this)
  go_enter Try.func59, Try.ntmps59
  go_wp2_with fail
  generalize (((w.alloc (.cells #[.int .u64 (a : Int), .int .u64 (b : Int), .int .u64 (c : Int), .int .u64 (d : Int)] 26)).alloc (.cells #[.int .u64 (a2 : Int), .int .u64 (b2 : Int), .int .u64 (c2 : Int), .int .u64 (d2 : Int)] 26)).alloc (.cells #[] 3)) = W at *
  go_loopw [5, 6] (fun u i wr => ∃ (k m : Nat) (ua : Option Addr) (uc : Nat) (out : List Nat), k ≤ 128 ∧ i = .int .i64 ((k : Int) - 1) ∧ u = .slice ua m uc ∧ Hid (out ++ fall P k = L) ∧ Hid (m = out.length) ∧ Hid (AB wr w.heap.size 26 [.int .u64 (a : Int), .int .u64 (b : Int), .int .u64 (c : Int), .int .u64 (d : Int)]) ∧ Hid (AB wr (w.heap.size + 1) 26 [.int .u64 (a2 : Int), .int .u64 (b2 : Int), .int .u64 (c2 : Int), .int .u64 (d2 : Int)]) ∧ Hid (wr.ownsRow (w.heap.size + 1 + 1) 3 1 (.slice ua m uc) m (i64s out)) ∧ Below w.heap.size w wr) (fun _ i _ => (intOf i + 1).toNat)
  case atStart => exact ⟨128, 0, _, _, [], Nat.le_refl _, rfl, rfl, hide_ (by simpa using HF.out), hide_ rfl, hA, hC, by simpa [i64s] using hO, hB.out⟩
  case round =>
    obtain ⟨k, m, ua, uc, out, hk, hi, rfl, HF1, HM, HA, HC, HO, hb⟩ := hrel
    cases k with
    | zero =>
      have e : ((0 : Nat) : Int) - 1 = -1 := by omega
      rw [e] at hi
      subst hi
      go_wp2_with fail
      go_ret
      have e1 : out = L := by have := HF1.out; simpa [fall] using this
      have e2 := HM.out
      subst e2
      subst e1
      exact ⟨_, rfl, ownsRow_mono HO.out (by omega), hb⟩
    | succ j =>
      have e : ((j + 1 : Nat) : Int) - 1 = (j : Int) := by omega
      rw [e] at hi
      subst hi
      have g1 : (0 : Int) ≤ (j : Int) := by omega
      have y1 := hide_ (Y1.out j (by omega))
      have y2 := hide_ (Y2.out j (by omega))
      have HP := hide_ (HPP.out j)
      obtain ⟨-, -, o2, o3, -⟩ := HC.out.four
      obtain ⟨-, -, i2, i3, -⟩ := HA.out.four
      have hml : m + (fall P (j + 1)).length = L.length := by rw [← HF1.out, HM.out]; simp
      cases h1 : p1 j
      · rw [h1] at y1 HP
        go_wp2_with (first | (go_at_call_of 60 (Value.int IntKind.u64 (c2 : Int)); refine (y1.out _).mono ?_; rintro e wy1 ⟨rfl, by1⟩; obtain ⟨-, -, m2, m3, -⟩ := (HA.out.later by1).four))
        go_roundw
        case rel => exact ⟨j, m, ua, uc, out, by omega, by go_num, rfl, hide_ (by rw [← HF1.out, fall, HP.out]; simp), HM, hide_ (HA.out.later by1), hide_ (HC.out.later by1), hide_ (ownsRow_later HO.out by1), hb.trans (by1.mono hb.size)⟩
        case measure => simp [intOf]
      · rw [h1] at y1 HP
        cases h2 : p2 j
        · rw [h2] at y2 HP
          have hml2 : m + 1 ≤ L.length := by rw [← hml, fall, HP.out]; simp
          go_wp2_with (first | (go_at_call_of 60 (Value.int IntKind.u64 (c2 : Int)); refine (y1.out _).mono ?_; rintro e wy1 ⟨rfl, by1⟩; obtain ⟨-, -, m2, m3, -⟩ := (HA.out.later by1).four) | (go_at_call_of 60 (Value.int IntKind.u64 (c : Int)); refine (y2.out _).mono ?_; rintro e wy2 ⟨rfl, by2⟩) | (at_builtin; refine wpList_append_new (.tmp 23) (.tmp 25) 64 rfl 3 i0 (.int .i64 0) 1 8 Try.underlying64 HI.out.1 HI.out.2.1 HI.out.2.2.1 HI.out.2.2.2 rfl (by decide) (w.heap.size + 1 + 1) (.slice ua m uc) m (i64s out) (by simp [Act.eval, Act.put]) wy2 (ownsRow_later HO.out (by1.trans (by2.mono by1.size))) [.int .i64 (j : Int)] _ rfl 1 (by simp) (by simp [Value.oneCell']) (by simp [Act.eval, Act.put]) (by simp [Region.wanted]) (by unfold maxLen; omega) (by omega) (Nat.lt_of_lt_of_le HC.out.lt (Nat.le_trans by1.size by2.size)) ?_; intro v4 w4 ho4 hb4; obtain ⟨va, vc, rfl⟩ := own_slice ho4; have HO4 := hide_ ho4; have K4 : Hid (Below (w.heap.size + 1 + 1) wr w4) := hide_ (((by1.trans (by2.mono by1.size)).mono HC.out.lt).trans hb4); clear ho4 hb4))
          go_roundw
          case rel => exact ⟨j, m + 1, va, vc, out ++ [j], by omega, by go_num, rfl, hide_ (by rw [← HF1.out, fall, HP.out]; simp), hide_ (by have := HM.out; simp; omega), hide_ (HA.out.below K4.out (by omega)), hide_ (HC.out.below K4.out (by omega)), hide_ (by rw [i64s_app]; exact HO4.out), hb.trans (K4.out.mono (by omega))⟩
          case measure => simp [intOf]
        · rw [h2] at y2 HP
          go_wp2_with (first | (go_at_call_of 60 (Value.int IntKind.u64 (c2 : Int)); refine (y1.out _).mono ?_; rintro e wy1 ⟨rfl, by1⟩; obtain ⟨-, -, m2, m3, -⟩ := (HA.out.later by1).four) | (go_at_call_of 60 (Value.int IntKind.u64 (c : Int)); refine (y2.out _).mono ?_; rintro e wy2 ⟨rfl, by2⟩))
          go_roundw
          case rel => exact ⟨j, m, ua, uc, out, by omega, by go_num, rfl, hide_ (by rw [← HF1.out, fall, HP.out]; simp), HM, hide_ (HA.out.later (by1.trans (by2.mono by1.size))), hide_ (HC.out.later (by1.trans (by2.mono by1.size))), hide_ (ownsRow_later HO.out (by1.trans (by2.mono by1.size))), hb.trans ((by1.trans (by2.mono by1.size)).mono hb.size)⟩
          case measure => simp [intOf]

set_option maxRecDepth 100000 in
set_option maxHeartbeats 8000000 in
theorem rlist_any (a b : List Q4) (ha : isC a) (hb : isC b) (w : World) :
    Calls Try.prog 31 #[cv a, cv b] w fun e w' => ∃ u, e = .returned u ∧ CubesAt w' u (partsC a b) ∧ Below w.heap.size w w' := by
  have q0 := hide_ (fun w => rcclean_any a ha w)
  have q1 := hide_ (fun w => rcmeet_any a b ha hb w)
  have HLa := hide_ ha
  have HLb := hide_ hb
  have hla := hide_ ha.1
  have hlb := hide_ hb.1
  have hL := hide_ (partsC_isC a b ha)
  have hn := partsC_len a b
  have K1 := hide_ (fun h : okC a b = true => partsC_ok h)
  have K0 := hide_ (fun h : okC a b = false => partsC_no h)
  have hlM := hide_ (meetC_isC a b ha hb).1
  have hclC := hide_ (cleanC_isC a ha)
  have A0 := hide_ ((AB.at0 w 28 (tdc a)).alloc (.cells (tdc b).toArray 28))
  have C0 := hide_ (AB.at1 w (.cells (tdc a).toArray 28) 28 (tdc b))
  have B0 := hide_ (below2 w (.cells (tdc a).toArray 28) (.cells (tdc b).toArray 28))
  generalize meetC a b = M at *
  generalize cleanC a = left0 at *
  generalize partsC a b = L at *
  cases hok : okC a b
  all_goals
    rw [hok] at q1
    unfold cv at *
    clear ha hb
    go_enter Try.func31, Try.ntmps31
    go_upto_region 3 with (first | (refine wpList_loadA Try.underlying28 rfl (.tmp 2) rfl w.heap.size (by simp [Act.eval, Act.put]) (tdc a) (szC hla.out) (A0.out) ?_) | (go_at_call 20; refine (q0.out _).mono ?_; rintro e w1 ⟨rfl, b1⟩; have Z1 : Hid (AB (w1.alloc (.cells Try.zeroCells28 28)) w1.heap.size 28 (tdc z24q)) := hide_ (by rw [zcC]; exact AB.at0 w1 28 (tdc z24q)); have hs1 := b1.size; have hA1 := (A0.out.later b1).lt; have hC1 := (C0.out.later b1).lt; have bW : Below w1.heap.size w1 ((w1.alloc (.cells Try.zeroCells28 28)).setRow w1.heap.size (tdc left0).toArray) := (below1 w1 _).trans (below_row _ _ _ _ (Nat.le_refl _)); have A1 := hide_ ((A0.out.later b1).later bW); have C1 := hide_ ((C0.out.later b1).later bW); have L1 := hide_ (Z1.out.row (cs' := tdc left0)); have B1 := hide_ (B0.out.trans ((b1.trans (bW.mono b1.size)).mono B0.out.size))) | (refine wpList_storeA rfl (.tmp 5) (.tmp 15) rfl w1.heap.size (by simp [Act.eval, Act.put]) (tdc z24q) (tdc left0) (by rw [tdc_length, tdc_length, hclC.out.1, z24q_len]) (szC hclC.out.1) (tdc_one _) (by simp [Act.eval, Act.put]) Z1.out ?_) | (refine wpList_loadA Try.underlying28 rfl (.tmp 2) rfl w.heap.size (by simp [Act.eval, Act.put]) (tdc a) (szC hla.out) (A1.out) ?_) | (refine wpList_loadA Try.underlying28 rfl (.tmp 3) rfl (w.heap.size + 1) (by simp [Act.eval, Act.put]) (tdc b) (szC hlb.out) (C1.out) ?_) | (go_at_call 10; refine (q1.out _).mono ?_; rintro e w2 ⟨rfl, b2⟩; have Z2 : Hid (AB (w2.alloc (.cells Try.zeroCells28 28)) w2.heap.size 28 (tdc z24q)) := hide_ (by rw [zcC]; exact AB.at0 w2 28 (tdc z24q)); have bV : Below w2.heap.size w2 ((w2.alloc (.cells Try.zeroCells28 28)).setRow w2.heap.size (tdc M).toArray) := (below1 w2 _).trans (below_row _ _ _ _ (Nat.le_refl _)); have A2 := hide_ ((A1.out.later b2).later bV); have C2 := hide_ ((C1.out.later b2).later bV); have L2 := hide_ ((L1.out.later b2).later bV); have B2 := hide_ (B1.out.trans ((b2.trans (bV.mono b2.size)).mono B1.out.size))) | (refine wpList_storeA rfl (.tmp 6) (.tmp 20) rfl w2.heap.size (by simp [Act.eval, Act.put]) (tdc z24q) (tdc M) (by rw [tdc_length, tdc_length, hlM.out, z24q_len]) (szC hlM.out) (tdc_one _) (by simp [Act.eval, Act.put]) Z2.out ?_))
    generalize (w2.alloc (.cells Try.zeroCells28 28)).setRow w2.heap.size (tdc M).toArray = V at *
    clear b1 b2 bW bV A0 A1 C0 C1 L1 B0 B1 Z1 Z2
    generalize w1.heap.size = n0 at *
  · have hL1 := K0.out hok
    go_wp2_with (first | (refine wpList_loadA Try.underlying28 rfl (.tmp 5) rfl n0 (by simp [Act.eval, Act.put]) (tdc left0) (szC hclC.out.1) (L2.out) ?_) | (refine wpList_build1 rfl 47 28 (.tmp 24) rfl (tdc left0) (.agg (tdc z24q).toArray) 96 768 (by simp [Act.eval, Act.put]) Try.underlying47 infoC (by simp [Value.cells, szC0]) (by rw [tdc_length, hclC.out.1]) (by decide) (by decide) ?_))
    go_ret
    refine ⟨_, rfl, ⟨?_, hL.out⟩, B2.out.alloc B2.out.size _⟩
    rw [hL1]
    have := Cells.fresh V (tdc left0) 28 V.heap.size 96 1 rfl (by rw [tdc_length, hclC.out.1]) (by decide)
    simpa using this
  · have HL1 := hide_ (K1.out hok)
    clear hok K0 K1
    obtain ⟨N0, hN0⟩ : ∃ N0, V.heap.size = N0 := ⟨_, rfl⟩
    have hN : n0 < N0 := by rw [← hN0]; exact L2.out.lt
    have hNa : w.heap.size < N0 := by rw [← hN0]; exact A2.out.lt
    have hNb : w.heap.size + 1 < N0 := by rw [← hN0]; exact C2.out.lt
    have HO0 : Hid ((V.alloc (.cells #[] 28)).ownsRow N0 28 96 (.slice (some ⟨V.heap.size, 0, none⟩) 0 0) 0 []) := hide_ ⟨rfl, .inr ⟨V.heap.size, 0, #[], rfl, by omega, heap_alloc_last V _, Nat.le_refl _, Nat.zero_le _, rfl, rfl⟩⟩
    have A3 := hide_ (A2.out.alloc (.cells #[] 28))
    have C3 := hide_ (C2.out.alloc (.cells #[] 28))
    have L3 := hide_ (L2.out.alloc (.cells #[] 28))
    have B3 := hide_ (B2.out.alloc B2.out.size (.cells #[] 28))
    have hV3 : N0 ≤ (V.alloc (.cells #[] 28)).heap.size := by simp; omega
    clear A2 C2 L2 B2
    go_wp2_with fail
    generalize V.alloc (.cells #[] 28) = V3 at *
    try rw [hN0]
    try rw [hN0] at HO0
    clear hN0
    go_loopw [8, 9, 10, 11, 12, 13] (fun u i _ _ _ _ wr => ∃ (f : Nat) (pre : List (List Q4)) (left : List Q4), f ≤ 24 ∧ i = .int .i64 (f : Int) ∧ Hid (pre ++ fieldsP a b (List.range' f (24 - f)) left = L) ∧ Hid (wr.ownsRow N0 28 96 u pre.length (pre.flatMap tdc)) ∧ Hid (isC left) ∧ Hid (AB wr n0 28 (tdc left)) ∧ Hid (AB wr w.heap.size 28 (tdc a)) ∧ Hid (AB wr (w.heap.size + 1) 28 (tdc b)) ∧ N0 ≤ wr.heap.size ∧ Hid (Below w.heap.size w wr)) (fun _ i _ _ _ _ _ => 24 - (intOf i).toNat)
    case atStart => exact ⟨0, [], left0, by omega, rfl, hide_ HL1.out.symm, HO0, hclC, L3, A3, C3, hV3, B3⟩
    case round =>
      clear HO0 L3 A3 C3 hV3 B3
      obtain ⟨f, pre, left, hf, rfl, HE, HO, HI, HN, HA, HC, hNN, HB⟩ := hrel
      by_cases hlt : f < 24
      · have hlt' : (f : Int) < 24 := by omega
        have hf0 : (0 : Int) ≤ (f : Int) := by omega
        obtain ⟨a1, b1, c1, d1, e1, f1, h1, h2, h3, h4⟩ := getq HLa.out hlt
        obtain ⟨a2, b2, c2, d2, e2, f2, i1, i2, i3, i4⟩ := getq HLb.out hlt
        have HB4 := hide_ (And.intro i1 (And.intro i2 (And.intro e2 f2)))
        have HE1 : Hid (pre ++ (bitsP (cq b f) f (bitsq (cq a f) (cq b f)) left ++ fieldsP a b (List.range' (f + 1) (24 - (f + 1))) (bitsL (cq b f) f (bitsq (cq a f) (cq b f)) left)) = L) := hide_ (by rw [← HE.out, range'_cons f hlt]; rfl)
        have hbl : (bitsq (cq a f) (cq b f)).length ≤ 128 := fall_len _ 128
        have HBL := hide_ (bitsq_lt (cq a f) (cq b f))
        have q2 : Hid (∀ w, Calls Try.prog 59 #[td a1 b1 c1 d1, td a2 b2 c2 d2] w fun e w' => ∃ u, e = .returned u ∧ w'.ownsRow w.heap.size 3 1 u (bitsq (cq a f) (cq b f)).length (i64s (bitsq (cq a f) (cq b f))) ∧ Below w.heap.size w w') := hide_ (by rw [f1, f2]; exact fun w => rtbits_own a1 b1 c1 d1 a2 b2 c2 d2 w h1 h2 h3 h4 i1 i2 i3 i4)
        generalize bitsq (cq a f) (cq b f) = is at *
        obtain ⟨o0, o1, o2, o3, -⟩ := HA.out.quad e1
        obtain ⟨o4, o5, o6, o7, -⟩ := HC.out.quad e2
        clear e1 f1 e2 f2 h1 h2 h3 h4 i1 i2 i3 i4 HE
        unfold td at q2
        generalize hnn : is.length = nn at *
        have HNN := hide_ hnn
        clear hnn
        go_wp2_with fail
        go_region_held3 (fun w' => w'.cell? ⟨w.heap.size, f * 4, none⟩ = some (.int .u64 (a1 : Int)) ∧ w'.cell? ⟨w.heap.size, f * 4 + 1, none⟩ = some (.int .u64 (b1 : Int)) ∧ w'.cell? ⟨w.heap.size, f * 4 + 2, none⟩ = some (.int .u64 (c1 : Int)) ∧ w'.cell? ⟨w.heap.size, f * 4 + 3, none⟩ = some (.int .u64 (d1 : Int)) ∧ w'.cell? ⟨w.heap.size + 1, f * 4, none⟩ = some (.int .u64 (a2 : Int)) ∧ w'.cell? ⟨w.heap.size + 1, f * 4 + 1, none⟩ = some (.int .u64 (b2 : Int)) ∧ w'.cell? ⟨w.heap.size + 1, f * 4 + 2, none⟩ = some (.int .u64 (c2 : Int)) ∧ w'.cell? ⟨w.heap.size + 1, f * 4 + 3, none⟩ = some (.int .u64 (d2 : Int)) ∧ Below wr.heap.size wr w')
          (first | (with_reducible exact keepA8 (by assumption) (by assumption)) | (exact ⟨o0, o1, o2, o3, o4, o5, o6, o7, (Below.refl _ _).drew⟩) | (exact ⟨o0, o1, o2, o3, o4, o5, o6, o7, Below.refl _ _⟩))
          (first | (go_at_call 59; refine (q2.out _).mono ?_; rintro e w4 ⟨uu, rfl, hown, b4⟩; have hcl := Cells.ofOwn hown; have hown := hide_ hown; obtain ⟨-, ad, cap, rfl, -⟩ := hcl))
        rename_i hH
        have kk := hH.2.2.2.2.2.2.2.2
        clear hH
        have hkz := kk.size
        have HO4 := hide_ (own_later HO.out kk)
        have HOl : Hid (w4.ownsRow 0 3 1 (.slice ad nn cap) nn (i64s is)) := hide_ (ownsRow_mono hown.out (Nat.zero_le _))
        have N4 := hide_ (HN.out.later kk)
        have A4 := hide_ (HA.out.later kk)
        have C4 := hide_ (HC.out.later kk)
        have B4 := hide_ (HB.out.trans (kk.mono HB.out.size))
        have HE2 : Hid (pre ++ (bitsP (cq b f) f (is.drop 0) left ++ fieldsP a b (List.range' (f + 1) (24 - (f + 1))) (bitsL (cq b f) f (is.drop 0) left)) = L) := hide_ (by rw [List.drop_zero]; exact HE1.out)
        have hN4 : N0 ≤ w4.heap.size := by omega
        clear o0 o1 o2 o3 o4 o5 o6 o7 hown b4 q2 HE1 HN HA HC HB HO kk hkz
        go_wp2_with fail
        go_loopw [8, 11, 12, 13] (fun u i _ _ wr => ∃ (j : Nat) (pre : List (List Q4)) (left : List Q4), j ≤ nn ∧ i = .int .i64 (j : Int) ∧ Hid (pre ++ (bitsP (cq b f) f (is.drop j) left ++ fieldsP a b (List.range' (f + 1) (24 - (f + 1))) (bitsL (cq b f) f (is.drop j) left)) = L) ∧ Hid (wr.ownsRow N0 28 96 u pre.length (pre.flatMap tdc)) ∧ Hid (wr.ownsRow 0 3 1 (.slice ad nn cap) nn (i64s is)) ∧ Hid (isC left) ∧ Hid (AB wr n0 28 (tdc left)) ∧ Hid (AB wr w.heap.size 28 (tdc a)) ∧ Hid (AB wr (w.heap.size + 1) 28 (tdc b)) ∧ N0 ≤ wr.heap.size ∧ Hid (Below w.heap.size w wr)) (fun _ i _ _ _ => nn - (intOf i).toNat)
        case atStart => exact ⟨0, pre, left, by omega, rfl, HE2, HO4, HOl, HI, N4, A4, C4, hN4, B4⟩
        case round =>
          clear HE2 HO4 HOl HI N4 A4 C4 hN4 B4
          clear pre left
          obtain ⟨j, pre, left, hj, rfl, HE, HO, HOl, HI, HN, HA, HC, hNN2, HB⟩ := hrel
          by_cases hjn : j < nn
          · have hjn' : (j : Int) < (nn : Int) := by omega
            have hj0 : (0 : Int) ≤ (j : Int) := by omega
            obtain ⟨i, hi⟩ : ∃ i, is[j]? = some i := ⟨_, List.getElem?_eq_getElem (by have := HNN.out; omega)⟩
            have hi128 : i < 128 := HBL.out i (List.mem_of_getElem? hi)
            obtain ⟨g, cap', hv, hcell, -⟩ := own_cell HOl.out hi
            cases hv
            have hgl := (own_lt HOl.out (g := g) rfl).2
            have hgne : g ≠ n0 := fun e => own_ne HN.out HOl.out (by decide) (by rw [e]; rfl)
            obtain ⟨i1, i2, e2, f2⟩ := HB4.out
            obtain ⟨a3, b3, c3, d3, e3, f3, h1, h2, h3, h4⟩ := getq HI.out hlt
            have HIl := hide_ HI.out.1
            have Hon : Hid (onq (cq b f) i = hasb a2 b2 i) := hide_ (by rw [f2]; rfl)
            have HE1 : Hid (pre ++ (putq left f i (!onq (cq b f) i) :: (bitsP (cq b f) f (is.drop (j + 1)) (putq left f i (onq (cq b f) i)) ++ fieldsP a b (List.range' (f + 1) (24 - (f + 1))) (bitsL (cq b f) f (is.drop (j + 1)) (putq left f i (onq (cq b f) i))))) = L) := hide_ (by rw [← HE.out, drop_cons_at hi]; rfl)
            have hlen := (pre_mem (pre_snoc HE1.out)).2
            have HP1 := hide_ (putq_isC HI.out hlt hi128 (onq (cq b f) i))
            have HP2 := hide_ (putq_isC HI.out hlt hi128 (!onq (cq b f) i)).1
            rw [Hon.out] at HE1 HP1 HP2
            have q3 := hide_ (fun w => rhasb a2 b2 i w i1 i2 hi128)
            generalize hasb a2 b2 i = z at *
            have q4 : Hid (∀ w, Calls Try.prog 61 #[td a3 b3 c3 d3, .int .i64 (i : Int), .bool (!z)] w fun e w' => e = .returned (td (fixv (a3 &&& c3) (bh i) (!z)) (fixv (b3 &&& d3) (bl i) (!z)) (c3 ||| bh i) (d3 ||| bl i)) ∧ Below w.heap.size w w') := hide_ (fun w => by have := rtfix_any a3 b3 c3 d3 (i : Int) (!z) w h1 h2 h3 h4; rwa [bhz_nat i hi128, blz_nat i hi128] at this)
            have q5 : Hid (∀ w, Calls Try.prog 61 #[td a3 b3 c3 d3, .int .i64 (i : Int), .bool z] w fun e w' => e = .returned (td (fixv (a3 &&& c3) (bh i) z) (fixv (b3 &&& d3) (bl i) z) (c3 ||| bh i) (d3 ||| bl i)) ∧ Below w.heap.size w w') := hide_ (fun w => by have := rtfix_any a3 b3 c3 d3 (i : Int) z w h1 h2 h3 h4; rwa [bhz_nat i hi128, blz_nat i hi128] at this)
            have HX : Hid (putq left f i (!z) = left.set f (fixv (a3 &&& c3) (bh i) (!z), fixv (b3 &&& d3) (bl i) (!z), c3 ||| bh i, d3 ||| bl i)) := hide_ (by unfold putq; rw [f3]; rfl)
            have HXL : Hid (putq left f i z = left.set f (fixv (a3 &&& c3) (bh i) z, fixv (b3 &&& d3) (bl i) z, c3 ||| bh i, d3 ||| bl i)) := hide_ (by unfold putq; rw [f3]; rfl)
            generalize fixv (a3 &&& c3) (bh i) (!z) = x1 at *
            generalize fixv (b3 &&& d3) (bl i) (!z) = x2 at *
            generalize fixv (a3 &&& c3) (bh i) z = y1 at *
            generalize fixv (b3 &&& d3) (bl i) z = y2 at *
            generalize c3 ||| bh i = x3 at *
            generalize d3 ||| bl i = x4 at *
            generalize putq left f i (!z) = px at *
            generalize putq left f i z = pl at *
            have HE3 := hide_ e3
            have HIJ := hide_ hi
            obtain ⟨o0, o1, -⟩ := HC.out.quad e2
            clear e2 f2 e3 f3 h1 h2 h3 h4 i1 i2 HE hi Hon
            unfold td at q4 q5
            unfold wd at q3
            have hn0 := HN.out.lt
            go_wp2_with fail
            go_region_held3 (fun w' => w'.cell? ⟨w.heap.size + 1, f * 4, none⟩ = some (.int .u64 (a2 : Int)) ∧ w'.cell? ⟨w.heap.size + 1, f * 4 + 1, none⟩ = some (.int .u64 (b2 : Int)) ∧ w'.cell? ⟨g, j, none⟩ = some (.int .i64 (i : Int)) ∧ Below wr.heap.size wr w')
              (first | (with_reducible exact keepA3 (by assumption) (by assumption)) | (exact ⟨o0, o1, hcell, (Below.refl _ _).drew⟩) | (exact ⟨o0, o1, hcell, Below.refl _ _⟩))
              (first | (go_at_call 60; refine (q3.out _).mono ?_; rintro e w4 ⟨rfl, b4⟩))
            rename_i hH
            have k4 := hH.2.2.2
            clear hH b4
            have hs4 := k4.size
            have Z4 : Hid (AB (w4.alloc (.cells Try.zeroCells28 28)) w4.heap.size 28 (tdc z24q)) := hide_ (by rw [zcC]; exact AB.at0 w4 28 (tdc z24q))
            have P4 := hide_ (Z4.out.row (cs' := tdc left))
            have bV : Below w4.heap.size w4 ((w4.alloc (.cells Try.zeroCells28 28)).setRow w4.heap.size (tdc left).toArray) := (below1 w4 _).trans (below_row _ _ _ _ (Nat.le_refl _))
            have k5 : Below wr.heap.size wr ((w4.alloc (.cells Try.zeroCells28 28)).setRow w4.heap.size (tdc left).toArray) := k4.trans (bV.mono k4.size)
            obtain ⟨s0, s1, s2, s3, -⟩ := (HN.out.later k5).quad HE3.out
            have hcell5 := cell_later k5 hcell
            go_upto_region 15 with (first | (refine wpList_loadA Try.underlying28 rfl (.tmp 5) rfl n0 (by simp [Act.eval, Act.put]) (tdc left) (szC HIl.out) (HN.out.later k4) ?_) | (refine wpList_storeA rfl (.tmp 13) (.tmp 53) rfl w4.heap.size (by simp [Act.eval, Act.put]) (tdc z24q) (tdc left) (by rw [tdc_length, tdc_length, HIl.out, z24q_len]) (szC HIl.out) (tdc_one _) (by simp [Act.eval, Act.put]) Z4.out ?_))
            generalize (w4.alloc (.cells Try.zeroCells28 28)).setRow w4.heap.size (tdc left).toArray = V5 at *
            generalize w4.heap.size = m at *
            clear Z4 bV k4 o0 o1
            go_region_held3 (fun w' => w'.cell? ⟨n0, f * 4, none⟩ = some (.int .u64 (a3 : Int)) ∧ w'.cell? ⟨n0, f * 4 + 1, none⟩ = some (.int .u64 (b3 : Int)) ∧ w'.cell? ⟨n0, f * 4 + 2, none⟩ = some (.int .u64 (c3 : Int)) ∧ w'.cell? ⟨n0, f * 4 + 3, none⟩ = some (.int .u64 (d3 : Int)) ∧ w'.cell? ⟨g, j, none⟩ = some (.int .i64 (i : Int)) ∧ Below wr.heap.size wr w')
              (first | (with_reducible exact keepA5 (by assumption) (by assumption)) | (with_reducible exact keepA5s (by assumption) hs4 (by dsimp only; omega) (by dsimp only; omega) (by dsimp only; omega) (by dsimp only; omega) (by dsimp only; omega)) | (exact ⟨s0, s1, s2, s3, hcell5, k5.drew⟩) | (exact ⟨s0, s1, s2, s3, hcell5, k5⟩))
              (first | (go_at_call 61; refine (q4.out _).mono ?_; rintro e w6 ⟨rfl, b6⟩; have b6 := hide_ ((Below.refl V5.heap.size V5).drew.trans b6); obtain ⟨t0, t1, t2, t3, t4, t5, t6, t7⟩ := (P4.out.later b6.out).quad HE3.out))
            rename_i hH
            have kW := hH.2.2.2.2.2
            clear hH
            have X6 : Hid (AB ((((w6.setCell ⟨m, f * 4, none⟩ (.int .u64 (x1 : Int))).setCell ⟨m, f * 4 + 1, none⟩ (.int .u64 (x2 : Int))).setCell ⟨m, f * 4 + 2, none⟩ (.int .u64 (x3 : Int))).setCell ⟨m, f * 4 + 3, none⟩ (.int .u64 (x4 : Int))) m 28 (tdc px)) := hide_ (by rw [HX.out]; exact (P4.out.later b6.out).setq f x1 x2 x3 x4)
            clear t0 t1 t2 t3 t4 t5 t6 t7 P4 b6 s0 s1 s2 s3 hcell5 hcell k5
            generalize ((((w6.setCell ⟨m, f * 4, none⟩ (.int .u64 (x1 : Int))).setCell ⟨m, f * 4 + 1, none⟩ (.int .u64 (x2 : Int))).setCell ⟨m, f * 4 + 2, none⟩ (.int .u64 (x3 : Int))).setCell ⟨m, f * 4 + 3, none⟩ (.int .u64 (x4 : Int))) = W6 at *
            have N6 := hide_ (HN.out.later kW)
            have A6 := hide_ (HA.out.later kW)
            have C6 := hide_ (HC.out.later kW)
            have O6 := hide_ (own_later HO.out kW)
            have OL6 := hide_ (own_later HOl.out kW)
            have B6 := hide_ (HB.out.trans (kW.mono HB.out.size))
            have hs6 : N0 ≤ W6.heap.size := by have := kW.size; omega
            obtain ⟨i0, hi0, hz0, hz1, hz2⟩ := info_parts infoC
            have HII : Hid (Try.prog.info? 28 = some i0 ∧ i0.zero = some (.agg (tdc z24q).toArray) ∧ i0.size = 96 ∧ i0.bytes = 768) := hide_ ⟨hi0, hz0, hz1, hz2⟩
            clear hi0 hz0 hz1 hz2 HN HA HC HO HOl HB kW
            go_upto_region 17 with (first | (refine wpList_loadA Try.underlying28 rfl (.tmp 13) rfl m (by simp [Act.eval, Act.put]) (tdc px) (szC HP2.out) (X6.out) ?_) | (refine wpList_build1 rfl 47 28 (.tmp 67) rfl (tdc px) (.agg (tdc z24q).toArray) 96 768 (by simp [Act.eval, Act.put]) Try.underlying47 infoC (by simp [Value.cells, szC0]) (by rw [tdc_length, HP2.out]) (by decide) (by decide) ?_) | (at_builtin; refine wpList_append_own_at _ rfl (.tmp 66) (.tmp 68) 47 rfl N0 28 i0 (.agg (tdc z24q).toArray) 96 768 Try.underlying47 HII.out.1 HII.out.2.1 HII.out.2.2.1 HII.out.2.2.2 (by simp [Value.cells, szC0]) (by decide) u8 pre.length (pre.flatMap tdc) (by simp [Act.eval, Act.put]) (O6.out.alloc _) ⟨W6.heap.size, 0, none⟩ 1 1 (tdc px) (by simp [Act.eval, Act.put]) (by rw [tdc_length, HP2.out]) (news_alloc _ _ _) (tdc_one _) (by unfold maxLen; omega) (by omega) (by simp; omega) ?_; intro v1 w7 ho1 hgrow hnil hat; have ho1 := hide_ ho1; have hgrow := hide_ hgrow; clear hnil hat))
            have hrow : ∀ k, u8.ownBlock = some k → N0 ≤ k := fun k hk => (own_lt O6.out hk).1
            have N7 := hide_ ((N6.out.alloc _).grown hgrow.out (fun e => by have := hrow _ e; omega))
            have A7 := hide_ ((A6.out.alloc _).grown hgrow.out (fun e => by have := hrow _ e; omega))
            have C7 := hide_ ((C6.out.alloc _).grown hgrow.out (fun e => by have := hrow _ e; omega))
            have OL7 := hide_ (own_grown (OL6.out.alloc _) hgrow.out (fun g1 k1 e => own_ne2 OL6.out O6.out (by decide) g1 k1 e))
            have B7 := hide_ ((B6.out.alloc B6.out.size _).grown hgrow.out (by have := B6.out.size; simp; omega) (fun k hk => by have := hrow k hk; omega))
            have hs7 : N0 ≤ w7.heap.size := by have := hgrow.out.size; simp at this; omega
            have hv1 : v1.ownBlock ≠ some n0 := fun e => by have := (own_lt ho1.out e).1; omega
            clear N6 A6 C6 O6 OL6 B6 X6 hgrow hrow
            obtain ⟨g', capx, hvx, hcell7, -⟩ := own_cell OL7.out HIJ.out
            cases hvx
            obtain ⟨s0, s1, s2, s3, -⟩ := N7.out.quad HE3.out
            go_region_with (first | (go_at_call 61; refine (q5.out _).mono ?_; rintro e w8 ⟨rfl, b8⟩; have k8 : Below w7.heap.size w7 w8 := (Below.refl _ _).drew.trans b8; obtain ⟨t0, t1, t2, t3, t4, t5, t6, t7⟩ := (N7.out.later k8).quad HE3.out))
            all_goals
              go_wp2_with fail
              go_roundw
              case rel => exact ⟨j + 1, pre ++ [px], pl, by omega, by go_num, hide_ (by rw [← HE1.out]; simp), hide_ (by have := own_set4 (own_later ho1.out k8) hv1 (f * 4) (f * 4 + 1) (f * 4 + 2) (f * 4 + 3) (.int .u64 (y1 : Int)) (.int .u64 (y2 : Int)) (.int .u64 (x3 : Int)) (.int .u64 (x4 : Int)); simpa using this), hide_ (own_set4 (own_later OL7.out k8) (own_ne (N7.out.later k8) (own_later OL7.out k8) (by decide)) _ _ _ _ _ _ _ _), HP1, hide_ (by rw [HXL.out]; exact (N7.out.later k8).setq f y1 y2 x3 x4), hide_ (((((A7.out.later k8).far _ (by omega)).far _ (by omega)).far _ (by omega)).far _ (by omega)), hide_ (((((C7.out.later k8).far _ (by omega)).far _ (by omega)).far _ (by omega)).far _ (by omega)), (by have := k8.size; simp [World.setCell]; omega), hide_ (below_fillq (B7.out.trans (k8.mono B7.out.size)) (by omega) _ _ _ _ _ _ _ _)⟩
              case measure => simp [intOf]; omega
          · have hjn' : ¬ (j : Int) < (nn : Int) := by omega
            have e : j = nn := by omega
            subst e
            have HE1 : Hid (pre ++ fieldsP a b (List.range' (f + 1) (24 - (f + 1))) left = L) := hide_ (by have := HE.out; rw [← HNN.out, List.drop_length] at this; exact this)
            go_wp2_with fail
            go_roundw
            case rel => exact ⟨f + 1, pre, left, by omega, by go_num, HE1, HO, HI, HN, HA, HC, hNN2, HB⟩
            case measure => simp [intOf]; omega
      · have hlt' : ¬ (f : Int) < 24 := by omega
        have e : f = 24 := by omega
        subst e
        have e : pre = L := (by have := HE.out; simpa [fieldsP] using this)
        have HF := hide_ (e ▸ HO.out)
        go_wp2_with fail
        go_ret
        exact ⟨_, rfl, ⟨Cells.ofOwn HF.out, hL.out⟩, HB.out⟩
end

section
open Go Go.RowKit
set_option linter.unusedVariables false
set_option linter.unusedSimpArgs false

set_option maxRecDepth 100000 in
set_option maxHeartbeats 8000000 in
theorem carveTells_walk (a b : List Q4) (ha : isC a) (hb : isC b) (w : World) :
    Calls Try.prog 7 #[cv a, cv b] w fun e w' => e = .returned (.bool true) ∧ Below w.heap.size w w' := by
  have q0 := hide_ (fun w => parts_any a b ha hb w)
  have q1 := hide_ (fun w => clist_any a b ha hb w)
  have q2 := hide_ (fun w => rlist_any a b ha hb w)
  have q3 := hide_ (fun w => cmany_any a b ha hb w)
  have q4 := hide_ (fun w => lall_any a b ha hb w)
  have hla := hide_ ha.1
  have hlb := hide_ hb.1
  have hL := hide_ (partsC_isC a b ha)
  have hen := fun gf lb w => eq_nilF gf lb w
  have A0 := hide_ ((AB.at0 w 28 (tdc a)).alloc (.cells (tdc b).toArray 28))
  have C0 := hide_ (AB.at1 w (.cells (tdc a).toArray 28) 28 (tdc b))
  have B0 := hide_ (below2 w (.cells (tdc a).toArray 28) (.cells (tdc b).toArray 28))
  generalize partsC a b = L at *
  unfold cv at *
  clear ha hb
  have kk : Below ((w.alloc (.cells (tdc a).toArray 28)).alloc (.cells (tdc b).toArray 28)).heap.size ((w.alloc (.cells (tdc a).toArray 28)).alloc (.cells (tdc b).toArray 28)) ((w.alloc (.cells (tdc a).toArray 28)).alloc (.cells (tdc b).toArray 28)) := Below.refl _ _
  go_enter Try.func7, Try.ntmps7
  go_wp2_with (first | (refine wpList_loadA Try.underlying28 rfl (.tmp 2) rfl w.heap.size (by simp [Act.eval, Act.put]) (tdc a) (szC hla.out) (A0.out.later kk) ?_) | (refine wpList_loadA Try.underlying28 rfl (.tmp 3) rfl (w.heap.size + 1) (by simp [Act.eval, Act.put]) (tdc b) (szC hlb.out) (C0.out.later kk) ?_) | (go_at_call 29; refine (awake7_any _).mono ?_; rintro e w9 ⟨rfl, b9⟩; have kk := kk.trans (b9.mono kk.size)) | (go_at_call 30; refine (q0.out _).mono ?_; rintro e w9 ⟨v, rfl, ⟨gf, lb, rfl, -⟩, b9⟩; have kk := kk.trans (b9.mono kk.size)) | (go_at_call 31; refine (q2.out _).mono ?_; rintro e w9 ⟨ur, rfl, hr, b9⟩; have kk := kk.trans (b9.mono kk.size); obtain ⟨adr, capr, rfl, -⟩ := hr.form; have hr := hide_ hr) | (go_at_call 33; refine (q1.out _).mono ?_; rintro e w9 ⟨u1, rfl, ho, b9⟩; have kk := kk.trans (b9.mono kk.size); have hr := hide_ (hr.out.later b9); have h1 : Hid (CubesAt w9 u1 L) := hide_ ⟨Cells.ofOwn ho, hL.out⟩; clear ho) | (go_at_call_of 32 u1; refine (cequal_same _ _ L _ h1.out hr.out).mono ?_; rintro e w9 ⟨rfl, b9⟩; have kk := kk.trans (b9.mono kk.size); have hr := hide_ (hr.out.later b9)) | (go_at_call 34; refine (q3.out _).mono ?_; rintro e w9 ⟨rfl, b9⟩; have kk := kk.trans (b9.mono kk.size); have hr := hide_ (hr.out.later b9)) | (go_at_call 35; refine (q4.out _).mono ?_; rintro e w9 ⟨u2, rfl, h2, b9⟩; have kk := kk.trans (b9.mono kk.size); have hr := hide_ (hr.out.later b9); have h2 := hide_ h2) | (go_at_call_of 32 u2; refine (cequal_same _ _ L _ h2.out hr.out).mono ?_; rintro e w9 ⟨rfl, b9⟩; have kk := kk.trans (b9.mono kk.size); have hr := hide_ (hr.out.later b9)))
  go_ret
  exact ⟨rfl, B0.out.trans (kk.mono B0.out.size)⟩
end

end Go.Proofs.Ytickphnfgaibiaa
