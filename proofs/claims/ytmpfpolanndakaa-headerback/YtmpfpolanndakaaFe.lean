import Derived.Test.YtmpfpolanndakaaFd
import Derived.Test.YtmpfpolanndakaaH
import Derived.Test.YtmpfpolanndakaaL
import Derived.Test.YtmpfpolanndakaaR
import Derived.Test.YtmpfpolanndakaaU
import Derived.Deep.RegionLawGrows
namespace Go.Proofs.Ytmpfpolanndakaa
open Go Go.RowKit
set_option linter.unusedVariables false
set_option linter.unusedSimpArgs false

/-- two cells of a block of the call's own -/
def Pair (w : World) (g : Nat) (x y : Value) : Prop :=
  w.cell? ⟨g, 0, none⟩ = some x ∧ w.cell? ⟨g, 1, none⟩ = some y ∧ w.frozen? ⟨g, 0, none⟩ = false ∧ w.frozen? ⟨g, 1, none⟩ = false
theorem Pair.lt {w : World} {g : Nat} {x y : Value} (h : Pair w g x y) : g < w.heap.size := World.block_lt_of_cell? w _ h.1
theorem Pair.below {w w' : World} {g B : Nat} {x y : Value} (h : Pair w g x y) (hb : Below B w w') (hg : g < B) : Pair w' g x y :=
  ⟨by rw [hb.cell hg]; exact h.1, by rw [hb.cell hg]; exact h.2.1, by rw [hb.frozen hg]; exact h.2.2.1, by rw [hb.frozen hg]; exact h.2.2.2⟩
theorem Pair.later {w w' : World} {g : Nat} {x y : Value} (h : Pair w g x y) (hb : Below w.heap.size w w') : Pair w' g x y := h.below hb h.lt
theorem Pair.far {w : World} {g f o : Nat} {x y : Value} (h : Pair w g x y) (hne : f ≠ g) (u : Value) : Pair (w.setCell ⟨f, o, none⟩ u) g x y := by
  obtain ⟨h0, h1, h2, h3⟩ := h
  refine ⟨?_, ?_, ?_, ?_⟩
  · rw [World.cell?_setCell_far _ _ _ _ hne]; exact h0
  · rw [World.cell?_setCell_far _ _ _ _ hne]; exact h1
  · simpa using h2
  · simpa using h3
theorem Pair.set0 {w : World} {g : Nat} {x y : Value} (h : Pair w g x y) (u : Value) : Pair (w.setCell ⟨g, 0, none⟩ u) g u y := by
  obtain ⟨h0, h1, h2, h3⟩ := h
  refine ⟨World.cell?_setCell_same _ _ _ h0, ?_, ?_, ?_⟩
  · rw [World.cell?_setCell_other (h := (by simp : (⟨g, 0, none⟩ : Addr) ≠ ⟨g, 1, none⟩))]; exact h1
  · simpa using h2
  · simpa using h3
theorem Pair.set1 {w : World} {g : Nat} {x y : Value} (h : Pair w g x y) (u : Value) : Pair (w.setCell ⟨g, 1, none⟩ u) g x u := by
  obtain ⟨h0, h1, h2, h3⟩ := h
  refine ⟨?_, World.cell?_setCell_same _ _ _ h1, ?_, ?_⟩
  · rw [World.cell?_setCell_other (h := (by simp : (⟨g, 1, none⟩ : Addr) ≠ ⟨g, 0, none⟩))]; exact h0
  · simpa using h2
  · simpa using h3
theorem Pair.set2 {w : World} {g : Nat} {x y : Value} (h : Pair w g x y) (u v : Value) : Pair ((w.setCell ⟨g, 0, none⟩ u).setCell ⟨g, 1, none⟩ v) g u v := (h.set0 u).set1 v

/-- a slice of n elements reads as these cells -/
def Cells (w : World) (v : Value) (size n : Nat) (xs : List Value) : Prop :=
  xs.length = n * size ∧ ∃ a cap, v = .slice a n cap ∧ n ≤ cap ∧ cap ≤ maxLen ∧ (a = none → cap = 0) ∧ ∀ ad, a = some ad → ∀ j u, xs[j]? = some u → w.cell? (ad.add j) = some u
theorem Cells.later {w w' : World} {v : Value} {size n : Nat} {xs : List Value} (h : Cells w v size n xs) (hb : Below w.heap.size w w') : Cells w' v size n xs := by
  obtain ⟨h0, a, cap, rfl, h1, h2, h3, h4⟩ := h
  exact ⟨h0, a, cap, rfl, h1, h2, h3, fun ad e j u hu => cell_later hb (h4 ad e j u hu)⟩
theorem Cells.ofOwn {w : World} {base : Nat} {e : TypeId} {v : Value} {size n : Nat} {xs : List Value} (h : w.ownsRow base e size v n xs) : Cells w v size n xs := by
  refine ⟨h.1, ?_⟩
  rcases h.2 with ⟨rfl, rfl⟩ | ⟨g, cap, cur, rfl, hb, hg, h1, h2, h3, h4⟩
  · exact ⟨none, 0, rfl, Nat.le_refl _, Nat.zero_le _, fun _ => rfl, fun _ e => by cases e⟩
  · refine ⟨some ⟨g, 0, none⟩, cap, rfl, h1, h2, (fun e => by cases e), fun ad e j u hu => ?_⟩
    cases e
    exact h.cells rfl j _ hu
theorem Cells.nil (w : World) (size : Nat) : Cells w (.slice none 0 0) size 0 [] :=
  ⟨by simp, none, 0, rfl, Nat.le_refl _, Nat.zero_le _, fun _ => rfl, fun _ e => by cases e⟩
theorem Cells.at {w : World} {a : Option Addr} {n m cap size : Nat} {xs : List Value} (h : Cells w (.slice a m cap) size n xs) : m = n ∧ n ≤ maxLen ∧ xs.length = n * size ∧ ∀ j u, xs[j]? = some u → ∃ b off, a = some ⟨b, off, none⟩ ∧ w.cell? ⟨b, off + j, none⟩ = some u := by
  obtain ⟨h0, a', cap', e, h1, h2, h3, h4⟩ := h
  cases e
  refine ⟨rfl, Nat.le_trans h1 h2, h0, fun j u hu => ?_⟩
  have hj : j < xs.length := (List.getElem?_eq_some_iff.1 hu).1
  cases a with
  | none =>
    have := h3 rfl
    subst this
    have : n = 0 := by omega
    subst this
    omega
  | some ad =>
    have hc := h4 ad rfl j u hu
    obtain ⟨b, off, spot⟩ := ad
    have hspot : spot = none := by
      have hc0 := h4 _ rfl 0 xs[0] (List.getElem?_eq_getElem (by omega))
      simpa [Addr.add] using World.cell?_spot hc0
    subst hspot
    exact ⟨b, off, rfl, by rw [Addr.add_lit] at hc; exact hc⟩

/-- what was just laid, appended to what the call owns -/
theorem wpList_append_new {P : Program} {ops : Array Oper} {rest : List Oper} {o : Oper} {a : Act} {Q : Exit → Act → World → Prop} (s x : Operand) (t : TypeId)
    (ho : o.op = .call { callee := .builtin .append, args := #[s, x], argTypes := #[t, t] })
    (e : TypeId) (i : TypeInfo) (z : Value) (size bytes : Nat) (ht : P.underlying t = some (.slice e)) (hi : P.info? e = some i) (hz : i.zero = some z)
    (hsize : i.size = size) (hby : i.bytes = bytes) (hzs : z.cells.size = size) (hsz : 0 < size)
    (base : Nat) (v : Value) (n : Nat) (xs : List Value) (hs : a.eval s = v) (w0 : World) (hown : w0.ownsRow base e size v n xs)
    (news : List Value) (cells : Array Value) (hc : cells = news.toArray) (m : Nat) (hm : news.length = m * size) (h1 : ∀ u ∈ news, u.oneCell' = true) (hx : a.eval x = .slice (some ⟨w0.heap.size, 0, none⟩) m m) (hw : Region.wanted o (yielded ops a.tmps) = true)
    (h63 : n + m ≤ maxLen) (hbytes : (n + m) * bytes ≤ 140737488355328) (hbase : base ≤ w0.heap.size)
    (h : ∀ v' w', w'.ownsRow base e size v' (n + m) (xs ++ news) → Below base w0 w' → wpList P ops Q rest (a.put o.dst v') w') : wpList P ops Q (o :: rest) a (w0.alloc (.cells cells e)) := by
  subst hc
  refine wpList_wanted hw fun K hK => ?_
  refine wp_append_own (w0.alloc (.cells news.toArray e)) s x t ho base e i z size bytes ht hi hz hsize hby hzs hsz v n xs hs (hown.alloc _) ⟨w0.heap.size, 0, none⟩ m m news hx hm ?_ h1 h63 hbytes (by simp; omega) (fun v' w' a1 a2 _ => hK _ _ (h v' w' a1 ?_))
  · intro j u hu
    rw [Addr.add_lit, World.cell?_alloc_new]
    simpa using hu
  · have hlt := hown.lt
    exact (by go_grown : Below base w0 (w0.alloc (.cells news.toArray e))).trans ((Below.refl base _).grown a2 (by simp; omega) (fun k hk => (hlt k hk).1))

/-- cells of numbers of two halves -/
def wdc : List (Nat × Nat) → List Value
  | [] => []
  | p :: r => .int .u64 (p.1 : Int) :: .int .u64 (p.2 : Int) :: wdc r
theorem wdc_length : ∀ l, (wdc l).length = l.length * 2
  | [] => rfl
  | p :: r => by simp [wdc, wdc_length r]; omega
theorem wdc_app : ∀ l m, wdc (l ++ m) = wdc l ++ wdc m
  | [], m => rfl
  | p :: r, m => by simp [wdc, wdc_app r m]
theorem wdc_at : ∀ (l : List (Nat × Nat)) (j : Nat) (p : Nat × Nat), l[j]? = some p → (wdc l)[j * 2]? = some (.int .u64 (p.1 : Int)) ∧ (wdc l)[j * 2 + 1]? = some (.int .u64 (p.2 : Int))
  | [], j, p, h => by simp at h
  | q :: r, 0, p, h => by simp at h; subst h; simp [wdc]
  | q :: r, j + 1, p, h => by
    have := wdc_at r j p (by simpa using h)
    rw [show (j + 1) * 2 = j * 2 + 1 + 1 by omega]
    simpa [wdc] using this
theorem wdc_one (l : List (Nat × Nat)) : ∀ u ∈ wdc l, u.oneCell' = true := by
  induction l with
  | nil => intro u hu; cases hu
  | cons p r ih =>
    intro u hu
    simp only [wdc, List.mem_cons] at hu
    rcases hu with rfl | rfl | hu
    · rfl
    · rfl
    · exact ih u hu
/-- numbers below 2^64, as such of two halves -/
def lo (l : List Nat) : List (Nat × Nat) := l.map fun x => (0, x)
theorem lo_length (l : List Nat) : (lo l).length = l.length := by simp [lo]
def u64s (l : List Nat) : List Value := l.map fun (x : Nat) => Value.int .u64 (x : Int)
theorem own_slice {w : World} {base : Nat} {e : TypeId} {size : Nat} {v : Value} {n : Nat} {xs : List Value} (h : w.ownsRow base e size v n xs) : ∃ a c, v = .slice a n c := by
  rcases h.2 with ⟨rfl, rfl⟩ | ⟨g, cap, cur, rfl, _⟩
  · exact ⟨_, _, rfl⟩
  · exact ⟨_, _, rfl⟩
theorem lo_take (l : List Nat) (k x : Nat) (h : l[k]? = some x) : wdc (lo (l.take k)) ++ [.int .u64 0, .int .u64 (x : Int)] = wdc (lo (l.take (k + 1))) := by
  rw [List.take_add_one, h]
  simp [lo, wdc_app, wdc]
theorem info39 : (Try.prog.info? 39).map (fun i => (i.zero, i.size, i.bytes)) = some (some (.agg #[.int .u64 0, .int .u64 0]), 2, 16) := by kernel_rfl

set_option maxRecDepth 100000 in
set_option maxHeartbeats 2000000 in
theorem need_any (f : Int) (v : Value) (l : List Nat) (w : World) (hv : Cells w v 1 l.length (u64s l)) (hl : l.length ≤ 1000000) :
    Calls Try.prog 47 #[.int .i64 f, v] w fun e w' => ∃ u, e = .returned (.agg #[.int .i64 f, u]) ∧ w'.ownsRow (w.heap.size + 2) 39 2 u l.length (wdc (lo l)) ∧ Below w.heap.size w w' := by
  obtain ⟨a, cap, rfl⟩ : ∃ a cap, v = .slice a l.length cap := by obtain ⟨_, a, cap, e, _⟩ := hv; exact ⟨a, cap, e⟩
  obtain ⟨_, _, _, h4⟩ := hv.at
  have H4 := hide_ h4
  clear h4 hv
  obtain ⟨i0, hi0, hz0, hz1, hz2⟩ := info_parts info39
  have HI : Hid (Try.prog.info? 39 = some i0 ∧ i0.zero = some (.agg #[.int .u64 0, .int .u64 0]) ∧ i0.size = 2 ∧ i0.bytes = 16) := ⟨hi0, hz0, hz1, hz2⟩
  clear hi0 hz0 hz1 hz2
  go_enter Try.func47, Try.ntmps47
  go_wp2
  go_loopw [12] (fun i wr => ∃ (k : Nat) (ua : Option Addr) (uc : Nat), k ≤ l.length ∧ i = .int .i64 (k : Nat) ∧ Hid (Pair wr w.heap.size (.int .i64 0) (.slice none 0 0)) ∧ Hid (Pair wr (w.heap.size + 1) (.int .i64 f) (.slice ua k uc)) ∧ Hid (wr.ownsRow (w.heap.size + 2) 39 2 (.slice ua k uc) k (wdc (lo (l.take k)))) ∧ Below w.heap.size w wr) (fun i _ => l.length - (intOf i).toNat)
  case atStart =>
    refine ⟨0, none, 0, Nat.zero_le _, rfl, ?_, ?_, ?_, ?_⟩
    · exact ⟨by simp [go_sem], by simp [go_sem], by simp [go_sem], by simp [go_sem]⟩
    · exact ⟨by simp [go_sem], by simp [go_sem], by simp [go_sem], by simp [go_sem]⟩
    · exact ⟨by simp [lo, wdc], .inl ⟨rfl, rfl⟩⟩
    · go_grown
  case round =>
    obtain ⟨k, ua, uc, hk, rfl, PA, PB, HO, hb⟩ := hrel
    obtain ⟨a0, a1, a2, a3⟩ := PA.out
    obtain ⟨b0, b1, b2, b3⟩ := PB.out
    by_cases hlt : k < l.length
    · obtain ⟨x, hx⟩ : ∃ x, l[k]? = some x := ⟨_, List.getElem?_eq_getElem hlt⟩
      obtain ⟨b, off, rfl, c1⟩ := H4.out k (.int .u64 (x : Int)) (by simp [u64s, hx])
      have c1 := cell_later hb c1
      have HX := hide_ hx
      clear hx
      have hlt' : (k : Int) < (l.length : Int) := by omega
      go_wp2_with (at_builtin; refine wpList_append_new (.tmp 17) (.tmp 20) 29 rfl 39 i0 (.agg #[.int .u64 0, .int .u64 0]) 2 16 Try.underlying29 HI.out.1 HI.out.2.1 HI.out.2.2.1 HI.out.2.2.2 rfl (by decide) (w.heap.size + 2) (.slice ua k uc) k (wdc (lo (l.take k))) (by simp [Act.eval, Act.put]) wr HO.out [.int .u64 0, .int .u64 (x : Int)] _ rfl 1 (by simp) (by simp [Value.oneCell']) (by simp [Act.eval, Act.put]) (by simp [Region.wanted]) (by unfold maxLen; omega) (by omega) (by have := PB.out.lt; omega) ?_; intro v1 w1 ho1 hb1; obtain ⟨va, vc, rfl⟩ := own_slice ho1; obtain ⟨d0, d1, d2, d3⟩ := PB.out.below hb1 (by omega); clear b0 b1 b2 b3)
      go_roundw
      case rel =>
        refine ⟨k + 1, va, vc, by omega, by go_num, ?_, ?_, ?_, ?_⟩
        · exact hide_ ((PA.out.below hb1 (by omega)).far (by omega) _)
        · exact hide_ ((PB.out.below hb1 (by omega)).set1 _)
        · rw [lo_take l k x HX.out] at ho1
          exact hide_ (ownsRow_setCell_below ho1 (by simp) _)
        · exact ((hb.trans (hb1.mono (by omega))).setCell (by simp) _)
      case measure => simp [intOf]; omega
    · have hlt' : ¬ (k : Int) < (l.length : Int) := by omega
      go_wp2
      have e : k = l.length := by omega
      subst e
      obtain ⟨s0, s1, s2, s3⟩ := PA.out.set2 (.int .i64 f) (.slice ua l.length uc)
      refine bodyPost_ret (v := .agg #[.int .i64 f, .slice ua l.length uc]) (by simp [results, Try.results47, go_sem, s0, s1]) rfl ⟨_, rfl, ?_, ?_⟩
      · have ho := HO.out
        rw [List.take_length] at ho
        exact ownsRow_setCell_below (ownsRow_setCell_below ho (by simp) _) (by simp) _
      · exact (hb.setCell (by simp) _).setCell (by simp) _

/-- the same in a region that draws -/
theorem step_append_own {P : Program} {ops : Array Oper} {o : Oper} {a : Act} {W : World} {K : Act → World → Prop} {Q : Exit → Act → World → Prop} {E : Prop}
    (hg : o.guard = none) (s x : Operand) (t : TypeId) (ho : o.op = Op.call { callee := Callee.builtin Builtin.append, args := #[s, x], argTypes := #[t, t] })
    (e : TypeId) (i : TypeInfo) (z : Value) (size bytes : Nat) (ht : P.underlying t = some (.slice e)) (hi : P.info? e = some i) (hz : i.zero = some z)
    (hsize : i.size = size) (hby : i.bytes = bytes) (hzs : z.cells.size = size) (hsz : 0 < size)
    (base : Nat) (v : Value) (n : Nat) (xs : List Value) (hs : a.eval s = v) (hown : W.ownsRow base e size v n xs)
    (ad : Addr) (m c : Nat) (news : List Value) (hx : a.eval x = .slice (some ad) m c) (hm : news.length = m * size) (hn : ∀ j u, news[j]? = some u → W.cell? (ad.add j) = some u) (h1 : ∀ u ∈ news, u.oneCell' = true)
    (h63 : n + m ≤ maxLen) (hbytes : (n + m) * bytes ≤ 140737488355328) (hbase : base ≤ W.heap.size)
    (hK : ∀ v' w', w'.ownsRow base e size v' (n + m) (xs ++ news) → Below base W w' → K (a.put o.dst v') w') :
    if Region.wanted o (yielded ops a.tmps) = true then Oper.wp P o a W K Q else E := by
  have hw : Region.wanted o (yielded ops a.tmps) = true := by simp [Region.wanted, hg]
  rw [if_pos hw]
  refine wp_append_own W s x t ho base e i z size bytes ht hi hz hsize hby hzs hsz v n xs hs hown ad m c news hx hm hn h1 h63 hbytes hbase (fun v' w' a1 a2 _ => hK v' w' a1 ?_)
  exact (Below.refl base _).grown a2 hbase (fun k hk => (hown.lt k hk).1)
theorem new_cells (w : World) (cs : List Value) (t : TypeId) : ∀ j u, cs[j]? = some u → (w.alloc (.cells cs.toArray t)).cell? ((⟨w.heap.size, 0, none⟩ : Addr).add j) = some u := by
  intro j u hu
  rw [Addr.add_lit, World.cell?_alloc_new]
  simpa using hu

set_option maxRecDepth 100000 in
set_option maxHeartbeats 2000000 in
theorem ether_any (v : Value) (l : List Nat) (w : World) (hv : Cells w v 1 l.length (u64s l)) (hl : l.length ≤ 1000000) :
    Calls Try.prog 48 #[v] w fun e w' => ∃ u, e = .returned (.agg #[.int .i64 4, u]) ∧ w'.ownsRow (w.heap.size + 2) 39 2 u l.length (wdc (lo l)) ∧ Below w.heap.size w w' := by
  obtain ⟨a, cap, rfl⟩ : ∃ a cap, v = .slice a l.length cap := by obtain ⟨_, a, cap, e, _⟩ := hv; exact ⟨a, cap, e⟩
  obtain ⟨_, _, _, h4⟩ := hv.at
  have H4 := hide_ h4
  clear h4 hv
  obtain ⟨i0, hi0, hz0, hz1, hz2⟩ := info_parts info39
  have HI : Hid (Try.prog.info? 39 = some i0 ∧ i0.zero = some (.agg #[.int .u64 0, .int .u64 0]) ∧ i0.size = 2 ∧ i0.bytes = 16) := ⟨hi0, hz0, hz1, hz2⟩
  clear hi0 hz0 hz1 hz2
  go_enter Try.func48, Try.ntmps48
  go_wp2
  go_loopw [4] (fun i wr => ∃ (k : Nat) (ua : Option Addr) (uc : Nat), k ≤ l.length ∧ i = .int .i64 (k : Nat) ∧ Hid (Pair wr w.heap.size (.int .i64 0) (.slice none 0 0)) ∧ Hid (Pair wr (w.heap.size + 1) (.int .i64 4) (.slice ua k uc)) ∧ Hid (wr.ownsRow (w.heap.size + 2) 39 2 (.slice ua k uc) k (wdc (lo (l.take k)))) ∧ Below w.heap.size w wr) (fun i _ => l.length - (intOf i).toNat)
  case atStart =>
    refine ⟨0, none, 0, Nat.zero_le _, rfl, ?_, ?_, ?_, ?_⟩
    · exact ⟨by simp [go_sem], by simp [go_sem], by simp [go_sem], by simp [go_sem]⟩
    · exact ⟨by simp [go_sem], by simp [go_sem], by simp [go_sem], by simp [go_sem]⟩
    · exact ⟨by simp [lo, wdc], .inl ⟨rfl, rfl⟩⟩
    · go_grown
  case round =>
    obtain ⟨k, ua, uc, hk, rfl, PA, PB, HO, hb⟩ := hrel
    obtain ⟨a0, a1, a2, a3⟩ := PA.out
    obtain ⟨b0, b1, b2, b3⟩ := PB.out
    by_cases hlt : k < l.length
    · obtain ⟨x, hx⟩ : ∃ x, l[k]? = some x := ⟨_, List.getElem?_eq_getElem hlt⟩
      obtain ⟨b, off, rfl, c1⟩ := H4.out k (.int .u64 (x : Int)) (by simp [u64s, hx])
      have c1 := cell_later hb c1
      have HX := hide_ hx
      clear hx
      have hlt' : (k : Int) < (l.length : Int) := by omega
      have hltB := PB.out.lt
      go_wp2_with fail
      go_region_law (refine step_append_own rfl (.tmp 13) (.tmp 19) 29 rfl 39 i0 (.agg #[.int .u64 0, .int .u64 0]) 2 16 Try.underlying29 HI.out.1 HI.out.2.1 HI.out.2.2.1 HI.out.2.2.2 rfl (by decide) (w.heap.size + 2) (.slice ua k uc) k (wdc (lo (l.take k))) (by simp [Act.eval, Act.put]) (by first | exact (HO.out.alloc _).drew | exact HO.out.alloc _) ⟨wr.heap.size, 0, none⟩ 1 1 [.int .u64 0, .int .u64 (x : Int)] (by simp [Act.eval, Act.put]) (by simp) (by intro j u hu; simpa using new_cells wr [.int .u64 0, .int .u64 (x : Int)] 39 j u hu) (by simp [Value.oneCell']) (by unfold maxLen; omega) (by omega) (by simp; omega) ?_; intro v1 w1 ho1 hb1; obtain ⟨va, vc, rfl⟩ := own_slice ho1; have hbw := (by go_grown : Below (w.heap.size + 2) wr _).trans hb1; clear hb1; obtain ⟨d0, d1, d2, d3⟩ := PB.out.below hbw (by omega); clear b0 b1 b2 b3)
      all_goals
        go_wp2
        go_roundw
        case rel =>
          refine ⟨k + 1, va, vc, by omega, by go_num, ?_, ?_, ?_, ?_⟩
          · exact hide_ ((PA.out.below hbw (by omega)).far (by omega) _)
          · exact hide_ ((PB.out.below hbw (by omega)).set1 _)
          · rw [lo_take l k x HX.out] at ho1
            exact hide_ (ownsRow_setCell_below ho1 (by simp) _)
          · exact ((hb.trans (hbw.mono (by omega))).setCell (by simp) _)
        case measure => simp [intOf]; omega
    · have hlt' : ¬ (k : Int) < (l.length : Int) := by omega
      go_wp2
      have e : k = l.length := by omega
      subst e
      obtain ⟨s0, s1, s2, s3⟩ := PA.out.set2 (.int .i64 4) (.slice ua l.length uc)
      refine bodyPost_ret (v := .agg #[.int .i64 4, .slice ua l.length uc]) (by simp [results, Try.results48, go_sem, s0, s1]) rfl ⟨_, rfl, ?_, ?_⟩
      · have ho := HO.out
        rw [List.take_length] at ho
        exact ownsRow_setCell_below (ownsRow_setCell_below ho (by simp) _) (by simp) _
      · exact (hb.setCell (by simp) _).setCell (by simp) _

theorem Cells.fresh (w : World) (cs : List Value) (t : TypeId) (g size n : Nat) (hg : g = w.heap.size) (hl : cs.length = n * size) (hn : n ≤ maxLen) : Cells (w.alloc (.cells cs.toArray t)) (.slice (some ⟨g, 0, none⟩) n n) size n cs := by
  subst hg
  refine ⟨hl, _, _, rfl, Nat.le_refl _, hn, (fun e => by cases e), fun ad e j u hu => ?_⟩
  cases e
  exact new_cells w cs t j u hu

set_option maxRecDepth 100000 in
set_option maxHeartbeats 2000000 in
theorem proto_any (n : Nat) (w : World) :
    Calls Try.prog 49 #[.int .u64 (n : Int)] w fun e w' => ∃ u, e = .returned (.agg #[.int .i64 9, u]) ∧ Cells w' u 2 1 (wdc (lo [n])) ∧ Below w.heap.size w w' := by
  go_enter Try.func49, Try.ntmps49
  go_wp2
  go_returns
  exact ⟨_, rfl, Cells.fresh _ [.int .u64 0, .int .u64 (n : Int)] 39 _ 2 1 (by simp) (by simp) (by decide), by go_grown⟩

end Go.Proofs.Ytmpfpolanndakaa
