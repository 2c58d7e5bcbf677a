import Derived.Test.YthhijfphfcmniaaGreatProg
import Derived.Test.YthhijfphfcmniaaGreatXae
import Derived.Test.YthhijfphfcmniaaGreatXce
import Derived.Below
import Derived.BigQuiet
import Derived.BigRegion
import Derived.ChangeAlike
import Derived.ChangeKeysEq
import Derived.ChangeSame
import Derived.DataElems
import Derived.Deep.MidRow
import Derived.Deep.QuietTactic
import Derived.Deep.RegionHeld
import Derived.Deep.RegionHeld3
import Derived.Deep.RegionLaw
import Derived.Deep.RegionLawGrows
import Derived.Deep.RegionWith
import Derived.Deep.WholeRow
import Derived.Great.BuildSlice
import Derived.Handy
import Derived.Laws.AppendOwn
import Derived.Laws.AppendOwnNone
import Derived.Laws.BitsAllLaws
import Derived.Laws.BitsLemmas
import Derived.Laws.CopyOwn
import Derived.Laws.OwnMore
import Derived.Laws.Rows
import Derived.Laws.StructEq
import Derived.Laws.Tables
import Derived.Lib.BitFns
import Derived.Lib.SmallJoins
import Derived.OpenShut
import Derived.ProofKit
import Derived.RegionTactic
import Derived.WalkKit
import Derived.WalkLawsBesides
import Derived.WalkSmall
import Derived.WalkSpells
import Derived.WideShapes
set_option maxRecDepth 100000
set_option maxHeartbeats 8000000
set_option linter.unusedVariables false
set_option linter.unusedSimpArgs false
namespace Go.Proofs.YthhijfphfcmniaaGreat
section
open Go Go.RowKit
theorem wpList_store_new {P : Program} {ops : Array Oper} {rest : List Oper} {o : Oper} {a : Act} {w : World} {Q : Exit → Act → World → Prop} (hgd : o.guard = none) (ty : TypeId) (x y : Operand) (ho : o.op = .store ty x y)
    (w0 : World) (c c' : Array Value) (hw : w = w0.alloc (.cells c ty)) (hx : a.eval x = .pointer (some ⟨w0.heap.size, 0, none⟩)) (hy : a.eval y = .agg c')
    (hi : (P.info? ty).map (·.size) = some c'.size) (hs : c.size = c'.size) (h1 : c'.all (·.oneCell') = true)
    (h : wpList P ops Q rest (a.put o.dst undef) (w0.alloc (.cells c' ty))) : wpList P ops Q (o :: rest) a w := by
  subst hw
  refine wpList_plain hgd fun K hK => ?_
  unfold Oper.wp execOp
  simp only [ho, hx, hy, Sem.run_bind, run_storeAt_new w0 ty c c' hi hs h1, Result.andThen_ok]
  exact hK _ _ h
def fname : Int → ByteArray
  | 0 => ⟨#[105, 110, 95, 112, 111, 114, 116]⟩
  | 1 => ⟨#[109, 101, 116, 97, 100, 97, 116, 97]⟩
  | 2 => ⟨#[101, 116, 104, 95, 100, 115, 116]⟩
  | 3 => ⟨#[101, 116, 104, 95, 115, 114, 99]⟩
  | 4 => ⟨#[101, 116, 104, 95, 116, 121, 112, 101]⟩
  | 5 => ⟨#[118, 108, 97, 110, 95, 118, 105, 100]⟩
  | 6 => ⟨#[118, 108, 97, 110, 95, 112, 99, 112]⟩
  | 7 => ⟨#[105, 112, 95, 100, 115, 99, 112]⟩
  | 8 => ⟨#[105, 112, 95, 101, 99, 110]⟩
  | 9 => ⟨#[105, 112, 95, 112, 114, 111, 116, 111]⟩
  | 10 => ⟨#[105, 112, 118, 52, 95, 115, 114, 99]⟩
  | 11 => ⟨#[105, 112, 118, 52, 95, 100, 115, 116]⟩
  | 12 => ⟨#[116, 99, 112, 95, 115, 114, 99]⟩
  | 13 => ⟨#[116, 99, 112, 95, 100, 115, 116]⟩
  | 14 => ⟨#[117, 100, 112, 95, 115, 114, 99]⟩
  | 15 => ⟨#[117, 100, 112, 95, 100, 115, 116]⟩
  | 16 => ⟨#[105, 99, 109, 112, 118, 52, 95, 116, 121, 112, 101]⟩
  | 17 => ⟨#[105, 99, 109, 112, 118, 52, 95, 99, 111, 100, 101]⟩
  | 18 => ⟨#[97, 114, 112, 95, 111, 112]⟩
  | 19 => ⟨#[97, 114, 112, 95, 115, 112, 97]⟩
  | 20 => ⟨#[97, 114, 112, 95, 116, 112, 97]⟩
  | 21 => ⟨#[105, 112, 118, 54, 95, 115, 114, 99]⟩
  | 22 => ⟨#[105, 112, 118, 54, 95, 100, 115, 116]⟩
  | 23 => ⟨#[109, 112, 108, 115, 95, 108, 97, 98, 101, 108]⟩
  | _ => ⟨#[]⟩
def fid : Int → Int
  | 0 => 0
  | 1 => 2
  | 2 => 3
  | 3 => 4
  | 4 => 5
  | 5 => 6
  | 6 => 7
  | 7 => 8
  | 8 => 9
  | 9 => 10
  | 10 => 11
  | 11 => 12
  | 12 => 13
  | 13 => 14
  | 14 => 15
  | 15 => 16
  | 16 => 19
  | 17 => 20
  | 18 => 21
  | 19 => 22
  | 20 => 23
  | 21 => 26
  | 22 => 27
  | 23 => 34
  | _ => -1
def fbits : Int → Nat
  | 0 => 32
  | 1 => 64
  | 2 => 48
  | 3 => 48
  | 4 => 16
  | 5 => 13
  | 6 => 3
  | 7 => 6
  | 8 => 2
  | 9 => 8
  | 10 => 32
  | 11 => 32
  | 12 => 16
  | 13 => 16
  | 14 => 16
  | 15 => 16
  | 16 => 8
  | 17 => 8
  | 18 => 16
  | 19 => 32
  | 20 => 32
  | 21 => 128
  | 22 => 128
  | 23 => 20
  | _ => 0
def fmask : Int → Bool
  | 0 => false
  | 1 => true
  | 2 => true
  | 3 => true
  | 4 => false
  | 5 => true
  | 6 => false
  | 7 => false
  | 8 => false
  | 9 => false
  | 10 => true
  | 11 => true
  | 12 => false
  | 13 => false
  | 14 => false
  | 15 => false
  | 16 => false
  | 17 => false
  | 18 => false
  | 19 => true
  | 20 => true
  | 21 => true
  | 22 => true
  | 23 => false
  | _ => false
def fok (f : Int) : Bool := decide (0 ≤ f) && decide (f < 24)
def ofv (f : Int) : Value := .agg #[.string (fname f), .int .i64 (fid f), .int .i64 (fbits f : Int), .bool (fmask f)]
theorem no_field {f : Int} (h : ¬ (0 ≤ f ∧ f < 24)) : fname f = ⟨#[]⟩ ∧ fid f = -1 ∧ fbits f = 0 ∧ fmask f = false := by
  unfold fname fid fbits fmask
  refine ⟨?_, ?_, ?_, ?_⟩ <;> split <;> first | rfl | omega
theorem fright_any (f : Int) (w : World) :
    Calls Tryz.prog 160 #[.int .i64 f] w fun e w' => e = .returned (.bool (fok f)) ∧ w = w' := by
  unfold fok
  by_cases h1 : 0 ≤ f
  · by_cases h2 : f < 24
    · go_enter Tryz.func160, Tryz.ntmps160
      go_wp2
      go_ret
      exact ⟨by simp [*], rfl⟩
    · go_enter Tryz.func160, Tryz.ntmps160
      go_wp2
      go_ret
      exact ⟨by simp [*], rfl⟩
  · go_enter Tryz.func160, Tryz.ntmps160
    go_wp2
    go_ret
    exact ⟨by simp [*]; omega, rfl⟩
theorem rfright_any (f : Int) (w : World) :
    Calls Tryz.prog 151 #[.int .i64 f] w fun e w' => e = .returned (.bool (fok f)) ∧ w = w' := by
  unfold fok
  by_cases h1 : 0 ≤ f
  · by_cases h2 : f < 24
    · go_enter Tryz.func151, Tryz.ntmps151
      go_wp2
      go_ret
      exact ⟨by simp [*], rfl⟩
    · go_enter Tryz.func151, Tryz.ntmps151
      go_wp2
      go_ret
      exact ⟨by simp [*], rfl⟩
  · go_enter Tryz.func151, Tryz.ntmps151
    go_wp2
    go_ret
    exact ⟨by simp [*]; omega, rfl⟩
theorem of_no (f : Int) (w : World) (h : fok f = false) :
    Calls Tryz.prog 176 #[.int .i64 f] w fun e w' => e = .returned (ofv f) ∧ Below w.heap.size w w' := by
  have H := h_ h
  have hn : ¬ (0 ≤ f ∧ f < 24) := by intro k; simp [fok, k] at h
  obtain ⟨e1, e2, e3, e4⟩ := no_field hn
  unfold ofv
  rw [e1, e2, e3, e4]
  clear h hn e1 e2 e3 e4
  go_enter Tryz.func176, Tryz.ntmps176
  go_wp2_with (go_at_call 160; refine (fright_any _ _).mono ?_; rintro e w' ⟨rfl, rfl⟩; rw [H.out])
  go_returns
  exact ⟨rfl, by go_grown⟩
def tcell (k : Nat) : Value := match k % 4 with
  | 0 => .string (fname ((k / 4 : Nat) : Int))
  | 1 => .int .i64 (fid ((k / 4 : Nat) : Int))
  | 2 => .int .i64 (fbits ((k / 4 : Nat) : Int) : Int)
  | _ => .bool (fmask ((k / 4 : Nat) : Int))
def tbl : List Value := (List.range 96).map tcell
theorem tbl_at (k : Nat) (h : k < 96) : tbl[k]? = some (tcell k) := by
  unfold tbl; simp [h]
theorem tbl_size : tbl.toArray.size = 96 := by simp [tbl]
theorem tbl_one : tbl.toArray.all (·.oneCell') = true := by
  refine all_oneCell_toArray ?_
  intro v hv
  obtain ⟨k, _, rfl⟩ := List.mem_map.1 hv
  unfold tcell
  split <;> rfl
theorem tc0 (j : Nat) : tcell (j * 4) = .string (fname (j : Int)) := by
  have h1 : j * 4 % 4 = 0 := by omega
  have h2 : j * 4 / 4 = j := by omega
  simp [tcell, h1, h2]
theorem tc1 (j : Nat) : tcell (j * 4 + 1) = .int .i64 (fid (j : Int)) := by
  have h1 : (j * 4 + 1) % 4 = 1 := by omega
  have h2 : (j * 4 + 1) / 4 = j := by omega
  simp [tcell, h1, h2]
theorem tc2 (j : Nat) : tcell (j * 4 + 2) = .int .i64 (fbits (j : Int) : Int) := by
  have h1 : (j * 4 + 2) % 4 = 2 := by omega
  have h2 : (j * 4 + 2) / 4 = j := by omega
  simp [tcell, h1, h2]
theorem tc3 (j : Nat) : tcell (j * 4 + 3) = .bool (fmask (j : Int)) := by
  have h1 : (j * 4 + 3) % 4 = 3 := by omega
  have h2 : (j * 4 + 3) / 4 = j := by omega
  simp [tcell, h1, h2]
theorem tbl_range (w : World) (g j : Nat) (t : TypeId) (hg : w.heap[g]? = some (.cells tbl.toArray t)) (hj : j < 24) :
    w.rangeAt g (j * 4) [.string (fname (j : Int)), .int .i64 (fid (j : Int)), .int .i64 (fbits (j : Int) : Int), .bool (fmask (j : Int))] := by
  intro i v hv
  rw [cell_of_row w g (j * 4 + i) _ t _ hg]
  have hi : i < 4 := (List.getElem?_eq_some_iff.1 hv).1
  have e : tbl.toArray[j * 4 + i]? = tbl[j * 4 + i]? := by simp
  rw [e, tbl_at _ (by omega)]
  match i, hi with
  | 0, _ => rw [Nat.add_zero, tc0]; simpa using hv
  | 1, _ => rw [tc1]; simpa using hv
  | 2, _ => rw [tc2]; simpa using hv
  | 3, _ => rw [tc3]; simpa using hv
theorem sz72 : (Tryz.prog.info? 172).map (·.size) = some tbl.toArray.size := by rw [tbl_size]; kernel_rfl
theorem sz59 (a b c d : Value) : (Tryz.prog.info? 165).map (·.size) = some ([a, b, c, d] : List Value).length := by simp only [List.length_cons, List.length_nil]; kernel_rfl
def ztbl : List Value := (List.replicate 24 ([.string ⟨#[]⟩, .int .i64 0, .int .i64 0, .bool false] : List Value)).flatten
theorem z72' : (Tryz.prog.info? 172).map (fun i => (i.zero, i.size)) = some (some (.agg ztbl.toArray), 96) := by kernel_rfl
theorem of_in (j : Nat) (w : World) (h1 : j < 24) :
    Calls Tryz.prog 176 #[.int .i64 (j : Int)] w fun e w' => e = .returned (ofv (j : Int)) ∧ Below w.heap.size w w' := by
  have h1' : (j : Int) < 24 := by omega
  have H : Hid (fok (j : Int) = true) := h_ (by simp [fok, *])
  unfold ofv
  have HR := h_ (fun (w : World) (g : Nat) (t : TypeId) hg => tbl_range w g j t hg h1)
  obtain ⟨hz0, hz1⟩ := zero_of_info z72'
  go_enter Tryz.func176, Tryz.ntmps176
  go_wp2_with (first
    | (go_at_call 160; refine (fright_any _ _).mono ?_; rintro e w' ⟨rfl, rfl⟩; rw [H.out])
    | (refine Great.wpList_buildTo rfl 172 _ rfl (some 32) rfl tbl.toArray (by kernel_rfl) ?_)
    | (refine wpList_store_new rfl 172 (.tmp 3) (.tmp 32) rfl _ _ tbl.toArray rfl (by simp [Act.eval, Act.put]) (by simp only [Act.eval]; kernel_rfl) sz72 (by kernel_rfl) tbl_one ?_)
    | (refine wpList_load_mid rfl 165 (.tmp 34) rfl (w.heap.size + 1) (j * 4) (by simp [Act.eval, Act.put]) _ _ (HR.out _ _ 172 (heap_alloc2_new _ _ _)) Tryz.underlying165 rfl (sz59 _ _ _ _) ?_))
  go_returns
  exact ⟨rfl, by go_grown⟩
theorem of_any (f : Int) (w : World) :
    Calls Tryz.prog 176 #[.int .i64 f] w fun e w' => e = .returned (ofv f) ∧ Below w.heap.size w w' := by
  by_cases h : 0 ≤ f ∧ f < 24
  · obtain ⟨j, rfl⟩ : ∃ j : Nat, f = (j : Int) := ⟨f.toNat, by omega⟩
    exact of_in j w (by omega)
  · refine of_no f w ?_
    simp [fok]; omega
def rowt (f : Int) : Value := .tuple #[.string (fname f), .int .i64 (fid f), .int .i64 (fbits f : Int), .bool (fmask f)]
def fsize (f : Int) : Nat := (fbits f + 7) / 8
theorem upper_any (f : Int) (w : World) (h : f < 0 ∨ 12 ≤ f) :
    Calls Tryz.prog 171 #[.int .i64 f] w fun e w' => e = .returned (rowt f) ∧ w = w' := by
  by_cases h12 : f = 12
  · subst h12
    unfold rowt
    go_enter Tryz.func171, Tryz.ntmps171
    go_wp2
    go_returns
    exact ⟨rfl, rfl⟩
  have g12 : (f == 12) = false := by simpa using h12
  by_cases h13 : f = 13
  · subst h13
    unfold rowt
    go_enter Tryz.func171, Tryz.ntmps171
    go_wp2
    go_returns
    exact ⟨rfl, rfl⟩
  have g13 : (f == 13) = false := by simpa using h13
  by_cases h14 : f = 14
  · subst h14
    unfold rowt
    go_enter Tryz.func171, Tryz.ntmps171
    go_wp2
    go_returns
    exact ⟨rfl, rfl⟩
  have g14 : (f == 14) = false := by simpa using h14
  by_cases h15 : f = 15
  · subst h15
    unfold rowt
    go_enter Tryz.func171, Tryz.ntmps171
    go_wp2
    go_returns
    exact ⟨rfl, rfl⟩
  have g15 : (f == 15) = false := by simpa using h15
  by_cases h16 : f = 16
  · subst h16
    unfold rowt
    go_enter Tryz.func171, Tryz.ntmps171
    go_wp2
    go_returns
    exact ⟨rfl, rfl⟩
  have g16 : (f == 16) = false := by simpa using h16
  by_cases h17 : f = 17
  · subst h17
    unfold rowt
    go_enter Tryz.func171, Tryz.ntmps171
    go_wp2
    go_returns
    exact ⟨rfl, rfl⟩
  have g17 : (f == 17) = false := by simpa using h17
  by_cases h18 : f = 18
  · subst h18
    unfold rowt
    go_enter Tryz.func171, Tryz.ntmps171
    go_wp2
    go_returns
    exact ⟨rfl, rfl⟩
  have g18 : (f == 18) = false := by simpa using h18
  by_cases h19 : f = 19
  · subst h19
    unfold rowt
    go_enter Tryz.func171, Tryz.ntmps171
    go_wp2
    go_returns
    exact ⟨rfl, rfl⟩
  have g19 : (f == 19) = false := by simpa using h19
  by_cases h20 : f = 20
  · subst h20
    unfold rowt
    go_enter Tryz.func171, Tryz.ntmps171
    go_wp2
    go_returns
    exact ⟨rfl, rfl⟩
  have g20 : (f == 20) = false := by simpa using h20
  by_cases h21 : f = 21
  · subst h21
    unfold rowt
    go_enter Tryz.func171, Tryz.ntmps171
    go_wp2
    go_returns
    exact ⟨rfl, rfl⟩
  have g21 : (f == 21) = false := by simpa using h21
  by_cases h22 : f = 22
  · subst h22
    unfold rowt
    go_enter Tryz.func171, Tryz.ntmps171
    go_wp2
    go_returns
    exact ⟨rfl, rfl⟩
  have g22 : (f == 22) = false := by simpa using h22
  by_cases h23 : f = 23
  · subst h23
    unfold rowt
    go_enter Tryz.func171, Tryz.ntmps171
    go_wp2
    go_returns
    exact ⟨rfl, rfl⟩
  have g23 : (f == 23) = false := by simpa using h23
  have hn : ¬ (0 ≤ f ∧ f < 24) := by omega
  obtain ⟨e1, e2, e3, e4⟩ := no_field hn
  unfold rowt
  rw [e1, e2, e3, e4]
  clear e1 e2 e3 e4 hn h h12 h13 h14 h15 h16 h17 h18 h19 h20 h21 h22 h23
  go_enter Tryz.func171, Tryz.ntmps171
  go_wp2
  go_returns
  exact ⟨rfl, rfl⟩
theorem row_any (f : Int) (w : World) :
    Calls Tryz.prog 155 #[.int .i64 f] w fun e w' => e = .returned (rowt f) ∧ w = w' := by
  by_cases h0 : f = 0
  · subst h0
    unfold rowt
    go_enter Tryz.func155, Tryz.ntmps155
    go_wp2
    go_returns
    exact ⟨rfl, rfl⟩
  have g0 : (f == 0) = false := by simpa using h0
  by_cases h1 : f = 1
  · subst h1
    unfold rowt
    go_enter Tryz.func155, Tryz.ntmps155
    go_wp2
    go_returns
    exact ⟨rfl, rfl⟩
  have g1 : (f == 1) = false := by simpa using h1
  by_cases h2 : f = 2
  · subst h2
    unfold rowt
    go_enter Tryz.func155, Tryz.ntmps155
    go_wp2
    go_returns
    exact ⟨rfl, rfl⟩
  have g2 : (f == 2) = false := by simpa using h2
  by_cases h3 : f = 3
  · subst h3
    unfold rowt
    go_enter Tryz.func155, Tryz.ntmps155
    go_wp2
    go_returns
    exact ⟨rfl, rfl⟩
  have g3 : (f == 3) = false := by simpa using h3
  by_cases h4 : f = 4
  · subst h4
    unfold rowt
    go_enter Tryz.func155, Tryz.ntmps155
    go_wp2
    go_returns
    exact ⟨rfl, rfl⟩
  have g4 : (f == 4) = false := by simpa using h4
  by_cases h5 : f = 5
  · subst h5
    unfold rowt
    go_enter Tryz.func155, Tryz.ntmps155
    go_wp2
    go_returns
    exact ⟨rfl, rfl⟩
  have g5 : (f == 5) = false := by simpa using h5
  by_cases h6 : f = 6
  · subst h6
    unfold rowt
    go_enter Tryz.func155, Tryz.ntmps155
    go_wp2
    go_returns
    exact ⟨rfl, rfl⟩
  have g6 : (f == 6) = false := by simpa using h6
  by_cases h7 : f = 7
  · subst h7
    unfold rowt
    go_enter Tryz.func155, Tryz.ntmps155
    go_wp2
    go_returns
    exact ⟨rfl, rfl⟩
  have g7 : (f == 7) = false := by simpa using h7
  by_cases h8 : f = 8
  · subst h8
    unfold rowt
    go_enter Tryz.func155, Tryz.ntmps155
    go_wp2
    go_returns
    exact ⟨rfl, rfl⟩
  have g8 : (f == 8) = false := by simpa using h8
  by_cases h9 : f = 9
  · subst h9
    unfold rowt
    go_enter Tryz.func155, Tryz.ntmps155
    go_wp2
    go_returns
    exact ⟨rfl, rfl⟩
  have g9 : (f == 9) = false := by simpa using h9
  by_cases h10 : f = 10
  · subst h10
    unfold rowt
    go_enter Tryz.func155, Tryz.ntmps155
    go_wp2
    go_returns
    exact ⟨rfl, rfl⟩
  have g10 : (f == 10) = false := by simpa using h10
  by_cases h11 : f = 11
  · subst h11
    unfold rowt
    go_enter Tryz.func155, Tryz.ntmps155
    go_wp2
    go_returns
    exact ⟨rfl, rfl⟩
  have g11 : (f == 11) = false := by simpa using h11
  have h : f < 0 ∨ 12 ≤ f := by omega
  have HU := h_ (fun w => upper_any f w h)
  clear h h0 h1 h2 h3 h4 h5 h6 h7 h8 h9 h10 h11
  unfold rowt at *
  go_enter Tryz.func155, Tryz.ntmps155
  go_wp2_with (go_at_call 171; refine (HU.out _).mono ?_; rintro e w' ⟨rfl, rfl⟩)
  go_returns
  exact ⟨rfl, rfl⟩
theorem fld59_1 (a b c d : Value) (w : World) : (Instr.field 165 (.agg #[a, b, c, d]) 1).run Tryz.prog w = .ok b w := by kernel_rfl
theorem fld59_2 (a b c d : Value) (w : World) : (Instr.field 165 (.agg #[a, b, c, d]) 2).run Tryz.prog w = .ok c w := by kernel_rfl
theorem fld59_3 (a b c d : Value) (w : World) : (Instr.field 165 (.agg #[a, b, c, d]) 3).run Tryz.prog w = .ok d w := by kernel_rfl
theorem fid_any (f : Int) (w : World) :
    Calls Tryz.prog 163 #[.int .i64 f] w fun e w' => e = .returned (.int .i64 (fid f)) ∧ Below w.heap.size w w' := by
  have hfl := fun wx => fld59_1 (.string (fname f)) (.int .i64 (fid f)) (.int .i64 (fbits f : Int)) (.bool (fmask f)) wx
  go_enter Tryz.func163, Tryz.ntmps163
  go_wp2_with (go_at_call 176; refine (of_any _ _).mono ?_; rintro e w1 ⟨rfl, hb⟩; unfold ofv)
  go_ret
  exact ⟨rfl, by first | exact hb | rfl⟩
theorem fbits_any (f : Int) (w : World) :
    Calls Tryz.prog 174 #[.int .i64 f] w fun e w' => e = .returned (.int .i64 (fbits f : Int)) ∧ Below w.heap.size w w' := by
  have hfl := fun wx => fld59_2 (.string (fname f)) (.int .i64 (fid f)) (.int .i64 (fbits f : Int)) (.bool (fmask f)) wx
  go_enter Tryz.func174, Tryz.ntmps174
  go_wp2_with (go_at_call 176; refine (of_any _ _).mono ?_; rintro e w1 ⟨rfl, hb⟩; unfold ofv)
  go_ret
  exact ⟨rfl, by first | exact hb | rfl⟩
theorem fmask_any (f : Int) (w : World) :
    Calls Tryz.prog 162 #[.int .i64 f] w fun e w' => e = .returned (.bool (fmask f)) ∧ Below w.heap.size w w' := by
  have hfl := fun wx => fld59_3 (.string (fname f)) (.int .i64 (fid f)) (.int .i64 (fbits f : Int)) (.bool (fmask f)) wx
  go_enter Tryz.func162, Tryz.ntmps162
  go_wp2_with (go_at_call 176; refine (of_any _ _).mono ?_; rintro e w1 ⟨rfl, hb⟩; unfold ofv)
  go_ret
  exact ⟨rfl, by first | exact hb | rfl⟩
theorem rfid_any (f : Int) (w : World) :
    Calls Tryz.prog 135 #[.int .i64 f] w fun e w' => e = .returned (.int .i64 (fid f)) ∧ w = w' := by
  go_enter Tryz.func135, Tryz.ntmps135
  go_wp2_with (go_at_call 155; refine (row_any _ _).mono ?_; rintro e w1 ⟨rfl, rfl⟩; unfold rowt)
  go_ret
  exact ⟨rfl, by first | exact hb | rfl⟩
theorem rfbits_any (f : Int) (w : World) :
    Calls Tryz.prog 153 #[.int .i64 f] w fun e w' => e = .returned (.int .i64 (fbits f : Int)) ∧ w = w' := by
  go_enter Tryz.func153, Tryz.ntmps153
  go_wp2_with (go_at_call 155; refine (row_any _ _).mono ?_; rintro e w1 ⟨rfl, rfl⟩; unfold rowt)
  go_ret
  exact ⟨rfl, by first | exact hb | rfl⟩
theorem rfmask_any (f : Int) (w : World) :
    Calls Tryz.prog 154 #[.int .i64 f] w fun e w' => e = .returned (.bool (fmask f)) ∧ w = w' := by
  go_enter Tryz.func154, Tryz.ntmps154
  go_wp2_with (go_at_call 155; refine (row_any _ _).mono ?_; rintro e w1 ⟨rfl, rfl⟩; unfold rowt)
  go_ret
  exact ⟨rfl, by first | exact hb | rfl⟩
theorem fbits_le (f : Int) : fbits f ≤ 128 := by
  unfold fbits
  split <;> omega
theorem fsize_le (f : Int) : fsize f ≤ 16 := by
  have := fbits_le f
  unfold fsize; omega
theorem fsize_i (f : Int) : ((fsize f : Nat) : Int) = ((fbits f : Int) + 7) / 8 := by
  unfold fsize; omega
theorem fsize_any (f : Int) (w : World) :
    Calls Tryz.prog 165 #[.int .i64 f] w fun e w' => e = .returned (.int .i64 (fsize f : Nat)) ∧ Below w.heap.size w w' := by
  rw [fsize_i]
  have hb := fbits_le f
  have HB := h_ (fun w => fbits_any f w)
  generalize fbits f = n at *
  go_enter Tryz.func165, Tryz.ntmps165
  go_wp2_with (go_at_call 174; refine (HB.out _).mono ?_; rintro e w1 ⟨rfl, hb1⟩)
  go_ret
  exact ⟨ret_int (by first | rfl | omega), hb1⟩
theorem rfsize_any (f : Int) (w : World) :
    Calls Tryz.prog 134 #[.int .i64 f] w fun e w' => e = .returned (.int .i64 (fsize f : Nat)) ∧ w = w' := by
  rw [fsize_i]
  have hb := fbits_le f
  have HB := h_ (fun w => rfbits_any f w)
  generalize fbits f = n at *
  go_enter Tryz.func134, Tryz.ntmps134
  go_wp2_with (go_at_call 153; refine (HB.out _).mono ?_; rintro e w1 ⟨rfl, rfl⟩)
  go_ret
  exact ⟨ret_int (by first | rfl | omega), rfl⟩
def fidx (id : Int) : Option Nat := (List.range 24).find? fun j => fid (j : Int) == id
def idxt (id : Int) : Value := match fidx id with
  | some j => .tuple #[.int .i64 (j : Int), .bool true]
  | none => .tuple #[.int .i64 0, .bool false]
theorem fidx_some {id : Int} {k : Nat} (hk : k < 24) (h : fid (k : Int) = id) (ha : ∀ j, j < k → fid ((j : Nat) : Int) ≠ id) : idxt id = .tuple #[.int .i64 (k : Int), .bool true] := by
  have : fidx id = some k := by
    unfold fidx
    rw [List.find?_range_eq_some]
    exact ⟨by simpa using h, by simpa using hk, fun j hj => by simpa using ha j hj⟩
  unfold idxt
  rw [this]
theorem fidx_none {id : Int} (ha : ∀ j, j < 24 → fid ((j : Nat) : Int) ≠ id) : idxt id = .tuple #[.int .i64 0, .bool false] := by
  have : fidx id = none := by
    unfold fidx
    rw [List.find?_range_eq_none]
    exact fun j hj => by simpa using ha j hj
  unfold idxt
  rw [this]
theorem idx_step {id : Int} {k : Nat} (ha : ∀ j, j < k → fid ((j : Nat) : Int) ≠ id) (h : ¬ fid (k : Int) = id) : ∀ j, j < k + 1 → fid ((j : Nat) : Int) ≠ id := by
  intro j hj
  by_cases e : j = k
  · subst e; exact h
  · exact ha j (by omega)
theorem index_any (id : Int) (w : World) :
    Calls Tryz.prog 181 #[.int .i64 id] w fun e w' => e = .returned (idxt id) ∧ Below w.heap.size w w' := by
  generalize hT : idxt id = T
  have HT := h_ hT
  clear hT
  go_enter Tryz.func181, Tryz.ntmps181
  go_wp2
  go_loopw [5] (fun i wr => ∃ k : Nat, k ≤ 24 ∧ i = .int .i64 k ∧ Hid (∀ j, j < k → fid ((j : Nat) : Int) ≠ id) ∧ Below w.heap.size w wr) (fun i _ => 24 - (intOf i).toNat)
  case atStart => exact ⟨0, Nat.zero_le _, rfl, h_ (fun j hj => absurd hj (Nat.not_lt_zero j)), Below.refl _ _⟩
  case round =>
    obtain ⟨k, hk, rfl, HA, hb⟩ := hrel
    by_cases hlt : k < 24
    · have hlt' : (k : Int) < 24 := by omega
      have HF := h_ (fun w => fid_any (k : Int) w)
      by_cases he : fid (k : Int) = id
      · have HE := h_ he
        generalize hx : fid (k : Int) = x at HF he
        have HX := h_ hx
        have g : (x == id) = true := by simpa using he
        clear hx he
        go_wp2_with (go_at_call 163; refine (HF.out _).mono ?_; rintro e w1 ⟨rfl, hb1⟩)
        go_returns
        exact ⟨by rw [← HT.out, fidx_some hlt HE.out HA.out]; rfl, (hb.trans (hb1.mono hb.size))⟩
      · have HE := h_ he
        generalize hx : fid (k : Int) = x at HF he
        have HX := h_ hx
        have g : (x == id) = false := by simpa using he
        clear hx he
        go_wp2_with (go_at_call 163; refine (HF.out _).mono ?_; rintro e w1 ⟨rfl, hb1⟩)
        go_roundw
        case rel => exact ⟨k + 1, by omega, by go_num, h_ (idx_step HA.out HE.out), (hb.trans (hb1.mono hb.size))⟩
        case measure => simp [intOf]; omega
    · have hlt' : ¬ (k : Int) < 24 := by omega
      have h24 : k = 24 := by omega
      subst h24
      go_wp2
      go_returns
      exact ⟨by rw [← HT.out, fidx_none HA.out]; rfl, hb⟩
theorem rindex_any (id : Int) (w : World) :
    Calls Tryz.prog 180 #[.int .i64 id] w fun e w' => e = .returned (idxt id) ∧ Below w.heap.size w w' := by
  generalize hT : idxt id = T
  have HT := h_ hT
  clear hT
  go_enter Tryz.func180, Tryz.ntmps180
  go_wp2
  go_loopw [4] (fun i wr => ∃ k : Nat, k ≤ 24 ∧ i = .int .i64 k ∧ Hid (∀ j, j < k → fid ((j : Nat) : Int) ≠ id) ∧ Below w.heap.size w wr) (fun i _ => 24 - (intOf i).toNat)
  case atStart => exact ⟨0, Nat.zero_le _, rfl, h_ (fun j hj => absurd hj (Nat.not_lt_zero j)), Below.refl _ _⟩
  case round =>
    obtain ⟨k, hk, rfl, HA, hb⟩ := hrel
    by_cases hlt : k < 24
    · have hlt' : (k : Int) < 24 := by omega
      have HF := h_ (fun w => rfid_any (k : Int) w)
      by_cases he : fid (k : Int) = id
      · have HE := h_ he
        generalize hx : fid (k : Int) = x at HF he
        have HX := h_ hx
        have g : (x == id) = true := by simpa using he
        clear hx he
        go_wp2_with (go_at_call 135; refine (HF.out _).mono ?_; rintro e w1 ⟨rfl, rfl⟩)
        go_returns
        exact ⟨by rw [← HT.out, fidx_some hlt HE.out HA.out]; rfl, hb⟩
      · have HE := h_ he
        generalize hx : fid (k : Int) = x at HF he
        have HX := h_ hx
        have g : (x == id) = false := by simpa using he
        clear hx he
        go_wp2_with (go_at_call 135; refine (HF.out _).mono ?_; rintro e w1 ⟨rfl, rfl⟩)
        go_roundw
        case rel => exact ⟨k + 1, by omega, by go_num, h_ (idx_step HA.out HE.out), hb⟩
        case measure => simp [intOf]; omega
    · have hlt' : ¬ (k : Int) < 24 := by omega
      have h24 : k = 24 := by omega
      subst h24
      go_wp2
      go_returns
      exact ⟨by rw [← HT.out, fidx_none HA.out]; rfl, hb⟩
def Cells (w : World) (v : Value) (size n : Nat) (xs : List Value) : Prop :=
  xs.length = n * size ∧ ∃ a cap, v = .slice a n cap ∧ n ≤ cap ∧ cap ≤ maxLen ∧ (a = none → cap = 0) ∧ ∀ ad, a = some ad → ∀ j u, xs[j]? = some u → w.cell? (ad.add j) = some u
theorem Cells.later {w w' : World} {v : Value} {size n : Nat} {xs : List Value} (h : Cells w v size n xs) (hb : Below w.heap.size w w') : Cells w' v size n xs := by
  obtain ⟨h0, a, cap, rfl, h1, h2, h3, h4⟩ := h
  exact ⟨h0, a, cap, rfl, h1, h2, h3, fun ad e j u hu => cell_later hb (h4 ad e j u hu)⟩
theorem Cells.ofOwn {w : World} {base : Nat} {e : TypeId} {v : Value} {size n : Nat} {xs : List Value} (h : w.ownsRow base e size v n xs) : Cells w v size n xs := by
  refine ⟨h.1, ?_⟩
  rcases h.2 with ⟨rfl, rfl⟩ | ⟨g, cap, cur, rfl, hb, hg, h1, h2, h3, h4⟩
  · exact ⟨none, 0, rfl, Nat.le_refl _, Nat.zero_le _, fun _ => rfl, fun _ e => by cases e⟩
  · refine ⟨some ⟨g, 0, none⟩, cap, rfl, h1, h2, (fun e => by cases e), fun ad e j u hu => ?_⟩
    cases e
    exact h.cells rfl j _ hu
theorem Cells.nil (w : World) (size : Nat) : Cells w (.slice none 0 0) size 0 [] :=
  ⟨by simp, none, 0, rfl, Nat.le_refl _, Nat.zero_le _, fun _ => rfl, fun _ e => by cases e⟩
theorem Cells.at {w : World} {a : Option Addr} {n m cap size : Nat} {xs : List Value} (h : Cells w (.slice a m cap) size n xs) : m = n ∧ n ≤ maxLen ∧ xs.length = n * size ∧ ∀ j u, xs[j]? = some u → ∃ b off, a = some ⟨b, off, none⟩ ∧ w.cell? ⟨b, off + j, none⟩ = some u := by
  obtain ⟨h0, a', cap', e, h1, h2, h3, h4⟩ := h
  cases e
  refine ⟨rfl, Nat.le_trans h1 h2, h0, fun j u hu => ?_⟩
  have hj : j < xs.length := (List.getElem?_eq_some_iff.1 hu).1
  cases a with
  | none =>
    have := h3 rfl
    subst this
    have : n = 0 := by omega
    subst this
    omega
  | some ad =>
    have hc := h4 ad rfl j u hu
    obtain ⟨b, off, spot⟩ := ad
    have hspot : spot = none := by
      have hc0 := h4 _ rfl 0 xs[0] (List.getElem?_eq_getElem (by omega))
      simpa [Addr.add] using World.cell?_spot hc0
    subst hspot
    exact ⟨b, off, rfl, by rw [Addr.add_lit] at hc; exact hc⟩
theorem wpList_append_new {P : Program} {ops : Array Oper} {rest : List Oper} {o : Oper} {a : Act} {Q : Exit → Act → World → Prop} (s x : Operand) (t : TypeId)
    (ho : o.op = .call { callee := .builtin .append, args := #[s, x], argTypes := #[t, t] })
    (e : TypeId) (i : TypeInfo) (z : Value) (size bytes : Nat) (ht : P.underlying t = some (.slice e)) (hi : P.info? e = some i) (hz : i.zero = some z)
    (hsize : i.size = size) (hby : i.bytes = bytes) (hzs : z.cells.size = size) (hsz : 0 < size)
    (base : Nat) (v : Value) (n : Nat) (xs : List Value) (hs : a.eval s = v) (w0 : World) (hown : w0.ownsRow base e size v n xs)
    (news : List Value) (cells : Array Value) (hc : cells = news.toArray) (m : Nat) (hm : news.length = m * size) (h1 : ∀ u ∈ news, u.oneCell' = true) (hx : a.eval x = .slice (some ⟨w0.heap.size, 0, none⟩) m m) (hw : Region.wanted o (yielded ops a.tmps) = true)
    (h63 : n + m ≤ maxLen) (hbytes : (n + m) * bytes ≤ 140737488355328) (hbase : base ≤ w0.heap.size)
    (h : ∀ v' w', w'.ownsRow base e size v' (n + m) (xs ++ news) → Below base w0 w' → wpList P ops Q rest (a.put o.dst v') w') : wpList P ops Q (o :: rest) a (w0.alloc (.cells cells e)) := by
  subst hc
  refine wpList_wanted hw fun K hK => ?_
  refine wp_append_own (w0.alloc (.cells news.toArray e)) s x t ho base e i z size bytes ht hi hz hsize hby hzs hsz v n xs hs (hown.alloc _) ⟨w0.heap.size, 0, none⟩ m m news hx hm ?_ h1 h63 hbytes (by simp; omega) (fun v' w' a1 a2 _ => hK _ _ (h v' w' a1 ?_))
  · intro j u hu
    rw [Addr.add_lit, World.cell?_alloc_new]
    simpa using hu
  · have hlt := hown.lt
    exact (by go_grown : Below base w0 (w0.alloc (.cells news.toArray e))).trans ((Below.refl base _).grown a2 (by simp; omega) (fun k hk => (hlt k hk).1))
def wdc : List (Nat × Nat) → List Value
  | [] => []
  | p :: r => .int .u64 (p.1 : Int) :: .int .u64 (p.2 : Int) :: wdc r
end
end Go.Proofs.YthhijfphfcmniaaGreat
