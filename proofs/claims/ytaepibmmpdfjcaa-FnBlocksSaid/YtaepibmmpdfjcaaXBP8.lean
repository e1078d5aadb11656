/- Texts on which the proofs of several laws stand, one behind the other (8 of 9). No condition of their own. -/
import Derived.WalkKit
import Derived.Test.YtaepibmmpdfjcaaXBP1
import Derived.Test.YtaepibmmpdfjcaaXBP3
import Derived.Test.YtaepibmmpdfjcaaXBP2
import Derived.IntWalk
import Derived.Test.YtaepibmmpdfjcaaChecked
import Derived.WalkSpells
import Derived.WalkLawsBesides
import Derived.BigQuiet
import Derived.OwnWalk
import Derived.Deep.LoopGhost
import Derived.Deep.QuietTactic
import Derived.Lib.QuietBelow
import Derived.Test.YtaepibmmpdfjcaaXBP6
import Derived.Test.YtaepibmmpdfjcaaXBP5
import Derived.Deep.RegionHeld3
/- Plain words on stamps: what a stamp is, when one is valid, when a list of them is; the cells of a list of records. No condition. -/
namespace Go.Proofs.Ytaepibmmpdfjcaa.PlainStamp
set_option linter.unusedVariables false

/-- a number lies in a..b -/
def inB (x a b : Int) : Bool := decide (a ≤ x ∧ x ≤ b)
theorem inB_yes {x a b : Int} (h1 : a ≤ x) (h2 : x ≤ b) : inB x a b = true := by unfold inB; exact decide_eq_true ⟨h1, h2⟩
theorem inB_no {x a b : Int} (h : x < a ∨ b < x) : inB x a b = false := by unfold inB; exact decide_eq_false (by omega)

structure St where
  id : Int
  face : Int
  color : Int
  year : Int
deriving DecidableEq

def St.cells (s : St) : List Value := [.int .i64 s.id, .int .i64 s.face, .int .i64 s.color, .int .i64 s.year]
def St.val (s : St) : Value := .agg #[.int .i64 s.id, .int .i64 s.face, .int .i64 s.color, .int .i64 s.year]
/-- each field fits an int -/
def St.fits (s : St) : Prop := (Lit.int .i64 s.id).wf = true ∧ (Lit.int .i64 s.face).wf = true ∧ (Lit.int .i64 s.color).wf = true ∧ (Lit.int .i64 s.year).wf = true

def okSt (s : St) : Bool := inB s.id 1 999 && inB s.face 0 9999 && inB s.color 0 99 && inB s.year 1840 2100
/-- the stamp at k is valid, and its id is above the one ahead of it -/
def okAt (l : List St) (k : Nat) : Bool :=
  match l[k]? with
  | none => true
  | some s => okSt s && (decide (k = 0) || (match l[k-1]? with | none => true | some r => decide (r.id < s.id)))
def okUp (l : List St) (k : Nat) : Bool := (List.range k).all (okAt l)
/-- a list of at most twelve valid stamps with rising ids -/
def okSts (l : List St) : Bool := decide (l.length ≤ 12) && okUp l l.length
/-- the cells of a list of stamps, one after the other -/
def flat (l : List St) : List Value := l.flatMap St.cells
theorem flat_nil : flat [] = [] := rfl
theorem flat_cons (s : St) (l : List St) : flat (s :: l) = s.cells ++ flat l := by simp [flat]
theorem flat_len (l : List St) : (flat l).length = l.length * 4 := by
  induction l with
  | nil => rfl
  | cons s l ih => rw [flat_cons, List.length_append, ih]; simp [St.cells]; omega
theorem flat_at : ∀ (l : List St) (k : Nat) (s : St), l[k]? = some s → ∀ j, j < 4 → (flat l)[k * 4 + j]? = s.cells[j]?
  | [], k, s, h, _, _ => by simp at h
  | r :: l, 0, s, h, j, hj => by
    obtain rfl : r = s := by simpa using h
    rw [flat_cons, List.getElem?_append_left (by simp [St.cells]; omega)]; simp
  | r :: l, k + 1, s, h, j, hj => by
    rw [flat_cons, List.getElem?_append_right (by simp [St.cells]; omega), show (k + 1) * 4 + j - r.cells.length = k * 4 + j by simp [St.cells]; omega]
    exact flat_at l k s (by simpa using h) j hj
end Go.Proofs.Ytaepibmmpdfjcaa.PlainStamp

/- Words for reckoning with plain functions; within and l1In. No condition. -/
namespace Go.Proofs.Ytaepibmmpdfjcaa.QBase
set_option linter.unusedVariables false
set_option linter.unusedSimpArgs false
open Go.RowKit
open Go.Proofs.Ytaepibmmpdfjcaa.GoP Go.Proofs.Ytaepibmmpdfjcaa.PlainStamp

theorem iteK_if {ρ : Type} (c : Bool) (a b : Option ρ) : iteK c a b = if c = true then a else b := by cases c <;> rfl
theorem bind2_some {α β ρ : Type} (a : α) (b : β) (f : α → β → Option ρ) : bind2 (some (a, b)) f = f a b := rfl
theorem guardK_pos {ρ : Type} {p : Prop} [Decidable p] {a : Option ρ} (h : p) : guardK p a = a := if_pos h
theorem within_eq (n a b : Int) : GiWithin.P n a b = some (inB n a b) := by
  simp only [GiWithin.P, letK, joinK, appK, iteK_if, inB]
  by_cases h1 : a ≤ n <;> by_cases h2 : n ≤ b <;> simp [h1, h2]
theorem l1In_eq (n a b : Int) : GsL1In.P n a b = some (inB n a b) := by
  simp only [GsL1In.P, letK, joinK, appK, iteK_if, inB]
  by_cases h1 : a ≤ n <;> by_cases h2 : n ≤ b <;> simp [h1, h2]
end Go.Proofs.Ytaepibmmpdfjcaa.QBase

/- Reckoning with the loops of plain functions; lists of valid records with rising ids. No condition. -/
namespace Go.Proofs.Ytaepibmmpdfjcaa.QLoop
set_option linter.unusedVariables false
open Go.RowKit
open Go.Proofs.Ytaepibmmpdfjcaa.GoP Go.Proofs.Ytaepibmmpdfjcaa.QBase

theorem cnt_ex {σ ρ : Type} {f : Nat → σ → (σ → Option ρ) → (σ → Option ρ) → Option ρ} {fin : σ → Option ρ} {Q : ρ → Prop} {n : Nat} (I : Nat → σ → Prop)
    (step : ∀ k s nx, k < n → I k s → (∀ s', I (k + 1) s' → ∃ r, nx s' = some r ∧ Q r) → ∃ r, f k s nx fin = some r ∧ Q r) (done : ∀ s, I n s → ∃ r, fin s = some r ∧ Q r) :
    ∀ m k s, k + m = n → I k s → ∃ r, cntK f m k s fin = some r ∧ Q r := by
  intro m
  induction m with
  | zero => intro k s hk hI; obtain rfl : k = n := by omega
            exact done s hI
  | succ m ih => intro k s hk hI; exact step k s _ (by omega) hI (fun s' h' => ih (k + 1) s' (by omega) h')
theorem cnt_is {σ ρ : Type} {f : Nat → σ → (σ → Option ρ) → (σ → Option ρ) → Option ρ} {fin : σ → Option ρ} {n : Nat} (r : ρ) (I : Nat → σ → Prop)
    (step : ∀ k s nx, k < n → I k s → (∀ s', I (k + 1) s' → nx s' = some r) → f k s nx fin = some r) (done : ∀ s, I n s → fin s = some r) (s : σ) (h0 : I 0 s) : cntK f n 0 s fin = some r := by
  obtain ⟨r', h, rfl⟩ := cnt_ex (Q := fun x => x = r) I (fun k s nx hk hI hn => ⟨r, step k s nx hk hI (fun s' h' => by obtain ⟨_, h, rfl⟩ := hn s' h'; exact h), rfl⟩) (fun s h => ⟨r, done s h, rfl⟩) n 0 s (by omega) h0
  exact h
theorem at_lt {α : Type} {l : List α} {k : Nat} (h : k < l.length) : ∃ x, l[k]? = some x ∧ idx l (k : Int) = some x := ⟨l[k], List.getElem?_eq_getElem h, by rw [idx_nat, List.getElem?_eq_getElem h]⟩
theorem take_next {α : Type} {l : List α} {k : Nat} {x : α} (h : l[k]? = some x) : l.take (k + 1) = l.take k ++ [x] := by
  obtain ⟨hk, e⟩ := List.getElem?_eq_some_iff.1 h
  rw [List.take_succ_eq_append_getElem hk, e]
theorem wrap_in {x : Int} (h1 : -9223372036854775808 ≤ x) (h2 : x ≤ 9223372036854775807) : IntKind.i64.wrap x = x := IntWalk.i64_in _ (by omega)

/-- valid, and above the one ahead of it -/
def upAt {α : Type} (ok : α → Bool) (id : α → Int) (l : List α) (k : Nat) : Bool :=
  match l[k]? with
  | none => true
  | some s => ok s && (decide (k = 0) || (match l[k-1]? with | none => true | some r => decide (id r < id s)))
def upTo {α : Type} (ok : α → Bool) (id : α → Int) (l : List α) (k : Nat) : Bool := (List.range k).all (upAt ok id l)
/-- a list of at most m valid records with rising ids -/
def upL {α : Type} (m : Nat) (ok : α → Bool) (id : α → Int) (l : List α) : Bool := decide (l.length ≤ m) && upTo ok id l l.length
end Go.Proofs.Ytaepibmmpdfjcaa.QLoop

/- loop.example/g01062/laws.toStringS as a plain function, and the contract of the program's: where the plain one has an answer, the program has it. Conditions: slices read as lists. -/
namespace Go.Proofs.Ytaepibmmpdfjcaa.GlToStringS
set_option linter.unusedVariables false
set_option linter.unusedSimpArgs false
open Go.RowKit
open Go.Proofs.Ytaepibmmpdfjcaa.Rowed Go.Proofs.Ytaepibmmpdfjcaa.Turn Go.Proofs.Ytaepibmmpdfjcaa.Aid Go.Proofs.Ytaepibmmpdfjcaa.GoP Go.Proofs.Ytaepibmmpdfjcaa.GoM

def l0 (a : (List ByteArray)) (k0 : Nat) (s : (List ByteArray)) (nx0 bk0 : (List ByteArray) → Option ((List ByteArray))) : Option ((List ByteArray)) :=
  letK s fun out_3l0 =>
  Option.bind (idx a (k0 : Int)) fun (yt_14 : ByteArray) =>
  Option.bind (idx out_3l0 (k0 : Int)) fun (yt_16 : ByteArray) =>
  letK (out_3l0.set k0 yt_14) fun (l17_17 : (List ByteArray)) =>
  appK nx0 (l17_17)

def e0  (s : (List ByteArray)) : Option ((List ByteArray)) :=
  letK s fun out_3l0 =>
  some out_3l0

def P (a : (List ByteArray)) : Option ((List ByteArray)) :=
  guardK (0 ≤ (a.length : Int) ∧ (a.length : Int) ≤ 1099511627776) <|
  letK (List.replicate a.length ByteArray.empty) fun (t_3 : (List ByteArray)) =>
  cntK (l0 a) (a.length) 0 (t_3) (e0 )

set_option maxRecDepth 100000 in
set_option maxHeartbeats 2000000 in
theorem C (a : (List ByteArray)) (A0 : Option Addr) (c0 : Nat)  (w : World) (M0 : Hid (Cells w 1 A0 a.length (a.map Value.string))) (N0 : Hid (a.length ≤ 9223372036854775807))  {r : (List ByteArray)} (H : Hid (P a = some r)) :
    Calls Try.prog 39 #[.slice A0 a.length c0] w (fun e w' => ∃ A_r c_r, e = .returned (.slice A_r r.length c_r) ∧ w'.ownsRow w.heap.size 9 1 (.slice A_r r.length c_r) r.length (r.map Value.string) ∧ Below w.heap.size w w') := by
  have HB := Lib.hid (Below.refl w.heap.size w)
  unfold P at H
  have N0o := N0.out
  obtain ⟨i0_9, hi_9, hz0_9, hz1_9, hz2_9⟩ := Aid.info_parts (P := Try.prog) (T := 9) (z := .string ByteArray.empty) (s := 1) (b := 16) (by kernel_rfl)
  go_enter Try.func39, Try.ntmps39
  replace H := guard_hid H
  obtain ⟨hnt_3, H⟩ := H
  replace H := let_hid H
  obtain ⟨t_3, ht_3, H⟩ := H
  have hst_3 := HB.out.size
  have hlt_3 : t_3.length = a.length := by rw [← ht_3]; simp
  have hht_3 := Lib.hid ht_3
  clear ht_3
  go_wp2_with (at_make; refine wpList_make_full _ rfl _ _ 24 rfl w.heap.size 9 i0_9 (.string ByteArray.empty) 1 Try.underlying24 hi_9 hz0_9 hz1_9 .i64 .i64 _ _ a.length rfl rfl (by omega) (by omega) (by rw [hz2_9]; omega) (by unfold maxLen; omega) hst_3 ?_; intro wt_3 ot_3 gt_3; have Qt_3 := Lib.hid ot_3; have Gt_3 := Lib.hid gt_3; clear ot_3 gt_3; refine stop_in ?_)
  refine stop_out ?_
  have hv_ : (Value.slice (some ⟨w.heap.size, 0, none⟩) a.length a.length : Value) = Value.slice (some ⟨w.heap.size, 0, none⟩) t_3.length a.length := by rw [hlt_3]
  rw [hv_]
  clear hv_
  have Et_3 : (t_3.map Value.string) = (madeCells (.string ByteArray.empty : Value).cells (a.length * 1)).toList := by
    rw [made_flat (fun x => [.string x]) ByteArray.empty _ 1 _ rfl rfl (by decide), ← hht_3.out]
    exact map_flat _ _
  have Pt_3 : Hid (wt_3.ownsRow w.heap.size 9 1 (.slice (some ⟨w.heap.size, 0, none⟩) a.length a.length) a.length (t_3.map Value.string)) := Lib.hid (by rw [Et_3]; exact Qt_3.out)
  clear Et_3
  replace hlt_3 := Lib.hid hlt_3
  clear Qt_3 hst_3
  have bt_3 : Below w.heap.size w wt_3 := (Below.refl _ _).grown Gt_3.out (Nat.le_refl _) (by simp)
  clear Gt_3
  have HBwt_3 := Lib.hid (Below.step HB.out bt_3)
  clear bt_3
  replace Pt_3 := Lib.hid (own_len hlt_3.out Pt_3.out)
  go_wp2_with fail
  go_wp2_with fail
  go_loopg [4] (a.length) (fun m_ v4_ wr => ∃ (k0 : Nat) (out_3l0 : (List ByteArray)), k0 + m_ = a.length ∧ v4_ = .int .i64 (k0 : Int) ∧ Hid (cntK (l0 a) m_ k0 (out_3l0) (e0 ) = some r) ∧ Hid (Below w.heap.size w wr) ∧ Hid (wr.ownsRow w.heap.size 9 1 (.slice (some ⟨w.heap.size, 0, none⟩) t_3.length a.length) t_3.length (out_3l0.map Value.string)) ∧ Hid (out_3l0.length = t_3.length))
  case atStart => exact ⟨0, _, by omega, rfl, H, HBwt_3, Pt_3, Lib.hid (rfl)⟩
  case round =>
    obtain ⟨k0, out_3l0, hkm0, rfl, H, HBwr0, Oout_3l0, hnout_3l0⟩ := hrel
    rename World => wr0
    cases gk with
    | zero =>
      obtain rfl : k0 = a.length := by omega
      have hc0 : decide (((a.length : Nat) : Int) < ((a.length : Nat) : Int)) = false := by simp
      replace H := cnt_zero H
      unfold e0 at H
      replace H := let_hid H
      obtain ⟨_, rfl, H⟩ := H
      obtain rfl := ret_hid H
      go_wp2_with fail
      go_ret
      have hr_0 := hnout_3l0.out
      replace Oout_3l0 := Lib.hid (own_len hr_0 Oout_3l0.out)
      exact ⟨(some ⟨w.heap.size, 0, none⟩), a.length, (by first | (rw [hr_0]; done) | (rw [hr_0]; rfl)), Oout_3l0.out, HBwr0.out⟩
    | succ m0 =>
      have hlt0 : k0 < a.length := by omega
      have hc0 : decide ((k0 : Int) < ((a.length : Nat) : Int)) = true := by simp; omega
      replace H := cnt_succ H
      unfold l0 at H
      replace H := let_hid H
      obtain ⟨_, rfl, H⟩ := H
      replace H := idx_hid H
      obtain ⟨nt_14, yt_14, et_14, lt_14, gt_14, H⟩ := H
      obtain rfl : k0 = nt_14 := by omega
      clear et_14
      obtain ⟨ab_t_14, ao_t_14, zt_14, At_14, z_t_14, ct_14_0⟩ := strs_at M0.out lt_14
      obtain rfl := Option.some.inj (gt_14.out.symm.trans z_t_14)
      subst At_14
      have ltt_14 := cell_lt ct_14_0
      replace ct_14_0 := cell_below HBwr0.out ct_14_0
      clear z_t_14
      have b0t_14 : (0 : Int) ≤ (k0 : Int) := by omega
      have b1t_14 : (k0 : Int) < ((a.length : Nat) : Int) := by omega
      have b2t_14 : ((k0 : Int)).toNat = k0 := by omega
      replace H := idx_hid H
      obtain ⟨nt_16, yt_16, et_16, lt_16, gt_16, H⟩ := H
      obtain rfl : k0 = nt_16 := by omega
      clear et_16
      have hqt_16 := hnout_3l0.out
      obtain ⟨ab_t_16, ao_t_16, zt_16, At_16, z_t_16, ct_16_0⟩ := strs_at (own_cells Oout_3l0.out) (k := k0) (by omega)
      obtain rfl := Option.some.inj (gt_16.out.symm.trans z_t_16)
      simp only [Option.some.injEq, Addr.mk.injEq] at At_16
      obtain ⟨rfl, rfl, _⟩ := At_16
      clear z_t_16
      simp only [Nat.zero_add] at ct_16_0
      have b0t_16 : (0 : Int) ≤ (k0 : Int) := by omega
      have b1t_16 : (k0 : Int) < ((t_3.length : Nat) : Int) := by omega
      have b2t_16 : ((k0 : Int)).toNat = k0 := by omega
      clear hqt_16
      replace H := let_hid H
      obtain ⟨l17_17, hl17_17, H⟩ := H
      try simp only [Int.toNat_natCast] at hl17_17
      obtain ⟨wl17_17, hwl17_17⟩ : ∃ x, (wr0).setCell ⟨w.heap.size, k0, none⟩ (.string yt_14) = x := ⟨_, rfl⟩
      have z0l17_17 := Oout_3l0.out.frozenAt (k0)
      have Sl17_17 := Lib.hid (own_stores [(k0, .string yt_14)] Oout_3l0.out)
      have nl17_17 : Hid (l17_17.length = t_3.length) := Lib.hid (by rw [← hl17_17, List.length_set]; exact hnout_3l0.out)
      have Pl17_17 : Hid (wl17_17.ownsRow w.heap.size 9 1 (.slice (some ⟨w.heap.size, 0, none⟩) t_3.length a.length) t_3.length (l17_17.map Value.string)) := Lib.hid (by have e_ : ([(k0, .string yt_14)] : List (Nat × Value)).foldl (fun xs p => xs.set p.1 p.2) (out_3l0.map Value.string) = (l17_17.map Value.string) := (by rw [← hl17_17]; first | done | simp [List.map_set]); rw [← hwl17_17, ← e_]; exact Sl17_17.out.1)
      have Gl17_17 : Hid (wr0.grownBy wl17_17 (Value.slice (some ⟨w.heap.size, 0, none⟩) t_3.length a.length).ownBlock) := Lib.hid (by rw [← hwl17_17]; exact Sl17_17.out.2)
      have HBwl17_17 := Lib.hid (HBwr0.out.grown Gl17_17.out HBwr0.out.size (fun q hq => (Oout_3l0.out.lt q hq).1))
      have hhl17_17 := Lib.hid hl17_17
      clear hl17_17 Sl17_17
      have ct_14_0__81 := cell_other ct_14_0 Gl17_17.out (apart_old Oout_3l0.out ltt_14)
      clear Oout_3l0 Gl17_17
      replace H := app_hid H
      go_wp2_with fail
      clear z0l17_17 ct_14_0 ct_16_0
      go_roundg m0
      case measure => omega
      case rel => exact ⟨k0 + 1, _, by omega, by go_num, H, HBwl17_17, Pl17_17, Lib.hid (nl17_17.out)⟩
end Go.Proofs.Ytaepibmmpdfjcaa.GlToStringS

/- loop.example/g01062/laws.eqStringS as a plain function, and the contract of the program's: where the plain one has an answer, the program has it. Conditions: slices read as lists. -/
namespace Go.Proofs.Ytaepibmmpdfjcaa.GlEqStringS
set_option linter.unusedVariables false
set_option linter.unusedSimpArgs false
open Go.RowKit
open Go.Proofs.Ytaepibmmpdfjcaa.Rowed Go.Proofs.Ytaepibmmpdfjcaa.Turn Go.Proofs.Ytaepibmmpdfjcaa.Aid Go.Proofs.Ytaepibmmpdfjcaa.GoP Go.Proofs.Ytaepibmmpdfjcaa.GoM

def l0 (a : (List ByteArray)) (b : (List ByteArray)) (k0 : Nat) (s : Unit) (nx0 bk0 : Unit → Option (Bool)) : Option (Bool) :=
  
  Option.bind (idx a (k0 : Int)) fun (yt_14 : ByteArray) =>
  Option.bind (idx b (k0 : Int)) fun (yt_18 : ByteArray) =>
  letK (!(yt_14.toList == yt_18.toList)) fun (t_20 : Bool) =>
  iteK t_20
  (some false)
  (appK nx0 ())

def e0  (s : Unit) : Option (Bool) :=
  
  some true

def P (a : (List ByteArray)) (b : (List ByteArray)) : Option (Bool) :=
  letK ((a.length : Int) != (b.length : Int)) fun (t_5 : Bool) =>
  iteK t_5
  (some false)
  (cntK (l0 a b) (a.length) 0 () (e0 ))

set_option maxRecDepth 100000 in
set_option maxHeartbeats 2000000 in
theorem C (a : (List ByteArray)) (b : (List ByteArray)) (A0 : Option Addr) (c0 : Nat) (A1 : Option Addr) (c1 : Nat)  (w : World) (M0 : Hid (Cells w 1 A0 a.length (a.map Value.string))) (N0 : Hid (a.length ≤ 9223372036854775807)) (M1 : Hid (Cells w 1 A1 b.length (b.map Value.string))) (N1 : Hid (b.length ≤ 9223372036854775807))  {r : Bool} (H : Hid (P a b = some r)) :
    Calls Try.prog 41 #[.slice A0 a.length c0, .slice A1 b.length c1] w (Gives (.bool r) w) := by
  have HB := Lib.hid (Below.refl w.heap.size w)
  unfold P at H
  have N0o := N0.out
  have N1o := N1.out
  go_enter Try.func41, Try.ntmps41
  replace H := let_hid H
  obtain ⟨t_5, ht_5, H⟩ := H
  cases t_5 with
  | false =>
    have Hht_5 : Hid (a.length = b.length) := Lib.hid (by have := bne_eq_false_iff_eq.1 ht_5; omega)
    have nht_5 : (a.length == b.length) = true := beq_iff_eq.2 Hht_5.out
    replace H := ite_f H
    go_wp2_with fail
    go_loopg [5] (a.length) (fun m_ v5_ wr => ∃ (k0 : Nat) , k0 + m_ = a.length ∧ v5_ = .int .i64 (k0 : Int) ∧ Hid (cntK (l0 a b) m_ k0 () (e0 ) = some r) ∧ Hid (Below w.heap.size w wr))
    case atStart => exact ⟨0, by omega, rfl, H, HB⟩
    case round =>
      obtain ⟨k0, hkm0, rfl, H, HBwr0⟩ := hrel
      rename World => wr0
      cases gk with
      | zero =>
        obtain rfl : k0 = a.length := by omega
        have hc0 : decide (((a.length : Nat) : Int) < ((a.length : Nat) : Int)) = false := by simp
        replace H := cnt_zero H
        unfold e0 at H
        obtain rfl := ret_hid H
        go_wp2_with fail
        go_ret
        exact ⟨rfl, HBwr0.out⟩
      | succ m0 =>
        have hlt0 : k0 < a.length := by omega
        have hc0 : decide ((k0 : Int) < ((a.length : Nat) : Int)) = true := by simp; omega
        replace H := cnt_succ H
        unfold l0 at H
        go_wp2_with fail
        replace H := idx_hid H
        obtain ⟨nt_14, yt_14, et_14, lt_14, gt_14, H⟩ := H
        obtain rfl : k0 = nt_14 := by omega
        clear et_14
        obtain ⟨ab_t_14, ao_t_14, zt_14, At_14, z_t_14, ct_14_0⟩ := strs_at M0.out lt_14
        obtain rfl := Option.some.inj (gt_14.out.symm.trans z_t_14)
        subst At_14
        have ltt_14 := cell_lt ct_14_0
        replace ct_14_0 := cell_below HBwr0.out ct_14_0
        clear z_t_14
        have b0t_14 : (0 : Int) ≤ (k0 : Int) := by omega
        have b1t_14 : (k0 : Int) < ((a.length : Nat) : Int) := by omega
        have b2t_14 : ((k0 : Int)).toNat = k0 := by omega
        have Hct_14_0 := Lib.hid ct_14_0
        replace ct_14_0 := cell_regrown ct_14_0
        replace H := idx_hid H
        obtain ⟨nt_18, yt_18, et_18, lt_18, gt_18, H⟩ := H
        obtain rfl : k0 = nt_18 := by omega
        clear et_18
        obtain ⟨ab_t_18, ao_t_18, zt_18, At_18, z_t_18, ct_18_0⟩ := strs_at M1.out lt_18
        obtain rfl := Option.some.inj (gt_18.out.symm.trans z_t_18)
        subst At_18
        have ltt_18 := cell_lt ct_18_0
        replace ct_18_0 := cell_below HBwr0.out ct_18_0
        clear z_t_18
        have b0t_18 : (0 : Int) ≤ (k0 : Int) := by omega
        have b1t_18 : (k0 : Int) < ((b.length : Nat) : Int) := by omega
        have b2t_18 : ((k0 : Int)).toNat = k0 := by omega
        have Hct_18_0 := Lib.hid ct_18_0
        replace ct_18_0 := cell_regrown ct_18_0
        replace H := let_hid H
        obtain ⟨t_20, ht_20, H⟩ := H
        refine wp_region_quiet_below (by kernel_rfl) (by kernel_rfl) ?_
        repeat (go_big_quiet_step (fail))
        refine wpQuiet_nil ?_
        intro Y6 hY6
        replace hY6 := below_class hY6
        replace ct_14_0 := Hct_14_0.out
        clear Hct_14_0
        replace ct_18_0 := Hct_18_0.out
        clear Hct_18_0
        have HBY6 := Lib.hid (Below.step HBwr0.out hY6)
        replace ct_14_0 := cell_below hY6 ct_14_0
        replace ct_18_0 := cell_below hY6 ct_18_0
        clear hY6
        cases t_20 with
        | false =>
          replace H := ite_f H
          replace H := app_hid H
          go_wp2_with fail
          go_roundg m0
          case measure => omega
          case rel => exact ⟨k0 + 1, by omega, by go_num, H, HBY6⟩
        | true =>
          replace H := ite_t H
          obtain rfl := ret_hid H
          go_wp2_with fail
          go_ret
          exact ⟨rfl, HBY6.out⟩
  | true =>
    have nht_5 : ¬ (a.length = b.length) := by have := bne_iff_ne.1 ht_5; omega
    replace H := ite_t H
    obtain rfl := ret_hid H
    go_wp2_with fail
    go_ret
    exact ⟨rfl, HB.out⟩
end Go.Proofs.Ytaepibmmpdfjcaa.GlEqStringS

/- loop.example/g01062/laws.szStringS as a plain function, and the contract of the program's: where the plain one has an answer, the program has it. Conditions: slices read as lists. -/
namespace Go.Proofs.Ytaepibmmpdfjcaa.GlSzStringS
set_option linter.unusedVariables false
set_option linter.unusedSimpArgs false
open Go.RowKit
open Go.Proofs.Ytaepibmmpdfjcaa.Rowed Go.Proofs.Ytaepibmmpdfjcaa.Turn Go.Proofs.Ytaepibmmpdfjcaa.Aid Go.Proofs.Ytaepibmmpdfjcaa.GoP Go.Proofs.Ytaepibmmpdfjcaa.GoM

def l0 (a : (List ByteArray)) (k0 : Nat) (s : Int) (nx0 bk0 : Int → Option (Int)) : Option (Int) :=
  letK s fun left_1l0 =>
  Option.bind (idx a (k0 : Int)) fun (yt_17 : ByteArray) =>
  letK (IntKind.i64.wrap (left_1l0 - (yt_17.size : Int))) fun (t_20 : Int) =>
  letK (decide (t_20 < 0)) fun (t_23 : Bool) =>
  iteK t_23
  (some (-1))
  (appK nx0 (t_20))

def e0  (s : Int) : Option (Int) :=
  letK s fun left_1l0 =>
  some left_1l0

def P (a : (List ByteArray)) (left : Int) : Option (Int) :=
  letK (IntKind.i64.wrap (left - (a.length : Int))) fun (t_4 : Int) =>
  letK (decide (t_4 < 0)) fun (t_7 : Bool) =>
  iteK t_7
  (some (-1))
  (cntK (l0 a) (a.length) 0 (t_4) (e0 ))

set_option maxRecDepth 100000 in
set_option maxHeartbeats 2000000 in
theorem C (a : (List ByteArray)) (left : Int) (A0 : Option Addr) (c0 : Nat)  (w : World) (M0 : Hid (Cells w 1 A0 a.length (a.map Value.string))) (N0 : Hid (a.length ≤ 9223372036854775807))  {r : Int} (H : Hid (P a left = some r)) :
    Calls Try.prog 37 #[.slice A0 a.length c0, .int .i64 left] w (Gives (.int .i64 r) w) := by
  have HB := Lib.hid (Below.refl w.heap.size w)
  unfold P at H
  have N0o := N0.out
  go_enter Try.func37, Try.ntmps37
  replace H := let_hid H
  obtain ⟨t_4, ht_4, H⟩ := H
  replace H := let_hid H
  obtain ⟨t_7, ht_7, H⟩ := H
  cases t_7 with
  | false =>
    replace H := ite_f H
    go_wp2_with fail
    go_loopg [5, 1] (a.length) (fun m_ v5_ v1_ wr => ∃ (k0 : Nat) (left_1l0 : Int), k0 + m_ = a.length ∧ v5_ = .int .i64 (k0 : Int) ∧ v1_ = .int .i64 left_1l0 ∧ Hid (cntK (l0 a) m_ k0 (left_1l0) (e0 ) = some r) ∧ Hid (Below w.heap.size w wr))
    case atStart => exact ⟨0, _, by omega, rfl, rfl, H, HB⟩
    case round =>
      obtain ⟨k0, left_1l0, hkm0, rfl, rfl, H, HBwr0⟩ := hrel
      rename World => wr0
      cases gk with
      | zero =>
        obtain rfl : k0 = a.length := by omega
        have hc0 : decide (((a.length : Nat) : Int) < ((a.length : Nat) : Int)) = false := by simp
        replace H := cnt_zero H
        unfold e0 at H
        replace H := let_hid H
        obtain ⟨_, rfl, H⟩ := H
        obtain rfl := ret_hid H
        go_wp2_with fail
        go_ret
        exact ⟨rfl, HBwr0.out⟩
      | succ m0 =>
        have hlt0 : k0 < a.length := by omega
        have hc0 : decide ((k0 : Int) < ((a.length : Nat) : Int)) = true := by simp; omega
        replace H := cnt_succ H
        unfold l0 at H
        replace H := let_hid H
        obtain ⟨_, rfl, H⟩ := H
        replace H := idx_hid H
        obtain ⟨nt_17, yt_17, et_17, lt_17, gt_17, H⟩ := H
        obtain rfl : k0 = nt_17 := by omega
        clear et_17
        obtain ⟨ab_t_17, ao_t_17, zt_17, At_17, z_t_17, ct_17_0⟩ := strs_at M0.out lt_17
        obtain rfl := Option.some.inj (gt_17.out.symm.trans z_t_17)
        subst At_17
        have ltt_17 := cell_lt ct_17_0
        replace ct_17_0 := cell_below HBwr0.out ct_17_0
        clear z_t_17
        have b0t_17 : (0 : Int) ≤ (k0 : Int) := by omega
        have b1t_17 : (k0 : Int) < ((a.length : Nat) : Int) := by omega
        have b2t_17 : ((k0 : Int)).toNat = k0 := by omega
        replace H := let_hid H
        obtain ⟨t_20, ht_20, H⟩ := H
        replace H := let_hid H
        obtain ⟨t_23, ht_23, H⟩ := H
        cases t_23 with
        | false =>
          replace H := ite_f H
          replace H := app_hid H
          go_wp2_with fail
          go_roundg m0
          case measure => omega
          case rel => exact ⟨k0 + 1, _, by omega, by go_num, rfl, H, HBwr0⟩
        | true =>
          replace H := ite_t H
          obtain rfl := ret_hid H
          go_wp2_with fail
          go_ret
          exact ⟨rfl, HBwr0.out⟩
  | true =>
    replace H := ite_t H
    obtain rfl := ret_hid H
    go_wp2_with fail
    go_ret
    exact ⟨rfl, HB.out⟩
end Go.Proofs.Ytaepibmmpdfjcaa.GlSzStringS

/- The laws' helpers on slices of strings as plain functions: their bulk, copied, equal. Loops that test each place, and loops without a count. Condition: what is copied has at most 2^20 strings. -/
namespace Go.Proofs.Ytaepibmmpdfjcaa.QStrs
set_option linter.unusedVariables false
set_option linter.unusedSimpArgs false
open Go.RowKit
open Go.Proofs.Ytaepibmmpdfjcaa.GoP Go.Proofs.Ytaepibmmpdfjcaa.QBase Go.Proofs.Ytaepibmmpdfjcaa.QLoop

theorem size_list (s : ByteArray) : s.toList.length = s.size := by rw [Lib.toList_data]; rfl
/-- each number below n is good -/
def allN (n : Nat) (p : Nat → Bool) : Bool := (List.range n).all p
theorem allN_iff {n : Nat} {p : Nat → Bool} : allN n p = true ↔ ∀ i, i < n → p i = true := by unfold allN; simp
theorem allN_no {n k : Nat} {p : Nat → Bool} (hk : k < n) (h : p k = false) : allN n p = false := by
  rw [Bool.eq_false_iff]; intro ha; rw [allN_iff.1 ha k hk] at h; exact absurd h (by simp)
theorem allN_eq {n m : Nat} {p q : Nat → Bool} (h : (∀ i, i < n → p i = true) ↔ (∀ i, i < m → q i = true)) : allN n p = allN m q := by
  rw [Bool.eq_iff_iff, allN_iff, allN_iff]; exact h
theorem all_cnt {ρ : Type} {n : Nat} {p : Nat → Bool} {no : ρ} {f : Nat → Unit → (Unit → Option ρ) → (Unit → Option ρ) → Option ρ} {fin : Unit → Option ρ}
    (step : ∀ k nx, k < n → (p k = false → f k () nx fin = some no) ∧ (p k = true → f k () nx fin = nx ())) : cntK f n 0 () fin = if allN n p = true then fin () else some no := by
  have key : ∀ m k, k + m = n → (∀ i, i < k → p i = true) → cntK f m k () fin = if allN n p = true then fin () else some no := by
    intro m
    induction m with
    | zero => intro k hk hu; obtain rfl : k = n := by omega
              rw [allN_iff.2 hu]; rfl
    | succ m ih =>
      intro k hk hu
      obtain ⟨h1, h2⟩ := step k (fun s' => cntK f m (k + 1) s' fin) (by omega)
      show f k () _ fin = _
      cases hp : p k with
      | false => rw [h1 hp, allN_no (by omega) hp]; rfl
      | true =>
        rw [h2 hp]
        refine ih (k + 1) (by omega) (fun i hi => ?_)
        by_cases he : i = k
        · rw [he]; exact hp
        · exact hu i (by omega)
  exact key n 0 (by omega) (fun i hi => by omega)
theorem lp_ex {σ ρ : Type} {f : σ → (σ → Option ρ) → (σ → Option ρ) → Option ρ} {fin : σ → Option ρ} {Q : ρ → Prop} {n : Nat} (I : Nat → σ → Prop)
    (step : ∀ k s nx, k < n → I k s → (∀ s', I (k + 1) s' → ∃ r, nx s' = some r ∧ Q r) → ∃ r, f s nx fin = some r ∧ Q r) (done : ∀ s nx, I n s → ∃ r, f s nx fin = some r ∧ Q r) :
    ∀ fuel k s, k ≤ n → n - k < fuel → I k s → ∃ r, loopK f fuel s fin = some r ∧ Q r := by
  intro fuel
  induction fuel with
  | zero => intro k s hk hf; omega
  | succ m ih =>
    intro k s hk hf hI
    show ∃ r, f s _ fin = some r ∧ Q r
    by_cases he : k = n
    · subst he; exact done s _ hI
    · exact step k s _ (by omega) hI (fun s' h' => ih (k + 1) s' (by omega) (by omega) h')
theorem all_lp {ρ : Type} {n : Nat} {p : Nat → Bool} {no : ρ} {f : Int → (Int → Option ρ) → (Int → Option ρ) → Option ρ} {fin : Int → Option ρ}
    (step : ∀ (k : Nat) nx, k < n → (p k = false → f (k : Int) nx fin = some no) ∧ (p k = true → f (k : Int) nx fin = nx ((k + 1 : Nat) : Int))) (stop : ∀ nx, f (n : Int) nx fin = fin (n : Int))
    (fuel : Nat) (hf : n < fuel) : loopK f fuel 0 fin = if allN n p = true then fin (n : Int) else some no := by
  have key : ∀ fuel k, k ≤ n → n - k < fuel → (∀ i, i < k → p i = true) → loopK f fuel (k : Int) fin = if allN n p = true then fin (n : Int) else some no := by
    intro fuel
    induction fuel with
    | zero => intro k hk hf; omega
    | succ m ih =>
      intro k hk hf hu
      show f (k : Int) _ fin = _
      by_cases he : k = n
      · subst he; rw [stop, allN_iff.2 hu]; rfl
      · obtain ⟨h1, h2⟩ := step k (fun s' => loopK f m s' fin) (by omega)
        cases hp : p k with
        | false => rw [h1 hp, allN_no (by omega) hp]; rfl
        | true =>
          rw [h2 hp]
          refine ih (k + 1) (by omega) (by omega) (fun i hi => ?_)
          by_cases he : i = k
          · rw [he]; exact hp
          · exact hu i (by omega)
  exact key fuel 0 (by omega) (by omega) (fun i hi => by omega)
theorem next_i {k : Nat} (h : k ≤ 9223372036854775806) : IntKind.i64.wrap ((k : Int) + 1) = ((k + 1 : Nat) : Int) := by rw [wrap_in (by omega) (by omega)]; omega
theorem at_list {s : ByteArray} {k : Nat} (h : k < s.size) : ∃ b, s.toList[k]? = some b ∧ idx s.toList (k : Int) = some b ∧ s.toList.getD k 0 = b := by
  obtain ⟨b, hb, hi⟩ := at_lt (l := s.toList) (k := k) (by rw [size_list]; exact h)
  exact ⟨b, hb, hi, by rw [List.getD_eq_getElem?_getD, hb]; rfl⟩
theorem at_row {l : List ByteArray} {k : Nat} (h : k < l.length) : ∃ r, l[k]? = some r ∧ idx l (k : Int) = some r ∧ l.getD k ByteArray.empty = r := by
  obtain ⟨b, hb, hi⟩ := at_lt (l := l) (k := k) h
  exact ⟨b, hb, hi, by rw [List.getD_eq_getElem?_getD, hb]; rfl⟩
end Go.Proofs.Ytaepibmmpdfjcaa.QStrs

/- Rows of a sheet and of a block: the program's test and the reference's are the same. Condition: at most 2^20 rows of at most 2^20 letters. -/
namespace Go.Proofs.Ytaepibmmpdfjcaa.QSheet
set_option linter.unusedVariables false
set_option linter.unusedSimpArgs false
open Go.RowKit
open Go.Proofs.Ytaepibmmpdfjcaa.GoP Go.Proofs.Ytaepibmmpdfjcaa.PlainStamp Go.Proofs.Ytaepibmmpdfjcaa.QBase Go.Proofs.Ytaepibmmpdfjcaa.QLoop Go.Proofs.Ytaepibmmpdfjcaa.QStrs

/-- a letter or a point -/
def okc (b : UInt8) : Bool := (b.toNat == 46) || decide (97 ≤ b.toNat ∧ b.toNat ≤ 122)
abbrev rw_ (l : List ByteArray) (i : Nat) : ByteArray := l.getD i ByteArray.empty
abbrev ch (s : ByteArray) (i : Nat) : UInt8 := s.toList.getD i 0
def rowB (l : List ByteArray) (i : Nat) : Bool := decide ((rw_ l i).size = (rw_ l 0).size) && allN (rw_ l i).size (fun k => okc (ch (rw_ l i) k))
def rowsB (l : List ByteArray) (m : Int) : Bool := inB (l.length : Int) 1 m && (inB ((rw_ l 0).size : Int) 1 m && allN l.length (rowB l))
theorem letter_eq (b : UInt8) : GiIsLetter.P (b.toNat : Int) = some (decide (97 ≤ b.toNat ∧ b.toNat ≤ 122)) := by
  simp only [GiIsLetter.P, letK, joinK, appK, iteK_if]
  by_cases h1 : 97 ≤ b.toNat
  · by_cases h2 : b.toNat ≤ 122
    · simp [h1, h2, show (97 : Int) ≤ b.toNat by omega, show (b.toNat : Int) ≤ 122 by omega]
    · simp [h1, h2, show (97 : Int) ≤ b.toNat by omega, show ¬ (b.toNat : Int) ≤ 122 by omega]
  · simp [h1, show ¬ (97 : Int) ≤ b.toNat by omega]
theorem inB_pos {n a b : Int} (h : inB n a b = true) : a ≤ n ∧ n ≤ b := by unfold inB at h; simpa using h
theorem impl_eq (l : List ByteArray) (m : Int) (hs : ∀ s ∈ l, s.size ≤ 1048576) : GiAreRows.P l m = some (rowsB l m) := by
  simp only [GiAreRows.P, within_eq, Option.bind_some, letK, joinK, appK, iteK_if]
  unfold rowsB
  cases h1 : inB (l.length : Int) 1 m with
  | false => simp
  | true =>
    have := (inB_pos h1).1
    obtain ⟨r0, hr0, hi0, hd0⟩ := at_row (l := l) (k := 0) (by omega)
    simp only [Int.ofNat_zero] at hi0
    simp only [hi0, Option.bind_some, Bool.not_true, Bool.false_eq_true, if_false, Bool.true_and]
    rw [show rw_ l 0 = r0 from hd0]
    cases h2 : inB (r0.size : Int) 1 m with
    | false => simp
    | true =>
      simp only [Bool.not_true, Bool.false_eq_true, if_false, Bool.true_and]
      rw [all_cnt (p := rowB l) (no := false)]
      · cases allN l.length (rowB l) <;> rfl
      · intro k nx hk
        obtain ⟨r, hr, hi, hd⟩ := at_row hk
        have hsz := hs r (List.mem_of_getElem? hr)
        simp only [GiAreRows.l0, hi, hi0, Option.bind_some, letK, iteK_if]
        unfold rowB
        rw [show rw_ l 0 = r0 from hd0, show rw_ l k = r from hd]
        by_cases he : r.size = r0.size
        · rw [if_neg (by simp; omega), guardK_pos (by omega)]
          rw [all_cnt (p := fun k => okc (ch r k)) (no := false)]
          · simp only [he, decide_true, Bool.true_and]
            cases allN r0.size (fun k => okc (ch r k)) <;> simp [GiAreRows.e1, appK]
          · intro j nx2 hj
            obtain ⟨b, hb, hib, hdb⟩ := at_list hj
            simp only [GiAreRows.l1, hib, Option.bind_some, letK, joinK, appK, iteK_if, letter_eq]
            rw [show ch r j = b from hdb]
            unfold okc
            by_cases h46 : b.toNat = 46
            · simp [h46]
            · by_cases hl : 97 ≤ b.toNat ∧ b.toNat ≤ 122 <;> simp [h46, hl] <;> omega
        · rw [if_pos (by simp; omega)]
          simp [he]
theorem spec_eq (l : List ByteArray) (m : Int) (fuel : Nat) (hf : 1048577 ≤ fuel) (hs : ∀ s ∈ l, s.size ≤ 1048576) : GsL4Rows.P fuel l m = some (rowsB l m) := by
  simp only [GsL4Rows.P, l1In_eq, Option.bind_some, letK, iteK_if]
  unfold rowsB
  cases h1 : inB (l.length : Int) 1 m with
  | false => simp
  | true =>
    have := (inB_pos h1).1
    obtain ⟨r0, hr0, hi0, hd0⟩ := at_row (l := l) (k := 0) (by omega)
    simp only [Int.ofNat_zero] at hi0
    simp only [Bool.not_true, Bool.false_eq_true, if_false, Bool.true_and]
    rw [show rw_ l 0 = r0 from hd0]
    rw [all_cnt (p := fun k => inB ((rw_ l k).size : Int) 1 m && rowB l k) (no := false)]
    · have e : allN l.length (fun k => inB ((rw_ l k).size : Int) 1 m && rowB l k) = (inB (r0.size : Int) 1 m && allN l.length (rowB l)) := by
        rw [Bool.eq_iff_iff, Bool.and_eq_true, allN_iff, allN_iff]
        constructor
        · intro h
          refine ⟨?_, fun i hi => (by have := h i hi; simp only [Bool.and_eq_true] at this; exact this.2)⟩
          have := h 0 (by omega)
          simp only [Bool.and_eq_true] at this
          rw [← show rw_ l 0 = r0 from hd0]; exact this.1
        · rintro ⟨h2, h3⟩ i hi
          have h4 := h3 i hi
          have h5 : (rw_ l i).size = r0.size := by
            unfold rowB at h4
            simp only [Bool.and_eq_true, decide_eq_true_eq] at h4
            rw [h4.1, show rw_ l 0 = r0 from hd0]
          simp only [Bool.and_eq_true]
          exact ⟨by rw [h5]; exact h2, h4⟩
      rw [e]
      cases inB (r0.size : Int) 1 m <;> cases allN l.length (rowB l) <;> rfl
    · intro k nx hk
      obtain ⟨r, hr, hi, hd⟩ := at_row hk
      have hsz := hs r (List.mem_of_getElem? hr)
      simp only [GsL4Rows.l0, hi, hi0, Option.bind_some, letK, joinK, appK, iteK_if, l1In_eq]
      unfold rowB
      rw [show rw_ l 0 = r0 from hd0, show rw_ l k = r from hd]
      by_cases he : r.size = r0.size
      · rw [if_neg (by simp; omega)]
        cases h3 : inB (r.size : Int) 1 m with
        | false => simp
        | true =>
          simp only [Bool.not_true, Bool.false_eq_true, if_false, Bool.true_and]
          rw [all_lp (n := r.size) (p := fun k => okc (ch r k)) (no := false) _ _ fuel (by omega)]
          · simp only [he, decide_true, Bool.true_and]
            cases allN r0.size (fun k => okc (ch r k)) <;> simp [GsL4Rows.e1, letK, appK]
          · intro j nx2 hj
            obtain ⟨b, hb, hib, hdb⟩ := at_list hj
            simp only [GsL4Rows.l1, hi, hib, Option.bind_some, letK, joinK, appK, iteK_if]
            rw [show ch r j = b from hdb, if_pos (by simp; omega), next_i (by omega)]
            unfold okc
            by_cases h46 : b.toNat = 46
            · simp [h46]
            · by_cases hl : 97 ≤ b.toNat
              · by_cases hl2 : b.toNat ≤ 122
                · simp [h46, hl, hl2, show ¬ ((b.toNat : Int) < 97) by omega, show ¬ ((122 : Int) < b.toNat) by omega]
                  try omega
                · simp [h46, hl, hl2, show ¬ ((b.toNat : Int) < 97) by omega, show ((122 : Int) < b.toNat) by omega]
                  try omega
              · simp [h46, hl, show ((b.toNat : Int) < 97) by omega]
                try omega
          · intro nx2
            simp only [GsL4Rows.l1, hi, Option.bind_some, letK, appK, iteK_if]
            rw [if_neg (by simp)]
      · rw [if_pos (by simp; omega)]
        simp [he]
end Go.Proofs.Ytaepibmmpdfjcaa.QSheet

/- loop.example/g01062/laws.FnExactPointsOn as a plain function, and the contract of the program's: where the plain one has an answer, the program has it. Conditions: slices read as lists. -/
namespace Go.Proofs.Ytaepibmmpdfjcaa.GlFnExactPointsOn
set_option linter.unusedVariables false
set_option linter.unusedSimpArgs false
open Go.RowKit
open Go.Proofs.Ytaepibmmpdfjcaa.Rowed Go.Proofs.Ytaepibmmpdfjcaa.Turn Go.Proofs.Ytaepibmmpdfjcaa.Aid Go.Proofs.Ytaepibmmpdfjcaa.GoP Go.Proofs.Ytaepibmmpdfjcaa.GoM

def P (fuel : Nat) (aSheet : (List ByteArray)) : Option (Bool) :=
  Option.bind (Go.Proofs.Ytaepibmmpdfjcaa.GlSzStringS.P aSheet 1048576) fun (t_4 : Int) =>
  letK (decide (t_4 < 0)) fun (t_7 : Bool) =>
  iteK t_7
  (some true)
  (Option.bind (Go.Proofs.Ytaepibmmpdfjcaa.GlToStringS.P aSheet) fun (t_10 : (List ByteArray)) =>
  bind2 (Go.Proofs.Ytaepibmmpdfjcaa.GsPointsOn.P fuel t_10) fun (t_11a : Int) (t_11b : Bool) =>
  Option.bind (Go.Proofs.Ytaepibmmpdfjcaa.GlToStringS.P aSheet) fun (t_18 : (List ByteArray)) =>
  bind2 (Go.Proofs.Ytaepibmmpdfjcaa.GiPointsOn.P t_18) fun (t_21a : Int) (t_21b : Bool) =>
  letK (t_21a != t_11a) fun (t_29 : Bool) =>
  joinK (fun (t_34 : Bool) =>
  iteK t_34
  (some false)
  (Option.bind (Go.Proofs.Ytaepibmmpdfjcaa.GlToStringS.P aSheet) fun (t_38 : (List ByteArray)) =>
  Option.bind (Go.Proofs.Ytaepibmmpdfjcaa.GlEqStringS.P t_18 t_38) fun (t_39 : Bool) =>
  letK (!t_39) fun (t_40 : Bool) =>
  iteK t_40
  (some false)
  (some true))) fun jt_34 => iteK t_29 (appK jt_34 true) (letK (!(t_21b == t_11b)) fun (t_33 : Bool) =>
  appK jt_34 t_33))

set_option maxRecDepth 100000 in
set_option maxHeartbeats 2000000 in
theorem C (fuel : Nat) (aSheet : (List ByteArray)) (A0 : Option Addr) (c0 : Nat)  (w : World) (M0 : Hid (Cells w 1 A0 aSheet.length (aSheet.map Value.string))) (N0 : Hid (aSheet.length ≤ 9223372036854775807))  {r : Bool} (H : Hid (P fuel aSheet = some r)) :
    Calls Try.prog 8 #[.slice A0 aSheet.length c0] w (Gives (.bool r) w) := by
  have HB := Lib.hid (Below.refl w.heap.size w)
  unfold P at H
  have N0o := N0.out
  go_enter Try.func8, Try.ntmps8
  replace H := bind_hid H
  obtain ⟨t_4, qt_4, H⟩ := H
  go_wp2_with fail
  go_at_call 37
  refine (Go.Proofs.Ytaepibmmpdfjcaa.GlSzStringS.C (aSheet) (1048576) A0 c0 _   (Lib.hid (Cells.below M0.out HB.out)) N0 qt_4).mono ?_
  rintro e_t_4 wt_4 ⟨rfl, bt_4⟩
  have HBwt_4 := Lib.hid (Below.step HB.out bt_4)
  clear bt_4
  replace H := let_hid H
  obtain ⟨t_7, ht_7, H⟩ := H
  cases t_7 with
  | false =>
    replace H := ite_f H
    replace H := bind_hid H
    obtain ⟨t_10, qt_10, H⟩ := H
    go_wp2_with fail
    go_at_call 39
    refine (Go.Proofs.Ytaepibmmpdfjcaa.GlToStringS.C (aSheet) A0 c0 _   (Lib.hid (Cells.below M0.out HBwt_4.out)) N0 qt_10).mono ?_
    rintro e_t_10 wt_10 ⟨At_10, ct_10, rfl, ot_10, bt_10⟩
    have Ot_10 := Lib.hid (own_lower ot_10 HBwt_4.out.size)
    clear ot_10
    have HBwt_10 := Lib.hid (Below.step HBwt_4.out bt_10)
    clear bt_10
    replace H := bind2_hid H
    obtain ⟨t_11a, t_11b, qt_11, H⟩ := H
    go_wp2_with fail
    go_at_call 26
    refine (Go.Proofs.Ytaepibmmpdfjcaa.GsPointsOn.C fuel (t_10) At_10 ct_10 _   (Lib.hid (own_cells Ot_10.out)) (Lib.hid (own_max Ot_10.out)) qt_11).mono ?_
    rintro e_t_11 wt_11 ⟨rfl, bt_11⟩
    have HBwt_11 := Lib.hid (Below.step HBwt_10.out bt_11)
    replace Ot_10 := Lib.hid (own_below Ot_10.out bt_11)
    clear bt_11
    replace H := bind_hid H
    obtain ⟨t_18, qt_18, H⟩ := H
    go_wp2_with fail
    go_at_call 39
    refine (Go.Proofs.Ytaepibmmpdfjcaa.GlToStringS.C (aSheet) A0 c0 _   (Lib.hid (Cells.below M0.out HBwt_11.out)) N0 qt_18).mono ?_
    rintro e_t_18 wt_18 ⟨At_18, ct_18, rfl, ot_18, bt_18⟩
    have Dt_18_t_10 := Lib.hid (apart_call ot_18 Ot_10.out)
    have Ot_18 := Lib.hid (own_lower ot_18 HBwt_11.out.size)
    clear ot_18
    have HBwt_18 := Lib.hid (Below.step HBwt_11.out bt_18)
    replace Ot_10 := Lib.hid (own_below Ot_10.out bt_18)
    clear bt_18
    replace H := bind2_hid H
    obtain ⟨t_21a, t_21b, qt_21, H⟩ := H
    go_wp2_with fail
    go_at_call 18
    refine (Go.Proofs.Ytaepibmmpdfjcaa.GiPointsOn.C (t_18) At_18 ct_18 _   (Lib.hid (own_cells Ot_18.out)) (Lib.hid (own_max Ot_18.out)) qt_21).mono ?_
    rintro e_t_21 wt_21 ⟨rfl, bt_21⟩
    have HBwt_21 := Lib.hid (Below.step HBwt_18.out bt_21)
    replace Ot_10 := Lib.hid (own_below Ot_10.out bt_21)
    replace Ot_18 := Lib.hid (own_below Ot_18.out bt_21)
    clear bt_21
    replace H := let_hid H
    obtain ⟨t_29, ht_29, H⟩ := H
    replace H := join_hid H
    cases t_29 with
    | false =>
      replace H := ite_f H
      replace H := let_hid H
      obtain ⟨t_33, ht_33, H⟩ := H
      replace H := app_hid H
      cases t_33 with
      | false =>
        replace H := ite_f H
        replace H := bind_hid H
        obtain ⟨t_38, qt_38, H⟩ := H
        go_wp2_with fail
        go_at_call 39
        refine (Go.Proofs.Ytaepibmmpdfjcaa.GlToStringS.C (aSheet) A0 c0 _   (Lib.hid (Cells.below M0.out HBwt_21.out)) N0 qt_38).mono ?_
        rintro e_t_38 wt_38 ⟨At_38, ct_38, rfl, ot_38, bt_38⟩
        have Dt_38_t_10 := Lib.hid (apart_call ot_38 Ot_10.out)
        have Dt_38_t_18 := Lib.hid (apart_call ot_38 Ot_18.out)
        have Ot_38 := Lib.hid (own_lower ot_38 HBwt_21.out.size)
        clear ot_38
        have HBwt_38 := Lib.hid (Below.step HBwt_21.out bt_38)
        replace Ot_10 := Lib.hid (own_below Ot_10.out bt_38)
        replace Ot_18 := Lib.hid (own_below Ot_18.out bt_38)
        clear bt_38
        replace H := bind_hid H
        obtain ⟨t_39, qt_39, H⟩ := H
        go_wp2_with fail
        go_at_call 41
        refine (Go.Proofs.Ytaepibmmpdfjcaa.GlEqStringS.C (t_18) (t_38) At_18 ct_18 At_38 ct_38 _   (Lib.hid (own_cells Ot_18.out)) (Lib.hid (own_max Ot_18.out)) (Lib.hid (own_cells Ot_38.out)) (Lib.hid (own_max Ot_38.out)) qt_39).mono ?_
        rintro e_t_39 wt_39 ⟨rfl, bt_39⟩
        have HBwt_39 := Lib.hid (Below.step HBwt_38.out bt_39)
        replace Ot_10 := Lib.hid (own_below Ot_10.out bt_39)
        replace Ot_18 := Lib.hid (own_below Ot_18.out bt_39)
        replace Ot_38 := Lib.hid (own_below Ot_38.out bt_39)
        clear bt_39
        cases t_39 with
        | false =>
          replace H := let_hid H
          obtain ⟨t_40, ht_40, H⟩ := H
          obtain rfl : t_40 = true := ht_40.symm
          replace H := ite_t H
          obtain rfl := ret_hid H
          go_wp2_with fail
          go_ret
          exact ⟨rfl, HBwt_39.out⟩
        | true =>
          replace H := let_hid H
          obtain ⟨t_40, ht_40, H⟩ := H
          obtain rfl : t_40 = false := ht_40.symm
          replace H := ite_f H
          obtain rfl := ret_hid H
          go_wp2_with fail
          go_ret
          exact ⟨rfl, HBwt_39.out⟩
      | true =>
        replace H := ite_t H
        obtain rfl := ret_hid H
        go_wp2_with fail
        go_ret
        exact ⟨rfl, HBwt_21.out⟩
    | true =>
      replace H := ite_t H
      replace H := app_hid H
      replace H := ite_t H
      obtain rfl := ret_hid H
      go_wp2_with fail
      go_ret
      exact ⟨rfl, HBwt_21.out⟩
  | true =>
    replace H := ite_t H
    obtain rfl := ret_hid H
    go_wp2_with fail
    go_ret
    exact ⟨rfl, HBwt_4.out⟩
end Go.Proofs.Ytaepibmmpdfjcaa.GlFnExactPointsOn

/- Points on a sheet, the text of a block: the plain functions of the program and of the reference agree, and the laws answer true. (Q4Points) No condition but those of each theorem. -/
namespace Go.Proofs.Ytaepibmmpdfjcaa.Q4Points
set_option linter.unusedVariables false
set_option linter.unusedSimpArgs false
open Go.RowKit
open Go.Proofs.Ytaepibmmpdfjcaa.GoP Go.Proofs.Ytaepibmmpdfjcaa.PlainStamp Go.Proofs.Ytaepibmmpdfjcaa.QBase Go.Proofs.Ytaepibmmpdfjcaa.QLoop Go.Proofs.Ytaepibmmpdfjcaa.QStrs Go.Proofs.Ytaepibmmpdfjcaa.QSheet

def cnt (r : ByteArray) (k : Nat) : Int := ((r.toList.take k).count 46 : Nat)
def tot (l : List ByteArray) (k : Nat) : Int := ((l.take k).map (fun r => cnt r r.size)).sum
theorem cnt_in (r : ByteArray) (k : Nat) : 0 ≤ cnt r k ∧ cnt r k ≤ (k : Int) := by
  unfold cnt
  have h1 := List.count_le_length (a := (46 : UInt8)) (l := r.toList.take k)
  rw [List.length_take] at h1
  omega
theorem cnt_all (r : ByteArray) : cnt r r.size = (Lib.countByte r.data.toList 46 : Int) := by
  unfold cnt
  rw [List.take_of_length_le (by rw [size_list]; omega), Lib.toList_data]; rfl
theorem cnt_next {r : ByteArray} {k : Nat} {y : UInt8} (h : r.toList[k]? = some y) : cnt r (k + 1) = cnt r k + (if (y.toNat : Int) == 46 then 1 else 0) := by
  unfold cnt
  rw [take_next h, List.count_append]
  have e : ((y.toNat : Int) == 46) = (y == 46) := by
    rw [Bool.eq_iff_iff, beq_iff_eq, beq_iff_eq]
    constructor
    · intro h2
      have : y.toNat = 46 := by omega
      exact UInt8.toNat.inj this
    · intro h2; rw [h2]; rfl
  rw [e]
  cases hy : y == 46 <;> simp [List.count_cons, hy]
theorem tot_next {l : List ByteArray} {k : Nat} {r : ByteArray} (h : l[k]? = some r) : tot l (k + 1) = tot l k + cnt r r.size := by
  unfold tot; rw [take_next h, List.map_append, List.sum_append]; simp
theorem tot_in {l : List ByteArray} (hs : ∀ s ∈ l, s.size ≤ 1048576) : ∀ k, k ≤ l.length → 0 ≤ tot l k ∧ tot l k ≤ 1048576 * (k : Int) := by
  intro k
  induction k with
  | zero => intro _; simp [tot]
  | succ k ih =>
    intro hk
    obtain ⟨r, hr, _⟩ := at_lt (l := l) (k := k) (by omega)
    have h1 := ih (by omega)
    have h2 := cnt_in r r.size
    have h3 := hs r (List.mem_of_getElem? hr)
    rw [tot_next hr]; omega
theorem rows_len {l : List ByteArray} {m : Int} (h : rowsB l m = true) : (l.length : Int) ≤ m := by
  unfold rowsB at h; simp only [Bool.and_eq_true] at h
  exact (inB_pos h.1).2
def ptsRes (l : List ByteArray) : Int × Bool := if rowsB l 5 = true then (tot l l.length, true) else (0, false)
theorem pts_impl (l : List ByteArray) (hs : ∀ s ∈ l, s.size ≤ 1048576) : GiPointsOn.P l = some (ptsRes l) := by
  simp only [GiPointsOn.P, GiIsSheet.P, impl_eq l 5 hs, Option.bind_some, letK, iteK_if, ptsRes]
  cases hr : rowsB l 5 with
  | false => simp
  | true =>
    have hl := rows_len hr
    have key : GiPointsIn.P l = some (tot l l.length) := by
      simp only [GiPointsIn.P]
      refine cnt_is _ (fun k s => s = tot l k) ?_ ?_ _ rfl
      · rintro k s nx hk rfl hnx
        obtain ⟨r, hr, hri⟩ := at_lt (l := l) (k := k) hk
        have h1 := tot_in hs k (by omega)
        have h2 := cnt_in r r.size
        have h3 := hs r (List.mem_of_getElem? hr)
        have e : GxStringsCount.P r ⟨#[46]⟩ = some (cnt r r.size) := by rw [cnt_all]; rfl
        simp only [GiPointsIn.l0, letK, hri, Option.bind_some, e, appK]
        rw [wrap_in (by omega) (by omega)]
        exact hnx _ (tot_next hr).symm
      · rintro s rfl; rfl
    simp [key]
theorem pts_spec (l : List ByteArray) (hs : ∀ s ∈ l, s.size ≤ 1048576) : GsPointsOn.P 1048577 l = some (ptsRes l) := by
  simp only [GsPointsOn.P, GsIsSheet.P, spec_eq l 5 1048577 (by omega) hs, Option.bind_some, letK, iteK_if, ptsRes]
  cases hr : rowsB l 5 with
  | false => simp
  | true =>
    have hl := rows_len hr
    have key : GsL4Points.P 1048577 l = some (tot l l.length) := by
      simp only [GsL4Points.P]
      refine cnt_is _ (fun k s => s = tot l k) ?_ ?_ _ rfl
      · rintro k s nx hk rfl hnx
        obtain ⟨r, hr, hri⟩ := at_lt (l := l) (k := k) hk
        have h1 := tot_in hs k (by omega)
        have h3 := hs r (List.mem_of_getElem? hr)
        simp only [GsL4Points.l0, letK]
        obtain ⟨v, e1, e2⟩ := lp_ex (n := r.size) (Q := fun v => some v = nx (tot l (k + 1))) (f := GsL4Points.l1 l k) (fin := GsL4Points.e1 nx) (fun i s => s = (tot l k + cnt r i, (i : Int))) (by
            rintro i s nx2 hi rfl hn2
            obtain ⟨y, hy, hyi, _⟩ := at_list hi
            have ht : decide ((i : Int) < (r.size : Int)) = true := by simp; omega
            have h4 := cnt_in r i
            simp only [GsL4Points.l1, unp2, hri, Option.bind_some, letK, ht, iteK_if, if_true, hyi, appK]
            have h5 := hn2 _ (show (tot l k + cnt r (i + 1), ((i + 1 : Nat) : Int)) = _ from rfl)
            rw [cnt_next hy] at h5
            rw [next_i (by omega)]
            cases hc : ((y.toNat : Int) == 46) with
            | true =>
              rw [hc] at h5
              rw [if_pos rfl, wrap_in (x := tot l k + cnt r i + 1) (by omega) (by omega)]
              simpa [Int.add_assoc] using h5
            | false =>
              rw [hc] at h5
              rw [if_neg (by simp)]
              simpa using h5) (by
            rintro s nx2 rfl
            have ht : decide ((r.size : Int) < (r.size : Int)) = false := by simp
            simp only [GsL4Points.l1, unp2, hri, Option.bind_some, letK, ht, iteK_if, appK, GsL4Points.e1]
            rw [if_neg (by simp), ← tot_next hr, hnx _ rfl]
            exact ⟨_, rfl, rfl⟩) 1048577 0 (tot l k, 0) (by omega) (by omega) (by simp [cnt])
        rw [e1, e2, hnx _ rfl]
      · rintro s rfl; rfl
    simp [key]
end Go.Proofs.Ytaepibmmpdfjcaa.Q4Points

/- loop.example/g01062/laws.szBlock as a plain function, and the contract of the program's: where the plain one has an answer, the program has it. Conditions: slices read as lists. -/
namespace Go.Proofs.Ytaepibmmpdfjcaa.GlSzBlock
set_option linter.unusedVariables false
set_option linter.unusedSimpArgs false
open Go.RowKit
open Go.Proofs.Ytaepibmmpdfjcaa.Rowed Go.Proofs.Ytaepibmmpdfjcaa.Turn Go.Proofs.Ytaepibmmpdfjcaa.Aid Go.Proofs.Ytaepibmmpdfjcaa.GoP Go.Proofs.Ytaepibmmpdfjcaa.GoM

def P (a_rows : (List ByteArray)) (left : Int) : Option (Int) :=
  Option.bind (Go.Proofs.Ytaepibmmpdfjcaa.GlSzStringS.P a_rows left) fun (t_5 : Int) =>
  letK (decide (t_5 < 0)) fun (t_8 : Bool) =>
  iteK t_8
  (some (-1))
  (some t_5)

set_option maxRecDepth 100000 in
set_option maxHeartbeats 2000000 in
theorem C (a_rows : (List ByteArray)) (left : Int) (A0_0 : Option Addr) (c0_0 : Nat)  (w : World) (M0_0 : Hid (Cells w 1 A0_0 a_rows.length (a_rows.map Value.string))) (N0_0 : Hid (a_rows.length ≤ 9223372036854775807))  {r : Int} (H : Hid (P a_rows left = some r)) :
    Calls Try.prog 38 #[.agg #[.slice A0_0 a_rows.length c0_0], .int .i64 left] w (Gives (.int .i64 r) w) := by
  have HB := Lib.hid (Below.refl w.heap.size w)
  unfold P at H
  have N0_0o := N0_0.out
  go_enter Try.func38, Try.ntmps38
  obtain ⟨w_a_0, hw_a_0⟩ : ∃ x, w.alloc (.cells #[.slice A0_0 a_rows.length c0_0] 65) = x := ⟨_, rfl⟩
  have bw_a_0 : Below w.heap.size w w_a_0 := by rw [← hw_a_0]; exact (Below.refl _ _).alloc (Nat.le_refl _) _
  have HBw_a_0 := Lib.hid (Below.step HB.out bw_a_0)
  clear bw_a_0
  have ka_0_0 : w_a_0.cell? ⟨w.heap.size, 0, none⟩ = some (.slice A0_0 a_rows.length c0_0) := by rw [← hw_a_0]; exact box_new _ _ _ 0 _ rfl
  replace H := bind_hid H
  obtain ⟨t_5, qt_5, H⟩ := H
  go_wp2_with fail
  go_at_call 37
  refine (Go.Proofs.Ytaepibmmpdfjcaa.GlSzStringS.C (a_rows) (left) A0_0 c0_0 _   (Lib.hid (Cells.below M0_0.out HBw_a_0.out)) N0_0 qt_5).mono ?_
  rintro e_t_5 wt_5 ⟨rfl, bt_5⟩
  have HBwt_5 := Lib.hid (Below.step HBw_a_0.out bt_5)
  replace ka_0_0 := cell_below bt_5 ka_0_0
  clear bt_5
  replace H := let_hid H
  obtain ⟨t_8, ht_8, H⟩ := H
  cases t_8 with
  | false =>
    replace H := ite_f H
    obtain rfl := ret_hid H
    go_wp2_with fail
    go_ret
    exact ⟨rfl, HBwt_5.out⟩
  | true =>
    replace H := ite_t H
    obtain rfl := ret_hid H
    go_wp2_with fail
    go_ret
    exact ⟨rfl, HBwt_5.out⟩
end Go.Proofs.Ytaepibmmpdfjcaa.GlSzBlock

/- loop.example/g01062/laws.toBlock as a plain function, and the contract of the program's: where the plain one has an answer, the program has it. Conditions: slices read as lists. -/
namespace Go.Proofs.Ytaepibmmpdfjcaa.GlToBlock
set_option linter.unusedVariables false
set_option linter.unusedSimpArgs false
open Go.RowKit
open Go.Proofs.Ytaepibmmpdfjcaa.Rowed Go.Proofs.Ytaepibmmpdfjcaa.Turn Go.Proofs.Ytaepibmmpdfjcaa.Aid Go.Proofs.Ytaepibmmpdfjcaa.GoP Go.Proofs.Ytaepibmmpdfjcaa.GoM

def P (a_rows : (List ByteArray)) : Option (Go.Proofs.Ytaepibmmpdfjcaa.PBlock.Block) :=
  Option.bind (Go.Proofs.Ytaepibmmpdfjcaa.GlToStringS.P a_rows) fun (t_5 : (List ByteArray)) =>
  some (Go.Proofs.Ytaepibmmpdfjcaa.PBlock.Block.mk t_5)

set_option maxRecDepth 100000 in
set_option maxHeartbeats 2000000 in
theorem C (a_rows : (List ByteArray)) (A0_0 : Option Addr) (c0_0 : Nat)  (w : World) (M0_0 : Hid (Cells w 1 A0_0 a_rows.length (a_rows.map Value.string))) (N0_0 : Hid (a_rows.length ≤ 9223372036854775807))  {r_rows : (List ByteArray)} (H : Hid (P a_rows = some (Go.Proofs.Ytaepibmmpdfjcaa.PBlock.Block.mk r_rows))) :
    Calls Try.prog 40 #[.agg #[.slice A0_0 a_rows.length c0_0]] w (fun e w' => ∃ A_r_rows c_r_rows, e = .returned (.agg #[.slice A_r_rows r_rows.length c_r_rows]) ∧ w'.ownsRow w.heap.size 9 1 (.slice A_r_rows r_rows.length c_r_rows) r_rows.length (r_rows.map Value.string) ∧ Below w.heap.size w w') := by
  have HB := Lib.hid (Below.refl w.heap.size w)
  unfold P at H
  have N0_0o := N0_0.out
  go_enter Try.func40, Try.ntmps40
  obtain ⟨w_a_0, hw_a_0⟩ : ∃ x, w.alloc (.cells #[.slice A0_0 a_rows.length c0_0] 65) = x := ⟨_, rfl⟩
  have bw_a_0 : Below w.heap.size w w_a_0 := by rw [← hw_a_0]; exact (Below.refl _ _).alloc (Nat.le_refl _) _
  have HBw_a_0 := Lib.hid (Below.step HB.out bw_a_0)
  clear bw_a_0
  have ka_0_0 : w_a_0.cell? ⟨w.heap.size, 0, none⟩ = some (.slice A0_0 a_rows.length c0_0) := by rw [← hw_a_0]; exact box_new _ _ _ 0 _ rfl
  obtain ⟨w_t_1, hw_t_1⟩ : ∃ x, w_a_0.alloc (.cells #[.slice none 0 0] 26) = x := ⟨_, rfl⟩
  have bw_t_1 : Below w_a_0.heap.size w_a_0 w_t_1 := by rw [← hw_t_1]; exact (Below.refl _ _).alloc (Nat.le_refl _) _
  have Dt_1_a_0 := Lib.hid (apart_box ka_0_0)
  have HBw_t_1 := Lib.hid (Below.step HBw_a_0.out bw_t_1)
  have ka_0_0__82 := cell_below bw_t_1 ka_0_0
  clear bw_t_1
  have kt_1_0 : w_t_1.cell? ⟨w_a_0.heap.size, 0, none⟩ = some (.slice none 0 0) := by rw [← hw_t_1]; exact box_new _ _ _ 0 _ rfl
  have Ot_1 : Hid (w_t_1.ownsRow w.heap.size 26 1 (.slice (some ⟨w_a_0.heap.size, 0, none⟩) 1 1) 1 [.slice none 0 0]) := Lib.hid (by rw [← hw_t_1]; exact own_laid (n := 1) HBw_a_0.out.size rfl rfl (by unfold maxLen; omega))
  obtain ⟨w_out_2, hw_out_2⟩ : ∃ x, w_t_1.alloc (.cells #[.slice none 0 0] 26) = x := ⟨_, rfl⟩
  have bw_out_2 : Below w_t_1.heap.size w_t_1 w_out_2 := by rw [← hw_out_2]; exact (Below.refl _ _).alloc (Nat.le_refl _) _
  have Dout_2_a_0 := Lib.hid (apart_box ka_0_0__82)
  have Dout_2_t_1 := Lib.hid (apart_box kt_1_0)
  have HBw_out_2 := Lib.hid (Below.step HBw_t_1.out bw_out_2)
  have ka_0_0__83 := cell_below bw_out_2 ka_0_0__82
  have kt_1_0__84 := cell_below bw_out_2 kt_1_0
  replace Ot_1 := Lib.hid (own_below Ot_1.out bw_out_2)
  clear bw_out_2
  have kout_2_0 : w_out_2.cell? ⟨w_t_1.heap.size, 0, none⟩ = some (.slice none 0 0) := by rw [← hw_out_2]; exact box_new _ _ _ 0 _ rfl
  have Oout_2 : Hid (w_out_2.ownsRow w.heap.size 26 1 (.slice (some ⟨w_t_1.heap.size, 0, none⟩) 1 1) 1 [.slice none 0 0]) := Lib.hid (by rw [← hw_out_2]; exact own_laid (n := 1) HBw_t_1.out.size rfl rfl (by unfold maxLen; omega))
  replace H := bind_hid H
  obtain ⟨t_5, qt_5, H⟩ := H
  go_wp2_with fail
  clear ka_0_0 ka_0_0__82 kt_1_0
  go_at_call 39
  refine (Go.Proofs.Ytaepibmmpdfjcaa.GlToStringS.C (a_rows) A0_0 c0_0 _   (Lib.hid (Cells.below M0_0.out HBw_out_2.out)) N0_0 qt_5).mono ?_
  rintro e_t_5 wt_5 ⟨At_5, ct_5, rfl, ot_5, bt_5⟩
  have Dt_5_a_0 := Lib.hid (apart_callbox ot_5 ka_0_0__83)
  have Dt_5_t_1 := Lib.hid (apart_callbox ot_5 kt_1_0__84)
  have Dt_5_out_2 := Lib.hid (apart_callbox ot_5 kout_2_0)
  have Ot_5 := Lib.hid (own_lower ot_5 HBw_out_2.out.size)
  clear ot_5
  have HBwt_5 := Lib.hid (Below.step HBw_out_2.out bt_5)
  replace ka_0_0__83 := cell_below bt_5 ka_0_0__83
  replace kt_1_0__84 := cell_below bt_5 kt_1_0__84
  replace kout_2_0 := cell_below bt_5 kout_2_0
  replace Ot_1 := Lib.hid (own_below Ot_1.out bt_5)
  replace Oout_2 := Lib.hid (own_below Oout_2.out bt_5)
  clear bt_5
  obtain ⟨wb7_7, hwb7_7⟩ : ∃ x, (wt_5).setCell ⟨w_t_1.heap.size, 0, none⟩ (.slice At_5 t_5.length ct_5) = x := ⟨_, rfl⟩
  have z0b7_7 := Oout_2.out.frozenAt 0
  have Sb7_7 := Lib.hid (own_stores [(0, .slice At_5 t_5.length ct_5)] Oout_2.out)
  have Pb7_7 : Hid (wb7_7.ownsRow w.heap.size 26 1 (.slice (some ⟨w_t_1.heap.size, 0, none⟩) 1 1) 1 [.slice At_5 t_5.length ct_5]) := Lib.hid (by rw [← hwb7_7]; exact Sb7_7.out.1)
  have Gb7_7 : Hid (wt_5.grownBy wb7_7 (Value.slice (some ⟨w_t_1.heap.size, 0, none⟩) 1 1).ownBlock) := Lib.hid (by rw [← hwb7_7]; exact Sb7_7.out.2)
  have HBwb7_7 := Lib.hid (HBwt_5.out.grown Gb7_7.out HBwt_5.out.size (fun q hq => (Oout_2.out.lt q hq).1))
  clear Sb7_7
  have ka_0_0__85 := cell_other ka_0_0__83 Gb7_7.out Dout_2_a_0.out
  have kt_1_0__86 := cell_other kt_1_0__84 Gb7_7.out Dout_2_t_1.out
  replace Ot_1 := Lib.hid (own_other Ot_1.out Gb7_7.out Dout_2_t_1.out)
  replace Ot_5 := Lib.hid (own_other Ot_5.out Gb7_7.out (Apart.symm Dt_5_out_2.out))
  clear Oout_2 Gb7_7
  have kout_2_0__87 : wb7_7.cell? ⟨w_t_1.heap.size, 0, none⟩ = some (.slice At_5 t_5.length ct_5) := Pb7_7.out.cells rfl 0 _ rfl
  obtain ⟨wb9_9, hwb9_9⟩ : ∃ x, (wb7_7).setCell ⟨w_a_0.heap.size, 0, none⟩ (.slice At_5 t_5.length ct_5) = x := ⟨_, rfl⟩
  have z0b9_9 := Ot_1.out.frozenAt 0
  have Sb9_9 := Lib.hid (own_stores [(0, .slice At_5 t_5.length ct_5)] Ot_1.out)
  have Pb9_9 : Hid (wb9_9.ownsRow w.heap.size 26 1 (.slice (some ⟨w_a_0.heap.size, 0, none⟩) 1 1) 1 [.slice At_5 t_5.length ct_5]) := Lib.hid (by rw [← hwb9_9]; exact Sb9_9.out.1)
  have Gb9_9 : Hid (wb7_7.grownBy wb9_9 (Value.slice (some ⟨w_a_0.heap.size, 0, none⟩) 1 1).ownBlock) := Lib.hid (by rw [← hwb9_9]; exact Sb9_9.out.2)
  have HBwb9_9 := Lib.hid (HBwb7_7.out.grown Gb9_9.out HBwb7_7.out.size (fun q hq => (Ot_1.out.lt q hq).1))
  clear Sb9_9
  have ka_0_0__88 := cell_other ka_0_0__85 Gb9_9.out Dt_1_a_0.out
  have kout_2_0__89 := cell_other kout_2_0__87 Gb9_9.out (Apart.symm Dout_2_t_1.out)
  replace Pb7_7 := Lib.hid (own_other Pb7_7.out Gb9_9.out (Apart.symm Dout_2_t_1.out))
  replace Ot_5 := Lib.hid (own_other Ot_5.out Gb9_9.out (Apart.symm Dt_5_t_1.out))
  clear Ot_1 Gb9_9
  have kt_1_0__90 : wb9_9.cell? ⟨w_a_0.heap.size, 0, none⟩ = some (.slice At_5 t_5.length ct_5) := Pb9_9.out.cells rfl 0 _ rfl
  have hR_ := ret_hid H
  simp only [Go.Proofs.Ytaepibmmpdfjcaa.PBlock.Block.mk.injEq] at hR_
  obtain rfl := hR_
  go_wp2_with fail
  (try simp only [Exit.inBlock, Exit.then])
  refine bodyPost_ret (v := .agg #[.slice At_5 t_5.length ct_5]) ?hr_ ?hd_ ?_
  case hd_ => rfl
  case hr_ => simp [results, Try.results40, kt_1_0__90, go_sem]
  exact ⟨At_5, ct_5, rfl, Ot_5.out, HBwb9_9.out⟩
end Go.Proofs.Ytaepibmmpdfjcaa.GlToBlock

/- loop.example/g01062/laws.eqBlock as a plain function, and the contract of the program's: where the plain one has an answer, the program has it. Conditions: slices read as lists. -/
namespace Go.Proofs.Ytaepibmmpdfjcaa.GlEqBlock
set_option linter.unusedVariables false
set_option linter.unusedSimpArgs false
open Go.RowKit
open Go.Proofs.Ytaepibmmpdfjcaa.Rowed Go.Proofs.Ytaepibmmpdfjcaa.Turn Go.Proofs.Ytaepibmmpdfjcaa.Aid Go.Proofs.Ytaepibmmpdfjcaa.GoP Go.Proofs.Ytaepibmmpdfjcaa.GoM

def P (a_rows : (List ByteArray)) (b_rows : (List ByteArray)) : Option (Bool) :=
  Option.bind (Go.Proofs.Ytaepibmmpdfjcaa.GlEqStringS.P a_rows b_rows) fun (t_7 : Bool) =>
  letK (!t_7) fun (t_8 : Bool) =>
  iteK t_8
  (some false)
  (some true)

set_option maxRecDepth 100000 in
set_option maxHeartbeats 2000000 in
theorem C (a_rows : (List ByteArray)) (b_rows : (List ByteArray)) (A0_0 : Option Addr) (c0_0 : Nat) (A1_0 : Option Addr) (c1_0 : Nat)  (w : World) (M0_0 : Hid (Cells w 1 A0_0 a_rows.length (a_rows.map Value.string))) (N0_0 : Hid (a_rows.length ≤ 9223372036854775807)) (M1_0 : Hid (Cells w 1 A1_0 b_rows.length (b_rows.map Value.string))) (N1_0 : Hid (b_rows.length ≤ 9223372036854775807))  {r : Bool} (H : Hid (P a_rows b_rows = some r)) :
    Calls Try.prog 42 #[.agg #[.slice A0_0 a_rows.length c0_0], .agg #[.slice A1_0 b_rows.length c1_0]] w (Gives (.bool r) w) := by
  have HB := Lib.hid (Below.refl w.heap.size w)
  unfold P at H
  have N0_0o := N0_0.out
  have N1_0o := N1_0.out
  go_enter Try.func42, Try.ntmps42
  obtain ⟨w_a_0, hw_a_0⟩ : ∃ x, w.alloc (.cells #[.slice A0_0 a_rows.length c0_0] 26) = x := ⟨_, rfl⟩
  have bw_a_0 : Below w.heap.size w w_a_0 := by rw [← hw_a_0]; exact (Below.refl _ _).alloc (Nat.le_refl _) _
  have HBw_a_0 := Lib.hid (Below.step HB.out bw_a_0)
  clear bw_a_0
  have ka_0_0 : w_a_0.cell? ⟨w.heap.size, 0, none⟩ = some (.slice A0_0 a_rows.length c0_0) := by rw [← hw_a_0]; exact box_new _ _ _ 0 _ rfl
  obtain ⟨w_b_1, hw_b_1⟩ : ∃ x, w_a_0.alloc (.cells #[.slice A1_0 b_rows.length c1_0] 26) = x := ⟨_, rfl⟩
  have bw_b_1 : Below w_a_0.heap.size w_a_0 w_b_1 := by rw [← hw_b_1]; exact (Below.refl _ _).alloc (Nat.le_refl _) _
  have HBw_b_1 := Lib.hid (Below.step HBw_a_0.out bw_b_1)
  have ka_0_0__91 := cell_below bw_b_1 ka_0_0
  clear bw_b_1
  have kb_1_0 : w_b_1.cell? ⟨w_a_0.heap.size, 0, none⟩ = some (.slice A1_0 b_rows.length c1_0) := by rw [← hw_b_1]; exact box_new _ _ _ 0 _ rfl
  replace H := bind_hid H
  obtain ⟨t_7, qt_7, H⟩ := H
  go_wp2_with fail
  clear ka_0_0
  go_at_call 41
  refine (Go.Proofs.Ytaepibmmpdfjcaa.GlEqStringS.C (a_rows) (b_rows) A0_0 c0_0 A1_0 c1_0 _   (Lib.hid (Cells.below M0_0.out HBw_b_1.out)) N0_0 (Lib.hid (Cells.below M1_0.out HBw_b_1.out)) N1_0 qt_7).mono ?_
  rintro e_t_7 wt_7 ⟨rfl, bt_7⟩
  have HBwt_7 := Lib.hid (Below.step HBw_b_1.out bt_7)
  replace ka_0_0__91 := cell_below bt_7 ka_0_0__91
  replace kb_1_0 := cell_below bt_7 kb_1_0
  clear bt_7
  cases t_7 with
  | false =>
    replace H := let_hid H
    obtain ⟨t_8, ht_8, H⟩ := H
    obtain rfl : t_8 = true := ht_8.symm
    replace H := ite_t H
    obtain rfl := ret_hid H
    go_wp2_with fail
    go_ret
    exact ⟨rfl, HBwt_7.out⟩
  | true =>
    replace H := let_hid H
    obtain ⟨t_8, ht_8, H⟩ := H
    obtain rfl : t_8 = false := ht_8.symm
    replace H := ite_f H
    obtain rfl := ret_hid H
    go_wp2_with fail
    go_ret
    exact ⟨rfl, HBwt_7.out⟩
end Go.Proofs.Ytaepibmmpdfjcaa.GlEqBlock

/- loop.example/g01062/laws.FnExactBlockText as a plain function, and the contract of the program's: where the plain one has an answer, the program has it. Conditions: slices read as lists. -/
namespace Go.Proofs.Ytaepibmmpdfjcaa.GlFnExactBlockText
set_option linter.unusedVariables false
set_option linter.unusedSimpArgs false
open Go.RowKit
open Go.Proofs.Ytaepibmmpdfjcaa.Rowed Go.Proofs.Ytaepibmmpdfjcaa.Turn Go.Proofs.Ytaepibmmpdfjcaa.Aid Go.Proofs.Ytaepibmmpdfjcaa.GoP Go.Proofs.Ytaepibmmpdfjcaa.GoM

def P (fuel : Nat) (aB_rows : (List ByteArray)) : Option (Bool) :=
  Option.bind (Go.Proofs.Ytaepibmmpdfjcaa.GlSzBlock.P aB_rows 1048576) fun (t_5 : Int) =>
  letK (decide (t_5 < 0)) fun (t_8 : Bool) =>
  iteK t_8
  (some true)
  (Option.bind (Go.Proofs.Ytaepibmmpdfjcaa.GlToBlock.P aB_rows) fun (t_11 : Go.Proofs.Ytaepibmmpdfjcaa.PBlock.Block) =>
  unBlock t_11 fun (t_11_rows : (List ByteArray)) =>
  bind2 (Go.Proofs.Ytaepibmmpdfjcaa.GsBlockText.P fuel t_11_rows) fun (t_12a : ByteArray) (t_12b : Bool) =>
  Option.bind (Go.Proofs.Ytaepibmmpdfjcaa.GlToBlock.P aB_rows) fun (t_19 : Go.Proofs.Ytaepibmmpdfjcaa.PBlock.Block) =>
  unBlock t_19 fun (t_19_rows : (List ByteArray)) =>
  bind2 (Go.Proofs.Ytaepibmmpdfjcaa.GiBlockText.P t_19_rows) fun (t_23a : ByteArray) (t_23b : Bool) =>
  letK (!(t_23a.toList == t_12a.toList)) fun (t_31 : Bool) =>
  joinK (fun (t_36 : Bool) =>
  iteK t_36
  (some false)
  (Option.bind (Go.Proofs.Ytaepibmmpdfjcaa.GlToBlock.P aB_rows) fun (t_40 : Go.Proofs.Ytaepibmmpdfjcaa.PBlock.Block) =>
  unBlock t_40 fun (t_40_rows : (List ByteArray)) =>
  Option.bind (Go.Proofs.Ytaepibmmpdfjcaa.GlEqBlock.P t_19_rows t_40_rows) fun (t_41 : Bool) =>
  letK (!t_41) fun (t_42 : Bool) =>
  iteK t_42
  (some false)
  (some true))) fun jt_36 => iteK t_31 (appK jt_36 true) (letK (!(t_23b == t_12b)) fun (t_35 : Bool) =>
  appK jt_36 t_35))

set_option maxRecDepth 100000 in
set_option maxHeartbeats 2000000 in
theorem C (fuel : Nat) (aB_rows : (List ByteArray)) (A0_0 : Option Addr) (c0_0 : Nat)  (w : World) (M0_0 : Hid (Cells w 1 A0_0 aB_rows.length (aB_rows.map Value.string))) (N0_0 : Hid (aB_rows.length ≤ 9223372036854775807))  {r : Bool} (H : Hid (P fuel aB_rows = some r)) :
    Calls Try.prog 9 #[.agg #[.slice A0_0 aB_rows.length c0_0]] w (Gives (.bool r) w) := by
  have HB := Lib.hid (Below.refl w.heap.size w)
  unfold P at H
  have N0_0o := N0_0.out
  go_enter Try.func9, Try.ntmps9
  obtain ⟨w_aB_0, hw_aB_0⟩ : ∃ x, w.alloc (.cells #[.slice A0_0 aB_rows.length c0_0] 65) = x := ⟨_, rfl⟩
  have bw_aB_0 : Below w.heap.size w w_aB_0 := by rw [← hw_aB_0]; exact (Below.refl _ _).alloc (Nat.le_refl _) _
  have HBw_aB_0 := Lib.hid (Below.step HB.out bw_aB_0)
  clear bw_aB_0
  have kaB_0_0 : w_aB_0.cell? ⟨w.heap.size, 0, none⟩ = some (.slice A0_0 aB_rows.length c0_0) := by rw [← hw_aB_0]; exact box_new _ _ _ 0 _ rfl
  replace H := bind_hid H
  obtain ⟨t_5, qt_5, H⟩ := H
  go_wp2_with fail
  go_at_call 38
  refine (Go.Proofs.Ytaepibmmpdfjcaa.GlSzBlock.C (aB_rows) (1048576) A0_0 c0_0 _   (Lib.hid (Cells.below M0_0.out HBw_aB_0.out)) N0_0 qt_5).mono ?_
  rintro e_t_5 wt_5 ⟨rfl, bt_5⟩
  have HBwt_5 := Lib.hid (Below.step HBw_aB_0.out bt_5)
  replace kaB_0_0 := cell_below bt_5 kaB_0_0
  clear bt_5
  replace H := let_hid H
  obtain ⟨t_8, ht_8, H⟩ := H
  cases t_8 with
  | false =>
    replace H := ite_f H
    replace H := bind_hid H
    obtain ⟨t_11, qt_11, H⟩ := H
    obtain ⟨t_11_rows⟩ := t_11
    replace H := unBlock_hid H
    go_wp2_with fail
    go_at_call 40
    refine (Go.Proofs.Ytaepibmmpdfjcaa.GlToBlock.C (aB_rows) A0_0 c0_0 _   (Lib.hid (Cells.below M0_0.out HBwt_5.out)) N0_0 qt_11).mono ?_
    rintro e_t_11 wt_11 ⟨At_11_rows, ct_11_rows, rfl, ot_11_rows, bt_11⟩
    have Dt_11_rows_aB_0 := Lib.hid (apart_callbox ot_11_rows kaB_0_0)
    have Ot_11_rows := Lib.hid (own_lower ot_11_rows HBwt_5.out.size)
    clear ot_11_rows
    have HBwt_11 := Lib.hid (Below.step HBwt_5.out bt_11)
    replace kaB_0_0 := cell_below bt_11 kaB_0_0
    clear bt_11
    replace H := bind2_hid H
    obtain ⟨t_12a, t_12b, qt_12, H⟩ := H
    go_wp2_with fail
    go_at_call 29
    refine (Go.Proofs.Ytaepibmmpdfjcaa.GsBlockText.C fuel (t_11_rows) At_11_rows ct_11_rows _   (Lib.hid (own_cells Ot_11_rows.out)) (Lib.hid (own_max Ot_11_rows.out)) qt_12).mono ?_
    rintro e_t_12 wt_12 ⟨rfl, bt_12⟩
    have HBwt_12 := Lib.hid (Below.step HBwt_11.out bt_12)
    replace kaB_0_0 := cell_below bt_12 kaB_0_0
    replace Ot_11_rows := Lib.hid (own_below Ot_11_rows.out bt_12)
    clear bt_12
    replace H := bind_hid H
    obtain ⟨t_19, qt_19, H⟩ := H
    obtain ⟨t_19_rows⟩ := t_19
    replace H := unBlock_hid H
    go_wp2_with fail
    go_at_call 40
    refine (Go.Proofs.Ytaepibmmpdfjcaa.GlToBlock.C (aB_rows) A0_0 c0_0 _   (Lib.hid (Cells.below M0_0.out HBwt_12.out)) N0_0 qt_19).mono ?_
    rintro e_t_19 wt_19 ⟨At_19_rows, ct_19_rows, rfl, ot_19_rows, bt_19⟩
    have Dt_19_rows_t_11_rows := Lib.hid (apart_call ot_19_rows Ot_11_rows.out)
    have Dt_19_rows_aB_0 := Lib.hid (apart_callbox ot_19_rows kaB_0_0)
    have Ot_19_rows := Lib.hid (own_lower ot_19_rows HBwt_12.out.size)
    clear ot_19_rows
    have HBwt_19 := Lib.hid (Below.step HBwt_12.out bt_19)
    replace kaB_0_0 := cell_below bt_19 kaB_0_0
    replace Ot_11_rows := Lib.hid (own_below Ot_11_rows.out bt_19)
    clear bt_19
    obtain ⟨w_x0_20, hw_x0_20⟩ : ∃ x, wt_19.alloc (.cells #[.slice At_19_rows t_19_rows.length ct_19_rows] 26) = x := ⟨_, rfl⟩
    have bw_x0_20 : Below wt_19.heap.size wt_19 w_x0_20 := by rw [← hw_x0_20]; exact (Below.refl _ _).alloc (Nat.le_refl _) _
    have Dx0_20_t_11_rows := Lib.hid (apart_fresh Ot_11_rows.out)
    have Dx0_20_t_19_rows := Lib.hid (apart_fresh Ot_19_rows.out)
    have HBw_x0_20 := Lib.hid (Below.step HBwt_19.out bw_x0_20)
    have kaB_0_0__102 := cell_below bw_x0_20 kaB_0_0
    replace Ot_11_rows := Lib.hid (own_below Ot_11_rows.out bw_x0_20)
    replace Ot_19_rows := Lib.hid (own_below Ot_19_rows.out bw_x0_20)
    clear bw_x0_20
    have kx0_20_0 : w_x0_20.cell? ⟨wt_19.heap.size, 0, none⟩ = some (.slice At_19_rows t_19_rows.length ct_19_rows) := by rw [← hw_x0_20]; exact box_new _ _ _ 0 _ rfl
    replace H := bind2_hid H
    obtain ⟨t_23a, t_23b, qt_23, H⟩ := H
    go_wp2_with fail
    clear kaB_0_0
    go_at_call 28
    refine (Go.Proofs.Ytaepibmmpdfjcaa.GiBlockText.C (t_19_rows) At_19_rows ct_19_rows _   (Lib.hid (own_cells Ot_19_rows.out)) (Lib.hid (own_max Ot_19_rows.out)) (Lib.hid (own_room Ot_19_rows.out)) qt_23).mono ?_
    rintro e_t_23 wt_23 ⟨rfl, bt_23⟩
    have HBwt_23 := Lib.hid (Below.step HBw_x0_20.out bt_23)
    replace kaB_0_0__102 := cell_below bt_23 kaB_0_0__102
    replace kx0_20_0 := cell_below bt_23 kx0_20_0
    replace Ot_11_rows := Lib.hid (own_below Ot_11_rows.out bt_23)
    replace Ot_19_rows := Lib.hid (own_below Ot_19_rows.out bt_23)
    clear bt_23
    replace H := let_hid H
    obtain ⟨t_31, ht_31, H⟩ := H
    replace H := join_hid H
    cases t_31 with
    | false =>
      replace H := ite_f H
      replace H := let_hid H
      obtain ⟨t_35, ht_35, H⟩ := H
      replace H := app_hid H
      cases t_35 with
      | false =>
        replace H := ite_f H
        go_wp2_with fail
        have bd10 : Below wt_23.heap.size wt_23 wt_23.drew := (Below.refl _ _).drew
        have HBwt_23.drew := Lib.hid (Below.step HBwt_23.out bd10)
        replace kaB_0_0__102 := cell_below bd10 kaB_0_0__102
        replace kx0_20_0 := cell_below bd10 kx0_20_0
        replace Ot_11_rows := Lib.hid (own_below Ot_11_rows.out bd10)
        replace Ot_19_rows := Lib.hid (own_below Ot_19_rows.out bd10)
        clear bd10
        replace H := bind_hid H
        obtain ⟨t_40, qt_40, H⟩ := H
        obtain ⟨t_40_rows⟩ := t_40
        replace H := unBlock_hid H
        replace H := bind_hid H
        obtain ⟨t_41, qt_41, H⟩ := H
        cases t_41 with
        | false =>
          replace H := let_hid H
          obtain ⟨t_42, ht_42, H⟩ := H
          obtain rfl : t_42 = true := ht_42.symm
          go_region_held3 (fun w' => w'.cell? ⟨w.heap.size, 0, none⟩ = some (.slice A0_0 aB_rows.length c0_0) ∧ w'.cell? ⟨wt_19.heap.size, 0, none⟩ = some (.slice At_19_rows t_19_rows.length ct_19_rows)) (first | exact ⟨kaB_0_0__102, kx0_20_0⟩)
              (first
                | (go_at_call 40
                   refine (Go.Proofs.Ytaepibmmpdfjcaa.GlToBlock.C (aB_rows) A0_0 c0_0 _   (Lib.hid (Cells.below M0_0.out HBwt_23.drew.out)) N0_0 qt_40).mono ?_
                   rintro e_t_40 wt_40 ⟨At_40_rows, ct_40_rows, rfl, ot_40_rows, bt_40⟩
                   have Dt_40_rows_t_11_rows := Lib.hid (apart_call ot_40_rows Ot_11_rows.out)
                   have Dt_40_rows_t_19_rows := Lib.hid (apart_call ot_40_rows Ot_19_rows.out)
                   have Dt_40_rows_aB_0 := Lib.hid (apart_callbox ot_40_rows kaB_0_0__102)
                   have Dt_40_rows_x0_20 := Lib.hid (apart_callbox ot_40_rows kx0_20_0)
                   have Ot_40_rows := Lib.hid (own_lower ot_40_rows HBwt_23.drew.out.size)
                   clear ot_40_rows
                   have HBwt_40 := Lib.hid (Below.step HBwt_23.drew.out bt_40)
                   replace kaB_0_0__102 := cell_below bt_40 kaB_0_0__102
                   replace kx0_20_0 := cell_below bt_40 kx0_20_0
                   replace Ot_11_rows := Lib.hid (own_below Ot_11_rows.out bt_40)
                   replace Ot_19_rows := Lib.hid (own_below Ot_19_rows.out bt_40)
                   clear bt_40
                   clear qt_40)
                | (go_at_call 42
                   refine (Go.Proofs.Ytaepibmmpdfjcaa.GlEqBlock.C (t_19_rows) (t_40_rows) At_19_rows ct_19_rows At_40_rows ct_40_rows _   (Lib.hid (own_cells Ot_19_rows.out)) (Lib.hid (own_max Ot_19_rows.out)) (Lib.hid (own_cells Ot_40_rows.out)) (Lib.hid (own_max Ot_40_rows.out)) qt_41).mono ?_
                   rintro e_t_41 wt_41 ⟨rfl, bt_41⟩
                   have HBwt_41 := Lib.hid (Below.step HBwt_40.out bt_41)
                   replace kaB_0_0__102 := cell_below bt_41 kaB_0_0__102
                   replace kx0_20_0 := cell_below bt_41 kx0_20_0
                   replace Ot_11_rows := Lib.hid (own_below Ot_11_rows.out bt_41)
                   replace Ot_19_rows := Lib.hid (own_below Ot_19_rows.out bt_41)
                   replace Ot_40_rows := Lib.hid (own_below Ot_40_rows.out bt_41)
                   clear bt_41
                   clear qt_41))
          replace H := ite_t H
          obtain rfl := ret_hid H
          go_wp2_with fail
          go_ret
          exact ⟨rfl, HBwt_41.out⟩
        | true =>
          replace H := let_hid H
          obtain ⟨t_42, ht_42, H⟩ := H
          obtain rfl : t_42 = false := ht_42.symm
          go_region_held3 (fun w' => w'.cell? ⟨w.heap.size, 0, none⟩ = some (.slice A0_0 aB_rows.length c0_0) ∧ w'.cell? ⟨wt_19.heap.size, 0, none⟩ = some (.slice At_19_rows t_19_rows.length ct_19_rows)) (first | exact ⟨kaB_0_0__102, kx0_20_0⟩)
              (first
                | (go_at_call 40
                   refine (Go.Proofs.Ytaepibmmpdfjcaa.GlToBlock.C (aB_rows) A0_0 c0_0 _   (Lib.hid (Cells.below M0_0.out HBwt_23.drew.out)) N0_0 qt_40).mono ?_
                   rintro e_t_40 wt_40 ⟨At_40_rows, ct_40_rows, rfl, ot_40_rows, bt_40⟩
                   have Dt_40_rows_t_11_rows := Lib.hid (apart_call ot_40_rows Ot_11_rows.out)
                   have Dt_40_rows_t_19_rows := Lib.hid (apart_call ot_40_rows Ot_19_rows.out)
                   have Dt_40_rows_aB_0 := Lib.hid (apart_callbox ot_40_rows kaB_0_0__102)
                   have Dt_40_rows_x0_20 := Lib.hid (apart_callbox ot_40_rows kx0_20_0)
                   have Ot_40_rows := Lib.hid (own_lower ot_40_rows HBwt_23.drew.out.size)
                   clear ot_40_rows
                   have HBwt_40 := Lib.hid (Below.step HBwt_23.drew.out bt_40)
                   replace kaB_0_0__102 := cell_below bt_40 kaB_0_0__102
                   replace kx0_20_0 := cell_below bt_40 kx0_20_0
                   replace Ot_11_rows := Lib.hid (own_below Ot_11_rows.out bt_40)
                   replace Ot_19_rows := Lib.hid (own_below Ot_19_rows.out bt_40)
                   clear bt_40
                   clear qt_40)
                | (go_at_call 42
                   refine (Go.Proofs.Ytaepibmmpdfjcaa.GlEqBlock.C (t_19_rows) (t_40_rows) At_19_rows ct_19_rows At_40_rows ct_40_rows _   (Lib.hid (own_cells Ot_19_rows.out)) (Lib.hid (own_max Ot_19_rows.out)) (Lib.hid (own_cells Ot_40_rows.out)) (Lib.hid (own_max Ot_40_rows.out)) qt_41).mono ?_
                   rintro e_t_41 wt_41 ⟨rfl, bt_41⟩
                   have HBwt_41 := Lib.hid (Below.step HBwt_40.out bt_41)
                   replace kaB_0_0__102 := cell_below bt_41 kaB_0_0__102
                   replace kx0_20_0 := cell_below bt_41 kx0_20_0
                   replace Ot_11_rows := Lib.hid (own_below Ot_11_rows.out bt_41)
                   replace Ot_19_rows := Lib.hid (own_below Ot_19_rows.out bt_41)
                   replace Ot_40_rows := Lib.hid (own_below Ot_40_rows.out bt_41)
                   clear bt_41
                   clear qt_41))
          replace H := ite_f H
          obtain rfl := ret_hid H
          go_wp2_with fail
          go_ret
          exact ⟨rfl, HBwt_41.out⟩
      | true =>
        replace H := ite_t H
        obtain rfl := ret_hid H
        go_wp2_with fail
        go_ret
        exact ⟨rfl, HBwt_23.out⟩
    | true =>
      replace H := ite_t H
      replace H := app_hid H
      replace H := ite_t H
      obtain rfl := ret_hid H
      go_wp2_with fail
      go_ret
      exact ⟨rfl, HBwt_23.out⟩
  | true =>
    replace H := ite_t H
    obtain rfl := ret_hid H
    go_wp2_with fail
    go_ret
    exact ⟨rfl, HBwt_5.out⟩
end Go.Proofs.Ytaepibmmpdfjcaa.GlFnExactBlockText

/- Points on a sheet, the text of a block: the plain functions of the program and of the reference agree, and the laws answer true. (Q4BlockText) No condition but those of each theorem. -/
namespace Go.Proofs.Ytaepibmmpdfjcaa.Q4BlockText
set_option linter.unusedVariables false
set_option linter.unusedSimpArgs false
open Go.RowKit
open Go.Proofs.Ytaepibmmpdfjcaa.GoP Go.Proofs.Ytaepibmmpdfjcaa.PlainStamp Go.Proofs.Ytaepibmmpdfjcaa.QBase Go.Proofs.Ytaepibmmpdfjcaa.QLoop Go.Proofs.Ytaepibmmpdfjcaa.QStrs Go.Proofs.Ytaepibmmpdfjcaa.QSheet

def bs (l : List UInt8) : ByteArray := ⟨l.toArray⟩
theorem bs_size (l : List UInt8) : (bs l).size = l.length := by show l.toArray.size = _; simp
theorem bs_list (l : List UInt8) : (bs l).toList = l := by rw [Lib.toList_data]; simp [bs]
theorem bs_app (l : List UInt8) (r : ByteArray) : bs l ++ r = bs (l ++ r.data.toList) := by apply ByteArray.ext; simp [bs]
def jn (l : List ByteArray) : List UInt8 := Lib.join (l.map (·.data.toList)) [47]
theorem jn_snoc (l : List ByteArray) (r : ByteArray) (h : l ≠ []) : jn (l ++ [r]) = jn l ++ 47 :: r.data.toList := by
  induction l with
  | nil => exact absurd rfl h
  | cons x l ih =>
    cases l with
    | nil => simp [jn, Lib.join, List.intercalate]
    | cons y l =>
      have h1 := ih (by simp)
      have e : ∀ (z : ByteArray) (m : List ByteArray), jn (x :: z :: m) = x.data.toList ++ 47 :: jn (z :: m) := by intro z m; simp [jn, Lib.join, List.intercalate]
      rw [List.cons_append, List.cons_append, e, ← List.cons_append, h1, e]
      simp
theorem jn_len {l : List ByteArray} (hs : ∀ s ∈ l, s.size ≤ 1048576) : ∀ k, k ≤ l.length → (jn (l.take k)).length ≤ 1048577 * k := by
  intro k
  induction k with
  | zero => intro _; simp [jn, Lib.join, List.intercalate]
  | succ k ih =>
    intro hk
    obtain ⟨r, hr, _⟩ := at_lt (l := l) (k := k) (by omega)
    have h1 := ih (by omega)
    have h3 : r.data.toList.length ≤ 1048576 := by have := hs r (List.mem_of_getElem? hr); simpa using this
    rw [take_next hr]
    by_cases h0 : l.take k = []
    · rw [h0]
      have : jn ([] ++ [r]) = r.data.toList := by simp [jn, Lib.join, List.intercalate]
      rw [this]; omega
    · rw [jn_snoc _ _ h0, List.length_append, List.length_cons]; omega
theorem rows_len {l : List ByteArray} {m : Int} (h : rowsB l m = true) : (l.length : Int) ≤ m := by
  unfold rowsB at h; simp only [Bool.and_eq_true] at h
  exact (inB_pos h.1).2
def txtRes (l : List ByteArray) : ByteArray × Bool := if rowsB l 3 = true then (bs (jn l), true) else (⟨#[]⟩, false)
theorem txt_impl (l : List ByteArray) (hs : ∀ s ∈ l, s.size ≤ 1048576) : GiBlockText.P l = some (txtRes l) := by
  simp only [GiBlockText.P, GiIsBlock.P, impl_eq l 3 hs, Option.bind_some, letK, iteK_if, txtRes]
  cases hr : rowsB l 3 with
  | false => simp
  | true =>
    have hl := rows_len hr
    have h2 := jn_len hs l.length (Nat.le_refl _)
    rw [List.take_of_length_le (Nat.le_refl _)] at h2
    have key : GxStringsJoin.P l ⟨#[47]⟩ = some (bs (jn l)) := by
      unfold GxStringsJoin.P
      rw [if_pos ⟨by omega, by show (jn l).length ≤ _; omega⟩]; rfl
    simp [key]
theorem txt_spec (l : List ByteArray) (hs : ∀ s ∈ l, s.size ≤ 1048576) : GsBlockText.P 1048577 l = some (txtRes l) := by
  simp only [GsBlockText.P, GsIsBlock.P, spec_eq l 3 1048577 (by omega) hs, Option.bind_some, letK, iteK_if, txtRes]
  cases hr : rowsB l 3 with
  | false => simp
  | true =>
    have hl := rows_len hr
    simp only [Bool.not_true, Bool.false_eq_true, if_false, if_true]
    obtain ⟨v, e1, e2⟩ := lp_ex (n := l.length) (Q := fun v => v = (bs (jn l), true)) (f := GsBlockText.l0 l) (fin := GsBlockText.e0) (fun k s => s = (bs (jn (l.take k)), (k : Int))) (by
        rintro k s nx hk rfl hn
        obtain ⟨r, hr, hri⟩ := at_lt (l := l) (k := k) hk
        have h1 := jn_len hs k (by omega)
        have h3 : r.size ≤ 1048576 := hs r (List.mem_of_getElem? hr)
        have ht : decide ((k : Int) < (l.length : Int)) = true := by simp; omega
        have h5 := hn _ (show (bs (jn (l.take (k + 1))), ((k + 1 : Nat) : Int)) = _ from rfl)
        have e47 : (⟨#[47]⟩ : ByteArray).size = 1 := rfl
        simp only [GsBlockText.l0, unp2, letK, ht, iteK_if, if_true, GsBlockText.j0, hri, Option.bind_some, appK, next_i (show k ≤ 9223372036854775806 by omega)]
        rw [take_next hr] at h5
        by_cases h0 : k = 0
        · subst h0
          rw [if_neg (by simp), guardK_pos (by rw [bs_size]; unfold maxLen; omega), bs_app]
          simpa [jn, Lib.join, List.intercalate] using h5
        · have hne : l.take k ≠ [] := by intro e; have := congrArg List.length e; rw [List.length_take, List.length_nil] at this; omega
          rw [if_pos (by simp; omega), guardK_pos (by rw [bs_size, e47]; unfold maxLen; omega), guardK_pos (by rw [ByteArray.size_append, bs_size, e47]; unfold maxLen; omega), bs_app, bs_app]
          rw [jn_snoc _ _ hne] at h5
          simpa using h5) (by
        rintro s nx rfl
        have ht : decide ((l.length : Int) < (l.length : Int)) = false := by simp
        simp only [GsBlockText.l0, unp2, letK, ht, iteK_if, appK, GsBlockText.e0]
        exact ⟨_, rfl, by rw [List.take_of_length_le (Nat.le_refl _)]⟩) 1048577 0 (⟨#[]⟩, 0) (by omega) (by omega) (by simp [jn, Lib.join, List.intercalate, bs])
    rw [e1, e2]
end Go.Proofs.Ytaepibmmpdfjcaa.Q4BlockText

/- DoAgree: the plain functions of the program and of the reference (QAgree without the law). Condition: the strings that come in are strings. -/
namespace Go.Proofs.Ytaepibmmpdfjcaa.QAgreeB
set_option linter.unusedVariables false
set_option linter.unusedSimpArgs false
open Go.RowKit
open Go.Proofs.Ytaepibmmpdfjcaa.GoP Go.Proofs.Ytaepibmmpdfjcaa.PlainStamp Go.Proofs.Ytaepibmmpdfjcaa.QBase Go.Proofs.Ytaepibmmpdfjcaa.QLoop Go.Proofs.Ytaepibmmpdfjcaa.QStrs Go.Proofs.Ytaepibmmpdfjcaa.QSheet

/-- what is seen at a place, a point beside the rows -/
def see (l : List ByteArray) (r c : Int) : Int :=
  if 0 ≤ r ∧ r < (l.length : Int) ∧ 0 ≤ c ∧ c < ((rw_ l r.toNat).size : Int) then ((ch (rw_ l r.toNat) c.toNat).toNat : Int) else 46
theorem see_in {l : List ByteArray} {i j : Nat} (h1 : i < l.length) (h2 : j < (rw_ l i).size) : see l (i : Int) (j : Int) = ((ch (rw_ l i) j).toNat : Int) := by
  unfold see
  rw [Int.toNat_natCast, Int.toNat_natCast, if_pos ⟨by omega, by omega, by omega, by omega⟩]
theorem row_size {l : List ByteArray} (hs : ∀ s ∈ l, s.size ≤ 1048576) {i : Nat} (h : i < l.length) : (rw_ l i).size ≤ 1048576 := by
  obtain ⟨r, hr, hi, hd⟩ := at_row h
  rw [show rw_ l i = r from hd]; exact hs r (List.mem_of_getElem? hr)
theorem inB_of2 {n a b : Int} : inB n a b = decide (a ≤ n ∧ n ≤ b) := by
  unfold inB; rfl
theorem seenAt_eq (l : List ByteArray) (r c : Int) (hl : l.length ≤ 1048576) (hs : ∀ s ∈ l, s.size ≤ 1048576) : GiSeenAt.P l r c = some (see l r c) := by
  simp only [GiSeenAt.P, within_eq, Option.bind_some, letK, joinK, appK, iteK_if]
  rw [wrap_in (by omega) (by omega)]
  by_cases hr : 0 ≤ r ∧ r < (l.length : Int)
  · obtain ⟨i, rfl⟩ : ∃ i : Nat, r = i := ⟨r.toNat, by omega⟩
    have hi : i < l.length := by omega
    obtain ⟨y, hy, hiy, hd⟩ := at_row hi
    have hsz := hs y (List.mem_of_getElem? hy)
    have e1 : inB (i : Int) 0 ((l.length : Int) - 1) = true := by unfold inB; simp; omega
    simp only [e1, hiy, Option.bind_some, Bool.not_true, Bool.false_eq_true, if_false]
    rw [wrap_in (by omega) (by omega)]
    by_cases hc : 0 ≤ c ∧ c < (y.size : Int)
    · obtain ⟨j, rfl⟩ : ∃ j : Nat, c = j := ⟨c.toNat, by omega⟩
      obtain ⟨b, hb, hib, hdb⟩ := at_list (s := y) (k := j) (by omega)
      have e2 : inB (j : Int) 0 ((y.size : Int) - 1) = true := by unfold inB; simp; omega
      simp only [e2, hib, Option.bind_some, Bool.not_true, Bool.false_eq_true, if_false]
      rw [see_in hi (by rw [show rw_ l i = y from hd]; omega), show rw_ l i = y from hd, show ch y j = b from hdb]
    · have e2 : inB c 0 ((y.size : Int) - 1) = false := by unfold inB; simp; omega
      simp only [e2, Bool.not_false, if_true]
      unfold see
      rw [Int.toNat_natCast, show rw_ l i = y from hd, if_neg (by omega)]
  · have e1 : inB r 0 ((l.length : Int) - 1) = false := by unfold inB; simp; omega
    simp only [e1, Bool.not_false, if_true]
    unfold see
    rw [if_neg (by omega)]
def okp (x y : Int) : Bool := x == 46 || (y == 46 || x == y)
def agreeB (l m : List ByteArray) (d r : Int) : Bool := allN m.length fun i => allN (rw_ m i).size fun j => okp (see l (d + i) (r + j)) ((ch (rw_ m i) j).toNat : Int)
theorem agree_eq (l m : List ByteArray) (d r : Int) (hl : l.length ≤ 1048576) (hs : ∀ s ∈ l, s.size ≤ 1048576) (hm : m.length ≤ 1048576) (hms : ∀ s ∈ m, s.size ≤ 1048576) (hd : -5 ≤ d ∧ d ≤ 1048576) (hr : -5 ≤ r ∧ r ≤ 1048576) :
    GiAgree.P l m d r = some (agreeB l m d r) := by
  simp only [GiAgree.P]
  rw [all_cnt (p := fun i => allN (rw_ m i).size fun j => okp (see l (d + i) (r + j)) ((ch (rw_ m i) j).toNat : Int)) (no := false)]
  · unfold agreeB
    cases allN m.length _ <;> rfl
  · intro k nx hk
    obtain ⟨y, hy, hi, hdy⟩ := at_row hk
    have hsz := hms y (List.mem_of_getElem? hy)
    simp only [GiAgree.l0, hi, Option.bind_some, show rw_ m k = y from hdy]
    rw [guardK_pos (by omega), all_cnt (p := fun j => okp (see l (d + k) (r + j)) ((ch y j).toNat : Int)) (no := false)]
    · cases allN y.size _ <;> simp [GiAgree.e1, appK]
    · intro j nx2 hj
      obtain ⟨b, hb, hib, hdb⟩ := at_list hj
      simp only [GiAgree.l1, hib, Option.bind_some, letK, joinK, appK, iteK_if]
      rw [wrap_in (by omega) (by omega), wrap_in (by omega) (by omega), seenAt_eq l _ _ hl hs, show ch y j = b from hdb]
      simp only [Option.bind_some]
      unfold okp
      by_cases h1 : see l (d + k) (r + j) = 46
      · simp [h1]
      · by_cases h2 : (b.toNat : Int) = 46
        · simp [h1, h2]
        · by_cases h3 : see l (d + k) (r + j) = (b.toNat : Int)
          · simp [h1, h2, h3]
          · simp [h1, h2, h3]
theorem rowsB_parts {l : List ByteArray} {m : Nat} (h : rowsB l (m : Int) = true) : 1 ≤ l.length ∧ l.length ≤ m ∧ 1 ≤ (rw_ l 0).size ∧ (rw_ l 0).size ≤ m ∧ ∀ i, i < l.length → (rw_ l i).size = (rw_ l 0).size := by
  unfold rowsB at h
  simp only [Bool.and_eq_true] at h
  obtain ⟨h1, h2, h3⟩ := h
  have p1 := inB_pos h1; have p2 := inB_pos h2
  refine ⟨by omega, by omega, by omega, by omega, fun i hi => ?_⟩
  have := allN_iff.1 h3 i hi
  unfold rowB at this
  simp only [Bool.and_eq_true, decide_eq_true_eq] at this
  exact this.1
def specB (a b : List ByteArray) (d r : Int) : Bool := allN a.length fun i => allN (rw_ a 0).size fun k => okp ((ch (rw_ a i) k).toNat : Int) (see b (i - d) (k - r))
theorem okp_pt (x : Int) : okp x 46 = true := by unfold okp; simp
theorem okp_pt2 (x : Int) : okp 46 x = true := by unfold okp; simp
theorem both {a b : List ByteArray} {d r : Int} (ha : rowsB a (3 : Nat) = true) (hb : rowsB b (3 : Nat) = true) : agreeB a b d r = specB a b d r := by
  obtain ⟨a1, a2, a3, a4, a5⟩ := rowsB_parts ha
  obtain ⟨b1, b2, b3, b4, b5⟩ := rowsB_parts hb
  unfold agreeB specB
  apply allN_eq
  constructor
  · intro h i hi
    rw [allN_iff]
    intro k hk
    by_cases hin : 0 ≤ (i : Int) - d ∧ (i : Int) - d < (b.length : Int) ∧ 0 ≤ (k : Int) - r ∧ (k : Int) - r < ((rw_ b 0).size : Int)
    · obtain ⟨i2, hi2⟩ : ∃ i2 : Nat, (i : Int) - d = i2 := ⟨((i : Int) - d).toNat, by omega⟩
      obtain ⟨k2, hk2⟩ : ∃ k2 : Nat, (k : Int) - r = k2 := ⟨((k : Int) - r).toNat, by omega⟩
      have hs2 := b5 i2 (by omega)
      have h2 := allN_iff.1 (h i2 (by omega)) k2 (by omega)
      rw [show d + (i2 : Int) = (i : Int) by omega, show r + (k2 : Int) = (k : Int) by omega, see_in hi (by have := a5 i hi; omega)] at h2
      rw [hi2, hk2, see_in (by omega) (by omega)]
      exact h2
    · have : see b ((i : Int) - d) ((k : Int) - r) = 46 := by
        unfold see
        rw [if_neg]
        rintro ⟨q1, q2, q3, q4⟩
        have := b5 ((i : Int) - d).toNat (by omega)
        exact hin ⟨q1, q2, q3, by omega⟩
      rw [this]; exact okp_pt _
  · intro h i hi
    rw [allN_iff]
    intro j hj
    by_cases hin : 0 ≤ d + (i : Int) ∧ d + (i : Int) < (a.length : Int) ∧ 0 ≤ r + (j : Int) ∧ r + (j : Int) < ((rw_ a 0).size : Int)
    · obtain ⟨i2, hi2⟩ : ∃ i2 : Nat, d + (i : Int) = i2 := ⟨(d + (i : Int)).toNat, by omega⟩
      obtain ⟨k2, hk2⟩ : ∃ k2 : Nat, r + (j : Int) = k2 := ⟨(r + (j : Int)).toNat, by omega⟩
      have hs2 := a5 i2 (by omega)
      have h2 := allN_iff.1 (h i2 (by omega)) k2 (by omega)
      rw [show (i2 : Int) - d = (i : Int) by omega, show (k2 : Int) - r = (j : Int) by omega, see_in hi hj] at h2
      rw [hi2, hk2, see_in (by omega) (by omega)]
      exact h2
    · have : see a (d + (i : Int)) (r + (j : Int)) = 46 := by
        unfold see
        rw [if_neg]
        rintro ⟨q1, q2, q3, q4⟩
        have := a5 (d + (i : Int)).toNat (by omega)
        exact hin ⟨q1, q2, q3, by omega⟩
      rw [this]; exact okp_pt2 _
theorem specD (a b : List ByteArray) (d r : Int) (fuel : Nat) (hf : 1048577 ≤ fuel) (hal : a.length ≤ 1048576) (has : ∀ s ∈ a, s.size ≤ 1048576) (hbl : b.length ≤ 1048576) (hbs : ∀ s ∈ b, s.size ≤ 1048576) :
    GsDoAgree.P fuel a b d r = some (if rowsB a 3 && (rowsB b 3 && (inB d (-2) 2 && inB r (-2) 2)) then (specB a b d r, true) else (false, false)) := by
  simp only [GsDoAgree.P, GsIsBlock.P, spec_eq a 3 fuel hf has, spec_eq b 3 fuel hf hbs, l1In_eq, Option.bind_some, letK, joinK, appK, iteK_if]
  cases h1 : rowsB a 3 with
  | false => simp
  | true =>
    cases h2 : rowsB b 3 with
    | false => simp
    | true =>
      cases h3 : inB d (-2) 2 with
      | false => simp
      | true =>
        cases h4 : inB r (-2) 2 with
        | false => simp
        | true =>
          obtain ⟨a1, a2, a3, a4, a5⟩ := rowsB_parts (m := 3) h1
          obtain ⟨b1, b2, b3, b4, b5⟩ := rowsB_parts (m := 3) h2
          have p3 := inB_pos h3; have p4 := inB_pos h4
          simp only [Bool.not_true, Bool.false_eq_true, if_false, Bool.and_self, if_true]
          obtain ⟨x0, hx0, hix0, hdx0⟩ := at_row (l := a) (k := 0) (by omega)
          obtain ⟨y0, hy0, hiy0, hdy0⟩ := at_row (l := b) (k := 0) (by omega)
          simp only [Int.ofNat_zero] at hix0 hiy0
          have sx0 : (rw_ a 0).size = x0.size := by rw [show rw_ a 0 = x0 from hdx0]
          have sy0 : (rw_ b 0).size = y0.size := by rw [show rw_ b 0 = y0 from hdy0]
          rw [all_lp (n := a.length) (p := fun i => allN (rw_ a 0).size fun k => okp ((ch (rw_ a i) k).toNat : Int) (see b (i - d) (k - r))) (no := (false, true)) _ _ fuel (by omega)]
          · unfold specB
            cases allN a.length _ <;> rfl
          · intro i nx hi
            obtain ⟨x, hx, hix, hdx⟩ := at_row hi
            have hxs := a5 i hi
            simp only [GsDoAgree.l0, letK, appK, iteK_if]
            rw [if_pos (by simp; omega), all_lp (n := (rw_ a 0).size) (p := fun k => okp ((ch (rw_ a i) k).toNat : Int) (see b (i - d) (k - r))) (no := (false, true)) _ _ fuel (by omega)]
            · cases allN (rw_ a 0).size _ <;> simp [GsDoAgree.e1, letK, appK, next_i (show i ≤ 9223372036854775806 by omega)]
            · intro k nx2 hk
              have sx : (rw_ a i).size = x.size := by rw [show rw_ a i = x from hdx]
              have hkx : k < x.size := by omega
              obtain ⟨cx, hcx, hicx, hdcx⟩ := at_list hkx
              simp only [GsDoAgree.l1, hix0, hix, hicx, Option.bind_some, letK, joinK, appK, iteK_if, l1In_eq, hiy0]
              rw [if_pos (decide_eq_true (by omega)), wrap_in (x := (i : Int) - d) (by omega) (by omega), wrap_in (x := (k : Int) - r) (by omega) (by omega), wrap_in (x := (b.length : Int) - 1) (by omega) (by omega), next_i (by omega), wrap_in (x := (y0.size : Int) - 1) (by omega) (by omega),
                show rw_ a i = x from hdx, show ch x k = cx from hdcx]
              by_cases hq1 : 0 ≤ (i : Int) - d ∧ (i : Int) - d < (b.length : Int)
              · have e1 : inB ((i : Int) - d) 0 ((b.length : Int) - 1) = true := by unfold inB; simp; omega
                simp only [e1, Bool.not_true, Bool.false_eq_true, if_false]
                by_cases hq2 : 0 ≤ (k : Int) - r ∧ (k : Int) - r < (y0.size : Int)
                · have e2 : inB ((k : Int) - r) 0 ((y0.size : Int) - 1) = true := by unfold inB; simp; omega
                  simp only [e2, Bool.not_true, Bool.false_eq_true, if_false]
                  obtain ⟨i2, hi2⟩ : ∃ i2 : Nat, (i : Int) - d = i2 := ⟨((i : Int) - d).toNat, by omega⟩
                  obtain ⟨k2, hk2⟩ : ∃ k2 : Nat, (k : Int) - r = k2 := ⟨((k : Int) - r).toNat, by omega⟩
                  obtain ⟨y, hy, hiy, hdy⟩ := at_row (l := b) (k := i2) (by omega)
                  have hys := b5 i2 (by omega)
                  have sy : (rw_ b i2).size = y.size := by rw [show rw_ b i2 = y from hdy]
                  obtain ⟨cy, hcy, hicy, hdcy⟩ := at_list (s := y) (k := k2) (by omega)
                  rw [hi2, hk2, hiy]
                  simp only [Option.bind_some, hicy]
                  rw [see_in (by omega) (by rw [show rw_ b i2 = y from hdy]; omega), show rw_ b i2 = y from hdy, show ch y k2 = cy from hdcy]
                  unfold okp
                  by_cases w1 : (cx.toNat : Int) = 46
                  · simp [w1]
                  · by_cases w2 : (cy.toNat : Int) = 46
                    · simp [w1, w2]
                    · by_cases w3 : (cx.toNat : Int) = (cy.toNat : Int)
                      · simp [w1, w2, w3]
                      · simp [w1, w2, w3]
                · have e2 : inB ((k : Int) - r) 0 ((y0.size : Int) - 1) = false := by unfold inB; simp; omega
                  have e3 : see b ((i : Int) - d) ((k : Int) - r) = 46 := by
                    unfold see
                    rw [if_neg]
                    rintro ⟨q1, q2, q3, q4⟩
                    have := b5 ((i : Int) - d).toNat (by omega)
                    exact hq2 ⟨q3, by omega⟩
                  rw [e3, okp_pt]
                  simp [e2]
              · have e1 : inB ((i : Int) - d) 0 ((b.length : Int) - 1) = false := by unfold inB; simp; omega
                have e3 : see b ((i : Int) - d) ((k : Int) - r) = 46 := by
                  unfold see
                  rw [if_neg]
                  rintro ⟨q1, q2, q3, q4⟩
                  exact hq1 ⟨q1, q2⟩
                rw [e3, okp_pt]
                simp [e1]
            · intro nx2
              simp only [GsDoAgree.l1, hix0, Option.bind_some, letK, appK, iteK_if]
              rw [if_neg (by rw [decide_eq_false (by omega)]; simp)]
          · intro nx
            simp only [GsDoAgree.l0, letK, appK, iteK_if]
            rw [if_neg (by simp)]
theorem implD (a b : List ByteArray) (d r : Int) (hal : a.length ≤ 1048576) (has : ∀ s ∈ a, s.size ≤ 1048576) (hbl : b.length ≤ 1048576) (hbs : ∀ s ∈ b, s.size ≤ 1048576) :
    GiDoAgree.P a b d r = some (if rowsB a 3 && (rowsB b 3 && (inB d (-2) 2 && inB r (-2) 2)) then (specB a b d r, true) else (false, false)) := by
  simp only [GiDoAgree.P, GiIsBlock.P, impl_eq a 3 has, impl_eq b 3 hbs, within_eq, Option.bind_some, letK, joinK, appK, iteK_if]
  cases h1 : rowsB a 3 with
  | false => simp
  | true =>
    cases h2 : rowsB b 3 with
    | false => simp
    | true =>
      cases h3 : inB d (-2) 2 with
      | false => simp
      | true =>
        cases h4 : inB r (-2) 2 with
        | false => simp
        | true =>
          have p3 := inB_pos h3; have p4 := inB_pos h4
          rw [agree_eq a b d r hal has hbl hbs (by omega) (by omega), both h1 h2]
          simp
end Go.Proofs.Ytaepibmmpdfjcaa.QAgreeB

/- The named law of blocks: what is drawn is laid and read alike, a block that is laid takes points away, blocks agree from both sides. (Q4Sides) No condition but those of each theorem. -/
namespace Go.Proofs.Ytaepibmmpdfjcaa.Q4Sides
set_option linter.unusedVariables false
set_option linter.unusedSimpArgs false
open Go.RowKit
open Go.Proofs.Ytaepibmmpdfjcaa.GoP Go.Proofs.Ytaepibmmpdfjcaa.PlainStamp Go.Proofs.Ytaepibmmpdfjcaa.QBase Go.Proofs.Ytaepibmmpdfjcaa.QStrs Go.Proofs.Ytaepibmmpdfjcaa.QSheet Go.Proofs.Ytaepibmmpdfjcaa.QLoop

theorem okp_comm (x y : Int) : Go.Proofs.Ytaepibmmpdfjcaa.QAgreeB.okp x y = Go.Proofs.Ytaepibmmpdfjcaa.QAgreeB.okp y x := by
  unfold Go.Proofs.Ytaepibmmpdfjcaa.QAgreeB.okp
  rw [Bool.eq_iff_iff]
  simp only [Bool.or_eq_true, beq_iff_eq]
  omega
theorem sides {a b : List ByteArray} {d r : Int} (ha : rowsB a (3 : Nat) = true) (hb : rowsB b (3 : Nat) = true) : Go.Proofs.Ytaepibmmpdfjcaa.QAgreeB.specB a b d r = Go.Proofs.Ytaepibmmpdfjcaa.QAgreeB.specB b a (-d) (-r) := by
  rw [← Go.Proofs.Ytaepibmmpdfjcaa.QAgreeB.both ha hb]
  unfold Go.Proofs.Ytaepibmmpdfjcaa.QAgreeB.agreeB Go.Proofs.Ytaepibmmpdfjcaa.QAgreeB.specB
  apply allN_eq
  have key : ∀ i : Nat, i < b.length → (allN (rw_ b i).size fun j : Nat => Go.Proofs.Ytaepibmmpdfjcaa.QAgreeB.okp (Go.Proofs.Ytaepibmmpdfjcaa.QAgreeB.see a (d + i) (r + j)) ((ch (rw_ b i) j).toNat : Int)) = (allN (rw_ b 0).size fun k : Nat => Go.Proofs.Ytaepibmmpdfjcaa.QAgreeB.okp ((ch (rw_ b i) k).toNat : Int) (Go.Proofs.Ytaepibmmpdfjcaa.QAgreeB.see a (i - -d) (k - -r))) := by
    intro i hi
    rw [(Go.Proofs.Ytaepibmmpdfjcaa.QAgreeB.rowsB_parts hb).2.2.2.2 i hi]
    congr 1
    funext j
    rw [okp_comm, show d + (i : Int) = (i : Int) - -d by omega, show r + (j : Int) = (j : Int) - -r by omega]
  exact ⟨fun h i hi => by rw [← key i hi]; exact h i hi, fun h i hi => by rw [key i hi]; exact h i hi⟩
def agRes (a b : List ByteArray) (d r : Int) : Bool × Bool := if rowsB a 3 && (rowsB b 3 && (inB d (-2) 2 && inB r (-2) 2)) then (Go.Proofs.Ytaepibmmpdfjcaa.QAgreeB.specB a b d r, true) else (false, false)
theorem inB_neg (d : Int) : inB (-d) (-2) 2 = inB d (-2) 2 := by
  rw [Bool.eq_iff_iff, Go.Proofs.Ytaepibmmpdfjcaa.QAgreeB.inB_of2, Go.Proofs.Ytaepibmmpdfjcaa.QAgreeB.inB_of2, decide_eq_true_eq, decide_eq_true_eq]; omega
theorem ag_sides (a b : List ByteArray) (d r : Int) : agRes b a (-d) (-r) = agRes a b d r := by
  unfold agRes
  rw [inB_neg, inB_neg]
  cases h1 : rowsB a 3 with
  | false => simp
  | true =>
    cases h2 : rowsB b 3 with
    | false => simp
    | true => rw [← sides h1 h2]
end Go.Proofs.Ytaepibmmpdfjcaa.Q4Sides

/- Loops that test each place, and loops without a count. No condition. -/
namespace Go.Proofs.Ytaepibmmpdfjcaa.QAll
set_option linter.unusedVariables false
set_option linter.unusedSimpArgs false
open Go.RowKit
open Go.Proofs.Ytaepibmmpdfjcaa.GoP Go.Proofs.Ytaepibmmpdfjcaa.QBase Go.Proofs.Ytaepibmmpdfjcaa.QLoop

/-- each number below n is good -/
def allN (n : Nat) (p : Nat → Bool) : Bool := (List.range n).all p
theorem allN_iff {n : Nat} {p : Nat → Bool} : allN n p = true ↔ ∀ i, i < n → p i = true := by unfold allN; simp
theorem allN_no {n k : Nat} {p : Nat → Bool} (hk : k < n) (h : p k = false) : allN n p = false := by
  rw [Bool.eq_false_iff]; intro ha; rw [allN_iff.1 ha k hk] at h; exact absurd h (by simp)
theorem allN_eq {n m : Nat} {p q : Nat → Bool} (h : (∀ i, i < n → p i = true) ↔ (∀ i, i < m → q i = true)) : allN n p = allN m q := by
  rw [Bool.eq_iff_iff, allN_iff, allN_iff]; exact h
theorem all_cnt {ρ : Type} {n : Nat} {p : Nat → Bool} {no : ρ} {f : Nat → Unit → (Unit → Option ρ) → (Unit → Option ρ) → Option ρ} {fin : Unit → Option ρ}
    (step : ∀ k nx, k < n → (p k = false → f k () nx fin = some no) ∧ (p k = true → f k () nx fin = nx ())) : cntK f n 0 () fin = if allN n p = true then fin () else some no := by
  have key : ∀ m k, k + m = n → (∀ i, i < k → p i = true) → cntK f m k () fin = if allN n p = true then fin () else some no := by
    intro m
    induction m with
    | zero => intro k hk hu; obtain rfl : k = n := by omega
              rw [allN_iff.2 hu]; rfl
    | succ m ih =>
      intro k hk hu
      obtain ⟨h1, h2⟩ := step k (fun s' => cntK f m (k + 1) s' fin) (by omega)
      show f k () _ fin = _
      cases hp : p k with
      | false => rw [h1 hp, allN_no (by omega) hp]; rfl
      | true =>
        rw [h2 hp]
        refine ih (k + 1) (by omega) (fun i hi => ?_)
        by_cases he : i = k
        · rw [he]; exact hp
        · exact hu i (by omega)
  exact key n 0 (by omega) (fun i hi => by omega)
theorem lp_ex {σ ρ : Type} {f : σ → (σ → Option ρ) → (σ → Option ρ) → Option ρ} {fin : σ → Option ρ} {Q : ρ → Prop} {n : Nat} (I : Nat → σ → Prop)
    (step : ∀ k s nx, k < n → I k s → (∀ s', I (k + 1) s' → ∃ r, nx s' = some r ∧ Q r) → ∃ r, f s nx fin = some r ∧ Q r) (done : ∀ s nx, I n s → ∃ r, f s nx fin = some r ∧ Q r) :
    ∀ fuel k s, k ≤ n → n - k < fuel → I k s → ∃ r, loopK f fuel s fin = some r ∧ Q r := by
  intro fuel
  induction fuel with
  | zero => intro k s hk hf; omega
  | succ m ih =>
    intro k s hk hf hI
    show ∃ r, f s _ fin = some r ∧ Q r
    by_cases he : k = n
    · subst he; exact done s _ hI
    · exact step k s _ (by omega) hI (fun s' h' => ih (k + 1) s' (by omega) (by omega) h')
theorem all_lp {ρ : Type} {n : Nat} {p : Nat → Bool} {no : ρ} {f : Int → (Int → Option ρ) → (Int → Option ρ) → Option ρ} {fin : Int → Option ρ}
    (step : ∀ (k : Nat) nx, k < n → (p k = false → f (k : Int) nx fin = some no) ∧ (p k = true → f (k : Int) nx fin = nx ((k + 1 : Nat) : Int))) (stop : ∀ nx, f (n : Int) nx fin = fin (n : Int))
    (fuel : Nat) (hf : n < fuel) : loopK f fuel 0 fin = if allN n p = true then fin (n : Int) else some no := by
  have key : ∀ fuel k, k ≤ n → n - k < fuel → (∀ i, i < k → p i = true) → loopK f fuel (k : Int) fin = if allN n p = true then fin (n : Int) else some no := by
    intro fuel
    induction fuel with
    | zero => intro k hk hf; omega
    | succ m ih =>
      intro k hk hf hu
      show f (k : Int) _ fin = _
      by_cases he : k = n
      · subst he; rw [stop, allN_iff.2 hu]; rfl
      · obtain ⟨h1, h2⟩ := step k (fun s' => loopK f m s' fin) (by omega)
        cases hp : p k with
        | false => rw [h1 hp, allN_no (by omega) hp]; rfl
        | true =>
          rw [h2 hp]
          refine ih (k + 1) (by omega) (by omega) (fun i hi => ?_)
          by_cases he : i = k
          · rw [he]; exact hp
          · exact hu i (by omega)
  exact key fuel 0 (by omega) (by omega) (fun i hi => by omega)
theorem next_i {k : Nat} (h : k ≤ 9223372036854775806) : IntKind.i64.wrap ((k : Int) + 1) = ((k + 1 : Nat) : Int) := by rw [wrap_in (by omega) (by omega)]; omega
end Go.Proofs.Ytaepibmmpdfjcaa.QAll

