/- The texts on which the proof of FnExactPapersWith stands, one behind the other (2 of 3). No condition of their own. -/
import Derived.Test.YtdgbigkcophjoaaChecked
import Derived.Test.YtdgbigkcophjoaaFnExactPapersWithP1
import Derived.WalkKit
import Derived.WalkSpells
import Derived.WalkLawsBesides
import Derived.BigQuiet
import Derived.OwnWalk
import Derived.Deep.LoopGhost
import Derived.Deep.QuietTactic
import Derived.IntWalk
import Derived.Lib.QuietBelow
import Derived.Lib.Hide
import Derived.Outline
import Derived.Lib.ItoaLen
import Derived.Lib.ItoaMem
import Derived.Laws.IdiomStrings
import Derived.Deep.RegionHeld3
import Derived.Laws.OwnMore
/- loop.example/g01062/laws.eqPaperS as a plain function, and the contract of the program's: where the plain one has an answer, the program has it. Conditions: slices read as lists. -/
namespace Go.Proofs.Ytdgbigkcophjoaa.GlEqPaperS
set_option linter.unusedVariables false
set_option linter.unusedSimpArgs false
open Go.RowKit
open Go.Proofs.Ytdgbigkcophjoaa.Rowed Go.Proofs.Ytdgbigkcophjoaa.Turn Go.Proofs.Ytdgbigkcophjoaa.Aid Go.Proofs.Ytdgbigkcophjoaa.GoP Go.Proofs.Ytdgbigkcophjoaa.GoM

def l0 (a : (List Go.Proofs.Ytdgbigkcophjoaa.PPaper.Paper)) (b : (List Go.Proofs.Ytdgbigkcophjoaa.PPaper.Paper)) (k0 : Nat) (s : Unit) (nx0 bk0 : Unit → Option (Bool)) : Option (Bool) :=
  
  Option.bind (idx a (k0 : Int)) fun (yt_14 : Go.Proofs.Ytdgbigkcophjoaa.PPaper.Paper) =>
  unPaper yt_14 fun (t_14_id : Int) (t_14_thick : Int) (t_14_tint : Int) (t_14_mark : ByteArray) (t_14_laid : Bool) =>
  Option.bind (idx b (k0 : Int)) fun (yt_18 : Go.Proofs.Ytdgbigkcophjoaa.PPaper.Paper) =>
  unPaper yt_18 fun (t_18_id : Int) (t_18_thick : Int) (t_18_tint : Int) (t_18_mark : ByteArray) (t_18_laid : Bool) =>
  Option.bind (Go.Proofs.Ytdgbigkcophjoaa.GlEqPaper.P (Go.Proofs.Ytdgbigkcophjoaa.PPaper.Paper.mk t_14_id t_14_thick t_14_tint t_14_mark t_14_laid) (Go.Proofs.Ytdgbigkcophjoaa.PPaper.Paper.mk t_18_id t_18_thick t_18_tint t_18_mark t_18_laid)) fun (t_20 : Bool) =>
  letK (!t_20) fun (t_21 : Bool) =>
  iteK t_21
  (some false)
  (appK nx0 ())

def e0  (s : Unit) : Option (Bool) :=
  
  some true

def P (a : (List Go.Proofs.Ytdgbigkcophjoaa.PPaper.Paper)) (b : (List Go.Proofs.Ytdgbigkcophjoaa.PPaper.Paper)) : Option (Bool) :=
  letK ((a.length : Int) != (b.length : Int)) fun (t_5 : Bool) =>
  iteK t_5
  (some false)
  (cntK (l0 a b) (a.length) 0 () (e0 ))

set_option maxRecDepth 100000 in
set_option maxHeartbeats 2000000 in
theorem C (a : (List Go.Proofs.Ytdgbigkcophjoaa.PPaper.Paper)) (b : (List Go.Proofs.Ytdgbigkcophjoaa.PPaper.Paper)) (A0 : Option Addr) (c0 : Nat) (A1 : Option Addr) (c1 : Nat)  (w : World) (M0 : Hid (Cells w 5 A0 a.length (Go.Proofs.Ytdgbigkcophjoaa.PPaper.flat a))) (N0 : Hid (a.length ≤ 9223372036854775807)) (M1 : Hid (Cells w 5 A1 b.length (Go.Proofs.Ytdgbigkcophjoaa.PPaper.flat b))) (N1 : Hid (b.length ≤ 9223372036854775807))  {r : Bool} (H : Hid (P a b = some r)) :
    Calls Try.prog 38 #[.slice A0 a.length c0, .slice A1 b.length c1] w (Gives (.bool r) w) := by
  have HB := Lib.hid (Below.refl w.heap.size w)
  unfold P at H
  have N0o := N0.out
  have N1o := N1.out
  go_enter Try.func38, Try.ntmps38
  replace H := let_hid H
  obtain ⟨t_5, ht_5, H⟩ := H
  cases t_5 with
  | false =>
    have Hht_5 : Hid (a.length = b.length) := Lib.hid (by have := bne_eq_false_iff_eq.1 ht_5; omega)
    have nht_5 : (a.length == b.length) = true := beq_iff_eq.2 Hht_5.out
    replace H := ite_f H
    go_wp2_with fail
    go_loopg [5] (a.length) (fun m_ v5_ wr => ∃ (k0 : Nat) , k0 + m_ = a.length ∧ v5_ = .int .i64 (k0 : Int) ∧ Hid (cntK (l0 a b) m_ k0 () (e0 ) = some r) ∧ Hid (Below w.heap.size w wr))
    case atStart => exact ⟨0, by omega, rfl, H, HB⟩
    case round =>
      obtain ⟨k0, hkm0, rfl, H, HBwr0⟩ := hrel
      rename World => wr0
      cases gk with
      | zero =>
        obtain rfl : k0 = a.length := by omega
        have hc0 : decide (((a.length : Nat) : Int) < ((a.length : Nat) : Int)) = false := by simp
        replace H := cnt_zero H
        unfold e0 at H
        obtain rfl := ret_hid H
        go_wp2_with fail
        go_ret
        exact ⟨rfl, HBwr0.out⟩
      | succ m0 =>
        have hlt0 : k0 < a.length := by omega
        have hc0 : decide ((k0 : Int) < ((a.length : Nat) : Int)) = true := by simp; omega
        replace H := cnt_succ H
        unfold l0 at H
        go_wp2_with fail
        replace H := idx_hid H
        obtain ⟨nt_14, yt_14, et_14, lt_14, gt_14, H⟩ := H
        obtain rfl : k0 = nt_14 := by omega
        clear et_14
        obtain ⟨t_14_id, t_14_thick, t_14_tint, t_14_mark, t_14_laid⟩ := yt_14
        replace H := unPaper_hid H
        obtain ⟨ab_t_14, ao_t_14, zt_14, At_14, z_t_14, ct_14_0, ct_14_1, ct_14_2, ct_14_3, ct_14_4⟩ := Go.Proofs.Ytdgbigkcophjoaa.OPaper.at_ M0.out lt_14
        obtain rfl := Option.some.inj (gt_14.out.symm.trans z_t_14)
        subst At_14
        have ltt_14 := cell_lt ct_14_0
        replace ct_14_0 := cell_below HBwr0.out ct_14_0
        replace ct_14_1 := cell_below HBwr0.out ct_14_1
        replace ct_14_2 := cell_below HBwr0.out ct_14_2
        replace ct_14_3 := cell_below HBwr0.out ct_14_3
        replace ct_14_4 := cell_below HBwr0.out ct_14_4
        clear z_t_14
        have b0t_14 : (0 : Int) ≤ (k0 : Int) := by omega
        have b1t_14 : (k0 : Int) < ((a.length : Nat) : Int) := by omega
        have b2t_14 : ((k0 : Int)).toNat = k0 := by omega
        have Hct_14_0 := Lib.hid ct_14_0
        replace ct_14_0 := cell_regrown ct_14_0
        have Hct_14_1 := Lib.hid ct_14_1
        replace ct_14_1 := cell_regrown ct_14_1
        have Hct_14_2 := Lib.hid ct_14_2
        replace ct_14_2 := cell_regrown ct_14_2
        have Hct_14_3 := Lib.hid ct_14_3
        replace ct_14_3 := cell_regrown ct_14_3
        have Hct_14_4 := Lib.hid ct_14_4
        replace ct_14_4 := cell_regrown ct_14_4
        replace H := idx_hid H
        obtain ⟨nt_18, yt_18, et_18, lt_18, gt_18, H⟩ := H
        obtain rfl : k0 = nt_18 := by omega
        clear et_18
        obtain ⟨t_18_id, t_18_thick, t_18_tint, t_18_mark, t_18_laid⟩ := yt_18
        replace H := unPaper_hid H
        obtain ⟨ab_t_18, ao_t_18, zt_18, At_18, z_t_18, ct_18_0, ct_18_1, ct_18_2, ct_18_3, ct_18_4⟩ := Go.Proofs.Ytdgbigkcophjoaa.OPaper.at_ M1.out lt_18
        obtain rfl := Option.some.inj (gt_18.out.symm.trans z_t_18)
        subst At_18
        have ltt_18 := cell_lt ct_18_0
        replace ct_18_0 := cell_below HBwr0.out ct_18_0
        replace ct_18_1 := cell_below HBwr0.out ct_18_1
        replace ct_18_2 := cell_below HBwr0.out ct_18_2
        replace ct_18_3 := cell_below HBwr0.out ct_18_3
        replace ct_18_4 := cell_below HBwr0.out ct_18_4
        clear z_t_18
        have b0t_18 : (0 : Int) ≤ (k0 : Int) := by omega
        have b1t_18 : (k0 : Int) < ((b.length : Nat) : Int) := by omega
        have b2t_18 : ((k0 : Int)).toNat = k0 := by omega
        have Hct_18_0 := Lib.hid ct_18_0
        replace ct_18_0 := cell_regrown ct_18_0
        have Hct_18_1 := Lib.hid ct_18_1
        replace ct_18_1 := cell_regrown ct_18_1
        have Hct_18_2 := Lib.hid ct_18_2
        replace ct_18_2 := cell_regrown ct_18_2
        have Hct_18_3 := Lib.hid ct_18_3
        replace ct_18_3 := cell_regrown ct_18_3
        have Hct_18_4 := Lib.hid ct_18_4
        replace ct_18_4 := cell_regrown ct_18_4
        replace H := bind_hid H
        obtain ⟨t_20, qt_20, H⟩ := H
        have nt_20 : ∀ d os, Calls Try.prog 82 #[.agg #[.int .i64 t_14_id, .int .i64 t_14_thick, .int .i64 t_14_tint, .string t_14_mark, .bool t_14_laid], .agg #[.int .i64 t_18_id, .int .i64 t_18_thick, .int .i64 t_18_tint, .string t_18_mark, .bool t_18_laid]] (Go.Sort.grow (redrawn wr0 d) os) fun e w'' => e = .returned (.bool t_20) ∧ ∃ p : Regrown, w'' = Go.Sort.grow (redrawn wr0 p.d) p.os := fun d os => Calls.regrown_of (Go.Proofs.Ytdgbigkcophjoaa.GlEqPaper.C ((Go.Proofs.Ytdgbigkcophjoaa.PPaper.Paper.mk t_14_id t_14_thick t_14_tint t_14_mark t_14_laid)) ((Go.Proofs.Ytdgbigkcophjoaa.PPaper.Paper.mk t_18_id t_18_thick t_18_tint t_18_mark t_18_laid))  _    qt_20)
        cases t_20 with
        | false =>
          replace H := let_hid H
          obtain ⟨t_21, ht_21, H⟩ := H
          obtain rfl : t_21 = true := ht_21.symm
          refine wp_region_quiet_below (by kernel_rfl) (by kernel_rfl) ?_
          repeat (go_big_quiet_step (first | (go_at_call 82; exact nt_20 _ _)))
          refine wpQuiet_nil ?_
          intro Y6 hY6
          replace hY6 := below_class hY6
          clear nt_20
          replace ct_14_0 := Hct_14_0.out
          clear Hct_14_0
          replace ct_14_1 := Hct_14_1.out
          clear Hct_14_1
          replace ct_14_2 := Hct_14_2.out
          clear Hct_14_2
          replace ct_14_3 := Hct_14_3.out
          clear Hct_14_3
          replace ct_14_4 := Hct_14_4.out
          clear Hct_14_4
          replace ct_18_0 := Hct_18_0.out
          clear Hct_18_0
          replace ct_18_1 := Hct_18_1.out
          clear Hct_18_1
          replace ct_18_2 := Hct_18_2.out
          clear Hct_18_2
          replace ct_18_3 := Hct_18_3.out
          clear Hct_18_3
          replace ct_18_4 := Hct_18_4.out
          clear Hct_18_4
          have HBY6 := Lib.hid (Below.step HBwr0.out hY6)
          replace ct_14_0 := cell_below hY6 ct_14_0
          replace ct_14_1 := cell_below hY6 ct_14_1
          replace ct_14_2 := cell_below hY6 ct_14_2
          replace ct_14_3 := cell_below hY6 ct_14_3
          replace ct_14_4 := cell_below hY6 ct_14_4
          replace ct_18_0 := cell_below hY6 ct_18_0
          replace ct_18_1 := cell_below hY6 ct_18_1
          replace ct_18_2 := cell_below hY6 ct_18_2
          replace ct_18_3 := cell_below hY6 ct_18_3
          replace ct_18_4 := cell_below hY6 ct_18_4
          clear hY6
          replace H := ite_t H
          obtain rfl := ret_hid H
          go_wp2_with fail
          go_ret
          exact ⟨rfl, HBY6.out⟩
        | true =>
          replace H := let_hid H
          obtain ⟨t_21, ht_21, H⟩ := H
          obtain rfl : t_21 = false := ht_21.symm
          refine wp_region_quiet_below (by kernel_rfl) (by kernel_rfl) ?_
          repeat (go_big_quiet_step (first | (go_at_call 82; exact nt_20 _ _)))
          refine wpQuiet_nil ?_
          intro Y6 hY6
          replace hY6 := below_class hY6
          clear nt_20
          replace ct_14_0 := Hct_14_0.out
          clear Hct_14_0
          replace ct_14_1 := Hct_14_1.out
          clear Hct_14_1
          replace ct_14_2 := Hct_14_2.out
          clear Hct_14_2
          replace ct_14_3 := Hct_14_3.out
          clear Hct_14_3
          replace ct_14_4 := Hct_14_4.out
          clear Hct_14_4
          replace ct_18_0 := Hct_18_0.out
          clear Hct_18_0
          replace ct_18_1 := Hct_18_1.out
          clear Hct_18_1
          replace ct_18_2 := Hct_18_2.out
          clear Hct_18_2
          replace ct_18_3 := Hct_18_3.out
          clear Hct_18_3
          replace ct_18_4 := Hct_18_4.out
          clear Hct_18_4
          have HBY6 := Lib.hid (Below.step HBwr0.out hY6)
          replace ct_14_0 := cell_below hY6 ct_14_0
          replace ct_14_1 := cell_below hY6 ct_14_1
          replace ct_14_2 := cell_below hY6 ct_14_2
          replace ct_14_3 := cell_below hY6 ct_14_3
          replace ct_14_4 := cell_below hY6 ct_14_4
          replace ct_18_0 := cell_below hY6 ct_18_0
          replace ct_18_1 := cell_below hY6 ct_18_1
          replace ct_18_2 := cell_below hY6 ct_18_2
          replace ct_18_3 := cell_below hY6 ct_18_3
          replace ct_18_4 := cell_below hY6 ct_18_4
          clear hY6
          replace H := ite_f H
          replace H := app_hid H
          go_wp2_with fail
          go_roundg m0
          case measure => omega
          case rel => exact ⟨k0 + 1, by omega, by go_num, H, HBY6⟩
  | true =>
    have nht_5 : ¬ (a.length = b.length) := by have := bne_iff_ne.1 ht_5; omega
    replace H := ite_t H
    obtain rfl := ret_hid H
    go_wp2_with fail
    go_ret
    exact ⟨rfl, HB.out⟩
end Go.Proofs.Ytdgbigkcophjoaa.GlEqPaperS

/- The contracts of the laws' helpers on slices of strings: szStringS, toStringS, eqStringS. Condition: the slice reads as a list of strings. -/
namespace Go.Proofs.Ytdgbigkcophjoaa.HelpStr
set_option linter.unusedVariables false
open Go.RowKit
open Go.Proofs.Ytdgbigkcophjoaa.Rowed

/-- how many bytes the strings hold together -/
def nbytes (l : List ByteArray) : Nat := (l.map ByteArray.size).sum
theorem bytes_take (l : List ByteArray) (k : Nat) (x : ByteArray) (h : l[k]? = some x) : nbytes (l.take (k + 1)) = nbytes (l.take k) + x.size := by
  have hk := (List.getElem?_eq_some_iff.1 h).1
  rw [List.take_succ_eq_append_getElem hk, (List.getElem?_eq_some_iff.1 h).2]
  unfold nbytes; rw [List.map_append, List.sum_append]; simp
theorem bytes_take_le (l : List ByteArray) (k : Nat) : nbytes (l.take k) ≤ nbytes l := by
  conv => rhs; rw [← List.take_append_drop k l]
  unfold nbytes; rw [List.map_append, List.sum_append]; omega

/-- szStringS: what is left of 'left' behind the strings and their number, or -1 where nothing is left -/
def SzPost (l : List ByteArray) (left : Int) (w : World) (e : Ending) (w' : World) : Prop :=
  ((0 ≤ left - (l.length : Int) - (nbytes l : Int) ∧ e = .returned (.int .i64 (left - (l.length : Int) - (nbytes l : Int)))) ∨ (left - (l.length : Int) - (nbytes l : Int) < 0 ∧ e = .returned (.int .i64 (-1)))) ∧ w = w'

theorem size_le_bytes (l : List ByteArray) : ∀ x ∈ l, x.size ≤ nbytes l := by
  induction l with
  | nil => intro x hx; simp at hx
  | cons y r ih =>
    intro x hx
    have e : nbytes (y :: r) = y.size + nbytes r := by unfold nbytes; simp
    rcases List.mem_cons.1 hx with rfl | h
    · omega
    · have := ih x h; omega
theorem strs_own {w : World} {base n c g : Nat} {e : TypeId} {l : List ByteArray} (h : w.ownsRow base e 1 (.slice (some ⟨g, 0, none⟩) n c) n (l.map Value.string)) : Strs w (some ⟨g, 0, none⟩) n l := Cells.of_own h

theorem infoS : (Try.prog.info? 9).map (fun i => (i.zero, i.size, i.bytes)) = some (some (.string ByteArray.empty), 1, 16) := by kernel_rfl

/-- toStringS: a new row with the same strings -/
def ToPost (l : List ByteArray) (w : World) (e : Ending) (w' : World) : Prop :=
  ∃ g, e = .returned (.slice (some ⟨g, 0, none⟩) l.length l.length) ∧ w'.ownsRow w.heap.size 9 1 (.slice (some ⟨g, 0, none⟩) l.length l.length) l.length (l.map Value.string) ∧ Below w.heap.size w w'

def RelTo (l : List ByteArray) (ys : List Value) (w : World) (k : Nat) (wr : World) : Prop :=
  wr.ownsRow w.heap.size 9 1 (.slice (some ⟨w.heap.size, 0, none⟩) l.length l.length) l.length (fill (l.map Value.string) ys k) ∧ Below w.heap.size w wr

theorem rel_start {l : List ByteArray} {w w1 : World} {ys : List Value} (h : w1.ownsRow w.heap.size 9 1 (.slice (some ⟨w.heap.size, 0, none⟩) l.length l.length) l.length ys) (hg : w.grownBy w1 none) :
    ∃ zs : List Value, Hid (zs.length = l.length) ∧ RelTo l zs w 0 w1 :=
  ⟨ys, Lib.hid (by have := h.1; omega), by rw [fill_zero]; exact h, (Below.refl _ _).grown hg (Nat.le_refl _) (by simp)⟩

theorem rel_round {l : List ByteArray} {ys : List Value} {w wr : World} {k : Nat} {x : ByteArray} (h : RelTo l ys w k wr) (hy : Hid (ys.length = l.length)) (hx : l[k]? = some x) :
    ∃ y, wr.cell? ⟨w.heap.size, k, none⟩ = some y ∧ wr.frozen? ⟨w.heap.size, k, none⟩ = false ∧ RelTo l ys w (k + 1) (wr.setCell ⟨w.heap.size, k, none⟩ (.string x)) := by
  have hy' : ys.length = l.length := hy
  have hk := (List.getElem?_eq_some_iff.1 hx).1
  have hlen : (fill (l.map Value.string) ys k).length = l.length := by rw [fill_len _ _ _ (by simpa using hy')]; exact hy'
  have hc := h.1.cellAt k (by omega)
  rw [List.getElem?_eq_getElem (by omega)] at hc
  refine ⟨_, hc, h.1.frozenAt k, ?_, h.2.setCell (Nat.le_refl _) _⟩
  have := (h.1.stored k (.string x)).1
  rw [fill_set _ _ _ _ (by omega) (by rw [List.getElem?_map, hx]; rfl)] at this
  exact this

theorem rel_end {l : List ByteArray} {ys : List Value} {w wr : World} (h : RelTo l ys w l.length wr) (hy : Hid (ys.length = l.length)) :
    wr.ownsRow w.heap.size 9 1 (.slice (some ⟨w.heap.size, 0, none⟩) l.length l.length) l.length (l.map Value.string) ∧ Below w.heap.size w wr := by
  have hy' : ys.length = l.length := hy
  have e := fill_all (l.map Value.string) ys (by simpa using hy')
  rw [List.length_map] at e
  have h1 := h.1
  rw [e] at h1
  exact ⟨h1, h.2⟩

end Go.Proofs.Ytdgbigkcophjoaa.HelpStr

/- The contracts of the laws' helpers that mark a slice of strings and look whether the marks are held: markText, markStringS, heldStringS. Conditions: the marks begin at 1 or more; the slice is one that the caller has made. -/
namespace Go.Proofs.Ytdgbigkcophjoaa.MarkStr
set_option linter.unusedVariables false
open Go.RowKit
open Go.Proofs.Ytdgbigkcophjoaa.Rowed Go.Proofs.Ytdgbigkcophjoaa.HelpStr

/-- the mark of number k -/
def mt (k : Nat) : ByteArray := ⟨(109 :: Lib.decDigits k).toArray⟩

theorem ext_of {a b : ByteArray} (h : a.data.toList = b.data.toList) : a = b := by
  obtain ⟨⟨x⟩⟩ := a
  obtain ⟨⟨y⟩⟩ := b
  simp at h
  rw [h]
theorem add_str {P : Program} (a b c : ByteArray) (h : a.data.toList ++ b.data.toList = c.data.toList) (hl : c.data.toList.length ≤ 9223372036854775807) (W : World) :
    (Op.stringOp .add a b).run P W = .ok (.string c) W := by
  have e1 : a.data.toList.length = a.size := by simp
  have e2 : b.data.toList.length = b.size := by simp
  rw [← h, List.length_append, e1, e2] at hl
  rw [run_string_add_sum]
  · congr 2
    apply ext_of
    rw [← h]
    simp
  · exact hl
theorem dec_small (j : Nat) (h : j < 10) : Lib.decDigits j = [UInt8.ofNat (48 + j % 10)] := by
  rw [Lib.decDigits_one h, Nat.mod_eq_of_lt h]
theorem dec_step (j : Nat) (h : ¬ j < 10) : Lib.decDigits j = Lib.decDigits (j / 10) ++ [UInt8.ofNat (48 + j % 10)] := by
  rw [Lib.decDigits, dif_neg h]

/-- what is done when j is what is left: o -/
def Rel (k j : Nat) (o : List UInt8) : Prop := (if j = 0 then [] else Lib.decDigits j) ++ o = Lib.decDigits k
theorem Rel.next {k j : Nat} {o : List UInt8} (h : Rel k j o) (hj : 0 < j) : Rel k (j / 10) (UInt8.ofNat (48 + j % 10) :: o) := by
  unfold Rel at h ⊢
  rw [if_neg (by omega)] at h
  by_cases h10 : j < 10
  · rw [if_pos (by omega)]
    rw [dec_small j h10] at h
    exact h
  · rw [if_neg (by omega)]
    rw [dec_step j h10, List.append_assoc] at h
    exact h
theorem Rel.len {k j : Nat} {o : List UInt8} (h : Rel k j o) (hk : k ≤ 1000000000) : o.length ≤ 20 := by
  have h1 := congrArg List.length h
  rw [List.length_append, Lib.decDigits_length] at h1
  have := Lib.nDigits_le20 k (by omega)
  omega
theorem byte_num (j : Nat) : ((UInt8.ofNat (48 + j % 10)).toNat : Int) = 48 + (j : Int) % 10 := by
  rw [UInt8.toNat_ofNat']; omega

theorem conv_one {P : Program} (W : World) (src dst e : TypeId) (c : UInt8) (hs : P.underlying src = some (.slice e)) (he : P.underlying e = some (.int .u8)) (hd : P.underlying dst = some .string) :
    (convert src dst (.slice (some ⟨W.heap.size, 0, none⟩) 1 1)).run P (W.alloc (.cells #[.int .u8 (c.toNat : Int)] e)) = .ok (.string ⟨#[c]⟩) (W.alloc (.cells #[.int .u8 (c.toNat : Int)] e)) := by
  have := run_convert_bytes_back (P := P) (W.alloc (.cells #[.int .u8 (c.toNat : Int)] e)) src dst e ⟨W.heap.size, 0, none⟩ 1 [c] hs he hd (fun j hj => by
    have : j = 0 := by simpa using hj
    subst this
    rw [show (⟨W.heap.size, 0, none⟩ : Addr).add 0 = ⟨W.heap.size, 0, none⟩ from rfl, World.cell?_alloc_new]
    rfl)
  exact this

set_option maxHeartbeats 1000000 in
theorem markText_any (k : Nat) (w : World) (h1 : 1 ≤ k) (h2 : k ≤ 1000000000) :
    Calls Try.prog 86 #[.int .i64 (k : Int)] w fun e w' => e = .returned (.string (mt k)) ∧ Below w.heap.size w w' := by
  have hk0 : decide (k = 0) = false := by simp; omega
  go_enter Try.func86, Try.ntmps86
  go_wp2
  go_loopw [0, 3] (fun t o wr => ∃ (j : Nat) (q : ByteArray), j ≤ k ∧ t = .int .i64 j ∧ o = .string q ∧ Hid (Rel k j q.data.toList) ∧ Hid (Below w.heap.size w wr)) (fun t _ _ => (intOf t).toNat)
  case atStart => exact ⟨k, ⟨#[]⟩, Nat.le_refl _, rfl, rfl, Lib.hid (by unfold Rel; rw [if_neg (by omega)]; simp), Lib.hid (Below.refl _ _)⟩
  case round =>
    obtain ⟨j, q, hjk, rfl, rfl, HR, HB⟩ := hrel
    by_cases hj : 0 < j
    · obtain ⟨ch, hch, HN⟩ : ∃ ch : UInt8, (ch.toNat : Int) = 48 + (j : Int) % 10 ∧ Hid (Rel k (j / 10) (ch :: q.data.toList)) := ⟨_, byte_num j, HR.out.next hj⟩
      have hadd := add_str (P := Try.prog) ⟨#[ch]⟩ q ⟨(ch :: q.data.toList).toArray⟩ rfl (by have := HN.out.len h2; show (ch :: q.data.toList).length ≤ _; omega)
      have hcv := fun W => conv_one (P := Try.prog) W 113 9 5 ch Try.underlying113 Try.underlying5 Try.underlying9
      rw [hch] at hcv
      have HB3 := Lib.hid (HB.out.alloc HB.out.size (.cells #[.int .u8 (48 + (j : Int) % 10)] 5))
      clear hch
      go_wp2
      go_roundw
      case rel => exact ⟨j / 10, _, by omega, by go_num, rfl, HN, HB3⟩
      case measure => simp [intOf]; omega
    · obtain rfl : j = 0 := by omega
      have hfin : q.data.toList = Lib.decDigits k := HR.out
      have HF := Lib.hid hfin
      have hadd := add_str (P := Try.prog) ⟨#[109]⟩ q (mt k) (by unfold mt; rw [hfin]; rfl) (by have := HR.out.len h2; rw [hfin] at this; show (109 :: Lib.decDigits k).length ≤ _; rw [List.length_cons]; omega)
      clear hfin
      go_wp2
      go_ret
      exact ⟨rfl, HB.out⟩

/-- the marks k, k + 1, .. -/
def marks (k n : Nat) : List Value := (List.range n).map fun i => Value.string (mt (k + i))
theorem marks_len (k n : Nat) : (marks k n).length = n := by simp [marks]
theorem marks_at (k n i : Nat) (h : i < n) : (marks k n)[i]? = some (.string (mt (k + i))) := by
  unfold marks; rw [List.getElem?_map, List.getElem?_range h]; rfl
theorem grown_of {W W' : World} (h : Below W.heap.size W W') : W.grownBy W' none := ⟨h.os, h.tape, h.output, h.size, fun k hk _ => h.block k hk⟩
theorem grown_weak {W W' : World} (h : W.grownBy W' none) (g : Nat) : W.grownBy W' (some g) := ⟨h.os, h.tape, h.output, h.size, fun k hk _ => h.block k hk (by simp)⟩
theorem grown_tr {a b c : World} {r : Option Nat} (h : a.grownBy b r) (k : b.grownBy c r) : a.grownBy c r :=
  ⟨k.os.trans h.os, k.tape.trans h.tape, k.output.trans h.output, Nat.le_trans h.size k.size, fun i hi hr => (k.block i (Nat.lt_of_lt_of_le hi h.size) hr).trans (h.block i hi hr)⟩

def MarkRel (w : World) (base g n c k : Nat) (xs : List Value) (i : Nat) (wr : World) : Prop :=
  wr.ownsRow base 9 1 (.slice (some ⟨g, 0, none⟩) n c) n (fill (marks k n) xs i) ∧ w.grownBy wr (some g)

theorem mark_next {w wr w1 : World} {base g n c k i : Nat} {xs : List Value} (h : MarkRel w base g n c k xs i wr) (hb : Below wr.heap.size wr w1) (hxs : xs.length = n) (hi : i < n) :
    ∃ y, w1.cell? ⟨g, i, none⟩ = some y ∧ w1.frozen? ⟨g, i, none⟩ = false ∧ MarkRel w base g n c k xs (i + 1) (w1.setCell ⟨g, i, none⟩ (.string (mt (k + i)))) := by
  have hk := grown_of hb
  have h1 : w1.ownsRow base 9 1 (.slice (some ⟨g, 0, none⟩) n c) n (fill (marks k n) xs i) := h.1.kept hk (.inr (by simp [Value.ownBlock]))
  have hlen : (fill (marks k n) xs i).length = n := by rw [fill_len _ _ _ (by rw [marks_len, hxs])]; exact hxs
  have hc := h1.cellAt i (by omega)
  rw [List.getElem?_eq_getElem (by omega)] at hc
  refine ⟨_, hc, h1.frozenAt i, ?_, ?_⟩
  · have := (h1.stored i (.string (mt (k + i)))).1
    rw [fill_set _ _ _ _ (by omega) (marks_at k n i hi)] at this
    exact this
  · exact grown_tr h.2 (grown_tr (grown_weak hk g) (h1.stored i (.string (mt (k + i)))).2)

def MarkPost (w : World) (base g n c k : Nat) (e : Ending) (w' : World) : Prop :=
  e = .returned (.int .i64 ((k + n : Nat) : Int)) ∧ w'.ownsRow base 9 1 (.slice (some ⟨g, 0, none⟩) n c) n (marks k n) ∧ w.grownBy w' (some g)


theorem keep_both {w X w1 : World} {a : Addr} {v : Value} (hb : Below X.heap.size X w1) (h : X.cell? a = some v ∧ Below w.heap.size w X) : w1.cell? a = some v ∧ Below w.heap.size w w1 :=
  ⟨cell_below hb h.1, Below.step h.2 hb⟩
def HeldPost (w : World) (k n : Nat) (e : Ending) (w' : World) : Prop := e = .returned (.int .i64 ((k + n : Nat) : Int)) ∧ Below w.heap.size w w'

end Go.Proofs.Ytdgbigkcophjoaa.MarkStr

/- markText as a plain function, from 1 to a billion; the contract of the program's. No condition. -/
namespace Go.Proofs.Ytdgbigkcophjoaa.GlMarkText
set_option linter.unusedVariables false
open Go.RowKit
open Go.Proofs.Ytdgbigkcophjoaa.Turn
def P (k : Int) : Option ByteArray := if 1 ≤ k ∧ k ≤ 1000000000 then some (Go.Proofs.Ytdgbigkcophjoaa.MarkStr.mt k.toNat) else none
theorem C (k : Int) (w : World) {r : ByteArray} (H : Hid (P k = some r)) : Calls Try.prog 86 #[.int .i64 k] w (Gives (.string r) w) := by
  have h : P k = some r := H
  unfold P at h
  by_cases hk : 1 ≤ k ∧ k ≤ 1000000000
  · rw [if_pos hk] at h
    obtain rfl := Option.some.inj h
    obtain ⟨n, rfl⟩ := Int.eq_ofNat_of_zero_le (show 0 ≤ k by omega)
    exact Go.Proofs.Ytdgbigkcophjoaa.MarkStr.markText_any n w (by omega) (by omega)
  · rw [if_neg hk] at h; simp at h
end Go.Proofs.Ytdgbigkcophjoaa.GlMarkText

/- loop.example/g01062/laws.markPaperS as a plain function, and the contract of the program's: where the plain one has an answer, the program has it. Conditions: slices read as lists. -/
namespace Go.Proofs.Ytdgbigkcophjoaa.GlMarkPaperS
set_option linter.unusedVariables false
set_option linter.unusedSimpArgs false
open Go.RowKit
open Go.Proofs.Ytdgbigkcophjoaa.Rowed Go.Proofs.Ytdgbigkcophjoaa.Turn Go.Proofs.Ytdgbigkcophjoaa.Aid Go.Proofs.Ytdgbigkcophjoaa.GoP Go.Proofs.Ytdgbigkcophjoaa.GoM

def l0  (k0 : Nat) (s : (List Go.Proofs.Ytdgbigkcophjoaa.PPaper.Paper) × Int) (nx0 bk0 : (List Go.Proofs.Ytdgbigkcophjoaa.PPaper.Paper) × Int → Option (Int × (List Go.Proofs.Ytdgbigkcophjoaa.PPaper.Paper))) : Option (Int × (List Go.Proofs.Ytdgbigkcophjoaa.PPaper.Paper)) :=
  unp2 s fun a_0l0 k_1l0 =>
  Option.bind (idx a_0l0 (k0 : Int)) fun (yt_9 : Go.Proofs.Ytdgbigkcophjoaa.PPaper.Paper) =>
  unPaper yt_9 fun (t_9_id : Int) (t_9_thick : Int) (t_9_tint : Int) (t_9_mark : ByteArray) (t_9_laid : Bool) =>
  letK (a_0l0.set k0 (Go.Proofs.Ytdgbigkcophjoaa.PPaper.Paper.mk k_1l0 t_9_thick t_9_tint t_9_mark t_9_laid)) fun (l11_11 : (List Go.Proofs.Ytdgbigkcophjoaa.PPaper.Paper)) =>
  letK (IntKind.i64.wrap (k_1l0 + 1)) fun (t_13 : Int) =>
  Option.bind (idx l11_11 (k0 : Int)) fun (yt_18 : Go.Proofs.Ytdgbigkcophjoaa.PPaper.Paper) =>
  unPaper yt_18 fun (t_18_id : Int) (t_18_thick : Int) (t_18_tint : Int) (t_18_mark : ByteArray) (t_18_laid : Bool) =>
  letK (l11_11.set k0 (Go.Proofs.Ytdgbigkcophjoaa.PPaper.Paper.mk t_18_id t_13 t_18_tint t_18_mark t_18_laid)) fun (l20_20 : (List Go.Proofs.Ytdgbigkcophjoaa.PPaper.Paper)) =>
  letK (IntKind.i64.wrap (t_13 + 1)) fun (t_22 : Int) =>
  Option.bind (idx l20_20 (k0 : Int)) fun (yt_27 : Go.Proofs.Ytdgbigkcophjoaa.PPaper.Paper) =>
  unPaper yt_27 fun (t_27_id : Int) (t_27_thick : Int) (t_27_tint : Int) (t_27_mark : ByteArray) (t_27_laid : Bool) =>
  letK (l20_20.set k0 (Go.Proofs.Ytdgbigkcophjoaa.PPaper.Paper.mk t_27_id t_27_thick t_22 t_27_mark t_27_laid)) fun (l29_29 : (List Go.Proofs.Ytdgbigkcophjoaa.PPaper.Paper)) =>
  letK (IntKind.i64.wrap (t_22 + 1)) fun (t_31 : Int) =>
  Option.bind (Go.Proofs.Ytdgbigkcophjoaa.GlMarkText.P t_31) fun (t_36 : ByteArray) =>
  Option.bind (idx l29_29 (k0 : Int)) fun (yt_37 : Go.Proofs.Ytdgbigkcophjoaa.PPaper.Paper) =>
  unPaper yt_37 fun (t_37_id : Int) (t_37_thick : Int) (t_37_tint : Int) (t_37_mark : ByteArray) (t_37_laid : Bool) =>
  letK (l29_29.set k0 (Go.Proofs.Ytdgbigkcophjoaa.PPaper.Paper.mk t_37_id t_37_thick t_37_tint t_36 t_37_laid)) fun (l39_39 : (List Go.Proofs.Ytdgbigkcophjoaa.PPaper.Paper)) =>
  letK (IntKind.i64.wrap (t_31 + 1)) fun (t_41 : Int) =>
  letK (Int.tmod t_41 3) fun (t_46 : Int) =>
  letK (t_46 == 0) fun (t_47 : Bool) =>
  Option.bind (idx l39_39 (k0 : Int)) fun (yt_48 : Go.Proofs.Ytdgbigkcophjoaa.PPaper.Paper) =>
  unPaper yt_48 fun (t_48_id : Int) (t_48_thick : Int) (t_48_tint : Int) (t_48_mark : ByteArray) (t_48_laid : Bool) =>
  letK (l39_39.set k0 (Go.Proofs.Ytdgbigkcophjoaa.PPaper.Paper.mk t_48_id t_48_thick t_48_tint t_48_mark t_47)) fun (l50_50 : (List Go.Proofs.Ytdgbigkcophjoaa.PPaper.Paper)) =>
  letK (IntKind.i64.wrap (t_41 + 1)) fun (t_52 : Int) =>
  appK nx0 (l50_50, t_52)

def e0  (s : (List Go.Proofs.Ytdgbigkcophjoaa.PPaper.Paper) × Int) : Option (Int × (List Go.Proofs.Ytdgbigkcophjoaa.PPaper.Paper)) :=
  unp2 s fun a_0l0 k_1l0 =>
  some (k_1l0, a_0l0)

def P (a : (List Go.Proofs.Ytdgbigkcophjoaa.PPaper.Paper)) (k_1 : Int) : Option (Int × (List Go.Proofs.Ytdgbigkcophjoaa.PPaper.Paper)) :=
  cntK (l0 ) (a.length) 0 (a, k_1) (e0 )

set_option maxRecDepth 100000 in
set_option maxHeartbeats 2000000 in
theorem C (a : (List Go.Proofs.Ytdgbigkcophjoaa.PPaper.Paper)) (k_1 : Int) (A0 : Option Addr) (c0 : Nat)  (b0 : Nat) (w : World) (M0 : Hid (w.ownsRow b0 90 5 (.slice A0 a.length c0) a.length (Go.Proofs.Ytdgbigkcophjoaa.PPaper.flat a))) (N0 : Hid (a.length ≤ 9223372036854775807))  {r : Int} {l_ : (List Go.Proofs.Ytdgbigkcophjoaa.PPaper.Paper)} (H : Hid (P a k_1 = some (r, l_))) :
    Calls Try.prog 43 #[.slice A0 a.length c0, .int .i64 k_1] w (fun e w' => e = .returned (.int .i64 r) ∧ w'.ownsRow b0 90 5 (.slice A0 a.length c0) a.length (Go.Proofs.Ytdgbigkcophjoaa.PPaper.flat l_) ∧ l_.length = a.length ∧ w.grownBy w' (Value.slice A0 a.length c0).ownBlock) := by
  have HB := Lib.hid (Aid.grown_refl w (Value.slice A0 a.length c0).ownBlock)
  unfold P at H
  have N0o := N0.out
  go_enter Try.func43, Try.ntmps43
  go_wp2_with fail
  have hb_0 : a.length ≤ 9223372036854775807 := own_max M0.out
  go_wp2_with fail
  go_loopg [5, 1] (a.length) (fun m_ v5_ v1_ wr => ∃ (k0 : Nat) (a_0l0 : (List Go.Proofs.Ytdgbigkcophjoaa.PPaper.Paper)) (k_1l0 : Int), k0 + m_ = a.length ∧ v5_ = .int .i64 (k0 : Int) ∧ v1_ = .int .i64 k_1l0 ∧ Hid (cntK (l0 ) m_ k0 (a_0l0, k_1l0) (e0 ) = some (r, l_)) ∧ Hid (w.grownBy wr (Value.slice A0 a.length c0).ownBlock) ∧ Hid (wr.ownsRow b0 90 5 (.slice A0 a.length c0) a.length (Go.Proofs.Ytdgbigkcophjoaa.PPaper.flat a_0l0)) ∧ Hid (a_0l0.length = a.length))
  case atStart => exact ⟨0, _, _, by omega, rfl, rfl, H, HB, M0, Lib.hid (rfl)⟩
  case round =>
    obtain ⟨k0, a_0l0, k_1l0, hkm0, rfl, rfl, H, HBwr0, Oa_0l0, hna_0l0⟩ := hrel
    rename World => wr0
    cases gk with
    | zero =>
      obtain rfl : k0 = a.length := by omega
      have hc0 : decide (((a.length : Nat) : Int) < ((a.length : Nat) : Int)) = false := by simp
      replace H := cnt_zero H
      unfold e0 at H
      replace H := unp2_hid H
      cases ret_hid H
      go_wp2_with fail
      go_ret
      exact ⟨rfl, Oa_0l0.out, hna_0l0.out, HBwr0.out⟩
    | succ m0 =>
      have hlt0 : k0 < a.length := by omega
      have hc0 : decide ((k0 : Int) < ((a.length : Nat) : Int)) = true := by simp; omega
      replace H := cnt_succ H
      unfold l0 at H
      replace H := unp2_hid H
      replace H := idx_hid H
      obtain ⟨nt_9, yt_9, et_9, lt_9, gt_9, H⟩ := H
      obtain rfl : k0 = nt_9 := by omega
      clear et_9
      obtain ⟨t_9_id, t_9_thick, t_9_tint, t_9_mark, t_9_laid⟩ := yt_9
      replace H := unPaper_hid H
      have hqt_9 := hna_0l0.out
      obtain ⟨qt_9, Qt_9⟩ := own_some Oa_0l0.out (by omega)
      subst Qt_9
      obtain ⟨ab_t_9, ao_t_9, zt_9, At_9, z_t_9, ct_9_0, ct_9_1, ct_9_2, ct_9_3, ct_9_4⟩ := Go.Proofs.Ytdgbigkcophjoaa.OPaper.at_ (own_cells Oa_0l0.out) (k := k0) (by omega)
      obtain rfl := Option.some.inj (gt_9.out.symm.trans z_t_9)
      simp only [Option.some.injEq, Addr.mk.injEq] at At_9
      obtain ⟨rfl, rfl, _⟩ := At_9
      clear z_t_9
      simp only [Nat.zero_add] at ct_9_0 ct_9_1 ct_9_2 ct_9_3 ct_9_4
      have b0t_9 : (0 : Int) ≤ (k0 : Int) := by omega
      have b1t_9 : (k0 : Int) < ((a.length : Nat) : Int) := by omega
      have b2t_9 : ((k0 : Int)).toNat = k0 := by omega
      clear hqt_9
      replace H := let_hid H
      obtain ⟨l11_11, hl11_11, H⟩ := H
      obtain ⟨wl11_11, hwl11_11⟩ : ∃ x, (wr0).setCell ⟨qt_9, k0 * 5, none⟩ (.int .i64 k_1l0) = x := ⟨_, rfl⟩
      have z0l11_11 := Oa_0l0.out.frozenAt (k0 * 5)
      have Sl11_11 := Lib.hid (own_stores [(k0 * 5, .int .i64 k_1l0)] Oa_0l0.out)
      have nl11_11 : Hid (l11_11.length = a.length) := Lib.hid (by rw [← hl11_11, List.length_set]; exact hna_0l0.out)
      have Pl11_11 : Hid (wl11_11.ownsRow b0 90 5 (.slice (some ⟨qt_9, 0, none⟩) a.length c0) a.length (Go.Proofs.Ytdgbigkcophjoaa.PPaper.flat l11_11)) := Lib.hid (by have es_ := set_self gt_9.out; have e0_ := flat_set Go.Proofs.Ytdgbigkcophjoaa.PPaper.Paper.cells 5 (fun _ => rfl) a_0l0 (k0) 0 (Go.Proofs.Ytdgbigkcophjoaa.PPaper.Paper.mk t_9_id t_9_thick t_9_tint t_9_mark t_9_laid) (Go.Proofs.Ytdgbigkcophjoaa.PPaper.Paper.mk k_1l0 t_9_thick t_9_tint t_9_mark t_9_laid) (.int .i64 k_1l0) lt_9 (by decide) rfl; rw [es_] at e0_; have e_ : ([(k0 * 5, .int .i64 k_1l0)] : List (Nat × Value)).foldl (fun xs p => xs.set p.1 p.2) (Go.Proofs.Ytdgbigkcophjoaa.PPaper.flat a_0l0) = (Go.Proofs.Ytdgbigkcophjoaa.PPaper.flat l11_11) := (by rw [← hl11_11]; show _ = List.flatMap Go.Proofs.Ytdgbigkcophjoaa.PPaper.Paper.cells _; rw [← e0_]; first | done | rfl); rw [← hwl11_11, ← e_]; exact Sl11_11.out.1)
      have Gl11_11 : Hid (wr0.grownBy wl11_11 (Value.slice (some ⟨qt_9, 0, none⟩) a.length c0).ownBlock) := Lib.hid (by rw [← hwl11_11]; exact Sl11_11.out.2)
      have HBwl11_11 := Lib.hid (Aid.grown_tr HBwr0.out Gl11_11.out)
      have hhl11_11 := Lib.hid hl11_11
      clear hl11_11 Sl11_11
      clear Oa_0l0 Gl11_11
      replace H := let_hid H
      obtain ⟨t_13, ht_13, H⟩ := H
      replace H := idx_hid H
      obtain ⟨nt_18, yt_18, et_18, lt_18, gt_18, H⟩ := H
      obtain rfl : k0 = nt_18 := by omega
      clear et_18
      obtain ⟨t_18_id, t_18_thick, t_18_tint, t_18_mark, t_18_laid⟩ := yt_18
      replace H := unPaper_hid H
      have hqt_18 := nl11_11.out
      obtain ⟨ab_t_18, ao_t_18, zt_18, At_18, z_t_18, ct_18_0, ct_18_1, ct_18_2, ct_18_3, ct_18_4⟩ := Go.Proofs.Ytdgbigkcophjoaa.OPaper.at_ (own_cells Pl11_11.out) (k := k0) (by omega)
      obtain rfl := Option.some.inj (gt_18.out.symm.trans z_t_18)
      simp only [Option.some.injEq, Addr.mk.injEq] at At_18
      obtain ⟨rfl, rfl, _⟩ := At_18
      clear z_t_18
      simp only [Nat.zero_add] at ct_18_0 ct_18_1 ct_18_2 ct_18_3 ct_18_4
      have b0t_18 : (0 : Int) ≤ (k0 : Int) := by omega
      have b1t_18 : (k0 : Int) < ((a.length : Nat) : Int) := by omega
      have b2t_18 : ((k0 : Int)).toNat = k0 := by omega
      clear hqt_18
      replace H := let_hid H
      obtain ⟨l20_20, hl20_20, H⟩ := H
      obtain ⟨wl20_20, hwl20_20⟩ : ∃ x, (wl11_11).setCell ⟨qt_9, k0 * 5 + 1, none⟩ (.int .i64 t_13) = x := ⟨_, rfl⟩
      have z0l20_20 := Pl11_11.out.frozenAt (k0 * 5 + 1)
      have Sl20_20 := Lib.hid (own_stores [(k0 * 5 + 1, .int .i64 t_13)] Pl11_11.out)
      have nl20_20 : Hid (l20_20.length = a.length) := Lib.hid (by rw [← hl20_20, List.length_set]; exact nl11_11.out)
      have Pl20_20 : Hid (wl20_20.ownsRow b0 90 5 (.slice (some ⟨qt_9, 0, none⟩) a.length c0) a.length (Go.Proofs.Ytdgbigkcophjoaa.PPaper.flat l20_20)) := Lib.hid (by have es_ := set_self gt_18.out; have e0_ := flat_set Go.Proofs.Ytdgbigkcophjoaa.PPaper.Paper.cells 5 (fun _ => rfl) l11_11 (k0) 1 (Go.Proofs.Ytdgbigkcophjoaa.PPaper.Paper.mk t_18_id t_18_thick t_18_tint t_18_mark t_18_laid) (Go.Proofs.Ytdgbigkcophjoaa.PPaper.Paper.mk t_18_id t_13 t_18_tint t_18_mark t_18_laid) (.int .i64 t_13) lt_18 (by decide) rfl; rw [es_] at e0_; have e_ : ([(k0 * 5 + 1, .int .i64 t_13)] : List (Nat × Value)).foldl (fun xs p => xs.set p.1 p.2) (Go.Proofs.Ytdgbigkcophjoaa.PPaper.flat l11_11) = (Go.Proofs.Ytdgbigkcophjoaa.PPaper.flat l20_20) := (by rw [← hl20_20]; show _ = List.flatMap Go.Proofs.Ytdgbigkcophjoaa.PPaper.Paper.cells _; rw [← e0_]; first | done | rfl); rw [← hwl20_20, ← e_]; exact Sl20_20.out.1)
      have Gl20_20 : Hid (wl11_11.grownBy wl20_20 (Value.slice (some ⟨qt_9, 0, none⟩) a.length c0).ownBlock) := Lib.hid (by rw [← hwl20_20]; exact Sl20_20.out.2)
      have HBwl20_20 := Lib.hid (Aid.grown_tr HBwl11_11.out Gl20_20.out)
      have hhl20_20 := Lib.hid hl20_20
      clear hl20_20 Sl20_20
      clear Pl11_11 Gl20_20
      replace H := let_hid H
      obtain ⟨t_22, ht_22, H⟩ := H
      replace H := idx_hid H
      obtain ⟨nt_27, yt_27, et_27, lt_27, gt_27, H⟩ := H
      obtain rfl : k0 = nt_27 := by omega
      clear et_27
      obtain ⟨t_27_id, t_27_thick, t_27_tint, t_27_mark, t_27_laid⟩ := yt_27
      replace H := unPaper_hid H
      have hqt_27 := nl20_20.out
      obtain ⟨ab_t_27, ao_t_27, zt_27, At_27, z_t_27, ct_27_0, ct_27_1, ct_27_2, ct_27_3, ct_27_4⟩ := Go.Proofs.Ytdgbigkcophjoaa.OPaper.at_ (own_cells Pl20_20.out) (k := k0) (by omega)
      obtain rfl := Option.some.inj (gt_27.out.symm.trans z_t_27)
      simp only [Option.some.injEq, Addr.mk.injEq] at At_27
      obtain ⟨rfl, rfl, _⟩ := At_27
      clear z_t_27
      simp only [Nat.zero_add] at ct_27_0 ct_27_1 ct_27_2 ct_27_3 ct_27_4
      have b0t_27 : (0 : Int) ≤ (k0 : Int) := by omega
      have b1t_27 : (k0 : Int) < ((a.length : Nat) : Int) := by omega
      have b2t_27 : ((k0 : Int)).toNat = k0 := by omega
      clear hqt_27
      replace H := let_hid H
      obtain ⟨l29_29, hl29_29, H⟩ := H
      obtain ⟨wl29_29, hwl29_29⟩ : ∃ x, (wl20_20).setCell ⟨qt_9, k0 * 5 + 2, none⟩ (.int .i64 t_22) = x := ⟨_, rfl⟩
      have z0l29_29 := Pl20_20.out.frozenAt (k0 * 5 + 2)
      have Sl29_29 := Lib.hid (own_stores [(k0 * 5 + 2, .int .i64 t_22)] Pl20_20.out)
      have nl29_29 : Hid (l29_29.length = a.length) := Lib.hid (by rw [← hl29_29, List.length_set]; exact nl20_20.out)
      have Pl29_29 : Hid (wl29_29.ownsRow b0 90 5 (.slice (some ⟨qt_9, 0, none⟩) a.length c0) a.length (Go.Proofs.Ytdgbigkcophjoaa.PPaper.flat l29_29)) := Lib.hid (by have es_ := set_self gt_27.out; have e0_ := flat_set Go.Proofs.Ytdgbigkcophjoaa.PPaper.Paper.cells 5 (fun _ => rfl) l20_20 (k0) 2 (Go.Proofs.Ytdgbigkcophjoaa.PPaper.Paper.mk t_27_id t_27_thick t_27_tint t_27_mark t_27_laid) (Go.Proofs.Ytdgbigkcophjoaa.PPaper.Paper.mk t_27_id t_27_thick t_22 t_27_mark t_27_laid) (.int .i64 t_22) lt_27 (by decide) rfl; rw [es_] at e0_; have e_ : ([(k0 * 5 + 2, .int .i64 t_22)] : List (Nat × Value)).foldl (fun xs p => xs.set p.1 p.2) (Go.Proofs.Ytdgbigkcophjoaa.PPaper.flat l20_20) = (Go.Proofs.Ytdgbigkcophjoaa.PPaper.flat l29_29) := (by rw [← hl29_29]; show _ = List.flatMap Go.Proofs.Ytdgbigkcophjoaa.PPaper.Paper.cells _; rw [← e0_]; first | done | rfl); rw [← hwl29_29, ← e_]; exact Sl29_29.out.1)
      have Gl29_29 : Hid (wl20_20.grownBy wl29_29 (Value.slice (some ⟨qt_9, 0, none⟩) a.length c0).ownBlock) := Lib.hid (by rw [← hwl29_29]; exact Sl29_29.out.2)
      have HBwl29_29 := Lib.hid (Aid.grown_tr HBwl20_20.out Gl29_29.out)
      have hhl29_29 := Lib.hid hl29_29
      clear hl29_29 Sl29_29
      clear Pl20_20 Gl29_29
      replace H := let_hid H
      obtain ⟨t_31, ht_31, H⟩ := H
      replace H := bind_hid H
      obtain ⟨t_36, qt_36, H⟩ := H
      go_wp2_with fail
      clear z0l11_11 ct_9_0 ct_9_1 ct_9_2 ct_9_3 ct_9_4 z0l20_20 ct_18_0 ct_18_1 ct_18_2 ct_18_3 ct_18_4 z0l29_29 ct_27_0 ct_27_1 ct_27_2 ct_27_3 ct_27_4
      go_at_call 86
      refine (Go.Proofs.Ytdgbigkcophjoaa.GlMarkText.C (t_31)  _    qt_36).mono ?_
      rintro e_t_36 wt_36 ⟨rfl, bt_36⟩
      have HBwt_36 := Lib.hid (grown_below HBwl29_29.out bt_36)
      replace Pl29_29 := Lib.hid (own_below Pl29_29.out bt_36)
      clear bt_36
      replace H := idx_hid H
      obtain ⟨nt_37, yt_37, et_37, lt_37, gt_37, H⟩ := H
      obtain rfl : k0 = nt_37 := by omega
      clear et_37
      obtain ⟨t_37_id, t_37_thick, t_37_tint, t_37_mark, t_37_laid⟩ := yt_37
      replace H := unPaper_hid H
      have hqt_37 := nl29_29.out
      obtain ⟨ab_t_37, ao_t_37, zt_37, At_37, z_t_37, ct_37_0, ct_37_1, ct_37_2, ct_37_3, ct_37_4⟩ := Go.Proofs.Ytdgbigkcophjoaa.OPaper.at_ (own_cells Pl29_29.out) (k := k0) (by omega)
      obtain rfl := Option.some.inj (gt_37.out.symm.trans z_t_37)
      simp only [Option.some.injEq, Addr.mk.injEq] at At_37
      obtain ⟨rfl, rfl, _⟩ := At_37
      clear z_t_37
      simp only [Nat.zero_add] at ct_37_0 ct_37_1 ct_37_2 ct_37_3 ct_37_4
      have b0t_37 : (0 : Int) ≤ (k0 : Int) := by omega
      have b1t_37 : (k0 : Int) < ((a.length : Nat) : Int) := by omega
      have b2t_37 : ((k0 : Int)).toNat = k0 := by omega
      clear hqt_37
      replace H := let_hid H
      obtain ⟨l39_39, hl39_39, H⟩ := H
      obtain ⟨wl39_39, hwl39_39⟩ : ∃ x, (wt_36).setCell ⟨qt_9, k0 * 5 + 3, none⟩ (.string t_36) = x := ⟨_, rfl⟩
      have z0l39_39 := Pl29_29.out.frozenAt (k0 * 5 + 3)
      have Sl39_39 := Lib.hid (own_stores [(k0 * 5 + 3, .string t_36)] Pl29_29.out)
      have nl39_39 : Hid (l39_39.length = a.length) := Lib.hid (by rw [← hl39_39, List.length_set]; exact nl29_29.out)
      have Pl39_39 : Hid (wl39_39.ownsRow b0 90 5 (.slice (some ⟨qt_9, 0, none⟩) a.length c0) a.length (Go.Proofs.Ytdgbigkcophjoaa.PPaper.flat l39_39)) := Lib.hid (by have es_ := set_self gt_37.out; have e0_ := flat_set Go.Proofs.Ytdgbigkcophjoaa.PPaper.Paper.cells 5 (fun _ => rfl) l29_29 (k0) 3 (Go.Proofs.Ytdgbigkcophjoaa.PPaper.Paper.mk t_37_id t_37_thick t_37_tint t_37_mark t_37_laid) (Go.Proofs.Ytdgbigkcophjoaa.PPaper.Paper.mk t_37_id t_37_thick t_37_tint t_36 t_37_laid) (.string t_36) lt_37 (by decide) rfl; rw [es_] at e0_; have e_ : ([(k0 * 5 + 3, .string t_36)] : List (Nat × Value)).foldl (fun xs p => xs.set p.1 p.2) (Go.Proofs.Ytdgbigkcophjoaa.PPaper.flat l29_29) = (Go.Proofs.Ytdgbigkcophjoaa.PPaper.flat l39_39) := (by rw [← hl39_39]; show _ = List.flatMap Go.Proofs.Ytdgbigkcophjoaa.PPaper.Paper.cells _; rw [← e0_]; first | done | rfl); rw [← hwl39_39, ← e_]; exact Sl39_39.out.1)
      have Gl39_39 : Hid (wt_36.grownBy wl39_39 (Value.slice (some ⟨qt_9, 0, none⟩) a.length c0).ownBlock) := Lib.hid (by rw [← hwl39_39]; exact Sl39_39.out.2)
      have HBwl39_39 := Lib.hid (Aid.grown_tr HBwt_36.out Gl39_39.out)
      have hhl39_39 := Lib.hid hl39_39
      clear hl39_39 Sl39_39
      clear Pl29_29 Gl39_39
      replace H := let_hid H
      obtain ⟨t_41, ht_41, H⟩ := H
      replace H := let_hid H
      obtain ⟨t_46, ht_46, H⟩ := H
      replace H := let_hid H
      obtain ⟨t_47, ht_47, H⟩ := H
      replace H := idx_hid H
      obtain ⟨nt_48, yt_48, et_48, lt_48, gt_48, H⟩ := H
      obtain rfl : k0 = nt_48 := by omega
      clear et_48
      obtain ⟨t_48_id, t_48_thick, t_48_tint, t_48_mark, t_48_laid⟩ := yt_48
      replace H := unPaper_hid H
      have hqt_48 := nl39_39.out
      obtain ⟨ab_t_48, ao_t_48, zt_48, At_48, z_t_48, ct_48_0, ct_48_1, ct_48_2, ct_48_3, ct_48_4⟩ := Go.Proofs.Ytdgbigkcophjoaa.OPaper.at_ (own_cells Pl39_39.out) (k := k0) (by omega)
      obtain rfl := Option.some.inj (gt_48.out.symm.trans z_t_48)
      simp only [Option.some.injEq, Addr.mk.injEq] at At_48
      obtain ⟨rfl, rfl, _⟩ := At_48
      clear z_t_48
      simp only [Nat.zero_add] at ct_48_0 ct_48_1 ct_48_2 ct_48_3 ct_48_4
      have b0t_48 : (0 : Int) ≤ (k0 : Int) := by omega
      have b1t_48 : (k0 : Int) < ((a.length : Nat) : Int) := by omega
      have b2t_48 : ((k0 : Int)).toNat = k0 := by omega
      clear hqt_48
      replace H := let_hid H
      obtain ⟨l50_50, hl50_50, H⟩ := H
      obtain ⟨wl50_50, hwl50_50⟩ : ∃ x, (wl39_39).setCell ⟨qt_9, k0 * 5 + 4, none⟩ (.bool t_47) = x := ⟨_, rfl⟩
      have z0l50_50 := Pl39_39.out.frozenAt (k0 * 5 + 4)
      have Sl50_50 := Lib.hid (own_stores [(k0 * 5 + 4, .bool t_47)] Pl39_39.out)
      have nl50_50 : Hid (l50_50.length = a.length) := Lib.hid (by rw [← hl50_50, List.length_set]; exact nl39_39.out)
      have Pl50_50 : Hid (wl50_50.ownsRow b0 90 5 (.slice (some ⟨qt_9, 0, none⟩) a.length c0) a.length (Go.Proofs.Ytdgbigkcophjoaa.PPaper.flat l50_50)) := Lib.hid (by have es_ := set_self gt_48.out; have e0_ := flat_set Go.Proofs.Ytdgbigkcophjoaa.PPaper.Paper.cells 5 (fun _ => rfl) l39_39 (k0) 4 (Go.Proofs.Ytdgbigkcophjoaa.PPaper.Paper.mk t_48_id t_48_thick t_48_tint t_48_mark t_48_laid) (Go.Proofs.Ytdgbigkcophjoaa.PPaper.Paper.mk t_48_id t_48_thick t_48_tint t_48_mark t_47) (.bool t_47) lt_48 (by decide) rfl; rw [es_] at e0_; have e_ : ([(k0 * 5 + 4, .bool t_47)] : List (Nat × Value)).foldl (fun xs p => xs.set p.1 p.2) (Go.Proofs.Ytdgbigkcophjoaa.PPaper.flat l39_39) = (Go.Proofs.Ytdgbigkcophjoaa.PPaper.flat l50_50) := (by rw [← hl50_50]; show _ = List.flatMap Go.Proofs.Ytdgbigkcophjoaa.PPaper.Paper.cells _; rw [← e0_]; first | done | rfl); rw [← hwl50_50, ← e_]; exact Sl50_50.out.1)
      have Gl50_50 : Hid (wl39_39.grownBy wl50_50 (Value.slice (some ⟨qt_9, 0, none⟩) a.length c0).ownBlock) := Lib.hid (by rw [← hwl50_50]; exact Sl50_50.out.2)
      have HBwl50_50 := Lib.hid (Aid.grown_tr HBwl39_39.out Gl50_50.out)
      have hhl50_50 := Lib.hid hl50_50
      clear hl50_50 Sl50_50
      clear Pl39_39 Gl50_50
      replace H := let_hid H
      obtain ⟨t_52, ht_52, H⟩ := H
      replace H := app_hid H
      go_wp2_with fail
      clear z0l39_39 ct_37_0 ct_37_1 ct_37_2 ct_37_3 ct_37_4 z0l50_50 ct_48_0 ct_48_1 ct_48_2 ct_48_3 ct_48_4
      go_roundg m0
      case measure => omega
      case rel => exact ⟨k0 + 1, _, _, by omega, by go_num, rfl, H, HBwl50_50, Pl50_50, Lib.hid (nl50_50.out)⟩
end Go.Proofs.Ytdgbigkcophjoaa.GlMarkPaperS

/- loop.example/g01062/laws.markIntS as a plain function, and the contract of the program's: where the plain one has an answer, the program has it. Conditions: slices read as lists. -/
namespace Go.Proofs.Ytdgbigkcophjoaa.GlMarkIntS
set_option linter.unusedVariables false
set_option linter.unusedSimpArgs false
open Go.RowKit
open Go.Proofs.Ytdgbigkcophjoaa.Rowed Go.Proofs.Ytdgbigkcophjoaa.Turn Go.Proofs.Ytdgbigkcophjoaa.Aid Go.Proofs.Ytdgbigkcophjoaa.GoP Go.Proofs.Ytdgbigkcophjoaa.GoM

def l0  (k0 : Nat) (s : (List Int) × Int) (nx0 bk0 : (List Int) × Int → Option (Int × (List Int))) : Option (Int × (List Int)) :=
  unp2 s fun a_0l0 k_1l0 =>
  Option.bind (idx a_0l0 (k0 : Int)) fun (yt_9 : Int) =>
  letK (a_0l0.set k0 k_1l0) fun (l10_10 : (List Int)) =>
  letK (IntKind.i64.wrap (k_1l0 + 1)) fun (t_12 : Int) =>
  appK nx0 (l10_10, t_12)

def e0  (s : (List Int) × Int) : Option (Int × (List Int)) :=
  unp2 s fun a_0l0 k_1l0 =>
  some (k_1l0, a_0l0)

def P (a : (List Int)) (k_1 : Int) : Option (Int × (List Int)) :=
  cntK (l0 ) (a.length) 0 (a, k_1) (e0 )

set_option maxRecDepth 100000 in
set_option maxHeartbeats 2000000 in
theorem C (a : (List Int)) (k_1 : Int) (A0 : Option Addr) (c0 : Nat)  (b0 : Nat) (w : World) (M0 : Hid (w.ownsRow b0 3 1 (.slice A0 a.length c0) a.length (Go.Proofs.Ytdgbigkcophjoaa.HelpInt.iv a))) (N0 : Hid (a.length ≤ 9223372036854775807))  {r : Int} {l_ : (List Int)} (H : Hid (P a k_1 = some (r, l_))) :
    Calls Try.prog 25 #[.slice A0 a.length c0, .int .i64 k_1] w (fun e w' => e = .returned (.int .i64 r) ∧ w'.ownsRow b0 3 1 (.slice A0 a.length c0) a.length (Go.Proofs.Ytdgbigkcophjoaa.HelpInt.iv l_) ∧ l_.length = a.length ∧ w.grownBy w' (Value.slice A0 a.length c0).ownBlock) := by
  have HB := Lib.hid (Aid.grown_refl w (Value.slice A0 a.length c0).ownBlock)
  unfold P at H
  have N0o := N0.out
  go_enter Try.func25, Try.ntmps25
  go_wp2_with fail
  have hb_0 : a.length ≤ 9223372036854775807 := own_max M0.out
  go_wp2_with fail
  go_loopg [5, 1] (a.length) (fun m_ v5_ v1_ wr => ∃ (k0 : Nat) (a_0l0 : (List Int)) (k_1l0 : Int), k0 + m_ = a.length ∧ v5_ = .int .i64 (k0 : Int) ∧ v1_ = .int .i64 k_1l0 ∧ Hid (cntK (l0 ) m_ k0 (a_0l0, k_1l0) (e0 ) = some (r, l_)) ∧ Hid (w.grownBy wr (Value.slice A0 a.length c0).ownBlock) ∧ Hid (wr.ownsRow b0 3 1 (.slice A0 a.length c0) a.length (Go.Proofs.Ytdgbigkcophjoaa.HelpInt.iv a_0l0)) ∧ Hid (a_0l0.length = a.length))
  case atStart => exact ⟨0, _, _, by omega, rfl, rfl, H, HB, M0, Lib.hid (rfl)⟩
  case round =>
    obtain ⟨k0, a_0l0, k_1l0, hkm0, rfl, rfl, H, HBwr0, Oa_0l0, hna_0l0⟩ := hrel
    rename World => wr0
    cases gk with
    | zero =>
      obtain rfl : k0 = a.length := by omega
      have hc0 : decide (((a.length : Nat) : Int) < ((a.length : Nat) : Int)) = false := by simp
      replace H := cnt_zero H
      unfold e0 at H
      replace H := unp2_hid H
      cases ret_hid H
      go_wp2_with fail
      go_ret
      exact ⟨rfl, Oa_0l0.out, hna_0l0.out, HBwr0.out⟩
    | succ m0 =>
      have hlt0 : k0 < a.length := by omega
      have hc0 : decide ((k0 : Int) < ((a.length : Nat) : Int)) = true := by simp; omega
      replace H := cnt_succ H
      unfold l0 at H
      replace H := unp2_hid H
      replace H := idx_hid H
      obtain ⟨nt_9, yt_9, et_9, lt_9, gt_9, H⟩ := H
      obtain rfl : k0 = nt_9 := by omega
      clear et_9
      have hqt_9 := hna_0l0.out
      obtain ⟨qt_9, Qt_9⟩ := own_some Oa_0l0.out (by omega)
      subst Qt_9
      obtain ⟨ab_t_9, ao_t_9, zt_9, At_9, z_t_9, ct_9_0⟩ := Go.Proofs.Ytdgbigkcophjoaa.HelpInt.Ints.at_ (own_cells Oa_0l0.out) (k := k0) (by omega)
      obtain rfl := Option.some.inj (gt_9.out.symm.trans z_t_9)
      simp only [Option.some.injEq, Addr.mk.injEq] at At_9
      obtain ⟨rfl, rfl, _⟩ := At_9
      clear z_t_9
      simp only [Nat.zero_add] at ct_9_0
      have b0t_9 : (0 : Int) ≤ (k0 : Int) := by omega
      have b1t_9 : (k0 : Int) < ((a.length : Nat) : Int) := by omega
      have b2t_9 : ((k0 : Int)).toNat = k0 := by omega
      clear hqt_9
      replace H := let_hid H
      obtain ⟨l10_10, hl10_10, H⟩ := H
      obtain ⟨wl10_10, hwl10_10⟩ : ∃ x, (wr0).setCell ⟨qt_9, k0, none⟩ (.int .i64 k_1l0) = x := ⟨_, rfl⟩
      have z0l10_10 := Oa_0l0.out.frozenAt (k0)
      have Sl10_10 := Lib.hid (own_stores [(k0, .int .i64 k_1l0)] Oa_0l0.out)
      have nl10_10 : Hid (l10_10.length = a.length) := Lib.hid (by rw [← hl10_10, List.length_set]; exact hna_0l0.out)
      have Pl10_10 : Hid (wl10_10.ownsRow b0 3 1 (.slice (some ⟨qt_9, 0, none⟩) a.length c0) a.length (Go.Proofs.Ytdgbigkcophjoaa.HelpInt.iv l10_10)) := Lib.hid (by have e_ : ([(k0, .int .i64 k_1l0)] : List (Nat × Value)).foldl (fun xs p => xs.set p.1 p.2) (Go.Proofs.Ytdgbigkcophjoaa.HelpInt.iv a_0l0) = (Go.Proofs.Ytdgbigkcophjoaa.HelpInt.iv l10_10) := (by rw [← hl10_10]; first | done | simp [Go.Proofs.Ytdgbigkcophjoaa.HelpInt.iv, List.map_set]); rw [← hwl10_10, ← e_]; exact Sl10_10.out.1)
      have Gl10_10 : Hid (wr0.grownBy wl10_10 (Value.slice (some ⟨qt_9, 0, none⟩) a.length c0).ownBlock) := Lib.hid (by rw [← hwl10_10]; exact Sl10_10.out.2)
      have HBwl10_10 := Lib.hid (Aid.grown_tr HBwr0.out Gl10_10.out)
      have hhl10_10 := Lib.hid hl10_10
      clear hl10_10 Sl10_10
      clear Oa_0l0 Gl10_10
      replace H := let_hid H
      obtain ⟨t_12, ht_12, H⟩ := H
      replace H := app_hid H
      go_wp2_with fail
      clear z0l10_10 ct_9_0
      go_roundg m0
      case measure => omega
      case rel => exact ⟨k0 + 1, _, _, by omega, by go_num, rfl, H, HBwl10_10, Pl10_10, Lib.hid (nl10_10.out)⟩
end Go.Proofs.Ytdgbigkcophjoaa.GlMarkIntS

/- loop.example/g01062/laws.heldIntS as a plain function, and the contract of the program's: where the plain one has an answer, the program has it. Conditions: slices read as lists. -/
namespace Go.Proofs.Ytdgbigkcophjoaa.GlHeldIntS
set_option linter.unusedVariables false
set_option linter.unusedSimpArgs false
open Go.RowKit
open Go.Proofs.Ytdgbigkcophjoaa.Rowed Go.Proofs.Ytdgbigkcophjoaa.Turn Go.Proofs.Ytdgbigkcophjoaa.Aid Go.Proofs.Ytdgbigkcophjoaa.GoP Go.Proofs.Ytdgbigkcophjoaa.GoM

def l0 (a : (List Int)) (k0 : Nat) (s : Int) (nx0 bk0 : Int → Option (Int)) : Option (Int) :=
  letK s fun k_1l0 =>
  Option.bind (idx a (k0 : Int)) fun (yt_8 : Int) =>
  letK (yt_8 != k_1l0) fun (t_11 : Bool) =>
  iteK t_11
  (some (-1))
  (letK (IntKind.i64.wrap (k_1l0 + 1)) fun (t_14 : Int) =>
  appK nx0 (t_14))

def e0  (s : Int) : Option (Int) :=
  letK s fun k_1l0 =>
  some k_1l0

def P (a : (List Int)) (k_1 : Int) : Option (Int) :=
  cntK (l0 a) (a.length) 0 (k_1) (e0 )

set_option maxRecDepth 100000 in
set_option maxHeartbeats 2000000 in
theorem C (a : (List Int)) (k_1 : Int) (A0 : Option Addr) (c0 : Nat)  (w : World) (M0 : Hid (Cells w 1 A0 a.length (Go.Proofs.Ytdgbigkcophjoaa.HelpInt.iv a))) (N0 : Hid (a.length ≤ 9223372036854775807))  {r : Int} (H : Hid (P a k_1 = some r)) :
    Calls Try.prog 26 #[.slice A0 a.length c0, .int .i64 k_1] w (Gives (.int .i64 r) w) := by
  have HB := Lib.hid (Below.refl w.heap.size w)
  unfold P at H
  have N0o := N0.out
  go_enter Try.func26, Try.ntmps26
  go_wp2_with fail
  go_loopg [5, 1] (a.length) (fun m_ v5_ v1_ wr => ∃ (k0 : Nat) (k_1l0 : Int), k0 + m_ = a.length ∧ v5_ = .int .i64 (k0 : Int) ∧ v1_ = .int .i64 k_1l0 ∧ Hid (cntK (l0 a) m_ k0 (k_1l0) (e0 ) = some r) ∧ Hid (Below w.heap.size w wr))
  case atStart => exact ⟨0, _, by omega, rfl, rfl, H, HB⟩
  case round =>
    obtain ⟨k0, k_1l0, hkm0, rfl, rfl, H, HBwr0⟩ := hrel
    rename World => wr0
    cases gk with
    | zero =>
      obtain rfl : k0 = a.length := by omega
      have hc0 : decide (((a.length : Nat) : Int) < ((a.length : Nat) : Int)) = false := by simp
      replace H := cnt_zero H
      unfold e0 at H
      replace H := let_hid H
      obtain ⟨_, rfl, H⟩ := H
      obtain rfl := ret_hid H
      go_wp2_with fail
      go_ret
      exact ⟨rfl, HBwr0.out⟩
    | succ m0 =>
      have hlt0 : k0 < a.length := by omega
      have hc0 : decide ((k0 : Int) < ((a.length : Nat) : Int)) = true := by simp; omega
      replace H := cnt_succ H
      unfold l0 at H
      replace H := let_hid H
      obtain ⟨_, rfl, H⟩ := H
      replace H := idx_hid H
      obtain ⟨nt_8, yt_8, et_8, lt_8, gt_8, H⟩ := H
      obtain rfl : k0 = nt_8 := by omega
      clear et_8
      obtain ⟨ab_t_8, ao_t_8, zt_8, At_8, z_t_8, ct_8_0⟩ := Go.Proofs.Ytdgbigkcophjoaa.HelpInt.Ints.at_ M0.out lt_8
      obtain rfl := Option.some.inj (gt_8.out.symm.trans z_t_8)
      subst At_8
      have ltt_8 := cell_lt ct_8_0
      replace ct_8_0 := cell_below HBwr0.out ct_8_0
      clear z_t_8
      have b0t_8 : (0 : Int) ≤ (k0 : Int) := by omega
      have b1t_8 : (k0 : Int) < ((a.length : Nat) : Int) := by omega
      have b2t_8 : ((k0 : Int)).toNat = k0 := by omega
      replace H := let_hid H
      obtain ⟨t_11, ht_11, H⟩ := H
      cases t_11 with
      | false =>
        replace H := ite_f H
        replace H := let_hid H
        obtain ⟨t_14, ht_14, H⟩ := H
        replace H := app_hid H
        go_wp2_with fail
        go_roundg m0
        case measure => omega
        case rel => exact ⟨k0 + 1, _, by omega, by go_num, rfl, H, HBwr0⟩
      | true =>
        replace H := ite_t H
        obtain rfl := ret_hid H
        go_wp2_with fail
        go_ret
        exact ⟨rfl, HBwr0.out⟩
end Go.Proofs.Ytdgbigkcophjoaa.GlHeldIntS

/- loop.example/g01062/laws.FnExactPapersWith as a plain function, and the contract of the program's: where the plain one has an answer, the program has it. Conditions: slices read as lists. -/
namespace Go.Proofs.Ytdgbigkcophjoaa.GlFnExactPapersWith
set_option linter.unusedVariables false
set_option linter.unusedSimpArgs false
open Go.RowKit
open Go.Proofs.Ytdgbigkcophjoaa.Rowed Go.Proofs.Ytdgbigkcophjoaa.Turn Go.Proofs.Ytdgbigkcophjoaa.Aid Go.Proofs.Ytdgbigkcophjoaa.GoP Go.Proofs.Ytdgbigkcophjoaa.GoM

def P (aList : (List Go.Proofs.Ytdgbigkcophjoaa.PPaper.Paper)) (aMark : ByteArray) : Option (Bool) :=
  letK (decide (1048576 < (aMark.size : Int))) fun (t_3 : Bool) =>
  iteK t_3
  (some true)
  (Option.bind (Go.Proofs.Ytdgbigkcophjoaa.GlSzPaperS.P aList 1048576) fun (t_8 : Int) =>
  letK (decide (t_8 < 0)) fun (t_11 : Bool) =>
  iteK t_11
  (some true)
  (Option.bind (Go.Proofs.Ytdgbigkcophjoaa.GlToPaperS.P aList) fun (t_14 : (List Go.Proofs.Ytdgbigkcophjoaa.PPaper.Paper)) =>
  bind2 (Go.Proofs.Ytdgbigkcophjoaa.GsPapersWith.P t_14 aMark) fun (t_16a : (List Int)) (t_16b : Bool) =>
  Option.bind (Go.Proofs.Ytdgbigkcophjoaa.GlToPaperS.P aList) fun (t_23 : (List Go.Proofs.Ytdgbigkcophjoaa.PPaper.Paper)) =>
  bind2 (Go.Proofs.Ytdgbigkcophjoaa.GiPapersWith.P t_23 aMark) fun (t_27a : (List Int)) (t_27b : Bool) =>
  Option.bind (Go.Proofs.Ytdgbigkcophjoaa.GlEqIntS.P t_27a t_16a) fun (t_35 : Bool) =>
  letK (!t_35) fun (t_36 : Bool) =>
  joinK (fun (t_41 : Bool) =>
  iteK t_41
  (some false)
  (Option.bind (Go.Proofs.Ytdgbigkcophjoaa.GlToPaperS.P aList) fun (t_45 : (List Go.Proofs.Ytdgbigkcophjoaa.PPaper.Paper)) =>
  Option.bind (Go.Proofs.Ytdgbigkcophjoaa.GlEqPaperS.P t_23 t_45) fun (t_46 : Bool) =>
  letK (!t_46) fun (t_47 : Bool) =>
  iteK t_47
  (some false)
  (bind2 (Go.Proofs.Ytdgbigkcophjoaa.GlMarkPaperS.P t_23 1) fun (t_52 : Int) (lt_52 : (List Go.Proofs.Ytdgbigkcophjoaa.PPaper.Paper)) =>
  letK (decide (t_52 < 0)) fun (t_55 : Bool) =>
  joinK (fun (t_61 : Bool) =>
  joinK (fun (t_66 : Bool) =>
  iteK t_66
  (some false)
  (bind2 (Go.Proofs.Ytdgbigkcophjoaa.GlMarkIntS.P t_27a 1) fun (t_71 : Int) (lt_71 : (List Int)) =>
  Option.bind (Go.Proofs.Ytdgbigkcophjoaa.GlHeldIntS.P lt_71 1) fun (t_76 : Int) =>
  letK (decide (t_76 < 0)) fun (t_79 : Bool) =>
  iteK t_79
  (some false)
  (letK (t_76 != t_71) fun (t_83 : Bool) =>
  iteK t_83
  (some false)
  (Option.bind (Go.Proofs.Ytdgbigkcophjoaa.GlToPaperS.P aList) fun (t_86 : (List Go.Proofs.Ytdgbigkcophjoaa.PPaper.Paper)) =>
  bind2 (Go.Proofs.Ytdgbigkcophjoaa.GiPapersWith.P t_86 aMark) fun (t_88a : (List Int)) (t_88b : Bool) =>
  Option.bind (Go.Proofs.Ytdgbigkcophjoaa.GlEqIntS.P t_88a t_16a) fun (t_96 : Bool) =>
  letK (!t_96) fun (t_97 : Bool) =>
  joinK (fun (t_102 : Bool) =>
  iteK t_102
  (some false)
  (Option.bind (Go.Proofs.Ytdgbigkcophjoaa.GlHeldIntS.P lt_71 1) fun (t_107 : Int) =>
  letK (decide (t_107 < 0)) fun (t_110 : Bool) =>
  iteK t_110
  (some false)
  (letK (t_107 != t_71) fun (t_114 : Bool) =>
  iteK t_114
  (some false)
  (some true)))) fun jt_102 => iteK t_97 (appK jt_102 true) (letK (!(t_88b == t_16b)) fun (t_101 : Bool) =>
  appK jt_102 t_101))))) fun jt_66 => iteK t_61 (appK jt_66 true) (letK (!(t_27b == t_16b)) fun (t_65 : Bool) =>
  appK jt_66 t_65)) fun jt_61 => iteK t_55 (appK jt_61 true) (Option.bind (Go.Proofs.Ytdgbigkcophjoaa.GlEqIntS.P t_27a t_16a) fun (t_59 : Bool) =>
  letK (!t_59) fun (t_60 : Bool) =>
  appK jt_61 t_60)))) fun jt_41 => iteK t_36 (appK jt_41 true) (letK (!(t_27b == t_16b)) fun (t_40 : Bool) =>
  appK jt_41 t_40)))

set_option maxRecDepth 100000 in
set_option maxHeartbeats 2000000 in
theorem C (aList : (List Go.Proofs.Ytdgbigkcophjoaa.PPaper.Paper)) (aMark : ByteArray) (A0 : Option Addr) (c0 : Nat)  (w : World) (M0 : Hid (Cells w 5 A0 aList.length (Go.Proofs.Ytdgbigkcophjoaa.PPaper.flat aList))) (N0 : Hid (aList.length ≤ 9223372036854775807))  {r : Bool} (H : Hid (P aList aMark = some r)) :
    Calls Try.prog 11 #[.slice A0 aList.length c0, .string aMark] w (Gives (.bool r) w) := by
  have HB := Lib.hid (Below.refl w.heap.size w)
  unfold P at H
  have N0o := N0.out
  go_enter Try.func11, Try.ntmps11
  replace H := let_hid H
  obtain ⟨t_3, ht_3, H⟩ := H
  cases t_3 with
  | false =>
    have nht_3 : ¬ (1048576 < aMark.size) := by have := of_decide_eq_false ht_3; omega
    replace H := ite_f H
    replace H := bind_hid H
    obtain ⟨t_8, qt_8, H⟩ := H
    go_wp2_with fail
    go_at_call 34
    refine (Go.Proofs.Ytdgbigkcophjoaa.GlSzPaperS.C (aList) (1048576) A0 c0 _   (Lib.hid (Cells.below M0.out HB.out)) N0 qt_8).mono ?_
    rintro e_t_8 wt_8 ⟨rfl, bt_8⟩
    have HBwt_8 := Lib.hid (Below.step HB.out bt_8)
    clear bt_8
    replace H := let_hid H
    obtain ⟨t_11, ht_11, H⟩ := H
    cases t_11 with
    | false =>
      replace H := ite_f H
      replace H := bind_hid H
      obtain ⟨t_14, qt_14, H⟩ := H
      go_wp2_with fail
      go_at_call 36
      refine (Go.Proofs.Ytdgbigkcophjoaa.GlToPaperS.C (aList) A0 c0 _   (Lib.hid (Cells.below M0.out HBwt_8.out)) N0 qt_14).mono ?_
      rintro e_t_14 wt_14 ⟨At_14, ct_14, rfl, ot_14, bt_14⟩
      have Ot_14 := Lib.hid (own_lower ot_14 HBwt_8.out.size)
      clear ot_14
      have HBwt_14 := Lib.hid (Below.step HBwt_8.out bt_14)
      clear bt_14
      replace H := bind2_hid H
      obtain ⟨t_16a, t_16b, qt_16, H⟩ := H
      go_wp2_with fail
      go_at_call 44
      refine (Go.Proofs.Ytdgbigkcophjoaa.GsPapersWith.C (t_14) (aMark) At_14 ct_14 _   (Lib.hid (own_cells Ot_14.out)) (Lib.hid (own_max Ot_14.out)) qt_16).mono ?_
      rintro e_t_16 wt_16 ⟨At_16a, ct_16a, rfl, ot_16a, bt_16⟩
      have Dt_16a_t_14 := Lib.hid (apart_call ot_16a Ot_14.out)
      have Ot_16a := Lib.hid (own_lower ot_16a HBwt_14.out.size)
      clear ot_16a
      have HBwt_16 := Lib.hid (Below.step HBwt_14.out bt_16)
      replace Ot_14 := Lib.hid (own_below Ot_14.out bt_16)
      clear bt_16
      replace H := bind_hid H
      obtain ⟨t_23, qt_23, H⟩ := H
      go_wp2_with fail
      go_at_call 36
      refine (Go.Proofs.Ytdgbigkcophjoaa.GlToPaperS.C (aList) A0 c0 _   (Lib.hid (Cells.below M0.out HBwt_16.out)) N0 qt_23).mono ?_
      rintro e_t_23 wt_23 ⟨At_23, ct_23, rfl, ot_23, bt_23⟩
      have Dt_23_t_14 := Lib.hid (apart_call ot_23 Ot_14.out)
      have Dt_23_t_16a := Lib.hid (apart_call ot_23 Ot_16a.out)
      have Ot_23 := Lib.hid (own_lower ot_23 HBwt_16.out.size)
      clear ot_23
      have HBwt_23 := Lib.hid (Below.step HBwt_16.out bt_23)
      replace Ot_14 := Lib.hid (own_below Ot_14.out bt_23)
      replace Ot_16a := Lib.hid (own_below Ot_16a.out bt_23)
      clear bt_23
      replace H := bind2_hid H
      obtain ⟨t_27a, t_27b, qt_27, H⟩ := H
      go_wp2_with fail
      go_at_call 45
      refine (Go.Proofs.Ytdgbigkcophjoaa.GiPapersWith.C (t_23) (aMark) At_23 ct_23 _   (Lib.hid (own_cells Ot_23.out)) (Lib.hid (own_max Ot_23.out)) qt_27).mono ?_
      rintro e_t_27 wt_27 ⟨At_27a, ct_27a, rfl, ot_27a, bt_27⟩
      have Dt_27a_t_14 := Lib.hid (apart_call ot_27a Ot_14.out)
      have Dt_27a_t_16a := Lib.hid (apart_call ot_27a Ot_16a.out)
      have Dt_27a_t_23 := Lib.hid (apart_call ot_27a Ot_23.out)
      have Ot_27a := Lib.hid (own_lower ot_27a HBwt_23.out.size)
      clear ot_27a
      have HBwt_27 := Lib.hid (Below.step HBwt_23.out bt_27)
      replace Ot_14 := Lib.hid (own_below Ot_14.out bt_27)
      replace Ot_16a := Lib.hid (own_below Ot_16a.out bt_27)
      replace Ot_23 := Lib.hid (own_below Ot_23.out bt_27)
      clear bt_27
      replace H := bind_hid H
      obtain ⟨t_35, qt_35, H⟩ := H
      go_wp2_with fail
      go_at_call 23
      refine (Go.Proofs.Ytdgbigkcophjoaa.GlEqIntS.C (t_27a) (t_16a) At_27a ct_27a At_16a ct_16a _   (Lib.hid (own_cells Ot_27a.out)) (Lib.hid (own_max Ot_27a.out)) (Lib.hid (own_cells Ot_16a.out)) (Lib.hid (own_max Ot_16a.out)) qt_35).mono ?_
      rintro e_t_35 wt_35 ⟨rfl, bt_35⟩
      have HBwt_35 := Lib.hid (Below.step HBwt_27.out bt_35)
      replace Ot_14 := Lib.hid (own_below Ot_14.out bt_35)
      replace Ot_16a := Lib.hid (own_below Ot_16a.out bt_35)
      replace Ot_23 := Lib.hid (own_below Ot_23.out bt_35)
      replace Ot_27a := Lib.hid (own_below Ot_27a.out bt_35)
      clear bt_35
      cases t_35 with
      | false =>
        replace H := let_hid H
        obtain ⟨t_36, ht_36, H⟩ := H
        obtain rfl : t_36 = true := ht_36.symm
        replace H := join_hid H
        replace H := ite_t H
        replace H := app_hid H
        replace H := ite_t H
        obtain rfl := ret_hid H
        go_wp2_with fail
        go_ret
        exact ⟨rfl, HBwt_35.out⟩
      | true =>
        replace H := let_hid H
        obtain ⟨t_36, ht_36, H⟩ := H
        obtain rfl : t_36 = false := ht_36.symm
        replace H := join_hid H
        replace H := ite_f H
        replace H := let_hid H
        obtain ⟨t_40, ht_40, H⟩ := H
        replace H := app_hid H
        cases t_40 with
        | false =>
          replace H := ite_f H
          replace H := bind_hid H
          obtain ⟨t_45, qt_45, H⟩ := H
          go_wp2_with fail
          go_at_call 36
          refine (Go.Proofs.Ytdgbigkcophjoaa.GlToPaperS.C (aList) A0 c0 _   (Lib.hid (Cells.below M0.out HBwt_35.out)) N0 qt_45).mono ?_
          rintro e_t_45 wt_45 ⟨At_45, ct_45, rfl, ot_45, bt_45⟩
          have Dt_45_t_14 := Lib.hid (apart_call ot_45 Ot_14.out)
          have Dt_45_t_16a := Lib.hid (apart_call ot_45 Ot_16a.out)
          have Dt_45_t_23 := Lib.hid (apart_call ot_45 Ot_23.out)
          have Dt_45_t_27a := Lib.hid (apart_call ot_45 Ot_27a.out)
          have Ot_45 := Lib.hid (own_lower ot_45 HBwt_35.out.size)
          clear ot_45
          have HBwt_45 := Lib.hid (Below.step HBwt_35.out bt_45)
          replace Ot_14 := Lib.hid (own_below Ot_14.out bt_45)
          replace Ot_16a := Lib.hid (own_below Ot_16a.out bt_45)
          replace Ot_23 := Lib.hid (own_below Ot_23.out bt_45)
          replace Ot_27a := Lib.hid (own_below Ot_27a.out bt_45)
          clear bt_45
          replace H := bind_hid H
          obtain ⟨t_46, qt_46, H⟩ := H
          go_wp2_with fail
          go_at_call 38
          refine (Go.Proofs.Ytdgbigkcophjoaa.GlEqPaperS.C (t_23) (t_45) At_23 ct_23 At_45 ct_45 _   (Lib.hid (own_cells Ot_23.out)) (Lib.hid (own_max Ot_23.out)) (Lib.hid (own_cells Ot_45.out)) (Lib.hid (own_max Ot_45.out)) qt_46).mono ?_
          rintro e_t_46 wt_46 ⟨rfl, bt_46⟩
          have HBwt_46 := Lib.hid (Below.step HBwt_45.out bt_46)
          replace Ot_14 := Lib.hid (own_below Ot_14.out bt_46)
          replace Ot_16a := Lib.hid (own_below Ot_16a.out bt_46)
          replace Ot_23 := Lib.hid (own_below Ot_23.out bt_46)
          replace Ot_27a := Lib.hid (own_below Ot_27a.out bt_46)
          replace Ot_45 := Lib.hid (own_below Ot_45.out bt_46)
          clear bt_46
          cases t_46 with
          | false =>
            replace H := let_hid H
            obtain ⟨t_47, ht_47, H⟩ := H
            obtain rfl : t_47 = true := ht_47.symm
            replace H := ite_t H
            obtain rfl := ret_hid H
            go_wp2_with fail
            go_ret
            exact ⟨rfl, HBwt_46.out⟩
          | true =>
            replace H := let_hid H
            obtain ⟨t_47, ht_47, H⟩ := H
            obtain rfl : t_47 = false := ht_47.symm
            replace H := ite_f H
            replace H := bind2_hid H
            obtain ⟨t_52, lt_52, qt_52, H⟩ := H
            go_wp2_with fail
            go_at_call 43
            refine (Go.Proofs.Ytdgbigkcophjoaa.GlMarkPaperS.C (t_23) (1) At_23 ct_23 w.heap.size _   Ot_23 (Lib.hid (own_max Ot_23.out))   qt_52).mono ?_
            rintro e_t_52 wt_52 ⟨rfl, ot_52, nt_52, gt_52⟩
            have Pt_52 := Lib.hid ot_52
            have Gt_52 := Lib.hid gt_52
            replace nt_52 := Lib.hid nt_52
            clear ot_52 gt_52
            have HBwt_52 := Lib.hid (HBwt_46.out.grown Gt_52.out HBwt_46.out.size (fun q hq => (Ot_23.out.lt q hq).1))
            replace Ot_14 := Lib.hid (own_other Ot_14.out Gt_52.out Dt_23_t_14.out)
            replace Ot_16a := Lib.hid (own_other Ot_16a.out Gt_52.out Dt_23_t_16a.out)
            replace Ot_27a := Lib.hid (own_other Ot_27a.out Gt_52.out (Apart.symm Dt_27a_t_23.out))
            replace Ot_45 := Lib.hid (own_other Ot_45.out Gt_52.out (Apart.symm Dt_45_t_23.out))
            clear Ot_23 Gt_52
            replace H := let_hid H
            obtain ⟨t_55, ht_55, H⟩ := H
            replace H := join_hid H
            cases t_55 with
            | false =>
              replace H := ite_f H
              replace H := bind_hid H
              obtain ⟨t_59, qt_59, H⟩ := H
              go_wp2_with fail
              go_at_call 23
              refine (Go.Proofs.Ytdgbigkcophjoaa.GlEqIntS.C (t_27a) (t_16a) At_27a ct_27a At_16a ct_16a _   (Lib.hid (own_cells Ot_27a.out)) (Lib.hid (own_max Ot_27a.out)) (Lib.hid (own_cells Ot_16a.out)) (Lib.hid (own_max Ot_16a.out)) qt_59).mono ?_
              rintro e_t_59 wt_59 ⟨rfl, bt_59⟩
              have HBwt_59 := Lib.hid (Below.step HBwt_52.out bt_59)
              replace Ot_14 := Lib.hid (own_below Ot_14.out bt_59)
              replace Ot_16a := Lib.hid (own_below Ot_16a.out bt_59)
              replace Pt_52 := Lib.hid (own_below Pt_52.out bt_59)
              replace Ot_27a := Lib.hid (own_below Ot_27a.out bt_59)
              replace Ot_45 := Lib.hid (own_below Ot_45.out bt_59)
              clear bt_59
              cases t_59 with
              | false =>
                replace H := let_hid H
                obtain ⟨t_60, ht_60, H⟩ := H
                obtain rfl : t_60 = true := ht_60.symm
                replace H := app_hid H
                replace H := join_hid H
                replace H := ite_t H
                replace H := app_hid H
                replace H := ite_t H
                obtain rfl := ret_hid H
                go_wp2_with fail
                go_ret
                exact ⟨rfl, HBwt_59.out⟩
              | true =>
                replace H := let_hid H
                obtain ⟨t_60, ht_60, H⟩ := H
                obtain rfl : t_60 = false := ht_60.symm
                replace H := app_hid H
                replace H := join_hid H
                replace H := ite_f H
                replace H := let_hid H
                obtain ⟨t_65, ht_65, H⟩ := H
                obtain rfl := ht_40.symm.trans ht_65
                replace H := app_hid H
                replace H := ite_f H
                replace H := bind2_hid H
                obtain ⟨t_71, lt_71, qt_71, H⟩ := H
                go_wp2_with fail
                go_at_call 25
                refine (Go.Proofs.Ytdgbigkcophjoaa.GlMarkIntS.C (t_27a) (1) At_27a ct_27a w.heap.size _   Ot_27a (Lib.hid (own_max Ot_27a.out))   qt_71).mono ?_
                rintro e_t_71 wt_71 ⟨rfl, ot_71, nt_71, gt_71⟩
                have Pt_71 := Lib.hid ot_71
                have Gt_71 := Lib.hid gt_71
                replace nt_71 := Lib.hid nt_71
                clear ot_71 gt_71
                have HBwt_71 := Lib.hid (HBwt_59.out.grown Gt_71.out HBwt_59.out.size (fun q hq => (Ot_27a.out.lt q hq).1))
                replace Ot_14 := Lib.hid (own_other Ot_14.out Gt_71.out Dt_27a_t_14.out)
                replace Ot_16a := Lib.hid (own_other Ot_16a.out Gt_71.out Dt_27a_t_16a.out)
                replace Pt_52 := Lib.hid (own_other Pt_52.out Gt_71.out Dt_27a_t_23.out)
                replace Ot_45 := Lib.hid (own_other Ot_45.out Gt_71.out (Apart.symm Dt_45_t_27a.out))
                clear Ot_27a Gt_71
                replace H := bind_hid H
                obtain ⟨t_76, qt_76, H⟩ := H
                go_wp2_with fail
                have hc_ := nt_71.out
                have hv_ : (Value.slice At_27a t_27a.length ct_27a : Value) = Value.slice At_27a lt_71.length ct_27a := by rw [hc_]
                try rw [hv_]
                replace Pt_71 := Lib.hid (own_len hc_ Pt_71.out)
                clear hc_ hv_
                go_wp2_with fail
                go_at_call 26
                refine (Go.Proofs.Ytdgbigkcophjoaa.GlHeldIntS.C (lt_71) (1) At_27a ct_27a _   (Lib.hid (own_cells Pt_71.out)) (Lib.hid (own_max Pt_71.out)) qt_76).mono ?_
                rintro e_t_76 wt_76 ⟨rfl, bt_76⟩
                have HBwt_76 := Lib.hid (Below.step HBwt_71.out bt_76)
                replace Ot_14 := Lib.hid (own_below Ot_14.out bt_76)
                replace Ot_16a := Lib.hid (own_below Ot_16a.out bt_76)
                replace Pt_52 := Lib.hid (own_below Pt_52.out bt_76)
                replace Pt_71 := Lib.hid (own_below Pt_71.out bt_76)
                replace Ot_45 := Lib.hid (own_below Ot_45.out bt_76)
                clear bt_76
                replace H := let_hid H
                obtain ⟨t_79, ht_79, H⟩ := H
                cases t_79 with
                | false =>
                  replace H := ite_f H
                  replace H := let_hid H
                  obtain ⟨t_83, ht_83, H⟩ := H
                  cases t_83 with
                  | false =>
                    replace H := ite_f H
                    replace H := bind_hid H
                    obtain ⟨t_86, qt_86, H⟩ := H
                    go_wp2_with fail
                    go_at_call 36
                    refine (Go.Proofs.Ytdgbigkcophjoaa.GlToPaperS.C (aList) A0 c0 _   (Lib.hid (Cells.below M0.out HBwt_76.out)) N0 qt_86).mono ?_
                    rintro e_t_86 wt_86 ⟨At_86, ct_86, rfl, ot_86, bt_86⟩
                    have Dt_86_t_14 := Lib.hid (apart_call ot_86 Ot_14.out)
                    have Dt_86_t_16a := Lib.hid (apart_call ot_86 Ot_16a.out)
                    have Dt_86_t_23 := Lib.hid (apart_call ot_86 Pt_52.out)
                    have Dt_86_t_27a := Lib.hid (apart_call ot_86 Pt_71.out)
                    have Dt_86_t_45 := Lib.hid (apart_call ot_86 Ot_45.out)
                    have Ot_86 := Lib.hid (own_lower ot_86 HBwt_76.out.size)
                    clear ot_86
                    have HBwt_86 := Lib.hid (Below.step HBwt_76.out bt_86)
                    replace Ot_14 := Lib.hid (own_below Ot_14.out bt_86)
                    replace Ot_16a := Lib.hid (own_below Ot_16a.out bt_86)
                    replace Pt_52 := Lib.hid (own_below Pt_52.out bt_86)
                    replace Pt_71 := Lib.hid (own_below Pt_71.out bt_86)
                    replace Ot_45 := Lib.hid (own_below Ot_45.out bt_86)
                    clear bt_86
                    replace H := bind2_hid H
                    obtain ⟨t_88a, t_88b, qt_88, H⟩ := H
                    go_wp2_with fail
                    go_at_call 45
                    refine (Go.Proofs.Ytdgbigkcophjoaa.GiPapersWith.C (t_86) (aMark) At_86 ct_86 _   (Lib.hid (own_cells Ot_86.out)) (Lib.hid (own_max Ot_86.out)) qt_88).mono ?_
                    rintro e_t_88 wt_88 ⟨At_88a, ct_88a, rfl, ot_88a, bt_88⟩
                    have Dt_88a_t_14 := Lib.hid (apart_call ot_88a Ot_14.out)
                    have Dt_88a_t_16a := Lib.hid (apart_call ot_88a Ot_16a.out)
                    have Dt_88a_t_23 := Lib.hid (apart_call ot_88a Pt_52.out)
                    have Dt_88a_t_27a := Lib.hid (apart_call ot_88a Pt_71.out)
                    have Dt_88a_t_45 := Lib.hid (apart_call ot_88a Ot_45.out)
                    have Dt_88a_t_86 := Lib.hid (apart_call ot_88a Ot_86.out)
                    have Ot_88a := Lib.hid (own_lower ot_88a HBwt_86.out.size)
                    clear ot_88a
                    have HBwt_88 := Lib.hid (Below.step HBwt_86.out bt_88)
                    replace Ot_14 := Lib.hid (own_below Ot_14.out bt_88)
                    replace Ot_16a := Lib.hid (own_below Ot_16a.out bt_88)
                    replace Pt_52 := Lib.hid (own_below Pt_52.out bt_88)
                    replace Pt_71 := Lib.hid (own_below Pt_71.out bt_88)
                    replace Ot_45 := Lib.hid (own_below Ot_45.out bt_88)
                    replace Ot_86 := Lib.hid (own_below Ot_86.out bt_88)
                    clear bt_88
                    replace H := bind_hid H
                    obtain ⟨t_96, qt_96, H⟩ := H
                    go_wp2_with fail
                    go_at_call 23
                    refine (Go.Proofs.Ytdgbigkcophjoaa.GlEqIntS.C (t_88a) (t_16a) At_88a ct_88a At_16a ct_16a _   (Lib.hid (own_cells Ot_88a.out)) (Lib.hid (own_max Ot_88a.out)) (Lib.hid (own_cells Ot_16a.out)) (Lib.hid (own_max Ot_16a.out)) qt_96).mono ?_
                    rintro e_t_96 wt_96 ⟨rfl, bt_96⟩
                    have HBwt_96 := Lib.hid (Below.step HBwt_88.out bt_96)
                    replace Ot_14 := Lib.hid (own_below Ot_14.out bt_96)
                    replace Ot_16a := Lib.hid (own_below Ot_16a.out bt_96)
                    replace Pt_52 := Lib.hid (own_below Pt_52.out bt_96)
                    replace Pt_71 := Lib.hid (own_below Pt_71.out bt_96)
                    replace Ot_45 := Lib.hid (own_below Ot_45.out bt_96)
                    replace Ot_86 := Lib.hid (own_below Ot_86.out bt_96)
                    replace Ot_88a := Lib.hid (own_below Ot_88a.out bt_96)
                    clear bt_96
                    cases t_96 with
                    | false =>
                      replace H := let_hid H
                      obtain ⟨t_97, ht_97, H⟩ := H
                      obtain rfl : t_97 = true := ht_97.symm
                      replace H := join_hid H
                      replace H := ite_t H
                      replace H := app_hid H
                      replace H := ite_t H
                      obtain rfl := ret_hid H
                      go_wp2_with fail
                      go_ret
                      exact ⟨rfl, HBwt_96.out⟩
                    | true =>
                      replace H := let_hid H
                      obtain ⟨t_97, ht_97, H⟩ := H
                      obtain rfl : t_97 = false := ht_97.symm
                      replace H := join_hid H
                      replace H := ite_f H
                      replace H := let_hid H
                      obtain ⟨t_101, ht_101, H⟩ := H
                      replace H := app_hid H
                      cases t_101 with
                      | false =>
                        replace H := ite_f H
                        replace H := bind_hid H
                        obtain ⟨t_107, qt_107, H⟩ := H
                        go_wp2_with fail
                        go_at_call 26
                        refine (Go.Proofs.Ytdgbigkcophjoaa.GlHeldIntS.C (lt_71) (1) At_27a ct_27a _   (Lib.hid (own_cells Pt_71.out)) (Lib.hid (own_max Pt_71.out)) qt_107).mono ?_
                        rintro e_t_107 wt_107 ⟨rfl, bt_107⟩
                        have HBwt_107 := Lib.hid (Below.step HBwt_96.out bt_107)
                        replace Ot_14 := Lib.hid (own_below Ot_14.out bt_107)
                        replace Ot_16a := Lib.hid (own_below Ot_16a.out bt_107)
                        replace Pt_52 := Lib.hid (own_below Pt_52.out bt_107)
                        replace Pt_71 := Lib.hid (own_below Pt_71.out bt_107)
                        replace Ot_45 := Lib.hid (own_below Ot_45.out bt_107)
                        replace Ot_86 := Lib.hid (own_below Ot_86.out bt_107)
                        replace Ot_88a := Lib.hid (own_below Ot_88a.out bt_107)
                        clear bt_107
                        replace H := let_hid H
                        obtain ⟨t_110, ht_110, H⟩ := H
                        cases t_110 with
                        | false =>
                          replace H := ite_f H
                          replace H := let_hid H
                          obtain ⟨t_114, ht_114, H⟩ := H
                          cases t_114 with
                          | false =>
                            replace H := ite_f H
                            obtain rfl := ret_hid H
                            go_wp2_with fail
                            go_ret
                            exact ⟨rfl, HBwt_107.out⟩
                          | true =>
                            replace H := ite_t H
                            obtain rfl := ret_hid H
                            go_wp2_with fail
                            go_ret
                            exact ⟨rfl, HBwt_107.out⟩
                        | true =>
                          replace H := ite_t H
                          obtain rfl := ret_hid H
                          go_wp2_with fail
                          go_ret
                          exact ⟨rfl, HBwt_107.out⟩
                      | true =>
                        replace H := ite_t H
                        obtain rfl := ret_hid H
                        go_wp2_with fail
                        go_ret
                        exact ⟨rfl, HBwt_96.out⟩
                  | true =>
                    replace H := ite_t H
                    obtain rfl := ret_hid H
                    go_wp2_with fail
                    go_ret
                    exact ⟨rfl, HBwt_76.out⟩
                | true =>
                  replace H := ite_t H
                  obtain rfl := ret_hid H
                  go_wp2_with fail
                  go_ret
                  exact ⟨rfl, HBwt_76.out⟩
            | true =>
              replace H := ite_t H
              replace H := app_hid H
              replace H := join_hid H
              replace H := ite_t H
              replace H := app_hid H
              replace H := ite_t H
              obtain rfl := ret_hid H
              go_wp2_with fail
              go_ret
              exact ⟨rfl, HBwt_52.out⟩
        | true =>
          replace H := ite_t H
          obtain rfl := ret_hid H
          go_wp2_with fail
          go_ret
          exact ⟨rfl, HBwt_35.out⟩
    | true =>
      replace H := ite_t H
      obtain rfl := ret_hid H
      go_wp2_with fail
      go_ret
      exact ⟨rfl, HBwt_8.out⟩
  | true =>
    have nht_3 : 1048576 < aMark.size := by have := of_decide_eq_true ht_3; omega
    replace H := ite_t H
    obtain rfl := ret_hid H
    go_wp2_with fail
    go_ret
    exact ⟨rfl, HB.out⟩
end Go.Proofs.Ytdgbigkcophjoaa.GlFnExactPapersWith

/- Words for a list of ints that is built by appends into memory of its own, and for the answer '([]int, bool)'. No condition. -/
namespace Go.Proofs.Ytdgbigkcophjoaa.OutInt
set_option linter.unusedVariables false
open Go.RowKit
open Go.Proofs.Ytdgbigkcophjoaa.Rowed Go.Proofs.Ytdgbigkcophjoaa.HelpInt

/-- 'A' holds the list r in memory that was not there in w; nothing that was there has turned -/
structure Keeps (w : World) (A : Option Addr) (c : Nat) (r : List Int) (wr : World) : Prop where
  own : wr.ownsRow w.heap.size 3 1 (.slice A r.length c) r.length (iv r)
  bel : Below w.heap.size w wr
theorem Keeps.start {w wr : World} (hb : Below w.heap.size w wr) : Keeps w (some ⟨wr.heap.size, 0, none⟩) 0 [] (wr.alloc (.cells #[] 3)) :=
  ⟨⟨rfl, .inr ⟨wr.heap.size, 0, #[], rfl, hb.size, heap_alloc_new wr _, Nat.le_refl _, by unfold maxLen; omega, rfl, rfl⟩⟩, hb.alloc hb.size _⟩
theorem Keeps.next {w wr w1 : World} {A : Option Addr} {c : Nat} {r : List Int} (h : Keeps w A c r wr) (hb : Below wr.heap.size wr w1) : Keeps w A c r w1 :=
  ⟨own_below h.own hb, Below.step h.bel hb⟩
theorem Keeps.alloc {w wr : World} {A : Option Addr} {c : Nat} {r : List Int} (h : Keeps w A c r wr) (o : Obj) : Keeps w A c r (wr.alloc o) := h.next ((Below.refl _ _).alloc (Nat.le_refl _) o)
theorem Keeps.push {w wX w3 : World} {A : Option Addr} {c : Nat} {r : List Int} {v' : Value} {x : Int} (h : Keeps w A c r wX)
    (hown : w3.ownsRow w.heap.size 3 1 v' (r.length + 1) (iv r ++ [.int .i64 x])) (hg : wX.grownBy w3 (Value.slice A r.length c).ownBlock) :
    ∃ g cap, v' = .slice (some ⟨g, 0, none⟩) (r ++ [x]).length cap ∧ Keeps w (some ⟨g, 0, none⟩) cap (r ++ [x]) w3 := by
  have el : (r ++ [x]).length = r.length + 1 := by simp
  obtain ⟨g, cap, rfl⟩ : ∃ g cap, v' = .slice (some ⟨g, 0, none⟩) (r.length + 1) cap := by
    rcases hown.2 with ⟨_, h⟩ | ⟨g3, cap3, _, h, _⟩
    · omega
    · exact ⟨g3, cap3, h⟩
  refine ⟨g, cap, by rw [el], ?_, ?_⟩
  · rw [el, iv_snoc]; exact hown
  · exact h.bel.grown hg h.bel.size (fun q hq => (h.own.lt q hq).1)
theorem own_lower {w : World} {b base n size : Nat} {v : Value} {e : TypeId} {xs : List Value} (h : w.ownsRow base e size v n xs) (hb : b ≤ base) : w.ownsRow b e size v n xs :=
  ⟨h.1, by
    rcases h.2 with h0 | ⟨g, cap, cur, hv, hb', rest⟩
    · exact .inl h0
    · exact .inr ⟨g, cap, cur, hv, Nat.le_trans hb hb', rest⟩⟩
theorem Keeps.lower {w w2 wr : World} {A : Option Addr} {c : Nat} {r : List Int} (h : Keeps w2 A c r wr) (hb : Below w.heap.size w w2) : Keeps w A c r wr :=
  ⟨own_lower h.own hb.size, Below.step hb h.bel⟩
theorem infoI : (Try.prog.info? 3).map (fun i => (i.zero, i.size, i.bytes)) = some (some (.int .i64 0), 1, 8) := by kernel_rfl
theorem info_parts {P : Program} {T : TypeId} {z : Value} {s b : Nat} (h : (P.info? T).map (fun i => (i.zero, i.size, i.bytes)) = some (some z, s, b)) : ∃ i, P.info? T = some i ∧ i.zero = some z ∧ i.size = s ∧ i.bytes = b := by
  cases hi : P.info? T with
  | none => rw [hi] at h; simp at h
  | some i => rw [hi] at h; simp at h; exact ⟨i, rfl, h.1, h.2.1, h.2.2⟩
theorem cell_one_at {w : World} {v : Value} {e : TypeId} {g : Nat} (hg : g = w.heap.size) : ∀ j u, [v][j]? = some u → (w.alloc (.cells #[v] e)).cell? ((⟨g, 0, none⟩ : Addr).add j) = some u := fun j u hj => by
  subst hg; exact cell_one_new w v e j u hj

/-- the answer: a list in memory of its own, and whether it is one -/
def OutPost : List Int × Bool → World → Ending → World → Prop
  | (r, b), w, e, w' => ∃ A c, e = .returned (.tuple #[.slice A r.length c, .bool b]) ∧ Keeps w A c r w'
/-- the answer with a number -/
def OutNPost : List Int × Int × Bool → World → Ending → World → Prop
  | (r, n, b), w, e, w' => ∃ A c, e = .returned (.tuple #[.slice A r.length c, .int .i64 n, .bool b]) ∧ Keeps w A c r w'
end Go.Proofs.Ytdgbigkcophjoaa.OutInt

/- The contracts of the laws' helpers toIntS and szIntS. Condition: the slice reads as a list of ints. -/
namespace Go.Proofs.Ytdgbigkcophjoaa.RInt
set_option linter.unusedVariables false
open Go.RowKit
open Go.Proofs.Ytdgbigkcophjoaa.Rowed Go.Proofs.Ytdgbigkcophjoaa.HelpInt

theorem infoI : (Try.prog.info? 3).map (fun i => (i.zero, i.size, i.bytes)) = some (some (.int .i64 0), 1, 8) := by kernel_rfl
theorem info_parts {P : Program} {T : TypeId} {z : Value} {s b : Nat} (h : (P.info? T).map (fun i => (i.zero, i.size, i.bytes)) = some (some z, s, b)) : ∃ i, P.info? T = some i ∧ i.zero = some z ∧ i.size = s ∧ i.bytes = b := Aid.info_parts h
/-- toIntS: a new row with the same ints -/
def ToPost (l : List Int) (w : World) (e : Ending) (w' : World) : Prop :=
  ∃ g, e = .returned (.slice (some ⟨g, 0, none⟩) l.length l.length) ∧ w'.ownsRow w.heap.size 3 1 (.slice (some ⟨g, 0, none⟩) l.length l.length) l.length (iv l) ∧ Below w.heap.size w w'
def RelTo (l : List Int) (ys : List Value) (w : World) (k : Nat) (wr : World) : Prop :=
  wr.ownsRow w.heap.size 3 1 (.slice (some ⟨w.heap.size, 0, none⟩) l.length l.length) l.length (fill (iv l) ys k) ∧ Below w.heap.size w wr
theorem rel_start {l : List Int} {w w1 : World} {ys : List Value} (h : w1.ownsRow w.heap.size 3 1 (.slice (some ⟨w.heap.size, 0, none⟩) l.length l.length) l.length ys) (hg : w.grownBy w1 none) :
    ∃ zs : List Value, Hid (zs.length = l.length) ∧ RelTo l zs w 0 w1 :=
  ⟨ys, Lib.hid (by have := h.1; omega), by rw [fill_zero]; exact h, (Below.refl _ _).grown hg (Nat.le_refl _) (by simp)⟩
theorem rel_round {l : List Int} {ys : List Value} {w wr : World} {k : Nat} {x : Int} (h : RelTo l ys w k wr) (hy : Hid (ys.length = l.length)) (hx : l[k]? = some x) :
    ∃ y, wr.cell? ⟨w.heap.size, k, none⟩ = some y ∧ wr.frozen? ⟨w.heap.size, k, none⟩ = false ∧ RelTo l ys w (k + 1) (wr.setCell ⟨w.heap.size, k, none⟩ (.int .i64 x)) := by
  have hy' : ys.length = l.length := hy
  have hk := (List.getElem?_eq_some_iff.1 hx).1
  have hlen : (fill (iv l) ys k).length = l.length := by rw [fill_len _ _ _ (by rw [iv_len]; exact hy')]; exact hy'
  have hc := h.1.cellAt k (by omega)
  rw [List.getElem?_eq_getElem (by omega)] at hc
  refine ⟨_, hc, h.1.frozenAt k, ?_, h.2.setCell (Nat.le_refl _) _⟩
  have := (h.1.stored k (.int .i64 x)).1
  rw [fill_set _ _ _ _ (by omega) (by rw [iv_at, hx]; rfl)] at this
  exact this
theorem rel_end {l : List Int} {ys : List Value} {w wr : World} (h : RelTo l ys w l.length wr) (hy : Hid (ys.length = l.length)) :
    wr.ownsRow w.heap.size 3 1 (.slice (some ⟨w.heap.size, 0, none⟩) l.length l.length) l.length (iv l) ∧ Below w.heap.size w wr := by
  have hy' : ys.length = l.length := hy
  have e := fill_all (iv l) ys (by rw [iv_len]; exact hy')
  rw [iv_len] at e
  have h1 := h.1
  rw [e] at h1
  exact ⟨h1, h.2⟩

set_option maxHeartbeats 800000 in
theorem to_any (A : Option Addr) (c : Nat) (l : List Int) (w : World) (h : Ints w A l.length l) (hn : l.length ≤ 1048576) :
    Calls Try.prog 28 #[.slice A l.length c] w (ToPost l w) := by
  obtain ⟨i0, hi, hz0, hz1, hz2⟩ := info_parts infoI
  have HH := Lib.hid h
  clear h
  go_enter Try.func28, Try.ntmps28
  go_wp2_with (at_make; refine wpList_make_full _ rfl _ _ 29 rfl w.heap.size 3 i0 (.int .i64 0) 1 Try.underlying29 hi hz0 hz1 .i64 .i64 _ _ l.length rfl rfl rfl rfl (by rw [hz2]; omega) (by unfold maxLen; omega) (Nat.le_refl _) ?_; intro w1 hO hG; obtain ⟨ys, hys, hR0⟩ := rel_start hO hG; clear hO hG)
  go_loopw [4] (fun i wr => ∃ k : Nat, k ≤ l.length ∧ i = .int .i64 k ∧ RelTo l ys w k wr) (fun i _ => l.length - (intOf i).toNat)
  case atStart => exact ⟨0, Nat.zero_le _, rfl, hR0⟩
  case round =>
    obtain ⟨k, hk, rfl, hR⟩ := hrel
    by_cases hlt : k < l.length
    · obtain ⟨ab, ao, x, rfl, hx, hcell0⟩ := Ints.at_ HH.out hlt
      have hcell := cell_below hR.2 hcell0
      obtain ⟨y, hc, hf, hset⟩ := rel_round hR hys hx
      have HS := Lib.hid hset
      clear hR hx hcell0 hset
      go_wp2
      go_roundw
      case rel => exact ⟨k + 1, by omega, by go_num, HS.out⟩
      case measure => simp [intOf]; omega
    · obtain rfl : k = l.length := by omega
      have HF := Lib.hid (rel_end hR hys)
      clear hR
      go_wp2
      go_ret
      exact ⟨_, rfl, HF.out⟩
end Go.Proofs.Ytdgbigkcophjoaa.RInt

/- Plain words on stamps: what a stamp is, when one is valid, when a list of them is; the cells of a list of records. No condition. -/
namespace Go.Proofs.Ytdgbigkcophjoaa.PlainStamp
set_option linter.unusedVariables false

/-- a number lies in a..b -/
def inB (x a b : Int) : Bool := decide (a ≤ x ∧ x ≤ b)
theorem inB_yes {x a b : Int} (h1 : a ≤ x) (h2 : x ≤ b) : inB x a b = true := by unfold inB; exact decide_eq_true ⟨h1, h2⟩
theorem inB_of {x a b : Int} (h : inB x a b = true) : a ≤ x ∧ x ≤ b := by unfold inB at h; exact of_decide_eq_true h
theorem inB_no {x a b : Int} (h : x < a ∨ b < x) : inB x a b = false := by unfold inB; exact decide_eq_false (by omega)

structure St where
  id : Int
  face : Int
  color : Int
  year : Int
deriving DecidableEq

def St.cells (s : St) : List Value := [.int .i64 s.id, .int .i64 s.face, .int .i64 s.color, .int .i64 s.year]
def St.val (s : St) : Value := .agg #[.int .i64 s.id, .int .i64 s.face, .int .i64 s.color, .int .i64 s.year]
/-- each field fits an int -/
def St.fits (s : St) : Prop := (Lit.int .i64 s.id).wf = true ∧ (Lit.int .i64 s.face).wf = true ∧ (Lit.int .i64 s.color).wf = true ∧ (Lit.int .i64 s.year).wf = true

def okSt (s : St) : Bool := inB s.id 1 999 && inB s.face 0 9999 && inB s.color 0 99 && inB s.year 1840 2100
theorem okSt_yes {s : St} (h : okSt s = true) : (1 ≤ s.id ∧ s.id ≤ 999) ∧ (0 ≤ s.face ∧ s.face ≤ 9999) ∧ (0 ≤ s.color ∧ s.color ≤ 99) ∧ (1840 ≤ s.year ∧ s.year ≤ 2100) := by
  unfold okSt at h
  simp only [Bool.and_eq_true] at h
  exact ⟨inB_of h.1.1.1, inB_of h.1.1.2, inB_of h.1.2, inB_of h.2⟩

/-- the stamp at k is valid, and its id is above the one ahead of it -/
def okAt (l : List St) (k : Nat) : Bool :=
  match l[k]? with
  | none => true
  | some s => okSt s && (decide (k = 0) || (match l[k-1]? with | none => true | some r => decide (r.id < s.id)))
def okUp (l : List St) (k : Nat) : Bool := (List.range k).all (okAt l)
theorem okUp_zero (l : List St) : okUp l 0 = true := by simp [okUp]
theorem okUp_succ (l : List St) (k : Nat) : okUp l (k + 1) = (okUp l k && okAt l k) := by simp [okUp, List.range_succ, List.all_append]
theorem okUp_not {l : List St} {k n : Nat} (h : okAt l k = false) (hk : k < n) : okUp l n = false := by
  unfold okUp
  rw [Bool.eq_false_iff]
  intro hall
  have := List.all_eq_true.1 hall k (List.mem_range.2 hk)
  rw [h] at this; exact absurd this (by simp)
/-- a list of at most twelve valid stamps with rising ids -/
def okSts (l : List St) : Bool := decide (l.length ≤ 12) && okUp l l.length
theorem okAt_of {l : List St} {k : Nat} {s : St} (hs : l[k]? = some s) (h : okAt l k = true) : okSt s = true ∧ ∀ r, 0 < k → l[k-1]? = some r → r.id < s.id := by
  unfold okAt at h
  rw [hs] at h
  simp only [Bool.and_eq_true, Bool.or_eq_true, decide_eq_true_eq] at h
  refine ⟨h.1, fun r hk hr => ?_⟩
  rcases h.2 with h0 | h0
  · omega
  · rw [hr] at h0; simpa using h0
theorem okSts_len {l : List St} (h : okSts l = true) : l.length ≤ 12 := by unfold okSts at h; simp only [Bool.and_eq_true, decide_eq_true_eq] at h; exact h.1
theorem okSts_at {l : List St} (h : okSts l = true) {k : Nat} {s : St} (hs : l[k]? = some s) : okSt s = true ∧ ∀ r, 0 < k → l[k-1]? = some r → r.id < s.id := by
  unfold okSts at h
  simp only [Bool.and_eq_true, decide_eq_true_eq] at h
  exact okAt_of hs (List.all_eq_true.1 h.2 k (List.mem_range.2 (List.getElem?_eq_some_iff.1 hs).1))
theorem okSts_mem {l : List St} (h : okSts l = true) {s : St} (hs : s ∈ l) : okSt s = true := by
  obtain ⟨k, hk⟩ := List.getElem?_of_mem hs
  exact (okSts_at h hk).1

/-- the cells of a list of stamps, one after the other -/
def flat (l : List St) : List Value := l.flatMap St.cells
theorem flat_nil : flat [] = [] := rfl
theorem flat_cons (s : St) (l : List St) : flat (s :: l) = s.cells ++ flat l := by simp [flat]
theorem flat_len (l : List St) : (flat l).length = l.length * 4 := by
  induction l with
  | nil => rfl
  | cons s l ih => rw [flat_cons, List.length_append, ih]; simp [St.cells]; omega
theorem flat_at : ∀ (l : List St) (k : Nat) (s : St), l[k]? = some s → ∀ j, j < 4 → (flat l)[k * 4 + j]? = s.cells[j]?
  | [], k, s, h, _, _ => by simp at h
  | r :: l, 0, s, h, j, hj => by
    obtain rfl : r = s := by simpa using h
    rw [flat_cons, List.getElem?_append_left (by simp [St.cells]; omega)]; simp
  | r :: l, k + 1, s, h, j, hj => by
    rw [flat_cons, List.getElem?_append_right (by simp [St.cells]; omega), show (k + 1) * 4 + j - r.cells.length = k * 4 + j by simp [St.cells]; omega]
    exact flat_at l k s (by simpa using h) j hj
end Go.Proofs.Ytdgbigkcophjoaa.PlainStamp

/- Words for reckoning with plain functions; within and l1In. No condition. -/
namespace Go.Proofs.Ytdgbigkcophjoaa.QBase
set_option linter.unusedVariables false
set_option linter.unusedSimpArgs false
open Go.RowKit
open Go.Proofs.Ytdgbigkcophjoaa.GoP Go.Proofs.Ytdgbigkcophjoaa.PlainStamp

theorem iteK_if {ρ : Type} (c : Bool) (a b : Option ρ) : iteK c a b = if c = true then a else b := by cases c <;> rfl
theorem bind2_some {α β ρ : Type} (a : α) (b : β) (f : α → β → Option ρ) : bind2 (some (a, b)) f = f a b := rfl
theorem bind3_some {α β γ ρ : Type} (a : α) (b : β) (c : γ) (f : α → β → γ → Option ρ) : bind3 (some (a, b, c)) f = f a b c := rfl
theorem unp2_mk {α β ρ : Type} (a : α) (b : β) (f : α → β → Option ρ) : unp2 (a, b) f = f a b := rfl
theorem unp3_mk {α β γ ρ : Type} (a : α) (b : β) (c : γ) (f : α → β → γ → Option ρ) : unp3 (a, b, c) f = f a b c := rfl
theorem guardK_pos {ρ : Type} {p : Prop} [Decidable p] {a : Option ρ} (h : p) : guardK p a = a := if_pos h
theorem cut2 {α β : Type} {x : Option (α × β)} {p : α × β} (h : x = some p) : x = some (p.1, p.2) := h
theorem cut3 {α β γ : Type} {x : Option (α × β × γ)} {p : α × β × γ} (h : x = some p) : x = some (p.1, p.2.1, p.2.2) := h
theorem within_eq (n a b : Int) : GiWithin.P n a b = some (inB n a b) := by
  simp only [GiWithin.P, letK, joinK, appK, iteK_if, inB]
  by_cases h1 : a ≤ n <;> by_cases h2 : n ≤ b <;> simp [h1, h2]
theorem l1In_eq (n a b : Int) : GsL1In.P n a b = some (inB n a b) := by
  simp only [GsL1In.P, letK, joinK, appK, iteK_if, inB]
  by_cases h1 : a ≤ n <;> by_cases h2 : n ≤ b <;> simp [h1, h2]
end Go.Proofs.Ytdgbigkcophjoaa.QBase

/- Reckoning with the loops of plain functions; lists of valid records with rising ids. No condition. -/
namespace Go.Proofs.Ytdgbigkcophjoaa.QLoop
set_option linter.unusedVariables false
open Go.RowKit
open Go.Proofs.Ytdgbigkcophjoaa.GoP Go.Proofs.Ytdgbigkcophjoaa.QBase

theorem cnt_ex {σ ρ : Type} {f : Nat → σ → (σ → Option ρ) → (σ → Option ρ) → Option ρ} {fin : σ → Option ρ} {Q : ρ → Prop} {n : Nat} (I : Nat → σ → Prop)
    (step : ∀ k s nx, k < n → I k s → (∀ s', I (k + 1) s' → ∃ r, nx s' = some r ∧ Q r) → ∃ r, f k s nx fin = some r ∧ Q r) (done : ∀ s, I n s → ∃ r, fin s = some r ∧ Q r) :
    ∀ m k s, k + m = n → I k s → ∃ r, cntK f m k s fin = some r ∧ Q r := by
  intro m
  induction m with
  | zero => intro k s hk hI; obtain rfl : k = n := by omega
            exact done s hI
  | succ m ih => intro k s hk hI; exact step k s _ (by omega) hI (fun s' h' => ih (k + 1) s' (by omega) h')
theorem cnt_is {σ ρ : Type} {f : Nat → σ → (σ → Option ρ) → (σ → Option ρ) → Option ρ} {fin : σ → Option ρ} {n : Nat} (r : ρ) (I : Nat → σ → Prop)
    (step : ∀ k s nx, k < n → I k s → (∀ s', I (k + 1) s' → nx s' = some r) → f k s nx fin = some r) (done : ∀ s, I n s → fin s = some r) (s : σ) (h0 : I 0 s) : cntK f n 0 s fin = some r := by
  obtain ⟨r', h, rfl⟩ := cnt_ex (Q := fun x => x = r) I (fun k s nx hk hI hn => ⟨r, step k s nx hk hI (fun s' h' => by obtain ⟨_, h, rfl⟩ := hn s' h'; exact h), rfl⟩) (fun s h => ⟨r, done s h, rfl⟩) n 0 s (by omega) h0
  exact h
theorem at_lt {α : Type} {l : List α} {k : Nat} (h : k < l.length) : ∃ x, l[k]? = some x ∧ idx l (k : Int) = some x := ⟨l[k], List.getElem?_eq_getElem h, by rw [idx_nat, List.getElem?_eq_getElem h]⟩
theorem idx_pred {α : Type} {l : List α} {k : Nat} {x : α} (hk : 0 < k) (hb : k ≤ 9223372036854775807) (h : l[k - 1]? = some x) : idx l (IntKind.i64.wrap ((k : Int) - 1)) = some x := by
  rw [IntWalk.i64_in _ (by omega), show ((k : Int) - 1) = ((k - 1 : Nat) : Int) by omega, idx_nat, h]
theorem take_next {α : Type} {l : List α} {k : Nat} {x : α} (h : l[k]? = some x) : l.take (k + 1) = l.take k ++ [x] := by
  obtain ⟨hk, e⟩ := List.getElem?_eq_some_iff.1 h
  rw [List.take_succ_eq_append_getElem hk, e]
theorem all_next {α : Type} {p : α → Bool} {l : List α} {k : Nat} {x : α} (h : l[k]? = some x) : (l.take (k + 1)).all p = ((l.take k).all p && p x) := by
  rw [take_next h]; simp
theorem not_all {α : Type} {p : α → Bool} {l : List α} {k : Nat} {x : α} (h : l[k]? = some x) (hp : p x = false) : l.all p = false := by
  rw [Bool.eq_false_iff]
  intro ha
  have := List.all_eq_true.1 ha x (List.mem_of_getElem? h)
  rw [hp] at this; exact absurd this (by simp)
theorem wrap_in {x : Int} (h1 : -9223372036854775808 ≤ x) (h2 : x ≤ 9223372036854775807) : IntKind.i64.wrap x = x := IntWalk.i64_in _ (by omega)

/-- valid, and above the one ahead of it -/
def upAt {α : Type} (ok : α → Bool) (id : α → Int) (l : List α) (k : Nat) : Bool :=
  match l[k]? with
  | none => true
  | some s => ok s && (decide (k = 0) || (match l[k-1]? with | none => true | some r => decide (id r < id s)))
def upTo {α : Type} (ok : α → Bool) (id : α → Int) (l : List α) (k : Nat) : Bool := (List.range k).all (upAt ok id l)
theorem upTo_zero {α : Type} (ok : α → Bool) (id : α → Int) (l : List α) : upTo ok id l 0 = true := rfl
theorem upTo_succ {α : Type} (ok : α → Bool) (id : α → Int) (l : List α) (k : Nat) : upTo ok id l (k + 1) = (upTo ok id l k && upAt ok id l k) := by simp [upTo, List.range_succ, List.all_append]
theorem upTo_not {α : Type} {ok : α → Bool} {id : α → Int} {l : List α} {k n : Nat} (h : upAt ok id l k = false) (hk : k < n) : upTo ok id l n = false := by
  unfold upTo
  rw [Bool.eq_false_iff]
  intro ha
  have := List.all_eq_true.1 ha k (List.mem_range.2 hk)
  rw [h] at this; exact absurd this (by simp)
/-- a list of at most m valid records with rising ids -/
def upL {α : Type} (m : Nat) (ok : α → Bool) (id : α → Int) (l : List α) : Bool := decide (l.length ≤ m) && upTo ok id l l.length
theorem upAt_bad {α : Type} {ok : α → Bool} {id : α → Int} {l : List α} {k : Nat} {s : α} (hs : l[k]? = some s) (h : ok s = false) : upAt ok id l k = false := by unfold upAt; rw [hs]; simp [h]
theorem upAt_first {α : Type} {ok : α → Bool} {id : α → Int} {l : List α} {s : α} (hs : l[0]? = some s) (h : ok s = true) : upAt ok id l 0 = true := by unfold upAt; rw [hs]; simp [h]
theorem upAt_next {α : Type} {ok : α → Bool} {id : α → Int} {l : List α} {k : Nat} {s r : α} (hs : l[k]? = some s) (hr : l[k-1]? = some r) (hk : 0 < k) (h : ok s = true) : upAt ok id l k = decide (id r < id s) := by
  unfold upAt; rw [hs]; simp only [hr, h, Bool.true_and, decide_eq_false (show ¬ k = 0 by omega), Bool.false_or]
theorem upL_len {α : Type} {m : Nat} {ok : α → Bool} {id : α → Int} {l : List α} (h : upL m ok id l = true) : l.length ≤ m := by unfold upL at h; simp only [Bool.and_eq_true, decide_eq_true_eq] at h; exact h.1
theorem upL_ok {α : Type} {m : Nat} {ok : α → Bool} {id : α → Int} {l : List α} (h : upL m ok id l = true) {k : Nat} {s : α} (hs : l[k]? = some s) : ok s = true := by
  unfold upL at h
  simp only [Bool.and_eq_true, decide_eq_true_eq] at h
  have := List.all_eq_true.1 h.2 k (List.mem_range.2 (List.getElem?_eq_some_iff.1 hs).1)
  unfold upAt at this
  rw [hs] at this
  simp only [Bool.and_eq_true] at this
  exact this.1
theorem upL_mem {α : Type} {m : Nat} {ok : α → Bool} {id : α → Int} {l : List α} (h : upL m ok id l = true) {s : α} (hs : s ∈ l) : ok s = true := by
  obtain ⟨k, hk⟩ := List.getElem?_of_mem hs
  exact upL_ok h hk
/-- a loop that goes through a list of records and stops with 'false' at the first that is bad -/
theorem up_loop {α : Type} {ok : α → Bool} {id : α → Int} {l : List α} {R : Type} {no : R} {f : Nat → Unit → (Unit → Option R) → (Unit → Option R) → Option R} {fin : Unit → Option R}
    (step : ∀ k nx s, l[k]? = some s → (ok s = false → f k () nx fin = some no) ∧ (ok s = true → (k = 0 → f k () nx fin = nx ()) ∧ (0 < k → ∀ r, l[k-1]? = some r → (id r < id s → f k () nx fin = nx ()) ∧ (id s ≤ id r → f k () nx fin = some no)))) :
    cntK f l.length 0 () fin = if upTo ok id l l.length then fin () else some no := by
  have key : ∀ m k, k + m = l.length → upTo ok id l k = true → cntK f m k () fin = if upTo ok id l l.length then fin () else some no := by
    intro m
    induction m with
    | zero => intro k hk hu; obtain rfl : k = l.length := by omega
              rw [hu]; rfl
    | succ m ih =>
      intro k hk hu
      have hlt : k < l.length := by omega
      obtain ⟨s, hs, _⟩ := at_lt hlt
      obtain ⟨h1, h2⟩ := step k (fun s' => cntK f m (k + 1) s' fin) s hs
      show f k () _ fin = _
      cases hok : ok s with
      | false => rw [h1 hok, upTo_not (upAt_bad hs hok) hlt]; rfl
      | true =>
        obtain ⟨h3, h4⟩ := h2 hok
        by_cases hk0 : k = 0
        · rw [h3 hk0]
          subst hk0
          exact ih 1 (by omega) (by rw [upTo_succ, hu, upAt_first hs hok]; rfl)
        · obtain ⟨r, hr, _⟩ := at_lt (l := l) (k := k - 1) (by omega)
          obtain ⟨h5, h6⟩ := h4 (by omega) r hr
          by_cases hlt2 : id r < id s
          · rw [h5 hlt2]
            exact ih (k + 1) (by omega) (by rw [upTo_succ, hu, upAt_next hs hr (by omega) hok]; simpa using hlt2)
          · rw [h6 (by omega), upTo_not (by rw [upAt_next hs hr (by omega) hok]; simpa using hlt2) hlt]; rfl
  exact key l.length 0 (by omega) (upTo_zero ok id l)
end Go.Proofs.Ytdgbigkcophjoaa.QLoop

/- One paper: the plain functions of the tests of a word and of a paper. No condition. -/
namespace Go.Proofs.Ytdgbigkcophjoaa.QOnePaper
set_option linter.unusedVariables false
set_option linter.unusedSimpArgs false
open Go.RowKit
open Go.Proofs.Ytdgbigkcophjoaa.GoP Go.Proofs.Ytdgbigkcophjoaa.PlainStamp Go.Proofs.Ytdgbigkcophjoaa.QBase Go.Proofs.Ytdgbigkcophjoaa.QLoop Go.Proofs.Ytdgbigkcophjoaa.PPaper

def small (b : UInt8) : Bool := decide (97 ≤ b.toNat ∧ b.toNat ≤ 122)
def wordB (s : ByteArray) : Bool := inB (s.size : Int) 1 10 && s.toList.all small
theorem size_list (s : ByteArray) : s.toList.length = s.size := by rw [Lib.toList_data]; rfl
theorem isLetter_eq (b : UInt8) : GiIsLetter.P (b.toNat : Int) = some (small b) := by
  simp only [GiIsLetter.P, letK, joinK, appK, iteK_if]
  unfold small
  by_cases h1 : 97 ≤ b.toNat
  · by_cases h2 : b.toNat ≤ 122
    · simp [h1, h2, show (97 : Int) ≤ b.toNat by omega, show (b.toNat : Int) ≤ 122 by omega]
    · simp [h1, h2, show (97 : Int) ≤ b.toNat by omega, show ¬ (b.toNat : Int) ≤ 122 by omega]
  · simp [h1, show ¬ (97 : Int) ≤ b.toNat by omega]
theorem isWord_eq (s : ByteArray) : GiIsWord.P s = some (wordB s) := by
  cases hb : inB (s.size : Int) 1 10 with
  | false => simp only [GiIsWord.P, within_eq, hb, Option.bind_some, letK, iteK_if, wordB]; rfl
  | true =>
    have h := inB_of hb
    simp only [GiIsWord.P, within_eq, hb, Option.bind_some, letK, iteK_if]
    rw [if_neg (by simp), guardK_pos (by omega)]
    refine cnt_is _ (fun k _ => (s.toList.take k).all small = true) ?_ ?_ () rfl
    · intro k u nx hk hI hn
      obtain ⟨y, hy, hi⟩ := at_lt (l := s.toList) (k := k) (by rw [size_list]; exact hk)
      simp only [GiIsWord.l0, hi, Option.bind_some, letK, joinK, appK, iteK_if, isLetter_eq]
      cases hs : small y with
      | false =>
        have : wordB s = false := by unfold wordB; rw [not_all hy hs, Bool.and_false]
        simp [this]
      | true => exact hn () (by rw [all_next hy, hI, hs]; rfl)
    · intro u hI
      rw [List.take_of_length_le (by rw [size_list]; exact Nat.le_refl _)] at hI
      simp [GiIsWord.e0, wordB, hb, hI]
theorem l2Word_eq (s : ByteArray) (hz : s.size ≤ 9223372036854775807) : GsL2Word.P s = some (wordB s) := by
  simp only [GsL2Word.P]
  rw [guardK_pos hz]
  refine cnt_is _ (fun k _ => (s.toList.take k).all small = true) ?_ ?_ () rfl
  · intro k u nx hk hI hn
    obtain ⟨y, hy, hi⟩ := at_lt (l := s.toList) (k := k) (by rw [size_list]; exact hk)
    simp only [GsL2Word.l0, hi, Option.bind_some, letK, joinK, appK, iteK_if]
    by_cases h1 : (y.toNat : Int) < 97
    · have : wordB s = false := by unfold wordB; rw [not_all hy (by unfold small; simp; omega), Bool.and_false]
      simp [h1, this]
    · by_cases h2 : (122 : Int) < (y.toNat : Int)
      · have : wordB s = false := by unfold wordB; rw [not_all hy (by unfold small; simp; omega), Bool.and_false]
        simp [h1, h2, this]
      · simp [h1, h2]
        exact hn () (by rw [all_next hy, hI]; unfold small; simp; omega)
  · intro u hI
    rw [List.take_of_length_le (by rw [size_list]; exact Nat.le_refl _)] at hI
    simp [GsL2Word.e0, wordB, l1In_eq, hI]
def markB (s : ByteArray) : Bool := s.toList.isEmpty || wordB s
def okPa (p : Paper) : Bool := inB p.id 1 99 && inB p.thick 1 300 && inB p.tint 0 9 && markB p.mark
theorem isPaper_eq (p : Paper) : GiIsPaper.P p = some (okPa p) := by
  obtain ⟨a, b, c, d, e⟩ := p
  simp only [GiIsPaper.P, unPaper, within_eq, GiIsMark.P, isWord_eq, Option.bind_some, letK, joinK, appK, iteK_if, okPa, markB]
  cases inB a 1 99 <;> cases inB b 1 300 <;> cases inB c 0 9 <;> cases d.toList.isEmpty <;> simp
theorem l3One_eq (p : Paper) (h : p.fits) : GsL3One.P p = some (okPa p) := by
  obtain ⟨a, b, c, d, e⟩ := p
  have hz : d.size ≤ 9223372036854775807 := h.2.2.2.1
  simp only [GsL3One.P, unPaper, l1In_eq, l2Word_eq d hz, Option.bind_some, letK, joinK, appK, iteK_if, okPa, markB]
  cases inB a 1 99 <;> cases inB b 1 300 <;> cases inB c 0 9 <;> cases d.toList.isEmpty <;> simp
end Go.Proofs.Ytdgbigkcophjoaa.QOnePaper

/- loop.example/g01062/spec.ArePapers as a plain function, and the contract of the program's: where the plain one has an answer, the program has it. Conditions: slices read as lists. -/
namespace Go.Proofs.Ytdgbigkcophjoaa.GsArePapers
set_option linter.unusedVariables false
set_option linter.unusedSimpArgs false
open Go.RowKit
open Go.Proofs.Ytdgbigkcophjoaa.Rowed Go.Proofs.Ytdgbigkcophjoaa.Turn Go.Proofs.Ytdgbigkcophjoaa.Aid Go.Proofs.Ytdgbigkcophjoaa.GoP Go.Proofs.Ytdgbigkcophjoaa.GoM

def P (list : (List Go.Proofs.Ytdgbigkcophjoaa.PPaper.Paper)) : Option (Bool) :=
  Option.bind (Go.Proofs.Ytdgbigkcophjoaa.GsL3Good.P list) fun (t_2 : Bool) =>
  some t_2

set_option maxRecDepth 100000 in
set_option maxHeartbeats 2000000 in
theorem C (list : (List Go.Proofs.Ytdgbigkcophjoaa.PPaper.Paper)) (A0 : Option Addr) (c0 : Nat)  (w : World) (M0 : Hid (Cells w 5 A0 list.length (Go.Proofs.Ytdgbigkcophjoaa.PPaper.flat list))) (N0 : Hid (list.length ≤ 9223372036854775807))  {r : Bool} (H : Hid (P list = some r)) :
    Calls Try.prog 35 #[.slice A0 list.length c0] w (Gives (.bool r) w) := by
  have HB := Lib.hid (Below.refl w.heap.size w)
  unfold P at H
  have N0o := N0.out
  go_enter Try.func35, Try.ntmps35
  replace H := bind_hid H
  obtain ⟨t_2, qt_2, H⟩ := H
  go_wp2_with fail
  go_at_call 77
  refine (Go.Proofs.Ytdgbigkcophjoaa.GsL3Good.C (list) A0 c0 _   (Lib.hid (Cells.below M0.out HB.out)) N0 qt_2).mono ?_
  rintro e_t_2 wt_2 ⟨rfl, bt_2⟩
  have HBwt_2 := Lib.hid (Below.step HB.out bt_2)
  clear bt_2
  obtain rfl := ret_hid H
  go_wp2_with fail
  go_ret
  exact ⟨rfl, HBwt_2.out⟩
end Go.Proofs.Ytdgbigkcophjoaa.GsArePapers

/- Papers: the plain functions of the tests of a word, of a paper and of a list of papers; of the laws' helpers on papers. No condition. -/
namespace Go.Proofs.Ytdgbigkcophjoaa.QPaper
set_option linter.unusedVariables false
set_option linter.unusedSimpArgs false
open Go.RowKit
open Go.Proofs.Ytdgbigkcophjoaa.GoP Go.Proofs.Ytdgbigkcophjoaa.PlainStamp Go.Proofs.Ytdgbigkcophjoaa.QBase Go.Proofs.Ytdgbigkcophjoaa.QLoop Go.Proofs.Ytdgbigkcophjoaa.PPaper Go.Proofs.Ytdgbigkcophjoaa.QOnePaper

def okPas (l : List Paper) : Bool := upL 10 okPa Paper.id l
theorem arePapers_eq (l : List Paper) : GiArePapers.P l = some (okPas l) := by
  simp only [GiArePapers.P, GiAreByKeyPaperIntiIsPaperiIdOfPaper.P, letK, iteK_if]
  by_cases hl : l.length ≤ 10
  · rw [if_neg (by simp; omega), up_loop (ok := okPa) (id := Paper.id) (no := false)]
    · unfold okPas upL; cases upTo okPa Paper.id l l.length <;> simp [hl, GiAreByKeyPaperIntiIsPaperiIdOfPaper.e0]
    · intro k nx s hs
      have hi : idx l (k : Int) = some s := by rw [idx_nat, hs]
      have hk : k < l.length := (List.getElem?_eq_some_iff.1 hs).1
      simp only [GiAreByKeyPaperIntiIsPaperiIdOfPaper.l0, hi, Option.bind_some, unPaper, isPaper_eq, GiIdOfPaper.P, letK, joinK, appK, iteK_if]
      refine ⟨fun h => by simp [h], fun h => ⟨fun h0 => by subst h0; simp [h], fun h0 r hr => ?_⟩⟩
      rw [idx_pred h0 (by omega) hr]
      have hk0 : (0 : Int) < (k : Int) := by omega
      have hk1 : ¬ k = 0 := by omega
      exact ⟨fun hlt => by (have hc : ¬ s.id ≤ r.id := by omega); simp [h, hk0, hk1, hc], fun hge => by simp [h, hk0, hk1, hge]⟩
  · rw [if_pos (by simp; omega)]; unfold okPas upL; simp [hl]
theorem l3Good_eq (l : List Paper) (hf : ∀ s ∈ l, s.fits) (hl : l.length ≤ 9223372036854775807) : GsL3Good.P l = some (okPas l) := by
  simp only [GsL3Good.P]
  rw [up_loop (ok := okPa) (id := Paper.id) (no := false)]
  · unfold okPas upL; cases upTo okPa Paper.id l l.length <;> simp [GsL3Good.e0, letK]; omega
  · intro k nx s hs
    have hi : idx l (k : Int) = some s := by rw [idx_nat, hs]
    have hk : k < l.length := (List.getElem?_eq_some_iff.1 hs).1
    have hm := hf s (List.mem_of_getElem? hs)
    simp only [GsL3Good.l0, hi, Option.bind_some, unPaper, letK, joinK, appK, iteK_if]
    rw [l3One_eq _ hm]
    refine ⟨fun h => by simp [h], fun h => ⟨fun h0 => by subst h0; simp [h], fun h0 r hr => ?_⟩⟩
    rw [idx_pred h0 (by omega) hr]
    have hk0 : (0 : Int) < (k : Int) := by omega
    have hk1 : ¬ k = 0 := by omega
    exact ⟨fun hlt => by (have hc : ¬ s.id ≤ r.id := by omega); simp [h, hk0, hk1, hc], fun hge => by simp [h, hk0, hk1, hge]⟩

theorem toOne (s : Paper) : GlToPaper.P s = some s := by cases s; rfl
theorem eqOne (s : Paper) : GlEqPaper.P s s = some true := by cases s; simp [GlEqPaper.P, unPaper, letK, joinK, appK, iteK_if]
theorem szOne (s : Paper) (left : Int) (h : s.fits) (h0 : 0 ≤ left) (h1 : left ≤ 1048576) : GlSzPaper.P s left = some (if left < (s.wt : Int) then -1 else left - (s.wt : Int)) := by
  obtain ⟨a, b, c, d, e⟩ := s
  have hz : d.size ≤ 9223372036854775807 := h.2.2.2.1
  have hw : ((Paper.mk a b c d e).wt : Int) = (d.size : Int) := rfl
  simp only [GlSzPaper.P, unPaper, letK, iteK_if]
  rw [wrap_in (by omega) (by omega)]
  by_cases hd : left < ((Paper.mk a b c d e).wt : Int)
  · rw [if_pos (by simp; omega), if_pos hd]
  · rw [if_neg (by simp; omega), if_neg hd, hw]
theorem toS (l : List Paper) (hl : l.length ≤ 1048576) : GlToPaperS.P l = some l := by
  simp only [GlToPaperS.P, letK]
  rw [guardK_pos (by omega)]
  refine cnt_is l (fun k s => s = l.take k ++ List.replicate (l.length - k) (Paper.mk 0 0 0 ByteArray.empty false)) ?_ ?_ _ (by simp)
  · intro k s nx hk hI hn
    obtain ⟨x, hx, hi⟩ := at_lt (l := l) (k := k) hk
    have hlen : s.length = l.length := by rw [hI]; simp; omega
    obtain ⟨z, hz, hj⟩ := at_lt (l := s) (k := k) (by omega)
    simp only [GlToPaperS.l0, hi, hj, toOne, Option.bind_some, unPaper, letK, appK]
    refine hn _ ?_
    rw [hI, take_next hx, List.set_append_right _ _ (by simp; omega)]
    have hr : l.length - k = (l.length - (k + 1)) + 1 := by omega
    rw [hr, List.replicate_succ, List.append_assoc]
    simp [show k - min k l.length = 0 by omega]
  · intro s hI
    rw [hI]; simp [GlToPaperS.e0, letK]
theorem eqS (l : List Paper) : GlEqPaperS.P l l = some true := by
  simp only [GlEqPaperS.P, letK, iteK_if]
  rw [if_neg (by simp)]
  refine cnt_is true (fun _ _ => True) ?_ (fun s _ => rfl) () trivial
  intro k s nx hk _ hn
  obtain ⟨x, hx, hi⟩ := at_lt (l := l) (k := k) hk
  simp only [GlEqPaperS.l0, hi, Option.bind_some, unPaper, eqOne, letK, appK, iteK_if]
  exact hn () trivial
theorem szS (l : List Paper) (hf : ∀ s ∈ l, s.fits) (hl : l.length ≤ 9223372036854775807) : ∃ v, GlSzPaperS.P l 1048576 = some v ∧ (0 ≤ v → l.length ≤ 1048576) := by
  simp only [GlSzPaperS.P, letK, iteK_if]
  rw [wrap_in (by omega) (by omega)]
  by_cases h : (1048576 : Int) - (l.length : Int) < 0
  · exact ⟨-1, by rw [if_pos (by simp; omega)], by omega⟩
  · rw [if_neg (by simp; omega)]
    refine cnt_ex (n := l.length) (Q := fun v => 0 ≤ v → l.length ≤ 1048576) (fun _ (s : Int) => 0 ≤ s ∧ s ≤ 1048576) ?_ ?_ l.length 0 _ (by omega) ⟨by omega, by omega⟩
    · intro k s nx hk hI hn
      obtain ⟨x, hx, hi⟩ := at_lt (l := l) (k := k) hk
      simp only [GlSzPaperS.l0, hi, Option.bind_some, unPaper, letK, appK, iteK_if]
      rw [szOne _ s (hf x (List.mem_of_getElem? hx)) hI.1 hI.2]
      by_cases hb : s < (x.wt : Int)
      · rw [if_pos hb]; exact ⟨-1, by simp, by omega⟩
      · rw [if_neg hb]
        simp only [Option.bind_some]
        rw [if_neg (by simp; omega)]
        exact hn _ ⟨by omega, by omega⟩
    · intro s hI; exact ⟨s, rfl, fun _ => by omega⟩
end Go.Proofs.Ytdgbigkcophjoaa.QPaper

/- loop.example/g01062/laws.FnExactArePapers as a plain function, and the contract of the program's: where the plain one has an answer, the program has it. Conditions: slices read as lists. -/
namespace Go.Proofs.Ytdgbigkcophjoaa.GlFnExactArePapers
set_option linter.unusedVariables false
set_option linter.unusedSimpArgs false
open Go.RowKit
open Go.Proofs.Ytdgbigkcophjoaa.Rowed Go.Proofs.Ytdgbigkcophjoaa.Turn Go.Proofs.Ytdgbigkcophjoaa.Aid Go.Proofs.Ytdgbigkcophjoaa.GoP Go.Proofs.Ytdgbigkcophjoaa.GoM

def P (aList : (List Go.Proofs.Ytdgbigkcophjoaa.PPaper.Paper)) : Option (Bool) :=
  Option.bind (Go.Proofs.Ytdgbigkcophjoaa.GlSzPaperS.P aList 1048576) fun (t_4 : Int) =>
  letK (decide (t_4 < 0)) fun (t_7 : Bool) =>
  iteK t_7
  (some true)
  (Option.bind (Go.Proofs.Ytdgbigkcophjoaa.GlToPaperS.P aList) fun (t_10 : (List Go.Proofs.Ytdgbigkcophjoaa.PPaper.Paper)) =>
  Option.bind (Go.Proofs.Ytdgbigkcophjoaa.GsArePapers.P t_10) fun (t_11 : Bool) =>
  Option.bind (Go.Proofs.Ytdgbigkcophjoaa.GlToPaperS.P aList) fun (t_14 : (List Go.Proofs.Ytdgbigkcophjoaa.PPaper.Paper)) =>
  Option.bind (Go.Proofs.Ytdgbigkcophjoaa.GiArePapers.P t_14) fun (t_17 : Bool) =>
  letK (!(t_17 == t_11)) fun (t_21 : Bool) =>
  iteK t_21
  (some false)
  (Option.bind (Go.Proofs.Ytdgbigkcophjoaa.GlToPaperS.P aList) fun (t_25 : (List Go.Proofs.Ytdgbigkcophjoaa.PPaper.Paper)) =>
  Option.bind (Go.Proofs.Ytdgbigkcophjoaa.GlEqPaperS.P t_14 t_25) fun (t_26 : Bool) =>
  letK (!t_26) fun (t_27 : Bool) =>
  iteK t_27
  (some false)
  (some true)))

set_option maxRecDepth 100000 in
set_option maxHeartbeats 2000000 in
theorem C (aList : (List Go.Proofs.Ytdgbigkcophjoaa.PPaper.Paper)) (A0 : Option Addr) (c0 : Nat)  (w : World) (M0 : Hid (Cells w 5 A0 aList.length (Go.Proofs.Ytdgbigkcophjoaa.PPaper.flat aList))) (N0 : Hid (aList.length ≤ 9223372036854775807))  {r : Bool} (H : Hid (P aList = some r)) :
    Calls Try.prog 8 #[.slice A0 aList.length c0] w (Gives (.bool r) w) := by
  have HB := Lib.hid (Below.refl w.heap.size w)
  unfold P at H
  have N0o := N0.out
  go_enter Try.func8, Try.ntmps8
  replace H := bind_hid H
  obtain ⟨t_4, qt_4, H⟩ := H
  go_wp2_with fail
  go_at_call 34
  refine (Go.Proofs.Ytdgbigkcophjoaa.GlSzPaperS.C (aList) (1048576) A0 c0 _   (Lib.hid (Cells.below M0.out HB.out)) N0 qt_4).mono ?_
  rintro e_t_4 wt_4 ⟨rfl, bt_4⟩
  have HBwt_4 := Lib.hid (Below.step HB.out bt_4)
  clear bt_4
  replace H := let_hid H
  obtain ⟨t_7, ht_7, H⟩ := H
  cases t_7 with
  | false =>
    replace H := ite_f H
    replace H := bind_hid H
    obtain ⟨t_10, qt_10, H⟩ := H
    go_wp2_with fail
    go_at_call 36
    refine (Go.Proofs.Ytdgbigkcophjoaa.GlToPaperS.C (aList) A0 c0 _   (Lib.hid (Cells.below M0.out HBwt_4.out)) N0 qt_10).mono ?_
    rintro e_t_10 wt_10 ⟨At_10, ct_10, rfl, ot_10, bt_10⟩
    have Ot_10 := Lib.hid (own_lower ot_10 HBwt_4.out.size)
    clear ot_10
    have HBwt_10 := Lib.hid (Below.step HBwt_4.out bt_10)
    clear bt_10
    replace H := bind_hid H
    obtain ⟨t_11, qt_11, H⟩ := H
    go_wp2_with fail
    go_at_call 35
    refine (Go.Proofs.Ytdgbigkcophjoaa.GsArePapers.C (t_10) At_10 ct_10 _   (Lib.hid (own_cells Ot_10.out)) (Lib.hid (own_max Ot_10.out)) qt_11).mono ?_
    rintro e_t_11 wt_11 ⟨rfl, bt_11⟩
    have HBwt_11 := Lib.hid (Below.step HBwt_10.out bt_11)
    replace Ot_10 := Lib.hid (own_below Ot_10.out bt_11)
    clear bt_11
    replace H := bind_hid H
    obtain ⟨t_14, qt_14, H⟩ := H
    go_wp2_with fail
    go_at_call 36
    refine (Go.Proofs.Ytdgbigkcophjoaa.GlToPaperS.C (aList) A0 c0 _   (Lib.hid (Cells.below M0.out HBwt_11.out)) N0 qt_14).mono ?_
    rintro e_t_14 wt_14 ⟨At_14, ct_14, rfl, ot_14, bt_14⟩
    have Dt_14_t_10 := Lib.hid (apart_call ot_14 Ot_10.out)
    have Ot_14 := Lib.hid (own_lower ot_14 HBwt_11.out.size)
    clear ot_14
    have HBwt_14 := Lib.hid (Below.step HBwt_11.out bt_14)
    replace Ot_10 := Lib.hid (own_below Ot_10.out bt_14)
    clear bt_14
    replace H := bind_hid H
    obtain ⟨t_17, qt_17, H⟩ := H
    go_wp2_with fail
    go_at_call 37
    refine (Go.Proofs.Ytdgbigkcophjoaa.GiArePapers.C (t_14) At_14 ct_14 _   (Lib.hid (own_cells Ot_14.out)) (Lib.hid (own_max Ot_14.out)) qt_17).mono ?_
    rintro e_t_17 wt_17 ⟨rfl, bt_17⟩
    have HBwt_17 := Lib.hid (Below.step HBwt_14.out bt_17)
    replace Ot_10 := Lib.hid (own_below Ot_10.out bt_17)
    replace Ot_14 := Lib.hid (own_below Ot_14.out bt_17)
    clear bt_17
    replace H := let_hid H
    obtain ⟨t_21, ht_21, H⟩ := H
    cases t_21 with
    | false =>
      replace H := ite_f H
      replace H := bind_hid H
      obtain ⟨t_25, qt_25, H⟩ := H
      go_wp2_with fail
      go_at_call 36
      refine (Go.Proofs.Ytdgbigkcophjoaa.GlToPaperS.C (aList) A0 c0 _   (Lib.hid (Cells.below M0.out HBwt_17.out)) N0 qt_25).mono ?_
      rintro e_t_25 wt_25 ⟨At_25, ct_25, rfl, ot_25, bt_25⟩
      have Dt_25_t_10 := Lib.hid (apart_call ot_25 Ot_10.out)
      have Dt_25_t_14 := Lib.hid (apart_call ot_25 Ot_14.out)
      have Ot_25 := Lib.hid (own_lower ot_25 HBwt_17.out.size)
      clear ot_25
      have HBwt_25 := Lib.hid (Below.step HBwt_17.out bt_25)
      replace Ot_10 := Lib.hid (own_below Ot_10.out bt_25)
      replace Ot_14 := Lib.hid (own_below Ot_14.out bt_25)
      clear bt_25
      replace H := bind_hid H
      obtain ⟨t_26, qt_26, H⟩ := H
      go_wp2_with fail
      go_at_call 38
      refine (Go.Proofs.Ytdgbigkcophjoaa.GlEqPaperS.C (t_14) (t_25) At_14 ct_14 At_25 ct_25 _   (Lib.hid (own_cells Ot_14.out)) (Lib.hid (own_max Ot_14.out)) (Lib.hid (own_cells Ot_25.out)) (Lib.hid (own_max Ot_25.out)) qt_26).mono ?_
      rintro e_t_26 wt_26 ⟨rfl, bt_26⟩
      have HBwt_26 := Lib.hid (Below.step HBwt_25.out bt_26)
      replace Ot_10 := Lib.hid (own_below Ot_10.out bt_26)
      replace Ot_14 := Lib.hid (own_below Ot_14.out bt_26)
      replace Ot_25 := Lib.hid (own_below Ot_25.out bt_26)
      clear bt_26
      cases t_26 with
      | false =>
        replace H := let_hid H
        obtain ⟨t_27, ht_27, H⟩ := H
        obtain rfl : t_27 = true := ht_27.symm
        replace H := ite_t H
        obtain rfl := ret_hid H
        go_wp2_with fail
        go_ret
        exact ⟨rfl, HBwt_26.out⟩
      | true =>
        replace H := let_hid H
        obtain ⟨t_27, ht_27, H⟩ := H
        obtain rfl : t_27 = false := ht_27.symm
        replace H := ite_f H
        obtain rfl := ret_hid H
        go_wp2_with fail
        go_ret
        exact ⟨rfl, HBwt_26.out⟩
    | true =>
      replace H := ite_t H
      obtain rfl := ret_hid H
      go_wp2_with fail
      go_ret
      exact ⟨rfl, HBwt_17.out⟩
  | true =>
    replace H := ite_t H
    obtain rfl := ret_hid H
    go_wp2_with fail
    go_ret
    exact ⟨rfl, HBwt_4.out⟩
end Go.Proofs.Ytdgbigkcophjoaa.GlFnExactArePapers

/- loop.example/g01062/spec.l1Most as a plain function, and the contract of the program's: where the plain one has an answer, the program has it. Conditions: slices read as lists. -/
namespace Go.Proofs.Ytdgbigkcophjoaa.GsL1Most
set_option linter.unusedVariables false
set_option linter.unusedSimpArgs false
open Go.RowKit
open Go.Proofs.Ytdgbigkcophjoaa.Rowed Go.Proofs.Ytdgbigkcophjoaa.Turn Go.Proofs.Ytdgbigkcophjoaa.Aid Go.Proofs.Ytdgbigkcophjoaa.GoP Go.Proofs.Ytdgbigkcophjoaa.GoM

def P (a : Int) (b : Int) : Option (Int) :=
  letK (decide (b < a)) fun (t_3 : Bool) =>
  iteK t_3
  (some a)
  (some b)

set_option maxRecDepth 100000 in
set_option maxHeartbeats 2000000 in
theorem C (a : Int) (b : Int)   (w : World)   {r : Int} (H : Hid (P a b = some r)) :
    Calls Try.prog 83 #[.int .i64 a, .int .i64 b] w (Gives (.int .i64 r) w) := by
  have HB := Lib.hid (Below.refl w.heap.size w)
  unfold P at H
  go_enter Try.func83, Try.ntmps83
  replace H := let_hid H
  obtain ⟨t_3, ht_3, H⟩ := H
  cases t_3 with
  | false =>
    replace H := ite_f H
    obtain rfl := ret_hid H
    go_wp2_with fail
    go_ret
    exact ⟨rfl, HB.out⟩
  | true =>
    replace H := ite_t H
    obtain rfl := ret_hid H
    go_wp2_with fail
    go_ret
    exact ⟨rfl, HB.out⟩

set_option maxRecDepth 100000 in
set_option maxHeartbeats 2000000 in
theorem C0 (a : Int) (b : Int)   (w : World)   {r : Int} (H : Hid (P a b = some r)) :
    Calls Try.prog 83 #[.int .i64 a, .int .i64 b] w (fun e w'' => e = .returned (.int .i64 r) ∧ w'' = w) := by
  have HB := Lib.hid (Below.refl w.heap.size w)
  unfold P at H
  go_enter Try.func83, Try.ntmps83
  replace H := let_hid H
  obtain ⟨t_3, ht_3, H⟩ := H
  cases t_3 with
  | false =>
    replace H := ite_f H
    obtain rfl := ret_hid H
    go_wp2_with fail
    go_ret
    exact ⟨rfl, rfl⟩
  | true =>
    replace H := ite_t H
    obtain rfl := ret_hid H
    go_wp2_with fail
    go_ret
    exact ⟨rfl, rfl⟩
end Go.Proofs.Ytdgbigkcophjoaa.GsL1Most

/- loop.example/g01062/spec.NearestPaper as a plain function, and the contract of the program's: where the plain one has an answer, the program has it. Conditions: slices read as lists. -/
namespace Go.Proofs.Ytdgbigkcophjoaa.GsNearestPaper
set_option linter.unusedVariables false
set_option linter.unusedSimpArgs false
open Go.RowKit
open Go.Proofs.Ytdgbigkcophjoaa.Rowed Go.Proofs.Ytdgbigkcophjoaa.Turn Go.Proofs.Ytdgbigkcophjoaa.Aid Go.Proofs.Ytdgbigkcophjoaa.GoP Go.Proofs.Ytdgbigkcophjoaa.GoM

def l0 (list : (List Go.Proofs.Ytdgbigkcophjoaa.PPaper.Paper)) (thick : Int) (k0 : Nat) (s : Int × Int) (nx0 bk0 : Int × Int → Option (Int × Int × Bool)) : Option (Int × Int × Bool) :=
  unp2 s fun best_7l0 least_8l0 =>
  Option.bind (idx list (k0 : Int)) fun (yt_28 : Go.Proofs.Ytdgbigkcophjoaa.PPaper.Paper) =>
  unPaper yt_28 fun (t_28_id : Int) (t_28_thick : Int) (t_28_tint : Int) (t_28_mark : ByteArray) (t_28_laid : Bool) =>
  letK (IntKind.i64.wrap (t_28_thick - thick)) fun (t_32 : Int) =>
  Option.bind (idx list (k0 : Int)) fun (yt_36 : Go.Proofs.Ytdgbigkcophjoaa.PPaper.Paper) =>
  unPaper yt_36 fun (t_36_id : Int) (t_36_thick : Int) (t_36_tint : Int) (t_36_mark : ByteArray) (t_36_laid : Bool) =>
  letK (IntKind.i64.wrap (thick - t_36_thick)) fun (t_39 : Int) =>
  Option.bind (Go.Proofs.Ytdgbigkcophjoaa.GsL1Most.P t_32 t_39) fun (t_40 : Int) =>
  letK (decide (t_40 < least_8l0)) fun (t_44 : Bool) =>
  iteK t_44
  (Option.bind (idx list (k0 : Int)) fun (yt_47 : Go.Proofs.Ytdgbigkcophjoaa.PPaper.Paper) =>
  unPaper yt_47 fun (t_47_id : Int) (t_47_thick : Int) (t_47_tint : Int) (t_47_mark : ByteArray) (t_47_laid : Bool) =>
  appK nx0 (t_47_id, t_40))
  (appK nx0 (best_7l0, least_8l0))

def e0  (s : Int × Int) : Option (Int × Int × Bool) :=
  unp2 s fun best_7l0 least_8l0 =>
  some (best_7l0, least_8l0, true)

def P (list : (List Go.Proofs.Ytdgbigkcophjoaa.PPaper.Paper)) (thick : Int) : Option (Int × Int × Bool) :=
  Option.bind (Go.Proofs.Ytdgbigkcophjoaa.GsL3Good.P list) fun (t_4 : Bool) =>
  letK (!t_4) fun (t_5 : Bool) =>
  joinK (fun (t_10 : Bool) =>
  joinK (fun (t_15 : Bool) =>
  iteK t_15
  (some (0, 0, false))
  (cntK (l0 list thick) (list.length) 0 (0, 301) (e0 ))) fun jt_15 => iteK t_10 (appK jt_15 true) (letK ((list.length : Int) == 0) fun (t_14 : Bool) =>
  appK jt_15 t_14)) fun jt_10 => iteK t_5 (appK jt_10 true) (Option.bind (Go.Proofs.Ytdgbigkcophjoaa.GsL1In.P thick 1 300) fun (t_8 : Bool) =>
  letK (!t_8) fun (t_9 : Bool) =>
  appK jt_10 t_9)

set_option maxRecDepth 100000 in
set_option maxHeartbeats 2000000 in
theorem C (list : (List Go.Proofs.Ytdgbigkcophjoaa.PPaper.Paper)) (thick : Int) (A0 : Option Addr) (c0 : Nat)  (w : World) (M0 : Hid (Cells w 5 A0 list.length (Go.Proofs.Ytdgbigkcophjoaa.PPaper.flat list))) (N0 : Hid (list.length ≤ 9223372036854775807))  {r0 : Int} {r1 : Int} {r2 : Bool} (H : Hid (P list thick = some (r0, r1, r2))) :
    Calls Try.prog 39 #[.slice A0 list.length c0, .int .i64 thick] w (Gives (.tuple #[.int .i64 r0, .int .i64 r1, .bool r2]) w) := by
  have HB := Lib.hid (Below.refl w.heap.size w)
  unfold P at H
  have N0o := N0.out
  go_enter Try.func39, Try.ntmps39
  replace H := bind_hid H
  obtain ⟨t_4, qt_4, H⟩ := H
  go_wp2_with fail
  go_at_call 77
  refine (Go.Proofs.Ytdgbigkcophjoaa.GsL3Good.C (list) A0 c0 _   (Lib.hid (Cells.below M0.out HB.out)) N0 qt_4).mono ?_
  rintro e_t_4 wt_4 ⟨rfl, bt_4⟩
  have HBwt_4 := Lib.hid (Below.step HB.out bt_4)
  clear bt_4
  cases t_4 with
  | false =>
    replace H := let_hid H
    obtain ⟨t_5, ht_5, H⟩ := H
    obtain rfl : t_5 = true := ht_5.symm
    replace H := join_hid H
    replace H := ite_t H
    replace H := app_hid H
    replace H := join_hid H
    replace H := ite_t H
    replace H := app_hid H
    replace H := ite_t H
    cases ret_hid H
    go_wp2_with fail
    go_ret3
    exact ⟨rfl, HBwt_4.out⟩
  | true =>
    replace H := let_hid H
    obtain ⟨t_5, ht_5, H⟩ := H
    obtain rfl : t_5 = false := ht_5.symm
    replace H := join_hid H
    replace H := ite_f H
    replace H := bind_hid H
    obtain ⟨t_8, qt_8, H⟩ := H
    go_wp2_with fail
    go_at_call 67
    refine (Go.Proofs.Ytdgbigkcophjoaa.GsL1In.C (thick) (1) (300)  _    qt_8).mono ?_
    rintro e_t_8 wt_8 ⟨rfl, bt_8⟩
    have HBwt_8 := Lib.hid (Below.step HBwt_4.out bt_8)
    clear bt_8
    cases t_8 with
    | false =>
      replace H := let_hid H
      obtain ⟨t_9, ht_9, H⟩ := H
      obtain rfl : t_9 = true := ht_9.symm
      replace H := app_hid H
      replace H := join_hid H
      replace H := ite_t H
      replace H := app_hid H
      replace H := ite_t H
      cases ret_hid H
      go_wp2_with fail
      go_ret3
      exact ⟨rfl, HBwt_8.out⟩
    | true =>
      replace H := let_hid H
      obtain ⟨t_9, ht_9, H⟩ := H
      obtain rfl : t_9 = false := ht_9.symm
      replace H := app_hid H
      replace H := join_hid H
      replace H := ite_f H
      replace H := let_hid H
      obtain ⟨t_14, ht_14, H⟩ := H
      replace H := app_hid H
      cases t_14 with
      | false =>
        have nht_14 : ¬ (list.length = 0) := by have := ne_of_beq_false ht_14; omega
        replace H := ite_f H
        go_wp2_with fail
        go_loopg [9, 7, 8] (list.length) (fun m_ v9_ v7_ v8_ wr => ∃ (k0 : Nat) (best_7l0 : Int) (least_8l0 : Int), k0 + m_ = list.length ∧ v9_ = .int .i64 (k0 : Int) ∧ v7_ = .int .i64 best_7l0 ∧ v8_ = .int .i64 least_8l0 ∧ Hid (cntK (l0 list thick) m_ k0 (best_7l0, least_8l0) (e0 ) = some (r0, r1, r2)) ∧ Hid (Below w.heap.size w wr))
        case atStart => exact ⟨0, _, _, by omega, rfl, rfl, rfl, H, HBwt_8⟩
        case round =>
          obtain ⟨k0, best_7l0, least_8l0, hkm0, rfl, rfl, rfl, H, HBwr0⟩ := hrel
          rename World => wr0
          cases gk with
          | zero =>
            obtain rfl : k0 = list.length := by omega
            have hc0 : decide (((list.length : Nat) : Int) < ((list.length : Nat) : Int)) = false := by simp
            replace H := cnt_zero H
            unfold e0 at H
            replace H := unp2_hid H
            cases ret_hid H
            go_wp2_with fail
            go_ret3
            exact ⟨rfl, HBwr0.out⟩
          | succ m0 =>
            have hlt0 : k0 < list.length := by omega
            have hc0 : decide ((k0 : Int) < ((list.length : Nat) : Int)) = true := by simp; omega
            replace H := cnt_succ H
            unfold l0 at H
            replace H := unp2_hid H
            go_wp2_with fail
            replace H := idx_hid H
            obtain ⟨nt_28, yt_28, et_28, lt_28, gt_28, H⟩ := H
            obtain rfl : k0 = nt_28 := by omega
            clear et_28
            obtain ⟨t_28_id, t_28_thick, t_28_tint, t_28_mark, t_28_laid⟩ := yt_28
            replace H := unPaper_hid H
            obtain ⟨ab_t_28, ao_t_28, zt_28, At_28, z_t_28, ct_28_0, ct_28_1, ct_28_2, ct_28_3, ct_28_4⟩ := Go.Proofs.Ytdgbigkcophjoaa.OPaper.at_ M0.out lt_28
            obtain rfl := Option.some.inj (gt_28.out.symm.trans z_t_28)
            subst At_28
            have ltt_28 := cell_lt ct_28_0
            replace ct_28_0 := cell_below HBwr0.out ct_28_0
            replace ct_28_1 := cell_below HBwr0.out ct_28_1
            replace ct_28_2 := cell_below HBwr0.out ct_28_2
            replace ct_28_3 := cell_below HBwr0.out ct_28_3
            replace ct_28_4 := cell_below HBwr0.out ct_28_4
            clear z_t_28
            have b0t_28 : (0 : Int) ≤ (k0 : Int) := by omega
            have b1t_28 : (k0 : Int) < ((list.length : Nat) : Int) := by omega
            have b2t_28 : ((k0 : Int)).toNat = k0 := by omega
            have Hct_28_0 := Lib.hid ct_28_0
            replace ct_28_0 := cell_regrown ct_28_0
            have Hct_28_1 := Lib.hid ct_28_1
            replace ct_28_1 := cell_regrown ct_28_1
            have Hct_28_2 := Lib.hid ct_28_2
            replace ct_28_2 := cell_regrown ct_28_2
            have Hct_28_3 := Lib.hid ct_28_3
            replace ct_28_3 := cell_regrown ct_28_3
            have Hct_28_4 := Lib.hid ct_28_4
            replace ct_28_4 := cell_regrown ct_28_4
            replace H := let_hid H
            obtain ⟨t_32, ht_32, H⟩ := H
            replace H := idx_hid H
            obtain ⟨nt_36, yt_36, et_36, lt_36, gt_36, H⟩ := H
            obtain rfl : k0 = nt_36 := by omega
            clear et_36
            obtain rfl := Option.some.inj (gt_28.out.symm.trans gt_36.out)
            clear gt_36 lt_36
            replace H := unPaper_hid H
            replace H := let_hid H
            obtain ⟨t_39, ht_39, H⟩ := H
            replace H := bind_hid H
            obtain ⟨t_40, qt_40, H⟩ := H
            have nt_40 : ∀ d os, Calls Try.prog 83 #[.int .i64 t_32, .int .i64 t_39] (Go.Sort.grow (redrawn wr0 d) os) fun e w'' => e = .returned (.int .i64 t_40) ∧ ∃ p : Regrown, w'' = Go.Sort.grow (redrawn wr0 p.d) p.os := fun d os => Calls.regrown_of (Go.Proofs.Ytdgbigkcophjoaa.GsL1Most.C (t_32) (t_39)  _    qt_40)
            refine wp_region_quiet_below (by kernel_rfl) (by kernel_rfl) ?_
            repeat (go_big_quiet_step (first | (go_at_call 83; exact nt_40 _ _)))
            refine wpQuiet_nil ?_
            intro Y7 hY7
            replace hY7 := below_class hY7
            clear nt_40
            replace ct_28_0 := Hct_28_0.out
            clear Hct_28_0
            replace ct_28_1 := Hct_28_1.out
            clear Hct_28_1
            replace ct_28_2 := Hct_28_2.out
            clear Hct_28_2
            replace ct_28_3 := Hct_28_3.out
            clear Hct_28_3
            replace ct_28_4 := Hct_28_4.out
            clear Hct_28_4
            have HBY7 := Lib.hid (Below.step HBwr0.out hY7)
            replace ct_28_0 := cell_below hY7 ct_28_0
            replace ct_28_1 := cell_below hY7 ct_28_1
            replace ct_28_2 := cell_below hY7 ct_28_2
            replace ct_28_3 := cell_below hY7 ct_28_3
            replace ct_28_4 := cell_below hY7 ct_28_4
            clear hY7
            replace H := let_hid H
            obtain ⟨t_44, ht_44, H⟩ := H
            cases t_44 with
            | false =>
              replace H := ite_f H
              replace H := app_hid H
              go_wp2_with fail
              go_roundg m0
              case measure => omega
              case rel => exact ⟨k0 + 1, _, _, by omega, by go_num, rfl, rfl, H, HBY7⟩
            | true =>
              replace H := ite_t H
              replace H := idx_hid H
              obtain ⟨nt_47, yt_47, et_47, lt_47, gt_47, H⟩ := H
              obtain rfl : k0 = nt_47 := by omega
              clear et_47
              obtain rfl := Option.some.inj (gt_28.out.symm.trans gt_47.out)
              clear gt_47 lt_47
              replace H := unPaper_hid H
              replace H := app_hid H
              go_wp2_with fail
              go_roundg m0
              case measure => omega
              case rel => exact ⟨k0 + 1, _, _, by omega, by go_num, rfl, rfl, H, HBY7⟩
      | true =>
        have Hht_14 : Hid (list.length = 0) := Lib.hid (by have := eq_of_beq ht_14; omega)
        have nht_14 : (list.length == 0) = true := beq_iff_eq.2 Hht_14.out
        replace H := ite_t H
        cases ret_hid H
        go_wp2_with fail
        go_ret3
        exact ⟨rfl, HBwt_8.out⟩
end Go.Proofs.Ytdgbigkcophjoaa.GsNearestPaper

/- loop.example/g01062/impl.NearestPaper as a plain function, and the contract of the program's: where the plain one has an answer, the program has it. Conditions: slices read as lists. -/
namespace Go.Proofs.Ytdgbigkcophjoaa.GiNearestPaper
set_option linter.unusedVariables false
set_option linter.unusedSimpArgs false
open Go.RowKit
open Go.Proofs.Ytdgbigkcophjoaa.Rowed Go.Proofs.Ytdgbigkcophjoaa.Turn Go.Proofs.Ytdgbigkcophjoaa.Aid Go.Proofs.Ytdgbigkcophjoaa.GoP Go.Proofs.Ytdgbigkcophjoaa.GoM

def l0 (list : (List Go.Proofs.Ytdgbigkcophjoaa.PPaper.Paper)) (thick : Int) (k0 : Nat) (s : Int × Int) (nx0 bk0 : Int × Int → Option (Int × Int × Bool)) : Option (Int × Int × Bool) :=
  unp2 s fun id_7l0 least_8l0 =>
  Option.bind (idx list (k0 : Int)) fun (yt_25 : Go.Proofs.Ytdgbigkcophjoaa.PPaper.Paper) =>
  unPaper yt_25 fun (t_25_id : Int) (t_25_thick : Int) (t_25_tint : Int) (t_25_mark : ByteArray) (t_25_laid : Bool) =>
  letK (IntKind.i64.wrap (t_25_thick - thick)) fun (t_32 : Int) =>
  letK (IntKind.i64.wrap (thick - t_25_thick)) fun (t_36 : Int) =>
  letK (max t_32 t_36) fun (t_37 : Int) =>
  letK (decide (t_37 < least_8l0)) fun (t_41 : Bool) =>
  iteK t_41
  (appK nx0 (t_25_id, t_37))
  (appK nx0 (id_7l0, least_8l0))

def e0  (s : Int × Int) : Option (Int × Int × Bool) :=
  unp2 s fun id_7l0 least_8l0 =>
  some (id_7l0, least_8l0, true)

def P (list : (List Go.Proofs.Ytdgbigkcophjoaa.PPaper.Paper)) (thick : Int) : Option (Int × Int × Bool) :=
  letK ((list.length : Int) == 0) fun (t_5 : Bool) =>
  joinK (fun (t_10 : Bool) =>
  joinK (fun (t_15 : Bool) =>
  iteK t_15
  (some (0, 0, false))
  (cntK (l0 list thick) (list.length) 0 (0, 300) (e0 ))) fun jt_15 => iteK t_10 (appK jt_15 true) (Option.bind (Go.Proofs.Ytdgbigkcophjoaa.GiWithin.P thick 1 300) fun (t_13 : Bool) =>
  letK (!t_13) fun (t_14 : Bool) =>
  appK jt_15 t_14)) fun jt_10 => iteK t_5 (appK jt_10 true) (Option.bind (Go.Proofs.Ytdgbigkcophjoaa.GiArePapers.P list) fun (t_8 : Bool) =>
  letK (!t_8) fun (t_9 : Bool) =>
  appK jt_10 t_9)

set_option maxRecDepth 100000 in
set_option maxHeartbeats 2000000 in
theorem C (list : (List Go.Proofs.Ytdgbigkcophjoaa.PPaper.Paper)) (thick : Int) (A0 : Option Addr) (c0 : Nat)  (w : World) (M0 : Hid (Cells w 5 A0 list.length (Go.Proofs.Ytdgbigkcophjoaa.PPaper.flat list))) (N0 : Hid (list.length ≤ 9223372036854775807))  {r0 : Int} {r1 : Int} {r2 : Bool} (H : Hid (P list thick = some (r0, r1, r2))) :
    Calls Try.prog 40 #[.slice A0 list.length c0, .int .i64 thick] w (Gives (.tuple #[.int .i64 r0, .int .i64 r1, .bool r2]) w) := by
  have HB := Lib.hid (Below.refl w.heap.size w)
  unfold P at H
  have N0o := N0.out
  go_enter Try.func40, Try.ntmps40
  replace H := let_hid H
  obtain ⟨t_5, ht_5, H⟩ := H
  replace H := join_hid H
  cases t_5 with
  | false =>
    have nht_5 : ¬ (list.length = 0) := by have := ne_of_beq_false ht_5; omega
    replace H := ite_f H
    replace H := bind_hid H
    obtain ⟨t_8, qt_8, H⟩ := H
    go_wp2_with fail
    go_at_call 37
    refine (Go.Proofs.Ytdgbigkcophjoaa.GiArePapers.C (list) A0 c0 _   (Lib.hid (Cells.below M0.out HB.out)) N0 qt_8).mono ?_
    rintro e_t_8 wt_8 ⟨rfl, bt_8⟩
    have HBwt_8 := Lib.hid (Below.step HB.out bt_8)
    clear bt_8
    cases t_8 with
    | false =>
      replace H := let_hid H
      obtain ⟨t_9, ht_9, H⟩ := H
      obtain rfl : t_9 = true := ht_9.symm
      replace H := app_hid H
      replace H := join_hid H
      replace H := ite_t H
      replace H := app_hid H
      replace H := ite_t H
      cases ret_hid H
      go_wp2_with fail
      go_ret3
      exact ⟨rfl, HBwt_8.out⟩
    | true =>
      replace H := let_hid H
      obtain ⟨t_9, ht_9, H⟩ := H
      obtain rfl : t_9 = false := ht_9.symm
      replace H := app_hid H
      replace H := join_hid H
      replace H := ite_f H
      replace H := bind_hid H
      obtain ⟨t_13, qt_13, H⟩ := H
      go_wp2_with fail
      go_at_call 71
      refine (Go.Proofs.Ytdgbigkcophjoaa.GiWithin.C (thick) (1) (300)  _    qt_13).mono ?_
      rintro e_t_13 wt_13 ⟨rfl, bt_13⟩
      have HBwt_13 := Lib.hid (Below.step HBwt_8.out bt_13)
      clear bt_13
      cases t_13 with
      | false =>
        replace H := let_hid H
        obtain ⟨t_14, ht_14, H⟩ := H
        obtain rfl : t_14 = true := ht_14.symm
        replace H := app_hid H
        replace H := ite_t H
        cases ret_hid H
        go_wp2_with fail
        go_ret3
        exact ⟨rfl, HBwt_13.out⟩
      | true =>
        replace H := let_hid H
        obtain ⟨t_14, ht_14, H⟩ := H
        obtain rfl : t_14 = false := ht_14.symm
        replace H := app_hid H
        replace H := ite_f H
        go_wp2_with fail
        go_loopg [27, 7, 8] (list.length) (fun m_ v27_ v7_ v8_ wr => ∃ (k0 : Nat) (id_7l0 : Int) (least_8l0 : Int), k0 + m_ = list.length ∧ v27_ = .int .i64 (k0 : Int) ∧ v7_ = .int .i64 id_7l0 ∧ v8_ = .int .i64 least_8l0 ∧ Hid (cntK (l0 list thick) m_ k0 (id_7l0, least_8l0) (e0 ) = some (r0, r1, r2)) ∧ Hid (Below w.heap.size w wr))
        case atStart => exact ⟨0, _, _, by omega, rfl, rfl, rfl, H, HBwt_13⟩
        case round =>
          obtain ⟨k0, id_7l0, least_8l0, hkm0, rfl, rfl, rfl, H, HBwr0⟩ := hrel
          rename World => wr0
          cases gk with
          | zero =>
            obtain rfl : k0 = list.length := by omega
            have hc0 : decide (((list.length : Nat) : Int) < ((list.length : Nat) : Int)) = false := by simp
            replace H := cnt_zero H
            unfold e0 at H
            replace H := unp2_hid H
            cases ret_hid H
            go_wp2_with fail
            go_ret3
            exact ⟨rfl, HBwr0.out⟩
          | succ m0 =>
            have hlt0 : k0 < list.length := by omega
            have hc0 : decide ((k0 : Int) < ((list.length : Nat) : Int)) = true := by simp; omega
            replace H := cnt_succ H
            unfold l0 at H
            replace H := unp2_hid H
            replace H := idx_hid H
            obtain ⟨nt_25, yt_25, et_25, lt_25, gt_25, H⟩ := H
            obtain rfl : k0 = nt_25 := by omega
            clear et_25
            obtain ⟨t_25_id, t_25_thick, t_25_tint, t_25_mark, t_25_laid⟩ := yt_25
            replace H := unPaper_hid H
            obtain ⟨ab_t_25, ao_t_25, zt_25, At_25, z_t_25, ct_25_0, ct_25_1, ct_25_2, ct_25_3, ct_25_4⟩ := Go.Proofs.Ytdgbigkcophjoaa.OPaper.at_ M0.out lt_25
            obtain rfl := Option.some.inj (gt_25.out.symm.trans z_t_25)
            subst At_25
            have ltt_25 := cell_lt ct_25_0
            replace ct_25_0 := cell_below HBwr0.out ct_25_0
            replace ct_25_1 := cell_below HBwr0.out ct_25_1
            replace ct_25_2 := cell_below HBwr0.out ct_25_2
            replace ct_25_3 := cell_below HBwr0.out ct_25_3
            replace ct_25_4 := cell_below HBwr0.out ct_25_4
            clear z_t_25
            have b0t_25 : (0 : Int) ≤ (k0 : Int) := by omega
            have b1t_25 : (k0 : Int) < ((list.length : Nat) : Int) := by omega
            have b2t_25 : ((k0 : Int)).toNat = k0 := by omega
            obtain ⟨w_p_27, hw_p_27⟩ : ∃ x, wr0.alloc (.cells #[.int .i64 t_25_id, .int .i64 t_25_thick, .int .i64 t_25_tint, .string t_25_mark, .bool t_25_laid] 90) = x := ⟨_, rfl⟩
            have bw_p_27 : Below wr0.heap.size wr0 w_p_27 := by rw [← hw_p_27]; exact (Below.refl _ _).alloc (Nat.le_refl _) _
            have HBw_p_27 := Lib.hid (Below.step HBwr0.out bw_p_27)
            have ct_25_0__296 := cell_below bw_p_27 ct_25_0
            have ct_25_1__297 := cell_below bw_p_27 ct_25_1
            have ct_25_2__298 := cell_below bw_p_27 ct_25_2
            have ct_25_3__299 := cell_below bw_p_27 ct_25_3
            have ct_25_4__300 := cell_below bw_p_27 ct_25_4
            clear bw_p_27
            have kp_27_0 : w_p_27.cell? ⟨wr0.heap.size, 0, none⟩ = some (.int .i64 t_25_id) := by rw [← hw_p_27]; exact box_new _ _ _ 0 _ rfl
            have kp_27_1 : w_p_27.cell? ⟨wr0.heap.size, 1, none⟩ = some (.int .i64 t_25_thick) := by rw [← hw_p_27]; exact box_new _ _ _ 1 _ rfl
            have kp_27_2 : w_p_27.cell? ⟨wr0.heap.size, 2, none⟩ = some (.int .i64 t_25_tint) := by rw [← hw_p_27]; exact box_new _ _ _ 2 _ rfl
            have kp_27_3 : w_p_27.cell? ⟨wr0.heap.size, 3, none⟩ = some (.string t_25_mark) := by rw [← hw_p_27]; exact box_new _ _ _ 3 _ rfl
            have kp_27_4 : w_p_27.cell? ⟨wr0.heap.size, 4, none⟩ = some (.bool t_25_laid) := by rw [← hw_p_27]; exact box_new _ _ _ 4 _ rfl
            replace H := let_hid H
            obtain ⟨t_32, ht_32, H⟩ := H
            replace H := let_hid H
            obtain ⟨t_36, ht_36, H⟩ := H
            replace H := let_hid H
            obtain ⟨t_37, ht_37, H⟩ := H
            replace H := let_hid H
            obtain ⟨t_41, ht_41, H⟩ := H
            cases t_41 with
            | false =>
              replace H := ite_f H
              replace H := app_hid H
              go_wp2_with fail
              clear ct_25_0 ct_25_1 ct_25_2 ct_25_3 ct_25_4
              go_roundg m0
              case measure => omega
              case rel => exact ⟨k0 + 1, _, _, by omega, by go_num, rfl, rfl, H, HBw_p_27⟩
            | true =>
              replace H := ite_t H
              replace H := app_hid H
              go_wp2_with fail
              clear ct_25_0 ct_25_1 ct_25_2 ct_25_3 ct_25_4
              go_roundg m0
              case measure => omega
              case rel => exact ⟨k0 + 1, _, _, by omega, by go_num, rfl, rfl, H, HBw_p_27⟩
  | true =>
    have Hht_5 : Hid (list.length = 0) := Lib.hid (by have := eq_of_beq ht_5; omega)
    have nht_5 : (list.length == 0) = true := beq_iff_eq.2 Hht_5.out
    replace H := ite_t H
    replace H := app_hid H
    replace H := join_hid H
    replace H := ite_t H
    replace H := app_hid H
    replace H := ite_t H
    cases ret_hid H
    go_wp2_with fail
    go_ret3
    exact ⟨rfl, HB.out⟩
end Go.Proofs.Ytdgbigkcophjoaa.GiNearestPaper

/- loop.example/g01062/laws.FnExactNearestPaper as a plain function, and the contract of the program's: where the plain one has an answer, the program has it. Conditions: slices read as lists. -/
namespace Go.Proofs.Ytdgbigkcophjoaa.GlFnExactNearestPaper
set_option linter.unusedVariables false
set_option linter.unusedSimpArgs false
open Go.RowKit
open Go.Proofs.Ytdgbigkcophjoaa.Rowed Go.Proofs.Ytdgbigkcophjoaa.Turn Go.Proofs.Ytdgbigkcophjoaa.Aid Go.Proofs.Ytdgbigkcophjoaa.GoP Go.Proofs.Ytdgbigkcophjoaa.GoM

def P (aList : (List Go.Proofs.Ytdgbigkcophjoaa.PPaper.Paper)) (aThick : Int) : Option (Bool) :=
  Option.bind (Go.Proofs.Ytdgbigkcophjoaa.GlSzPaperS.P aList 1048576) fun (t_4 : Int) =>
  letK (decide (t_4 < 0)) fun (t_7 : Bool) =>
  iteK t_7
  (some true)
  (Option.bind (Go.Proofs.Ytdgbigkcophjoaa.GlToPaperS.P aList) fun (t_10 : (List Go.Proofs.Ytdgbigkcophjoaa.PPaper.Paper)) =>
  bind3 (Go.Proofs.Ytdgbigkcophjoaa.GsNearestPaper.P t_10 aThick) fun (t_12a : Int) (t_12b : Int) (t_12c : Bool) =>
  Option.bind (Go.Proofs.Ytdgbigkcophjoaa.GlToPaperS.P aList) fun (t_21 : (List Go.Proofs.Ytdgbigkcophjoaa.PPaper.Paper)) =>
  bind3 (Go.Proofs.Ytdgbigkcophjoaa.GiNearestPaper.P t_21 aThick) fun (t_25a : Int) (t_25b : Int) (t_25c : Bool) =>
  letK (t_25a != t_12a) fun (t_35 : Bool) =>
  joinK (fun (t_40 : Bool) =>
  joinK (fun (t_45 : Bool) =>
  iteK t_45
  (some false)
  (Option.bind (Go.Proofs.Ytdgbigkcophjoaa.GlToPaperS.P aList) fun (t_49 : (List Go.Proofs.Ytdgbigkcophjoaa.PPaper.Paper)) =>
  Option.bind (Go.Proofs.Ytdgbigkcophjoaa.GlEqPaperS.P t_21 t_49) fun (t_50 : Bool) =>
  letK (!t_50) fun (t_51 : Bool) =>
  iteK t_51
  (some false)
  (some true))) fun jt_45 => iteK t_40 (appK jt_45 true) (letK (!(t_25c == t_12c)) fun (t_44 : Bool) =>
  appK jt_45 t_44)) fun jt_40 => iteK t_35 (appK jt_40 true) (letK (t_25b != t_12b) fun (t_39 : Bool) =>
  appK jt_40 t_39))

set_option maxRecDepth 100000 in
set_option maxHeartbeats 2000000 in
theorem C (aList : (List Go.Proofs.Ytdgbigkcophjoaa.PPaper.Paper)) (aThick : Int) (A0 : Option Addr) (c0 : Nat)  (w : World) (M0 : Hid (Cells w 5 A0 aList.length (Go.Proofs.Ytdgbigkcophjoaa.PPaper.flat aList))) (N0 : Hid (aList.length ≤ 9223372036854775807))  {r : Bool} (H : Hid (P aList aThick = some r)) :
    Calls Try.prog 9 #[.slice A0 aList.length c0, .int .i64 aThick] w (Gives (.bool r) w) := by
  have HB := Lib.hid (Below.refl w.heap.size w)
  unfold P at H
  have N0o := N0.out
  go_enter Try.func9, Try.ntmps9
  replace H := bind_hid H
  obtain ⟨t_4, qt_4, H⟩ := H
  go_wp2_with fail
  go_at_call 34
  refine (Go.Proofs.Ytdgbigkcophjoaa.GlSzPaperS.C (aList) (1048576) A0 c0 _   (Lib.hid (Cells.below M0.out HB.out)) N0 qt_4).mono ?_
  rintro e_t_4 wt_4 ⟨rfl, bt_4⟩
  have HBwt_4 := Lib.hid (Below.step HB.out bt_4)
  clear bt_4
  replace H := let_hid H
  obtain ⟨t_7, ht_7, H⟩ := H
  cases t_7 with
  | false =>
    replace H := ite_f H
    replace H := bind_hid H
    obtain ⟨t_10, qt_10, H⟩ := H
    go_wp2_with fail
    go_at_call 36
    refine (Go.Proofs.Ytdgbigkcophjoaa.GlToPaperS.C (aList) A0 c0 _   (Lib.hid (Cells.below M0.out HBwt_4.out)) N0 qt_10).mono ?_
    rintro e_t_10 wt_10 ⟨At_10, ct_10, rfl, ot_10, bt_10⟩
    have Ot_10 := Lib.hid (own_lower ot_10 HBwt_4.out.size)
    clear ot_10
    have HBwt_10 := Lib.hid (Below.step HBwt_4.out bt_10)
    clear bt_10
    replace H := bind3_hid H
    obtain ⟨t_12a, t_12b, t_12c, qt_12, H⟩ := H
    go_wp2_with fail
    go_at_call 39
    refine (Go.Proofs.Ytdgbigkcophjoaa.GsNearestPaper.C (t_10) (aThick) At_10 ct_10 _   (Lib.hid (own_cells Ot_10.out)) (Lib.hid (own_max Ot_10.out)) qt_12).mono ?_
    rintro e_t_12 wt_12 ⟨rfl, bt_12⟩
    have HBwt_12 := Lib.hid (Below.step HBwt_10.out bt_12)
    replace Ot_10 := Lib.hid (own_below Ot_10.out bt_12)
    clear bt_12
    replace H := bind_hid H
    obtain ⟨t_21, qt_21, H⟩ := H
    go_wp2_with fail
    go_at_call 36
    refine (Go.Proofs.Ytdgbigkcophjoaa.GlToPaperS.C (aList) A0 c0 _   (Lib.hid (Cells.below M0.out HBwt_12.out)) N0 qt_21).mono ?_
    rintro e_t_21 wt_21 ⟨At_21, ct_21, rfl, ot_21, bt_21⟩
    have Dt_21_t_10 := Lib.hid (apart_call ot_21 Ot_10.out)
    have Ot_21 := Lib.hid (own_lower ot_21 HBwt_12.out.size)
    clear ot_21
    have HBwt_21 := Lib.hid (Below.step HBwt_12.out bt_21)
    replace Ot_10 := Lib.hid (own_below Ot_10.out bt_21)
    clear bt_21
    replace H := bind3_hid H
    obtain ⟨t_25a, t_25b, t_25c, qt_25, H⟩ := H
    go_wp2_with fail
    go_at_call 40
    refine (Go.Proofs.Ytdgbigkcophjoaa.GiNearestPaper.C (t_21) (aThick) At_21 ct_21 _   (Lib.hid (own_cells Ot_21.out)) (Lib.hid (own_max Ot_21.out)) qt_25).mono ?_
    rintro e_t_25 wt_25 ⟨rfl, bt_25⟩
    have HBwt_25 := Lib.hid (Below.step HBwt_21.out bt_25)
    replace Ot_10 := Lib.hid (own_below Ot_10.out bt_25)
    replace Ot_21 := Lib.hid (own_below Ot_21.out bt_25)
    clear bt_25
    replace H := let_hid H
    obtain ⟨t_35, ht_35, H⟩ := H
    replace H := join_hid H
    cases t_35 with
    | false =>
      replace H := ite_f H
      replace H := let_hid H
      obtain ⟨t_39, ht_39, H⟩ := H
      replace H := app_hid H
      replace H := join_hid H
      cases t_39 with
      | false =>
        replace H := ite_f H
        replace H := let_hid H
        obtain ⟨t_44, ht_44, H⟩ := H
        replace H := app_hid H
        cases t_44 with
        | false =>
          replace H := ite_f H
          replace H := bind_hid H
          obtain ⟨t_49, qt_49, H⟩ := H
          go_wp2_with fail
          go_at_call 36
          refine (Go.Proofs.Ytdgbigkcophjoaa.GlToPaperS.C (aList) A0 c0 _   (Lib.hid (Cells.below M0.out HBwt_25.out)) N0 qt_49).mono ?_
          rintro e_t_49 wt_49 ⟨At_49, ct_49, rfl, ot_49, bt_49⟩
          have Dt_49_t_10 := Lib.hid (apart_call ot_49 Ot_10.out)
          have Dt_49_t_21 := Lib.hid (apart_call ot_49 Ot_21.out)
          have Ot_49 := Lib.hid (own_lower ot_49 HBwt_25.out.size)
          clear ot_49
          have HBwt_49 := Lib.hid (Below.step HBwt_25.out bt_49)
          replace Ot_10 := Lib.hid (own_below Ot_10.out bt_49)
          replace Ot_21 := Lib.hid (own_below Ot_21.out bt_49)
          clear bt_49
          replace H := bind_hid H
          obtain ⟨t_50, qt_50, H⟩ := H
          go_wp2_with fail
          go_at_call 38
          refine (Go.Proofs.Ytdgbigkcophjoaa.GlEqPaperS.C (t_21) (t_49) At_21 ct_21 At_49 ct_49 _   (Lib.hid (own_cells Ot_21.out)) (Lib.hid (own_max Ot_21.out)) (Lib.hid (own_cells Ot_49.out)) (Lib.hid (own_max Ot_49.out)) qt_50).mono ?_
          rintro e_t_50 wt_50 ⟨rfl, bt_50⟩
          have HBwt_50 := Lib.hid (Below.step HBwt_49.out bt_50)
          replace Ot_10 := Lib.hid (own_below Ot_10.out bt_50)
          replace Ot_21 := Lib.hid (own_below Ot_21.out bt_50)
          replace Ot_49 := Lib.hid (own_below Ot_49.out bt_50)
          clear bt_50
          cases t_50 with
          | false =>
            replace H := let_hid H
            obtain ⟨t_51, ht_51, H⟩ := H
            obtain rfl : t_51 = true := ht_51.symm
            replace H := ite_t H
            obtain rfl := ret_hid H
            go_wp2_with fail
            go_ret
            exact ⟨rfl, HBwt_50.out⟩
          | true =>
            replace H := let_hid H
            obtain ⟨t_51, ht_51, H⟩ := H
            obtain rfl : t_51 = false := ht_51.symm
            replace H := ite_f H
            obtain rfl := ret_hid H
            go_wp2_with fail
            go_ret
            exact ⟨rfl, HBwt_50.out⟩
        | true =>
          replace H := ite_t H
          obtain rfl := ret_hid H
          go_wp2_with fail
          go_ret
          exact ⟨rfl, HBwt_25.out⟩
      | true =>
        replace H := ite_t H
        replace H := app_hid H
        replace H := ite_t H
        obtain rfl := ret_hid H
        go_wp2_with fail
        go_ret
        exact ⟨rfl, HBwt_25.out⟩
    | true =>
      replace H := ite_t H
      replace H := app_hid H
      replace H := join_hid H
      replace H := ite_t H
      replace H := app_hid H
      replace H := ite_t H
      obtain rfl := ret_hid H
      go_wp2_with fail
      go_ret
      exact ⟨rfl, HBwt_25.out⟩
  | true =>
    replace H := ite_t H
    obtain rfl := ret_hid H
    go_wp2_with fail
    go_ret
    exact ⟨rfl, HBwt_4.out⟩
end Go.Proofs.Ytdgbigkcophjoaa.GlFnExactNearestPaper

/- The laws of IsPaper, ArePapers and NearestPaper as plain functions: each answers true. Conditions: the fields fit. -/
namespace Go.Proofs.Ytdgbigkcophjoaa.QPaperLaws
set_option linter.unusedVariables false
set_option linter.unusedSimpArgs false
open Go.RowKit
open Go.Proofs.Ytdgbigkcophjoaa.GoP Go.Proofs.Ytdgbigkcophjoaa.PlainStamp Go.Proofs.Ytdgbigkcophjoaa.QBase Go.Proofs.Ytdgbigkcophjoaa.QLoop Go.Proofs.Ytdgbigkcophjoaa.PPaper Go.Proofs.Ytdgbigkcophjoaa.QOnePaper Go.Proofs.Ytdgbigkcophjoaa.QPaper

theorem law_arePapers (l : List Paper) (hf : ∀ s ∈ l, s.fits) (hl : l.length ≤ 9223372036854775807) : GlFnExactArePapers.P l = some true := by
  obtain ⟨v, hv, hn⟩ := szS l hf hl
  simp only [GlFnExactArePapers.P, hv, Option.bind_some, letK, iteK_if]
  by_cases hb : v < 0
  · rw [if_pos (by simp; omega)]
  · rw [if_neg (by simp; omega)]
    simp [toS l (hn (by omega)), GsArePapers.P, l3Good_eq l hf hl, arePapers_eq, eqS]

def nearStep (t : Int) (s : Int × Int) (p : Paper) : Int × Int := if max (p.thick - t) (t - p.thick) < s.2 then (p.id, max (p.thick - t) (t - p.thick)) else s
def nearRes (l : List Paper) (t : Int) : Int × Int × Bool :=
  if okPas l && inB t 1 300 && !decide (l.length = 0) then ((l.foldl (nearStep t) (0, 300)).1, (l.foldl (nearStep t) (0, 300)).2, true) else (0, 0, false)
theorem most_eq (a b : Int) : GsL1Most.P a b = some (max a b) := by
  simp only [GsL1Most.P, letK, iteK_if]
  by_cases h : b < a
  · rw [if_pos (by simpa using h)]; congr 1; omega
  · rw [if_neg (by simpa using h)]; congr 1; omega
theorem thick_in {l : List Paper} (h : okPas l = true) {s : Paper} (hs : s ∈ l) : 1 ≤ s.thick ∧ s.thick ≤ 300 := by
  have := upL_mem h hs
  unfold okPa at this
  simp only [Bool.and_eq_true] at this
  exact inB_of this.1.1.2
theorem near_impl (l : List Paper) (t : Int) (hz : l.length ≤ 9223372036854775807) : GiNearestPaper.P l t = some (nearRes l t) := by
  simp only [GiNearestPaper.P, arePapers_eq, within_eq, Option.bind_some, letK, joinK, appK, iteK_if, nearRes]
  by_cases h0 : l.length = 0
  · simp [h0]
  · cases hok : okPas l with
    | false => simp [h0]
    | true =>
      cases ht : inB t 1 300 with
      | false => simp [h0]
      | true =>
        have hb := inB_of ht
        simp [h0]
        refine cnt_is _ (fun k s => s = (l.take k).foldl (nearStep t) (0, 300)) ?_ ?_ _ (by simp)
        · intro k s nx hk hI hn
          obtain ⟨x, hx, hi⟩ := at_lt (l := l) (k := k) hk
          obtain ⟨s1, s2⟩ := s
          have hti := thick_in hok (List.mem_of_getElem? hx)
          have hne := hn (nearStep t (s1, s2) x) (by rw [take_next hx, List.foldl_append, ← hI]; rfl)
          simp only [GiNearestPaper.l0, unp2, hi, Option.bind_some, unPaper, letK, appK, iteK_if]
          rw [wrap_in (by omega) (by omega), wrap_in (by omega) (by omega)]
          have he : nearStep t (s1, s2) x = if max (x.thick - t) (t - x.thick) < s2 then (x.id, max (x.thick - t) (t - x.thick)) else (s1, s2) := rfl
          rw [he] at hne
          by_cases hlt : max (x.thick - t) (t - x.thick) < s2
          · rw [if_pos hlt] at hne; simpa [hlt] using hne
          · rw [if_neg hlt] at hne; simpa [hlt] using hne
        · intro s hI
          rw [List.take_of_length_le (Nat.le_refl _)] at hI
          subst hI; rfl
theorem fold_same {l : List Paper} {t : Int} (hok : okPas l = true) (ht : 1 ≤ t ∧ t ≤ 300) (h0 : l.length ≠ 0) : l.foldl (nearStep t) (0, 301) = l.foldl (nearStep t) (0, 300) := by
  cases l with
  | nil => simp at h0
  | cons x l =>
    have hx := thick_in hok (s := x) (by simp)
    have e : nearStep t (0, 301) x = nearStep t (0, 300) x := by
      unfold nearStep
      rw [if_pos (by dsimp only; omega), if_pos (by dsimp only; omega)]
    simp only [List.foldl_cons, e]
theorem near_spec (l : List Paper) (t : Int) (hf : ∀ s ∈ l, s.fits) (hz : l.length ≤ 9223372036854775807) : GsNearestPaper.P l t = some (nearRes l t) := by
  simp only [GsNearestPaper.P, l3Good_eq l hf hz, l1In_eq, Option.bind_some, letK, joinK, appK, iteK_if, nearRes]
  cases hok : okPas l with
  | false => simp
  | true =>
    cases ht : inB t 1 300 with
    | false => simp
    | true =>
      have hb := inB_of ht
      by_cases h0 : l.length = 0
      · simp [h0]
      · simp [h0]
        rw [← fold_same hok hb h0]
        refine cnt_is _ (fun k s => s = (l.take k).foldl (nearStep t) (0, 301)) ?_ ?_ _ (by simp)
        · intro k s nx hk hI hn
          obtain ⟨x, hx, hi⟩ := at_lt (l := l) (k := k) hk
          obtain ⟨s1, s2⟩ := s
          have hti := thick_in hok (List.mem_of_getElem? hx)
          have hne := hn (nearStep t (s1, s2) x) (by rw [take_next hx, List.foldl_append, ← hI]; rfl)
          simp only [GsNearestPaper.l0, unp2, hi, Option.bind_some, unPaper, letK, appK, iteK_if, most_eq]
          rw [wrap_in (by omega) (by omega), wrap_in (by omega) (by omega)]
          have he : nearStep t (s1, s2) x = if max (x.thick - t) (t - x.thick) < s2 then (x.id, max (x.thick - t) (t - x.thick)) else (s1, s2) := rfl
          rw [he] at hne
          by_cases hlt : max (x.thick - t) (t - x.thick) < s2
          · rw [if_pos hlt] at hne; simpa [hlt] using hne
          · rw [if_neg hlt] at hne; simpa [hlt] using hne
        · intro s hI
          rw [List.take_of_length_le (Nat.le_refl _)] at hI
          subst hI; rfl
theorem law_near (l : List Paper) (t : Int) (hf : ∀ s ∈ l, s.fits) (hl : l.length ≤ 9223372036854775807) : GlFnExactNearestPaper.P l t = some true := by
  obtain ⟨v, hv, hn⟩ := szS l hf hl
  simp only [GlFnExactNearestPaper.P, hv, Option.bind_some, letK, iteK_if]
  by_cases hb : v < 0
  · rw [if_pos (by simp; omega)]
  · rw [if_neg (by simp; omega)]
    obtain ⟨⟨a, b, c⟩, hr⟩ : ∃ x, x = nearRes l t := ⟨_, rfl⟩
    simp [toS l (hn (by omega)), near_spec l t hf hl, near_impl l t hl, ← hr, bind3, joinK, appK, iteK_if, eqS]
end Go.Proofs.Ytdgbigkcophjoaa.QPaperLaws

/- The laws' helpers on slices of ints as plain functions: equal, marked, held. Condition: at most 2^40 numbers. -/
namespace Go.Proofs.Ytdgbigkcophjoaa.QInt
set_option linter.unusedVariables false
set_option linter.unusedSimpArgs false
open Go.RowKit
open Go.Proofs.Ytdgbigkcophjoaa.GoP Go.Proofs.Ytdgbigkcophjoaa.QBase Go.Proofs.Ytdgbigkcophjoaa.QLoop

theorem eqI (l : List Int) : GlEqIntS.P l l = some true := by
  simp only [GlEqIntS.P, letK, iteK_if]
  rw [if_neg (by simp)]
  refine cnt_is true (fun _ _ => True) ?_ (fun s _ => rfl) () trivial
  intro k s nx hk _ hn
  obtain ⟨x, hx, hi⟩ := at_lt (l := l) (k := k) hk
  simp only [GlEqIntS.l0, hi, Option.bind_some, letK, appK, iteK_if]
  rw [if_neg (by simp)]
  exact hn () trivial
/-- 1, 2, 3 .. -/
def ups (n : Nat) : List Int := (List.range n).map (fun i : Nat => (i : Int) + 1)
theorem ups_at {n k : Nat} (h : k < n) : (ups n)[k]? = some ((k : Int) + 1) := by unfold ups; simp [h]
theorem ups_len (n : Nat) : (ups n).length = n := by simp [ups]
theorem markI (l : List Int) (hl : l.length ≤ 1099511627776) : GlMarkIntS.P l 1 = some ((l.length : Int) + 1, ups l.length) := by
  simp only [GlMarkIntS.P]
  refine cnt_is _ (fun k s => s.1.length = l.length ∧ s.2 = (k : Int) + 1 ∧ ∀ i, i < k → s.1[i]? = some ((i : Int) + 1)) ?_ ?_ (l, 1) ⟨rfl, rfl, fun i hi => by omega⟩
  · rintro k ⟨a, b⟩ nx hk ⟨h1, h2, h3⟩ hn
    dsimp only at h1 h2 h3
    obtain ⟨x, hx, hi⟩ := at_lt (l := a) (k := k) (by omega)
    simp only [GlMarkIntS.l0, unp2, hi, Option.bind_some, letK, appK]
    rw [wrap_in (by omega) (by omega)]
    refine hn _ ⟨by simpa using h1, by dsimp only; omega, fun i hi2 => ?_⟩
    dsimp only
    by_cases he : i = k
    · subst he; rw [List.getElem?_set_self (by omega), h2]
    · rw [List.getElem?_set_ne (by omega)]; exact h3 i (by omega)
  · rintro ⟨a, b⟩ ⟨h1, h2, h3⟩
    dsimp only at h1 h2 h3
    have : a = ups l.length := by
      apply List.ext_getElem?
      intro i
      by_cases hi : i < l.length
      · rw [h3 i hi, ups_at hi]
      · rw [List.getElem?_eq_none (by omega), List.getElem?_eq_none (by rw [ups_len]; omega)]
    simp only [GlMarkIntS.e0, unp2]
    rw [this, h2]
theorem heldI (n : Nat) (hl : n ≤ 1099511627776) : GlHeldIntS.P (ups n) 1 = some ((n : Int) + 1) := by
  simp only [GlHeldIntS.P]
  refine cnt_is _ (fun k s => s = (k : Int) + 1) ?_ ?_ 1 rfl
  · intro k s nx hk hI hn
    rw [ups_len] at hk
    have hi : idx (ups n) (k : Int) = some ((k : Int) + 1) := by rw [idx_nat, ups_at hk]
    simp only [GlHeldIntS.l0, hi, Option.bind_some, letK, appK, iteK_if]
    rw [if_neg (by simp [hI]), wrap_in (by omega) (by omega)]
    exact hn _ (by omega)
  · intro s hI
    simp only [GlHeldIntS.e0, letK]
    rw [hI, ups_len]
/-- a loop that gathers -/
theorem gather {α β R : Type} {l : List α} {p : α → Bool} {g : α → β} {f : Nat → List β → (List β → Option R) → (List β → Option R) → Option R} {fin : List β → Option R} (hl : l.length ≤ 1099511627776)
    (step : ∀ k nx x s, l[k]? = some x → s.length ≤ 1099511627776 → f k s nx fin = nx (if p x then s ++ [g x] else s)) : cntK f l.length 0 [] fin = fin ((l.filter p).map g) := by
  have key : ∀ m k, k + m = l.length → cntK f m k (((l.take k).filter p).map g) fin = fin ((l.filter p).map g) := by
    intro m
    induction m with
    | zero => intro k hk; obtain rfl : k = l.length := by omega
              rw [List.take_of_length_le (Nat.le_refl _)]; rfl
    | succ m ih =>
      intro k hk
      obtain ⟨x, hx, _⟩ := at_lt (l := l) (k := k) (by omega)
      show f k _ _ fin = _
      have hle : (((l.take k).filter p).map g).length ≤ 1099511627776 := by
        rw [List.length_map]
        have := List.length_filter_le p (l.take k)
        rw [List.length_take] at this
        omega
      rw [step k _ x _ hx hle, ← ih (k + 1) (by omega), take_next hx, List.filter_append, List.map_append]
      cases hp : p x <;> simp [List.filter, hp]
  exact key l.length 0 (by omega)
end Go.Proofs.Ytdgbigkcophjoaa.QInt

/- loop.example/g01062/spec.MatchPapers as a plain function, and the contract of the program's: where the plain one has an answer, the program has it. Conditions: slices read as lists. -/
namespace Go.Proofs.Ytdgbigkcophjoaa.GsMatchPapers
set_option linter.unusedVariables false
set_option linter.unusedSimpArgs false
open Go.RowKit
open Go.Proofs.Ytdgbigkcophjoaa.Rowed Go.Proofs.Ytdgbigkcophjoaa.Turn Go.Proofs.Ytdgbigkcophjoaa.Aid Go.Proofs.Ytdgbigkcophjoaa.GoP Go.Proofs.Ytdgbigkcophjoaa.GoM

def l0 (list : (List Go.Proofs.Ytdgbigkcophjoaa.PPaper.Paper)) (thick : Int) (off : Int) (tint : Int) (k0 : Nat) (s : (List Int)) (nx0 bk0 : (List Int) → Option ((List Int) × Bool)) : Option ((List Int) × Bool) :=
  letK s fun out_10l0 =>
  Option.bind (idx list (k0 : Int)) fun (yt_32 : Go.Proofs.Ytdgbigkcophjoaa.PPaper.Paper) =>
  unPaper yt_32 fun (t_32_id : Int) (t_32_thick : Int) (t_32_tint : Int) (t_32_mark : ByteArray) (t_32_laid : Bool) =>
  letK (IntKind.i64.wrap (thick - off)) fun (t_37 : Int) =>
  letK (IntKind.i64.wrap (thick + off)) fun (t_40 : Int) =>
  Option.bind (Go.Proofs.Ytdgbigkcophjoaa.GsL1In.P t_32_thick t_37 t_40) fun (t_41 : Bool) =>
  joinK (fun (t_54 : Bool) =>
  iteK t_54
  (Option.bind (idx list (k0 : Int)) fun (yt_58 : Go.Proofs.Ytdgbigkcophjoaa.PPaper.Paper) =>
  unPaper yt_58 fun (t_58_id : Int) (t_58_thick : Int) (t_58_tint : Int) (t_58_mark : ByteArray) (t_58_laid : Bool) =>
  guardK (out_10l0.length ≤ 1099511627776) <|
  letK (out_10l0 ++ [t_58_id]) fun (t_62 : (List Int)) =>
  appK nx0 (t_62))
  (appK nx0 (out_10l0))) fun jt_54 => iteK t_41 (letK (tint == (-1)) fun (t_44 : Bool) =>
  joinK (fun (t_53 : Bool) =>
  appK jt_54 t_53) fun jt_53 => iteK t_44 (appK jt_53 true) (Option.bind (idx list (k0 : Int)) fun (yt_49 : Go.Proofs.Ytdgbigkcophjoaa.PPaper.Paper) =>
  unPaper yt_49 fun (t_49_id : Int) (t_49_thick : Int) (t_49_tint : Int) (t_49_mark : ByteArray) (t_49_laid : Bool) =>
  letK (tint == t_49_tint) fun (t_52 : Bool) =>
  appK jt_53 t_52)) (appK jt_54 false)

def e0  (s : (List Int)) : Option ((List Int) × Bool) :=
  letK s fun out_10l0 =>
  some (out_10l0, true)

def P (list : (List Go.Proofs.Ytdgbigkcophjoaa.PPaper.Paper)) (thick : Int) (off : Int) (tint : Int) : Option ((List Int) × Bool) :=
  Option.bind (Go.Proofs.Ytdgbigkcophjoaa.GsL3Good.P list) fun (t_5 : Bool) =>
  letK (!t_5) fun (t_6 : Bool) =>
  joinK (fun (t_11 : Bool) =>
  joinK (fun (t_16 : Bool) =>
  joinK (fun (t_21 : Bool) =>
  iteK t_21
  (some (([] : List Int), false))
  (cntK (l0 list thick off tint) (list.length) 0 (([] : List Int)) (e0 ))) fun jt_21 => iteK t_16 (appK jt_21 true) (Option.bind (Go.Proofs.Ytdgbigkcophjoaa.GsL1In.P tint (-1) 9) fun (t_19 : Bool) =>
  letK (!t_19) fun (t_20 : Bool) =>
  appK jt_21 t_20)) fun jt_16 => iteK t_11 (appK jt_16 true) (Option.bind (Go.Proofs.Ytdgbigkcophjoaa.GsL1In.P off 0 50) fun (t_14 : Bool) =>
  letK (!t_14) fun (t_15 : Bool) =>
  appK jt_16 t_15)) fun jt_11 => iteK t_6 (appK jt_11 true) (Option.bind (Go.Proofs.Ytdgbigkcophjoaa.GsL1In.P thick 1 300) fun (t_9 : Bool) =>
  letK (!t_9) fun (t_10 : Bool) =>
  appK jt_11 t_10)

set_option maxRecDepth 100000 in
set_option maxHeartbeats 2000000 in
theorem C (list : (List Go.Proofs.Ytdgbigkcophjoaa.PPaper.Paper)) (thick : Int) (off : Int) (tint : Int) (A0 : Option Addr) (c0 : Nat)  (w : World) (M0 : Hid (Cells w 5 A0 list.length (Go.Proofs.Ytdgbigkcophjoaa.PPaper.flat list))) (N0 : Hid (list.length ≤ 9223372036854775807))  {r0 : (List Int)} {r1 : Bool} (H : Hid (P list thick off tint = some (r0, r1))) :
    Calls Try.prog 41 #[.slice A0 list.length c0, .int .i64 thick, .int .i64 off, .int .i64 tint] w (fun e w' => ∃ A_r0 c_r0, e = .returned (.tuple #[.slice A_r0 r0.length c_r0, .bool r1]) ∧ w'.ownsRow w.heap.size 3 1 (.slice A_r0 r0.length c_r0) r0.length (Go.Proofs.Ytdgbigkcophjoaa.HelpInt.iv r0) ∧ Below w.heap.size w w') := by
  have HB := Lib.hid (Below.refl w.heap.size w)
  unfold P at H
  have N0o := N0.out
  obtain ⟨i0_3, hi_3, hz0_3, hz1_3, hz2_3⟩ := Aid.info_parts (P := Try.prog) (T := 3) (z := .int .i64 0) (s := 1) (b := 8) (by kernel_rfl)
  go_enter Try.func41, Try.ntmps41
  obtain ⟨w_t_2, hw_t_2⟩ : ∃ x, w.alloc (.cells #[] 3) = x := ⟨_, rfl⟩
  have bw_t_2 : Below w.heap.size w w_t_2 := by rw [← hw_t_2]; exact (Below.refl _ _).alloc (Nat.le_refl _) _
  have Ot_2 : Hid (w_t_2.ownsRow w.heap.size 3 1 (.slice (some ⟨w.heap.size, 0, none⟩) 0 0) 0 []) := Lib.hid (by rw [← hw_t_2]; exact own_empty HB.out.size)
  have HBw_t_2 := Lib.hid (Below.step HB.out bw_t_2)
  clear bw_t_2
  replace H := bind_hid H
  obtain ⟨t_5, qt_5, H⟩ := H
  go_wp2_with fail
  go_at_call 77
  refine (Go.Proofs.Ytdgbigkcophjoaa.GsL3Good.C (list) A0 c0 _   (Lib.hid (Cells.below M0.out HBw_t_2.out)) N0 qt_5).mono ?_
  rintro e_t_5 wt_5 ⟨rfl, bt_5⟩
  have HBwt_5 := Lib.hid (Below.step HBw_t_2.out bt_5)
  replace Ot_2 := Lib.hid (own_below Ot_2.out bt_5)
  clear bt_5
  cases t_5 with
  | false =>
    replace H := let_hid H
    obtain ⟨t_6, ht_6, H⟩ := H
    obtain rfl : t_6 = true := ht_6.symm
    replace H := join_hid H
    replace H := ite_t H
    replace H := app_hid H
    replace H := join_hid H
    replace H := ite_t H
    replace H := app_hid H
    replace H := join_hid H
    replace H := ite_t H
    replace H := app_hid H
    replace H := ite_t H
    cases ret_hid H
    go_wp2_with fail
    go_ret2
    exact ⟨(some ⟨w.heap.size, 0, none⟩), 0, rfl, Ot_2.out, HBwt_5.out⟩
  | true =>
    replace H := let_hid H
    obtain ⟨t_6, ht_6, H⟩ := H
    obtain rfl : t_6 = false := ht_6.symm
    replace H := join_hid H
    replace H := ite_f H
    replace H := bind_hid H
    obtain ⟨t_9, qt_9, H⟩ := H
    go_wp2_with fail
    go_at_call 67
    refine (Go.Proofs.Ytdgbigkcophjoaa.GsL1In.C (thick) (1) (300)  _    qt_9).mono ?_
    rintro e_t_9 wt_9 ⟨rfl, bt_9⟩
    have HBwt_9 := Lib.hid (Below.step HBwt_5.out bt_9)
    replace Ot_2 := Lib.hid (own_below Ot_2.out bt_9)
    clear bt_9
    cases t_9 with
    | false =>
      replace H := let_hid H
      obtain ⟨t_10, ht_10, H⟩ := H
      obtain rfl : t_10 = true := ht_10.symm
      replace H := app_hid H
      replace H := join_hid H
      replace H := ite_t H
      replace H := app_hid H
      replace H := join_hid H
      replace H := ite_t H
      replace H := app_hid H
      replace H := ite_t H
      cases ret_hid H
      go_wp2_with fail
      go_ret2
      exact ⟨(some ⟨w.heap.size, 0, none⟩), 0, rfl, Ot_2.out, HBwt_9.out⟩
    | true =>
      replace H := let_hid H
      obtain ⟨t_10, ht_10, H⟩ := H
      obtain rfl : t_10 = false := ht_10.symm
      replace H := app_hid H
      replace H := join_hid H
      replace H := ite_f H
      replace H := bind_hid H
      obtain ⟨t_14, qt_14, H⟩ := H
      go_wp2_with fail
      go_at_call 67
      refine (Go.Proofs.Ytdgbigkcophjoaa.GsL1In.C (off) (0) (50)  _    qt_14).mono ?_
      rintro e_t_14 wt_14 ⟨rfl, bt_14⟩
      have HBwt_14 := Lib.hid (Below.step HBwt_9.out bt_14)
      replace Ot_2 := Lib.hid (own_below Ot_2.out bt_14)
      clear bt_14
      cases t_14 with
      | false =>
        replace H := let_hid H
        obtain ⟨t_15, ht_15, H⟩ := H
        obtain rfl : t_15 = true := ht_15.symm
        replace H := app_hid H
        replace H := join_hid H
        replace H := ite_t H
        replace H := app_hid H
        replace H := ite_t H
        cases ret_hid H
        go_wp2_with fail
        go_ret2
        exact ⟨(some ⟨w.heap.size, 0, none⟩), 0, rfl, Ot_2.out, HBwt_14.out⟩
      | true =>
        replace H := let_hid H
        obtain ⟨t_15, ht_15, H⟩ := H
        obtain rfl : t_15 = false := ht_15.symm
        replace H := app_hid H
        replace H := join_hid H
        replace H := ite_f H
        replace H := bind_hid H
        obtain ⟨t_19, qt_19, H⟩ := H
        go_wp2_with fail
        go_at_call 67
        refine (Go.Proofs.Ytdgbigkcophjoaa.GsL1In.C (tint) ((-1)) (9)  _    qt_19).mono ?_
        rintro e_t_19 wt_19 ⟨rfl, bt_19⟩
        have HBwt_19 := Lib.hid (Below.step HBwt_14.out bt_19)
        replace Ot_2 := Lib.hid (own_below Ot_2.out bt_19)
        clear bt_19
        cases t_19 with
        | false =>
          replace H := let_hid H
          obtain ⟨t_20, ht_20, H⟩ := H
          obtain rfl : t_20 = true := ht_20.symm
          replace H := app_hid H
          replace H := ite_t H
          cases ret_hid H
          go_wp2_with fail
          go_ret2
          exact ⟨(some ⟨w.heap.size, 0, none⟩), 0, rfl, Ot_2.out, HBwt_19.out⟩
        | true =>
          replace H := let_hid H
          obtain ⟨t_20, ht_20, H⟩ := H
          obtain rfl : t_20 = false := ht_20.symm
          replace H := app_hid H
          replace H := ite_f H
          go_wp2_with fail
          go_loopg [11, 10] (list.length) (fun m_ v11_ v10_ wr => ∃ (k0 : Nat) (out_10l0 : (List Int)) (Aout_10l0 : Option Addr) (cout_10l0 : Nat), k0 + m_ = list.length ∧ v11_ = .int .i64 (k0 : Int) ∧ v10_ = .slice Aout_10l0 out_10l0.length cout_10l0 ∧ Hid (cntK (l0 list thick off tint) m_ k0 (out_10l0) (e0 ) = some (r0, r1)) ∧ Hid (Below w.heap.size w wr) ∧ Hid (wr.ownsRow w.heap.size 3 1 (.slice Aout_10l0 out_10l0.length cout_10l0) out_10l0.length (Go.Proofs.Ytdgbigkcophjoaa.HelpInt.iv out_10l0)))
          case atStart => exact ⟨0, _, _, _, by omega, rfl, rfl, H, HBwt_19, Ot_2⟩
          case round =>
            obtain ⟨k0, out_10l0, Aout_10l0, cout_10l0, hkm0, rfl, rfl, H, HBwr0, Oout_10l0⟩ := hrel
            rename World => wr0
            cases gk with
            | zero =>
              obtain rfl : k0 = list.length := by omega
              have hc0 : decide (((list.length : Nat) : Int) < ((list.length : Nat) : Int)) = false := by simp
              replace H := cnt_zero H
              unfold e0 at H
              replace H := let_hid H
              obtain ⟨_, rfl, H⟩ := H
              cases ret_hid H
              go_wp2_with fail
              go_ret2
              exact ⟨Aout_10l0, cout_10l0, rfl, Oout_10l0.out, HBwr0.out⟩
            | succ m0 =>
              have hlt0 : k0 < list.length := by omega
              have hc0 : decide ((k0 : Int) < ((list.length : Nat) : Int)) = true := by simp; omega
              replace H := cnt_succ H
              unfold l0 at H
              replace H := let_hid H
              obtain ⟨_, rfl, H⟩ := H
              replace H := idx_hid H
              obtain ⟨nt_32, yt_32, et_32, lt_32, gt_32, H⟩ := H
              obtain rfl : k0 = nt_32 := by omega
              clear et_32
              obtain ⟨t_32_id, t_32_thick, t_32_tint, t_32_mark, t_32_laid⟩ := yt_32
              replace H := unPaper_hid H
              obtain ⟨ab_t_32, ao_t_32, zt_32, At_32, z_t_32, ct_32_0, ct_32_1, ct_32_2, ct_32_3, ct_32_4⟩ := Go.Proofs.Ytdgbigkcophjoaa.OPaper.at_ M0.out lt_32
              obtain rfl := Option.some.inj (gt_32.out.symm.trans z_t_32)
              subst At_32
              have ltt_32 := cell_lt ct_32_0
              replace ct_32_0 := cell_below HBwr0.out ct_32_0
              replace ct_32_1 := cell_below HBwr0.out ct_32_1
              replace ct_32_2 := cell_below HBwr0.out ct_32_2
              replace ct_32_3 := cell_below HBwr0.out ct_32_3
              replace ct_32_4 := cell_below HBwr0.out ct_32_4
              clear z_t_32
              have b0t_32 : (0 : Int) ≤ (k0 : Int) := by omega
              have b1t_32 : (k0 : Int) < ((list.length : Nat) : Int) := by omega
              have b2t_32 : ((k0 : Int)).toNat = k0 := by omega
              replace H := let_hid H
              obtain ⟨t_37, ht_37, H⟩ := H
              replace H := let_hid H
              obtain ⟨t_40, ht_40, H⟩ := H
              replace H := bind_hid H
              obtain ⟨t_41, qt_41, H⟩ := H
              go_wp2_with fail
              go_at_call 67
              refine (Go.Proofs.Ytdgbigkcophjoaa.GsL1In.C (t_32_thick) (t_37) (t_40)  _    qt_41).mono ?_
              rintro e_t_41 wt_41 ⟨rfl, bt_41⟩
              have HBwt_41 := Lib.hid (Below.step HBwr0.out bt_41)
              replace ct_32_0 := cell_below bt_41 ct_32_0
              replace ct_32_1 := cell_below bt_41 ct_32_1
              replace ct_32_2 := cell_below bt_41 ct_32_2
              replace ct_32_3 := cell_below bt_41 ct_32_3
              replace ct_32_4 := cell_below bt_41 ct_32_4
              replace Oout_10l0 := Lib.hid (own_below Oout_10l0.out bt_41)
              clear bt_41
              replace H := join_hid H
              cases t_41 with
              | false =>
                replace H := ite_f H
                replace H := app_hid H
                replace H := ite_f H
                replace H := app_hid H
                go_wp2_with fail
                go_roundg m0
                case measure => omega
                case rel => exact ⟨k0 + 1, _, _, _, by omega, by go_num, rfl, H, HBwt_41, Oout_10l0⟩
              | true =>
                replace H := ite_t H
                replace H := let_hid H
                obtain ⟨t_44, ht_44, H⟩ := H
                replace H := join_hid H
                cases t_44 with
                | false =>
                  replace H := ite_f H
                  replace H := idx_hid H
                  obtain ⟨nt_49, yt_49, et_49, lt_49, gt_49, H⟩ := H
                  obtain rfl : k0 = nt_49 := by omega
                  clear et_49
                  obtain rfl := Option.some.inj (gt_32.out.symm.trans gt_49.out)
                  clear gt_49 lt_49
                  replace H := unPaper_hid H
                  replace H := let_hid H
                  obtain ⟨t_52, ht_52, H⟩ := H
                  replace H := app_hid H
                  replace H := app_hid H
                  cases t_52 with
                  | false =>
                    replace H := ite_f H
                    replace H := app_hid H
                    go_wp2_with fail
                    go_roundg m0
                    case measure => omega
                    case rel => exact ⟨k0 + 1, _, _, _, by omega, by go_num, rfl, H, HBwt_41, Oout_10l0⟩
                  | true =>
                    replace H := ite_t H
                    replace H := idx_hid H
                    obtain ⟨nt_58, yt_58, et_58, lt_58, gt_58, H⟩ := H
                    obtain rfl : k0 = nt_58 := by omega
                    clear et_58
                    obtain rfl := Option.some.inj (gt_32.out.symm.trans gt_58.out)
                    clear gt_58 lt_58
                    replace H := unPaper_hid H
                    obtain ⟨w_t_61, hw_t_61⟩ : ∃ x, wt_41.alloc (.cells #[.int .i64 t_32_id] 3) = x := ⟨_, rfl⟩
                    have bw_t_61 : Below wt_41.heap.size wt_41 w_t_61 := by rw [← hw_t_61]; exact (Below.refl _ _).alloc (Nat.le_refl _) _
                    have HBw_t_61 := Lib.hid (Below.step HBwt_41.out bw_t_61)
                    have ct_32_0__301 := cell_below bw_t_61 ct_32_0
                    have ct_32_1__302 := cell_below bw_t_61 ct_32_1
                    have ct_32_2__303 := cell_below bw_t_61 ct_32_2
                    have ct_32_3__304 := cell_below bw_t_61 ct_32_3
                    have ct_32_4__305 := cell_below bw_t_61 ct_32_4
                    replace Oout_10l0 := Lib.hid (own_below Oout_10l0.out bw_t_61)
                    clear bw_t_61
                    replace H := guard_hid H
                    obtain ⟨hlt_62, H⟩ := H
                    replace H := let_hid H
                    obtain ⟨t_62, ht_62, H⟩ := H
                    have hht_62 := Lib.hid ht_62
                    clear ht_62
                    have hst_62 := HBw_t_61.out.size
                    go_wp2_with (at_builtin; refine wpList_append_own_at _ rfl _ _ 29 rfl w.heap.size 3 i0_3 (.int .i64 0) 1 8 Try.underlying29 hi_3 hz0_3 hz1_3 hz2_3 rfl (by decide) _ _ _ rfl Oout_10l0.out ⟨wt_41.heap.size, 0, none⟩ 1 1 [.int .i64 t_32_id] rfl rfl (news_new hw_t_61) (one_cells rfl) (by unfold maxLen; omega) (by omega) hst_62 ?_; intro vt_62 wt_62 ot_62 gt_62 zt_62 yt_62; clear zt_62; obtain ⟨qt_62, ct_62, rfl, pt_62⟩ := own_push hht_62.out (Go.Proofs.Ytdgbigkcophjoaa.HelpInt.iv_snoc _ _) rfl ot_62; have Pt_62 := Lib.hid pt_62; have Yt_62 := Lib.hid yt_62; have Gt_62 := Lib.hid gt_62; clear ot_62 gt_62 pt_62 yt_62; refine stop_in ?_)
                    refine stop_out ?_
                    have HBwt_62 := Lib.hid (HBw_t_61.out.grown Gt_62.out hst_62 (fun q hq => (Oout_10l0.out.lt q hq).1))
                    clear hst_62
                    replace ct_32_0__301 := cell_other ct_32_0__301 Gt_62.out (apart_old Oout_10l0.out ltt_32)
                    replace ct_32_1__302 := cell_other ct_32_1__302 Gt_62.out (apart_old Oout_10l0.out ltt_32)
                    replace ct_32_2__303 := cell_other ct_32_2__303 Gt_62.out (apart_old Oout_10l0.out ltt_32)
                    replace ct_32_3__304 := cell_other ct_32_3__304 Gt_62.out (apart_old Oout_10l0.out ltt_32)
                    replace ct_32_4__305 := cell_other ct_32_4__305 Gt_62.out (apart_old Oout_10l0.out ltt_32)
                    clear ct_32_0 ct_32_1 ct_32_2 ct_32_3 ct_32_4
                    clear Oout_10l0 Yt_62 Gt_62
                    replace H := app_hid H
                    go_wp2_with fail
                    go_roundg m0
                    case measure => omega
                    case rel => exact ⟨k0 + 1, _, _, _, by omega, by go_num, rfl, H, HBwt_62, Pt_62⟩
                | true =>
                  replace H := ite_t H
                  replace H := app_hid H
                  replace H := app_hid H
                  replace H := ite_t H
                  replace H := idx_hid H
                  obtain ⟨nt_58, yt_58, et_58, lt_58, gt_58, H⟩ := H
                  obtain rfl : k0 = nt_58 := by omega
                  clear et_58
                  obtain rfl := Option.some.inj (gt_32.out.symm.trans gt_58.out)
                  clear gt_58 lt_58
                  replace H := unPaper_hid H
                  obtain ⟨w_t_61, hw_t_61⟩ : ∃ x, wt_41.alloc (.cells #[.int .i64 t_32_id] 3) = x := ⟨_, rfl⟩
                  have bw_t_61 : Below wt_41.heap.size wt_41 w_t_61 := by rw [← hw_t_61]; exact (Below.refl _ _).alloc (Nat.le_refl _) _
                  have HBw_t_61 := Lib.hid (Below.step HBwt_41.out bw_t_61)
                  have ct_32_0__306 := cell_below bw_t_61 ct_32_0
                  have ct_32_1__307 := cell_below bw_t_61 ct_32_1
                  have ct_32_2__308 := cell_below bw_t_61 ct_32_2
                  have ct_32_3__309 := cell_below bw_t_61 ct_32_3
                  have ct_32_4__310 := cell_below bw_t_61 ct_32_4
                  replace Oout_10l0 := Lib.hid (own_below Oout_10l0.out bw_t_61)
                  clear bw_t_61
                  replace H := guard_hid H
                  obtain ⟨hlt_62, H⟩ := H
                  replace H := let_hid H
                  obtain ⟨t_62, ht_62, H⟩ := H
                  have hht_62 := Lib.hid ht_62
                  clear ht_62
                  have hst_62 := HBw_t_61.out.size
                  go_wp2_with (at_builtin; refine wpList_append_own_at _ rfl _ _ 29 rfl w.heap.size 3 i0_3 (.int .i64 0) 1 8 Try.underlying29 hi_3 hz0_3 hz1_3 hz2_3 rfl (by decide) _ _ _ rfl Oout_10l0.out ⟨wt_41.heap.size, 0, none⟩ 1 1 [.int .i64 t_32_id] rfl rfl (news_new hw_t_61) (one_cells rfl) (by unfold maxLen; omega) (by omega) hst_62 ?_; intro vt_62 wt_62 ot_62 gt_62 zt_62 yt_62; clear zt_62; obtain ⟨qt_62, ct_62, rfl, pt_62⟩ := own_push hht_62.out (Go.Proofs.Ytdgbigkcophjoaa.HelpInt.iv_snoc _ _) rfl ot_62; have Pt_62 := Lib.hid pt_62; have Yt_62 := Lib.hid yt_62; have Gt_62 := Lib.hid gt_62; clear ot_62 gt_62 pt_62 yt_62; refine stop_in ?_)
                  refine stop_out ?_
                  have HBwt_62 := Lib.hid (HBw_t_61.out.grown Gt_62.out hst_62 (fun q hq => (Oout_10l0.out.lt q hq).1))
                  clear hst_62
                  replace ct_32_0__306 := cell_other ct_32_0__306 Gt_62.out (apart_old Oout_10l0.out ltt_32)
                  replace ct_32_1__307 := cell_other ct_32_1__307 Gt_62.out (apart_old Oout_10l0.out ltt_32)
                  replace ct_32_2__308 := cell_other ct_32_2__308 Gt_62.out (apart_old Oout_10l0.out ltt_32)
                  replace ct_32_3__309 := cell_other ct_32_3__309 Gt_62.out (apart_old Oout_10l0.out ltt_32)
                  replace ct_32_4__310 := cell_other ct_32_4__310 Gt_62.out (apart_old Oout_10l0.out ltt_32)
                  clear ct_32_0 ct_32_1 ct_32_2 ct_32_3 ct_32_4
                  clear Oout_10l0 Yt_62 Gt_62
                  replace H := app_hid H
                  go_wp2_with fail
                  go_roundg m0
                  case measure => omega
                  case rel => exact ⟨k0 + 1, _, _, _, by omega, by go_num, rfl, H, HBwt_62, Pt_62⟩
end Go.Proofs.Ytdgbigkcophjoaa.GsMatchPapers

/- loop.example/g01062/impl.MatchPapers$1 as a plain function, and the contract of the program's: where the plain one has an answer, the program has it. Conditions: slices read as lists. -/
namespace Go.Proofs.Ytdgbigkcophjoaa.GiMatchPapers1
set_option linter.unusedVariables false
set_option linter.unusedSimpArgs false
open Go.RowKit
open Go.Proofs.Ytdgbigkcophjoaa.Rowed Go.Proofs.Ytdgbigkcophjoaa.Turn Go.Proofs.Ytdgbigkcophjoaa.Aid Go.Proofs.Ytdgbigkcophjoaa.GoP Go.Proofs.Ytdgbigkcophjoaa.GoM

def P (p : Go.Proofs.Ytdgbigkcophjoaa.PPaper.Paper) (hq0 : Int) (hq1 : Int) (hq2 : Int) : Option (Bool) :=
  unPaper p fun (p_id : Int) (p_thick : Int) (p_tint : Int) (p_mark : ByteArray) (p_laid : Bool) =>
  letK (IntKind.i64.wrap (hq0 - hq1)) fun (t_6 : Int) =>
  letK (IntKind.i64.wrap (hq0 + hq1)) fun (t_9 : Int) =>
  Option.bind (Go.Proofs.Ytdgbigkcophjoaa.GiWithin.P p_thick t_6 t_9) fun (t_10 : Bool) =>
  joinK (fun (t_20 : Bool) =>
  some t_20) fun jt_20 => iteK t_10 (letK (hq2 == (-1)) fun (t_13 : Bool) =>
  joinK (fun (t_19 : Bool) =>
  appK jt_20 t_19) fun jt_19 => iteK t_13 (appK jt_19 true) (letK (hq2 == p_tint) fun (t_18 : Bool) =>
  appK jt_19 t_18)) (appK jt_20 false)

set_option maxRecDepth 100000 in
set_option maxHeartbeats 2000000 in
theorem C (p : Go.Proofs.Ytdgbigkcophjoaa.PPaper.Paper) (hq0 : Int) (hq1 : Int) (hq2 : Int)  (gq0 : Nat) (gq1 : Nat) (gq2 : Nat) (w : World)  (Fq0h : Hid (w.cell? ⟨gq0, 0, none⟩ = some (.int .i64 hq0))) (Fq1h : Hid (w.cell? ⟨gq1, 0, none⟩ = some (.int .i64 hq1))) (Fq2h : Hid (w.cell? ⟨gq2, 0, none⟩ = some (.int .i64 hq2))) {r : Bool} (H : Hid (P p hq0 hq1 hq2 = some r)) :
    Calls Try.prog 85 #[p.val, .pointer (some ⟨gq0, 0, none⟩), .pointer (some ⟨gq1, 0, none⟩), .pointer (some ⟨gq2, 0, none⟩)] w (Gives (.bool r) w) := by
  have HB := Lib.hid (Below.refl w.heap.size w)
  unfold P at H
  obtain ⟨p_id, p_thick, p_tint, p_mark, p_laid⟩ := p
  replace H := unPaper_hid H
  unfold Go.Proofs.Ytdgbigkcophjoaa.PPaper.Paper.val
  have Fq0 := Fq0h.out
  have Fq1 := Fq1h.out
  have Fq2 := Fq2h.out
  go_enter Try.func85, Try.ntmps85
  obtain ⟨w_p_0, hw_p_0⟩ : ∃ x, w.alloc (.cells #[.int .i64 p_id, .int .i64 p_thick, .int .i64 p_tint, .string p_mark, .bool p_laid] 90) = x := ⟨_, rfl⟩
  have bw_p_0 : Below w.heap.size w w_p_0 := by rw [← hw_p_0]; exact (Below.refl _ _).alloc (Nat.le_refl _) _
  have HBw_p_0 := Lib.hid (Below.step HB.out bw_p_0)
  have Fq0__311 := cell_below bw_p_0 Fq0
  have Fq1__312 := cell_below bw_p_0 Fq1
  have Fq2__313 := cell_below bw_p_0 Fq2
  clear bw_p_0
  have kp_0_0 : w_p_0.cell? ⟨w.heap.size, 0, none⟩ = some (.int .i64 p_id) := by rw [← hw_p_0]; exact box_new _ _ _ 0 _ rfl
  have kp_0_1 : w_p_0.cell? ⟨w.heap.size, 1, none⟩ = some (.int .i64 p_thick) := by rw [← hw_p_0]; exact box_new _ _ _ 1 _ rfl
  have kp_0_2 : w_p_0.cell? ⟨w.heap.size, 2, none⟩ = some (.int .i64 p_tint) := by rw [← hw_p_0]; exact box_new _ _ _ 2 _ rfl
  have kp_0_3 : w_p_0.cell? ⟨w.heap.size, 3, none⟩ = some (.string p_mark) := by rw [← hw_p_0]; exact box_new _ _ _ 3 _ rfl
  have kp_0_4 : w_p_0.cell? ⟨w.heap.size, 4, none⟩ = some (.bool p_laid) := by rw [← hw_p_0]; exact box_new _ _ _ 4 _ rfl
  replace H := let_hid H
  obtain ⟨t_6, ht_6, H⟩ := H
  replace H := let_hid H
  obtain ⟨t_9, ht_9, H⟩ := H
  replace H := bind_hid H
  obtain ⟨t_10, qt_10, H⟩ := H
  go_wp2_with fail
  clear Fq0 Fq1 Fq2
  go_at_call 71
  refine (Go.Proofs.Ytdgbigkcophjoaa.GiWithin.C (p_thick) (t_6) (t_9)  _    qt_10).mono ?_
  rintro e_t_10 wt_10 ⟨rfl, bt_10⟩
  have HBwt_10 := Lib.hid (Below.step HBw_p_0.out bt_10)
  replace Fq0__311 := cell_below bt_10 Fq0__311
  replace Fq1__312 := cell_below bt_10 Fq1__312
  replace Fq2__313 := cell_below bt_10 Fq2__313
  replace kp_0_0 := cell_below bt_10 kp_0_0
  replace kp_0_1 := cell_below bt_10 kp_0_1
  replace kp_0_2 := cell_below bt_10 kp_0_2
  replace kp_0_3 := cell_below bt_10 kp_0_3
  replace kp_0_4 := cell_below bt_10 kp_0_4
  clear bt_10
  replace H := join_hid H
  cases t_10 with
  | false =>
    replace H := ite_f H
    replace H := app_hid H
    obtain rfl := ret_hid H
    go_wp2_with fail
    go_ret
    exact ⟨rfl, HBwt_10.out⟩
  | true =>
    replace H := ite_t H
    replace H := let_hid H
    obtain ⟨t_13, ht_13, H⟩ := H
    replace H := join_hid H
    cases t_13 with
    | false =>
      replace H := ite_f H
      replace H := let_hid H
      obtain ⟨t_18, ht_18, H⟩ := H
      replace H := app_hid H
      replace H := app_hid H
      obtain rfl := ret_hid H
      go_wp2_with fail
      go_ret
      exact ⟨rfl, HBwt_10.out⟩
    | true =>
      replace H := ite_t H
      replace H := app_hid H
      replace H := app_hid H
      obtain rfl := ret_hid H
      go_wp2_with fail
      go_ret
      exact ⟨rfl, HBwt_10.out⟩
end Go.Proofs.Ytdgbigkcophjoaa.GiMatchPapers1

/- loop.example/g01062/impl.keysWhere[loop.example/g01062/impl.Paper,int] as a plain function, and the contract of the program's: where the plain one has an answer, the program has it. Conditions: slices read as lists. -/
namespace Go.Proofs.Ytdgbigkcophjoaa.GiKeysWherePaperIntiIdOfPaperiMatchPapers1
set_option linter.unusedVariables false
set_option linter.unusedSimpArgs false
open Go.RowKit
open Go.Proofs.Ytdgbigkcophjoaa.Rowed Go.Proofs.Ytdgbigkcophjoaa.Turn Go.Proofs.Ytdgbigkcophjoaa.Aid Go.Proofs.Ytdgbigkcophjoaa.GoP Go.Proofs.Ytdgbigkcophjoaa.GoM

def l0 (list : (List Go.Proofs.Ytdgbigkcophjoaa.PPaper.Paper)) (hf2_0 : Int) (hf2_1 : Int) (hf2_2 : Int) (k0 : Nat) (s : (List Int)) (nx0 bk0 : (List Int) → Option ((List Int))) : Option ((List Int)) :=
  letK s fun keys_7l0 =>
  Option.bind (idx list (k0 : Int)) fun (yt_7 : Go.Proofs.Ytdgbigkcophjoaa.PPaper.Paper) =>
  unPaper yt_7 fun (t_7_id : Int) (t_7_thick : Int) (t_7_tint : Int) (t_7_mark : ByteArray) (t_7_laid : Bool) =>
  Option.bind (Go.Proofs.Ytdgbigkcophjoaa.GiMatchPapers1.P (Go.Proofs.Ytdgbigkcophjoaa.PPaper.Paper.mk t_7_id t_7_thick t_7_tint t_7_mark t_7_laid) hf2_0 hf2_1 hf2_2) fun (t_13 : Bool) =>
  iteK t_13
  (Option.bind (Go.Proofs.Ytdgbigkcophjoaa.GiIdOfPaper.P (Go.Proofs.Ytdgbigkcophjoaa.PPaper.Paper.mk t_7_id t_7_thick t_7_tint t_7_mark t_7_laid)) fun (t_17 : Int) =>
  guardK (keys_7l0.length ≤ 1099511627776) <|
  letK (keys_7l0 ++ [t_17]) fun (t_19 : (List Int)) =>
  appK nx0 (t_19))
  (appK nx0 (keys_7l0))

def e0  (s : (List Int)) : Option ((List Int)) :=
  letK s fun keys_7l0 =>
  some keys_7l0

def P (list : (List Go.Proofs.Ytdgbigkcophjoaa.PPaper.Paper)) (hf2_0 : Int) (hf2_1 : Int) (hf2_2 : Int) : Option ((List Int)) :=
  cntK (l0 list hf2_0 hf2_1 hf2_2) (list.length) 0 (([] : List Int)) (e0 )

set_option maxRecDepth 100000 in
set_option maxHeartbeats 2000000 in
theorem C (list : (List Go.Proofs.Ytdgbigkcophjoaa.PPaper.Paper)) (hf2_0 : Int) (hf2_1 : Int) (hf2_2 : Int) (A0 : Option Addr) (c0 : Nat) (gf2_0 : Nat) (gf2_1 : Nat) (gf2_2 : Nat) (w : World) (M0 : Hid (Cells w 5 A0 list.length (Go.Proofs.Ytdgbigkcophjoaa.PPaper.flat list))) (N0 : Hid (list.length ≤ 9223372036854775807)) (Ff2_0h : Hid (w.cell? ⟨gf2_0, 0, none⟩ = some (.int .i64 hf2_0))) (Ff2_1h : Hid (w.cell? ⟨gf2_1, 0, none⟩ = some (.int .i64 hf2_1))) (Ff2_2h : Hid (w.cell? ⟨gf2_2, 0, none⟩ = some (.int .i64 hf2_2))) {r : (List Int)} (H : Hid (P list hf2_0 hf2_1 hf2_2 = some r)) :
    Calls Try.prog 84 #[.slice A0 list.length c0, .func (.func 81) #[] #[], .func (.func 85) #[] #[.pointer (some ⟨gf2_0, 0, none⟩), .pointer (some ⟨gf2_1, 0, none⟩), .pointer (some ⟨gf2_2, 0, none⟩)]] w (fun e w' => ∃ A_r c_r, e = .returned (.slice A_r r.length c_r) ∧ w'.ownsRow w.heap.size 3 1 (.slice A_r r.length c_r) r.length (Go.Proofs.Ytdgbigkcophjoaa.HelpInt.iv r) ∧ Below w.heap.size w w') := by
  have HB := Lib.hid (Below.refl w.heap.size w)
  unfold P at H
  have N0o := N0.out
  have Ff2_0 := Ff2_0h.out
  have Ff2_1 := Ff2_1h.out
  have Ff2_2 := Ff2_2h.out
  obtain ⟨i0_3, hi_3, hz0_3, hz1_3, hz2_3⟩ := Aid.info_parts (P := Try.prog) (T := 3) (z := .int .i64 0) (s := 1) (b := 8) (by kernel_rfl)
  go_enter Try.func84, Try.ntmps84
  obtain ⟨w_t_1, hw_t_1⟩ : ∃ x, w.alloc (.cells #[] 3) = x := ⟨_, rfl⟩
  have bw_t_1 : Below w.heap.size w w_t_1 := by rw [← hw_t_1]; exact (Below.refl _ _).alloc (Nat.le_refl _) _
  have Ot_1 : Hid (w_t_1.ownsRow w.heap.size 3 1 (.slice (some ⟨w.heap.size, 0, none⟩) 0 0) 0 []) := Lib.hid (by rw [← hw_t_1]; exact own_empty HB.out.size)
  have HBw_t_1 := Lib.hid (Below.step HB.out bw_t_1)
  have Ff2_0__314 := cell_below bw_t_1 Ff2_0
  have Ff2_1__315 := cell_below bw_t_1 Ff2_1
  have Ff2_2__316 := cell_below bw_t_1 Ff2_2
  clear bw_t_1
  go_wp2_with fail
  clear Ff2_0 Ff2_1 Ff2_2
  go_loopg [13, 7] (list.length) (fun m_ v13_ v7_ wr => ∃ (k0 : Nat) (keys_7l0 : (List Int)) (Akeys_7l0 : Option Addr) (ckeys_7l0 : Nat), k0 + m_ = list.length ∧ v13_ = .int .i64 (k0 : Int) ∧ v7_ = .slice Akeys_7l0 keys_7l0.length ckeys_7l0 ∧ Hid (cntK (l0 list hf2_0 hf2_1 hf2_2) m_ k0 (keys_7l0) (e0 ) = some r) ∧ Hid (Below w.heap.size w wr) ∧ wr.cell? ⟨gf2_0, 0, none⟩ = some (.int .i64 hf2_0) ∧ wr.cell? ⟨gf2_1, 0, none⟩ = some (.int .i64 hf2_1) ∧ wr.cell? ⟨gf2_2, 0, none⟩ = some (.int .i64 hf2_2) ∧ Hid (wr.ownsRow w.heap.size 3 1 (.slice Akeys_7l0 keys_7l0.length ckeys_7l0) keys_7l0.length (Go.Proofs.Ytdgbigkcophjoaa.HelpInt.iv keys_7l0)))
  case atStart => exact ⟨0, _, _, _, by omega, rfl, rfl, H, HBw_t_1, Ff2_0__314, Ff2_1__315, Ff2_2__316, Ot_1⟩
  case round =>
    obtain ⟨k0, keys_7l0, Akeys_7l0, ckeys_7l0, hkm0, rfl, rfl, H, HBwr0, Ff2_0__314, Ff2_1__315, Ff2_2__316, Okeys_7l0⟩ := hrel
    rename World => wr0
    cases gk with
    | zero =>
      obtain rfl : k0 = list.length := by omega
      have hc0 : decide (((list.length : Nat) : Int) < ((list.length : Nat) : Int)) = false := by simp
      replace H := cnt_zero H
      unfold e0 at H
      replace H := let_hid H
      obtain ⟨_, rfl, H⟩ := H
      obtain rfl := ret_hid H
      go_wp2_with fail
      go_ret
      exact ⟨Akeys_7l0, ckeys_7l0, rfl, Okeys_7l0.out, HBwr0.out⟩
    | succ m0 =>
      have hlt0 : k0 < list.length := by omega
      have hc0 : decide ((k0 : Int) < ((list.length : Nat) : Int)) = true := by simp; omega
      replace H := cnt_succ H
      unfold l0 at H
      replace H := let_hid H
      obtain ⟨_, rfl, H⟩ := H
      replace H := idx_hid H
      obtain ⟨nt_7, yt_7, et_7, lt_7, gt_7, H⟩ := H
      obtain rfl : k0 = nt_7 := by omega
      clear et_7
      obtain ⟨t_7_id, t_7_thick, t_7_tint, t_7_mark, t_7_laid⟩ := yt_7
      replace H := unPaper_hid H
      obtain ⟨ab_t_7, ao_t_7, zt_7, At_7, z_t_7, ct_7_0, ct_7_1, ct_7_2, ct_7_3, ct_7_4⟩ := Go.Proofs.Ytdgbigkcophjoaa.OPaper.at_ M0.out lt_7
      obtain rfl := Option.some.inj (gt_7.out.symm.trans z_t_7)
      subst At_7
      have ltt_7 := cell_lt ct_7_0
      replace ct_7_0 := cell_below HBwr0.out ct_7_0
      replace ct_7_1 := cell_below HBwr0.out ct_7_1
      replace ct_7_2 := cell_below HBwr0.out ct_7_2
      replace ct_7_3 := cell_below HBwr0.out ct_7_3
      replace ct_7_4 := cell_below HBwr0.out ct_7_4
      clear z_t_7
      have b0t_7 : (0 : Int) ≤ (k0 : Int) := by omega
      have b1t_7 : (k0 : Int) < ((list.length : Nat) : Int) := by omega
      have b2t_7 : ((k0 : Int)).toNat = k0 := by omega
      obtain ⟨w_e_9, hw_e_9⟩ : ∃ x, wr0.alloc (.cells #[.int .i64 t_7_id, .int .i64 t_7_thick, .int .i64 t_7_tint, .string t_7_mark, .bool t_7_laid] 90) = x := ⟨_, rfl⟩
      have bw_e_9 : Below wr0.heap.size wr0 w_e_9 := by rw [← hw_e_9]; exact (Below.refl _ _).alloc (Nat.le_refl _) _
      have De_9_keys_7l0 := Lib.hid (apart_fresh Okeys_7l0.out)
      have HBw_e_9 := Lib.hid (Below.step HBwr0.out bw_e_9)
      have Ff2_0__317 := cell_below bw_e_9 Ff2_0__314
      have Ff2_1__318 := cell_below bw_e_9 Ff2_1__315
      have Ff2_2__319 := cell_below bw_e_9 Ff2_2__316
      have ct_7_0__320 := cell_below bw_e_9 ct_7_0
      have ct_7_1__321 := cell_below bw_e_9 ct_7_1
      have ct_7_2__322 := cell_below bw_e_9 ct_7_2
      have ct_7_3__323 := cell_below bw_e_9 ct_7_3
      have ct_7_4__324 := cell_below bw_e_9 ct_7_4
      replace Okeys_7l0 := Lib.hid (own_below Okeys_7l0.out bw_e_9)
      clear bw_e_9
      have ke_9_0 : w_e_9.cell? ⟨wr0.heap.size, 0, none⟩ = some (.int .i64 t_7_id) := by rw [← hw_e_9]; exact box_new _ _ _ 0 _ rfl
      have ke_9_1 : w_e_9.cell? ⟨wr0.heap.size, 1, none⟩ = some (.int .i64 t_7_thick) := by rw [← hw_e_9]; exact box_new _ _ _ 1 _ rfl
      have ke_9_2 : w_e_9.cell? ⟨wr0.heap.size, 2, none⟩ = some (.int .i64 t_7_tint) := by rw [← hw_e_9]; exact box_new _ _ _ 2 _ rfl
      have ke_9_3 : w_e_9.cell? ⟨wr0.heap.size, 3, none⟩ = some (.string t_7_mark) := by rw [← hw_e_9]; exact box_new _ _ _ 3 _ rfl
      have ke_9_4 : w_e_9.cell? ⟨wr0.heap.size, 4, none⟩ = some (.bool t_7_laid) := by rw [← hw_e_9]; exact box_new _ _ _ 4 _ rfl
      replace H := bind_hid H
      obtain ⟨t_13, qt_13, H⟩ := H
      go_wp2_with fail
      clear Ff2_0__314 Ff2_1__315 Ff2_2__316 ct_7_0 ct_7_1 ct_7_2 ct_7_3 ct_7_4
      go_at_call 85
      refine (Go.Proofs.Ytdgbigkcophjoaa.GiMatchPapers1.C ((Go.Proofs.Ytdgbigkcophjoaa.PPaper.Paper.mk t_7_id t_7_thick t_7_tint t_7_mark t_7_laid)) (hf2_0) (hf2_1) (hf2_2) (gf2_0) (gf2_1) (gf2_2) _   (Lib.hid Ff2_0__317) (Lib.hid Ff2_1__318) (Lib.hid Ff2_2__319) qt_13).mono ?_
      rintro e_t_13 wt_13 ⟨rfl, bt_13⟩
      have HBwt_13 := Lib.hid (Below.step HBw_e_9.out bt_13)
      replace Ff2_0__317 := cell_below bt_13 Ff2_0__317
      replace Ff2_1__318 := cell_below bt_13 Ff2_1__318
      replace Ff2_2__319 := cell_below bt_13 Ff2_2__319
      replace ct_7_0__320 := cell_below bt_13 ct_7_0__320
      replace ct_7_1__321 := cell_below bt_13 ct_7_1__321
      replace ct_7_2__322 := cell_below bt_13 ct_7_2__322
      replace ct_7_3__323 := cell_below bt_13 ct_7_3__323
      replace ct_7_4__324 := cell_below bt_13 ct_7_4__324
      replace ke_9_0 := cell_below bt_13 ke_9_0
      replace ke_9_1 := cell_below bt_13 ke_9_1
      replace ke_9_2 := cell_below bt_13 ke_9_2
      replace ke_9_3 := cell_below bt_13 ke_9_3
      replace ke_9_4 := cell_below bt_13 ke_9_4
      replace Okeys_7l0 := Lib.hid (own_below Okeys_7l0.out bt_13)
      clear bt_13
      cases t_13 with
      | false =>
        replace H := ite_f H
        replace H := app_hid H
        go_wp2_with fail
        go_roundg m0
        case measure => omega
        case rel => exact ⟨k0 + 1, _, _, _, by omega, by go_num, rfl, H, HBwt_13, Ff2_0__317, Ff2_1__318, Ff2_2__319, Okeys_7l0⟩
      | true =>
        replace H := ite_t H
        replace H := bind_hid H
        obtain ⟨t_17, qt_17, H⟩ := H
        go_wp2_with fail
        go_at_call 81
        refine (Go.Proofs.Ytdgbigkcophjoaa.GiIdOfPaper.C ((Go.Proofs.Ytdgbigkcophjoaa.PPaper.Paper.mk t_7_id t_7_thick t_7_tint t_7_mark t_7_laid))  _    qt_17).mono ?_
        rintro e_t_17 wt_17 ⟨rfl, bt_17⟩
        have HBwt_17 := Lib.hid (Below.step HBwt_13.out bt_17)
        replace Ff2_0__317 := cell_below bt_17 Ff2_0__317
        replace Ff2_1__318 := cell_below bt_17 Ff2_1__318
        replace Ff2_2__319 := cell_below bt_17 Ff2_2__319
        replace ct_7_0__320 := cell_below bt_17 ct_7_0__320
        replace ct_7_1__321 := cell_below bt_17 ct_7_1__321
        replace ct_7_2__322 := cell_below bt_17 ct_7_2__322
        replace ct_7_3__323 := cell_below bt_17 ct_7_3__323
        replace ct_7_4__324 := cell_below bt_17 ct_7_4__324
        replace ke_9_0 := cell_below bt_17 ke_9_0
        replace ke_9_1 := cell_below bt_17 ke_9_1
        replace ke_9_2 := cell_below bt_17 ke_9_2
        replace ke_9_3 := cell_below bt_17 ke_9_3
        replace ke_9_4 := cell_below bt_17 ke_9_4
        replace Okeys_7l0 := Lib.hid (own_below Okeys_7l0.out bt_17)
        clear bt_17
        obtain ⟨w_t_18, hw_t_18⟩ : ∃ x, wt_17.alloc (.cells #[.int .i64 t_17] 3) = x := ⟨_, rfl⟩
        have bw_t_18 : Below wt_17.heap.size wt_17 w_t_18 := by rw [← hw_t_18]; exact (Below.refl _ _).alloc (Nat.le_refl _) _
        have HBw_t_18 := Lib.hid (Below.step HBwt_17.out bw_t_18)
        have Ff2_0__325 := cell_below bw_t_18 Ff2_0__317
        have Ff2_1__326 := cell_below bw_t_18 Ff2_1__318
        have Ff2_2__327 := cell_below bw_t_18 Ff2_2__319
        have ct_7_0__328 := cell_below bw_t_18 ct_7_0__320
        have ct_7_1__329 := cell_below bw_t_18 ct_7_1__321
        have ct_7_2__330 := cell_below bw_t_18 ct_7_2__322
        have ct_7_3__331 := cell_below bw_t_18 ct_7_3__323
        have ct_7_4__332 := cell_below bw_t_18 ct_7_4__324
        have ke_9_0__333 := cell_below bw_t_18 ke_9_0
        have ke_9_1__334 := cell_below bw_t_18 ke_9_1
        have ke_9_2__335 := cell_below bw_t_18 ke_9_2
        have ke_9_3__336 := cell_below bw_t_18 ke_9_3
        have ke_9_4__337 := cell_below bw_t_18 ke_9_4
        replace Okeys_7l0 := Lib.hid (own_below Okeys_7l0.out bw_t_18)
        clear bw_t_18
        replace H := guard_hid H
        obtain ⟨hlt_19, H⟩ := H
        replace H := let_hid H
        obtain ⟨t_19, ht_19, H⟩ := H
        have hht_19 := Lib.hid ht_19
        clear ht_19
        have hst_19 := HBw_t_18.out.size
        go_wp2_with (at_builtin; refine wpList_append_own_at _ rfl _ _ 29 rfl w.heap.size 3 i0_3 (.int .i64 0) 1 8 Try.underlying29 hi_3 hz0_3 hz1_3 hz2_3 rfl (by decide) _ _ _ rfl Okeys_7l0.out ⟨wt_17.heap.size, 0, none⟩ 1 1 [.int .i64 t_17] rfl rfl (news_new hw_t_18) (one_cells rfl) (by unfold maxLen; omega) (by omega) hst_19 ?_; intro vt_19 wt_19 ot_19 gt_19 zt_19 yt_19; clear zt_19; obtain ⟨qt_19, ct_19, rfl, pt_19⟩ := own_push hht_19.out (Go.Proofs.Ytdgbigkcophjoaa.HelpInt.iv_snoc _ _) rfl ot_19; have Pt_19 := Lib.hid pt_19; have Yt_19 := Lib.hid yt_19; have Gt_19 := Lib.hid gt_19; clear ot_19 gt_19 pt_19 yt_19; refine stop_in ?_)
        refine stop_out ?_
        have HBwt_19 := Lib.hid (HBw_t_18.out.grown Gt_19.out hst_19 (fun q hq => (Okeys_7l0.out.lt q hq).1))
        clear hst_19
        have Dt_19_e_9 : Hid (Apart (some ⟨qt_19, 0, none⟩) _) := Lib.hid (apart_app (Apart.symm De_9_keys_7l0.out) (fun a_ ha_ => by cases ha_; exact cell_lt ke_9_0__333) Yt_19.out)
        replace Ff2_0__325 := cell_below HBwt_19.out Ff2_0h.out
        replace Ff2_1__326 := cell_below HBwt_19.out Ff2_1h.out
        replace Ff2_2__327 := cell_below HBwt_19.out Ff2_2h.out
        replace ct_7_0__328 := cell_other ct_7_0__328 Gt_19.out (apart_old Okeys_7l0.out ltt_7)
        replace ct_7_1__329 := cell_other ct_7_1__329 Gt_19.out (apart_old Okeys_7l0.out ltt_7)
        replace ct_7_2__330 := cell_other ct_7_2__330 Gt_19.out (apart_old Okeys_7l0.out ltt_7)
        replace ct_7_3__331 := cell_other ct_7_3__331 Gt_19.out (apart_old Okeys_7l0.out ltt_7)
        replace ct_7_4__332 := cell_other ct_7_4__332 Gt_19.out (apart_old Okeys_7l0.out ltt_7)
        replace ke_9_0__333 := cell_other ke_9_0__333 Gt_19.out (Apart.symm De_9_keys_7l0.out)
        replace ke_9_1__334 := cell_other ke_9_1__334 Gt_19.out (Apart.symm De_9_keys_7l0.out)
        replace ke_9_2__335 := cell_other ke_9_2__335 Gt_19.out (Apart.symm De_9_keys_7l0.out)
        replace ke_9_3__336 := cell_other ke_9_3__336 Gt_19.out (Apart.symm De_9_keys_7l0.out)
        replace ke_9_4__337 := cell_other ke_9_4__337 Gt_19.out (Apart.symm De_9_keys_7l0.out)
        clear Ff2_0__317 Ff2_1__318 Ff2_2__319 ct_7_0__320 ct_7_1__321 ct_7_2__322 ct_7_3__323 ct_7_4__324 ke_9_0 ke_9_1 ke_9_2 ke_9_3 ke_9_4
        clear Okeys_7l0 Yt_19 Gt_19
        replace H := app_hid H
        go_wp2_with fail
        go_roundg m0
        case measure => omega
        case rel => exact ⟨k0 + 1, _, _, _, by omega, by go_num, rfl, H, HBwt_19, Ff2_0__325, Ff2_1__326, Ff2_2__327, Pt_19⟩
end Go.Proofs.Ytdgbigkcophjoaa.GiKeysWherePaperIntiIdOfPaperiMatchPapers1

/- loop.example/g01062/impl.MatchPapers as a plain function, and the contract of the program's: where the plain one has an answer, the program has it. Conditions: slices read as lists. -/
namespace Go.Proofs.Ytdgbigkcophjoaa.GiMatchPapers
set_option linter.unusedVariables false
set_option linter.unusedSimpArgs false
open Go.RowKit
open Go.Proofs.Ytdgbigkcophjoaa.Rowed Go.Proofs.Ytdgbigkcophjoaa.Turn Go.Proofs.Ytdgbigkcophjoaa.Aid Go.Proofs.Ytdgbigkcophjoaa.GoP Go.Proofs.Ytdgbigkcophjoaa.GoM

def P (list : (List Go.Proofs.Ytdgbigkcophjoaa.PPaper.Paper)) (thick : Int) (off : Int) (tint : Int) : Option ((List Int) × Bool) :=
  Option.bind (Go.Proofs.Ytdgbigkcophjoaa.GiArePapers.P list) fun (t_6 : Bool) =>
  letK (!t_6) fun (t_7 : Bool) =>
  joinK (fun (t_12 : Bool) =>
  joinK (fun (t_17 : Bool) =>
  joinK (fun (t_22 : Bool) =>
  iteK t_22
  (some (([] : List Int), false))
  (Option.bind (Go.Proofs.Ytdgbigkcophjoaa.GiKeysWherePaperIntiIdOfPaperiMatchPapers1.P list thick off tint) fun (t_28 : (List Int)) =>
  some (t_28, true))) fun jt_22 => iteK t_17 (appK jt_22 true) (Option.bind (Go.Proofs.Ytdgbigkcophjoaa.GiWithin.P tint (-1) 9) fun (t_20 : Bool) =>
  letK (!t_20) fun (t_21 : Bool) =>
  appK jt_22 t_21)) fun jt_17 => iteK t_12 (appK jt_17 true) (Option.bind (Go.Proofs.Ytdgbigkcophjoaa.GiWithin.P off 0 50) fun (t_15 : Bool) =>
  letK (!t_15) fun (t_16 : Bool) =>
  appK jt_17 t_16)) fun jt_12 => iteK t_7 (appK jt_12 true) (Option.bind (Go.Proofs.Ytdgbigkcophjoaa.GiWithin.P thick 1 300) fun (t_10 : Bool) =>
  letK (!t_10) fun (t_11 : Bool) =>
  appK jt_12 t_11)

set_option maxRecDepth 100000 in
set_option maxHeartbeats 2000000 in
theorem C (list : (List Go.Proofs.Ytdgbigkcophjoaa.PPaper.Paper)) (thick : Int) (off : Int) (tint : Int) (A0 : Option Addr) (c0 : Nat)  (w : World) (M0 : Hid (Cells w 5 A0 list.length (Go.Proofs.Ytdgbigkcophjoaa.PPaper.flat list))) (N0 : Hid (list.length ≤ 9223372036854775807))  {r0 : (List Int)} {r1 : Bool} (H : Hid (P list thick off tint = some (r0, r1))) :
    Calls Try.prog 42 #[.slice A0 list.length c0, .int .i64 thick, .int .i64 off, .int .i64 tint] w (fun e w' => ∃ A_r0 c_r0, e = .returned (.tuple #[.slice A_r0 r0.length c_r0, .bool r1]) ∧ w'.ownsRow w.heap.size 3 1 (.slice A_r0 r0.length c_r0) r0.length (Go.Proofs.Ytdgbigkcophjoaa.HelpInt.iv r0) ∧ Below w.heap.size w w') := by
  have HB := Lib.hid (Below.refl w.heap.size w)
  unfold P at H
  have N0o := N0.out
  go_enter Try.func42, Try.ntmps42
  obtain ⟨w_thick_0, hw_thick_0⟩ : ∃ x, w.alloc (.cells #[.int .i64 thick] 3) = x := ⟨_, rfl⟩
  have bw_thick_0 : Below w.heap.size w w_thick_0 := by rw [← hw_thick_0]; exact (Below.refl _ _).alloc (Nat.le_refl _) _
  have HBw_thick_0 := Lib.hid (Below.step HB.out bw_thick_0)
  clear bw_thick_0
  have kthick_0_0 : w_thick_0.cell? ⟨w.heap.size, 0, none⟩ = some (.int .i64 thick) := by rw [← hw_thick_0]; exact box_new _ _ _ 0 _ rfl
  obtain ⟨w_off_1, hw_off_1⟩ : ∃ x, w_thick_0.alloc (.cells #[.int .i64 off] 3) = x := ⟨_, rfl⟩
  have bw_off_1 : Below w_thick_0.heap.size w_thick_0 w_off_1 := by rw [← hw_off_1]; exact (Below.refl _ _).alloc (Nat.le_refl _) _
  have HBw_off_1 := Lib.hid (Below.step HBw_thick_0.out bw_off_1)
  have kthick_0_0__338 := cell_below bw_off_1 kthick_0_0
  clear bw_off_1
  have koff_1_0 : w_off_1.cell? ⟨w_thick_0.heap.size, 0, none⟩ = some (.int .i64 off) := by rw [← hw_off_1]; exact box_new _ _ _ 0 _ rfl
  obtain ⟨w_tint_2, hw_tint_2⟩ : ∃ x, w_off_1.alloc (.cells #[.int .i64 tint] 3) = x := ⟨_, rfl⟩
  have bw_tint_2 : Below w_off_1.heap.size w_off_1 w_tint_2 := by rw [← hw_tint_2]; exact (Below.refl _ _).alloc (Nat.le_refl _) _
  have HBw_tint_2 := Lib.hid (Below.step HBw_off_1.out bw_tint_2)
  have kthick_0_0__339 := cell_below bw_tint_2 kthick_0_0__338
  have koff_1_0__340 := cell_below bw_tint_2 koff_1_0
  clear bw_tint_2
  have ktint_2_0 : w_tint_2.cell? ⟨w_off_1.heap.size, 0, none⟩ = some (.int .i64 tint) := by rw [← hw_tint_2]; exact box_new _ _ _ 0 _ rfl
  replace H := bind_hid H
  obtain ⟨t_6, qt_6, H⟩ := H
  go_wp2_with fail
  clear kthick_0_0 kthick_0_0__338 koff_1_0
  go_at_call 37
  refine (Go.Proofs.Ytdgbigkcophjoaa.GiArePapers.C (list) A0 c0 _   (Lib.hid (Cells.below M0.out HBw_tint_2.out)) N0 qt_6).mono ?_
  rintro e_t_6 wt_6 ⟨rfl, bt_6⟩
  have HBwt_6 := Lib.hid (Below.step HBw_tint_2.out bt_6)
  replace kthick_0_0__339 := cell_below bt_6 kthick_0_0__339
  replace koff_1_0__340 := cell_below bt_6 koff_1_0__340
  replace ktint_2_0 := cell_below bt_6 ktint_2_0
  clear bt_6
  cases t_6 with
  | false =>
    replace H := let_hid H
    obtain ⟨t_7, ht_7, H⟩ := H
    obtain rfl : t_7 = true := ht_7.symm
    replace H := join_hid H
    replace H := ite_t H
    replace H := app_hid H
    replace H := join_hid H
    replace H := ite_t H
    replace H := app_hid H
    replace H := join_hid H
    replace H := ite_t H
    replace H := app_hid H
    replace H := ite_t H
    obtain ⟨w_t_23, hw_t_23⟩ : ∃ x, wt_6.alloc (.cells #[] 3) = x := ⟨_, rfl⟩
    have bw_t_23 : Below wt_6.heap.size wt_6 w_t_23 := by rw [← hw_t_23]; exact (Below.refl _ _).alloc (Nat.le_refl _) _
    have Ot_23 : Hid (w_t_23.ownsRow w.heap.size 3 1 (.slice (some ⟨wt_6.heap.size, 0, none⟩) 0 0) 0 []) := Lib.hid (by rw [← hw_t_23]; exact own_empty HBwt_6.out.size)
    have Dt_23_thick_0 := Lib.hid (apart_box kthick_0_0__339)
    have Dt_23_off_1 := Lib.hid (apart_box koff_1_0__340)
    have Dt_23_tint_2 := Lib.hid (apart_box ktint_2_0)
    have HBw_t_23 := Lib.hid (Below.step HBwt_6.out bw_t_23)
    have kthick_0_0__341 := cell_below bw_t_23 kthick_0_0__339
    have koff_1_0__342 := cell_below bw_t_23 koff_1_0__340
    have ktint_2_0__343 := cell_below bw_t_23 ktint_2_0
    clear bw_t_23
    cases ret_hid H
    go_wp2_with fail
    go_ret2
    exact ⟨(some ⟨wt_6.heap.size, 0, none⟩), 0, rfl, Ot_23.out, HBw_t_23.out⟩
  | true =>
    replace H := let_hid H
    obtain ⟨t_7, ht_7, H⟩ := H
    obtain rfl : t_7 = false := ht_7.symm
    replace H := join_hid H
    replace H := ite_f H
    replace H := bind_hid H
    obtain ⟨t_10, qt_10, H⟩ := H
    go_wp2_with fail
    go_at_call 71
    refine (Go.Proofs.Ytdgbigkcophjoaa.GiWithin.C (thick) (1) (300)  _    qt_10).mono ?_
    rintro e_t_10 wt_10 ⟨rfl, bt_10⟩
    have HBwt_10 := Lib.hid (Below.step HBwt_6.out bt_10)
    replace kthick_0_0__339 := cell_below bt_10 kthick_0_0__339
    replace koff_1_0__340 := cell_below bt_10 koff_1_0__340
    replace ktint_2_0 := cell_below bt_10 ktint_2_0
    clear bt_10
    cases t_10 with
    | false =>
      replace H := let_hid H
      obtain ⟨t_11, ht_11, H⟩ := H
      obtain rfl : t_11 = true := ht_11.symm
      replace H := app_hid H
      replace H := join_hid H
      replace H := ite_t H
      replace H := app_hid H
      replace H := join_hid H
      replace H := ite_t H
      replace H := app_hid H
      replace H := ite_t H
      obtain ⟨w_t_23, hw_t_23⟩ : ∃ x, wt_10.alloc (.cells #[] 3) = x := ⟨_, rfl⟩
      have bw_t_23 : Below wt_10.heap.size wt_10 w_t_23 := by rw [← hw_t_23]; exact (Below.refl _ _).alloc (Nat.le_refl _) _
      have Ot_23 : Hid (w_t_23.ownsRow w.heap.size 3 1 (.slice (some ⟨wt_10.heap.size, 0, none⟩) 0 0) 0 []) := Lib.hid (by rw [← hw_t_23]; exact own_empty HBwt_10.out.size)
      have Dt_23_thick_0 := Lib.hid (apart_box kthick_0_0__339)
      have Dt_23_off_1 := Lib.hid (apart_box koff_1_0__340)
      have Dt_23_tint_2 := Lib.hid (apart_box ktint_2_0)
      have HBw_t_23 := Lib.hid (Below.step HBwt_10.out bw_t_23)
      have kthick_0_0__344 := cell_below bw_t_23 kthick_0_0__339
      have koff_1_0__345 := cell_below bw_t_23 koff_1_0__340
      have ktint_2_0__346 := cell_below bw_t_23 ktint_2_0
      clear bw_t_23
      cases ret_hid H
      go_wp2_with fail
      go_ret2
      exact ⟨(some ⟨wt_10.heap.size, 0, none⟩), 0, rfl, Ot_23.out, HBw_t_23.out⟩
    | true =>
      replace H := let_hid H
      obtain ⟨t_11, ht_11, H⟩ := H
      obtain rfl : t_11 = false := ht_11.symm
      replace H := app_hid H
      replace H := join_hid H
      replace H := ite_f H
      replace H := bind_hid H
      obtain ⟨t_15, qt_15, H⟩ := H
      go_wp2_with fail
      go_at_call 71
      refine (Go.Proofs.Ytdgbigkcophjoaa.GiWithin.C (off) (0) (50)  _    qt_15).mono ?_
      rintro e_t_15 wt_15 ⟨rfl, bt_15⟩
      have HBwt_15 := Lib.hid (Below.step HBwt_10.out bt_15)
      replace kthick_0_0__339 := cell_below bt_15 kthick_0_0__339
      replace koff_1_0__340 := cell_below bt_15 koff_1_0__340
      replace ktint_2_0 := cell_below bt_15 ktint_2_0
      clear bt_15
      cases t_15 with
      | false =>
        replace H := let_hid H
        obtain ⟨t_16, ht_16, H⟩ := H
        obtain rfl : t_16 = true := ht_16.symm
        replace H := app_hid H
        replace H := join_hid H
        replace H := ite_t H
        replace H := app_hid H
        replace H := ite_t H
        obtain ⟨w_t_23, hw_t_23⟩ : ∃ x, wt_15.alloc (.cells #[] 3) = x := ⟨_, rfl⟩
        have bw_t_23 : Below wt_15.heap.size wt_15 w_t_23 := by rw [← hw_t_23]; exact (Below.refl _ _).alloc (Nat.le_refl _) _
        have Ot_23 : Hid (w_t_23.ownsRow w.heap.size 3 1 (.slice (some ⟨wt_15.heap.size, 0, none⟩) 0 0) 0 []) := Lib.hid (by rw [← hw_t_23]; exact own_empty HBwt_15.out.size)
        have Dt_23_thick_0 := Lib.hid (apart_box kthick_0_0__339)
        have Dt_23_off_1 := Lib.hid (apart_box koff_1_0__340)
        have Dt_23_tint_2 := Lib.hid (apart_box ktint_2_0)
        have HBw_t_23 := Lib.hid (Below.step HBwt_15.out bw_t_23)
        have kthick_0_0__347 := cell_below bw_t_23 kthick_0_0__339
        have koff_1_0__348 := cell_below bw_t_23 koff_1_0__340
        have ktint_2_0__349 := cell_below bw_t_23 ktint_2_0
        clear bw_t_23
        cases ret_hid H
        go_wp2_with fail
        go_ret2
        exact ⟨(some ⟨wt_15.heap.size, 0, none⟩), 0, rfl, Ot_23.out, HBw_t_23.out⟩
      | true =>
        replace H := let_hid H
        obtain ⟨t_16, ht_16, H⟩ := H
        obtain rfl : t_16 = false := ht_16.symm
        replace H := app_hid H
        replace H := join_hid H
        replace H := ite_f H
        replace H := bind_hid H
        obtain ⟨t_20, qt_20, H⟩ := H
        go_wp2_with fail
        go_at_call 71
        refine (Go.Proofs.Ytdgbigkcophjoaa.GiWithin.C (tint) ((-1)) (9)  _    qt_20).mono ?_
        rintro e_t_20 wt_20 ⟨rfl, bt_20⟩
        have HBwt_20 := Lib.hid (Below.step HBwt_15.out bt_20)
        replace kthick_0_0__339 := cell_below bt_20 kthick_0_0__339
        replace koff_1_0__340 := cell_below bt_20 koff_1_0__340
        replace ktint_2_0 := cell_below bt_20 ktint_2_0
        clear bt_20
        cases t_20 with
        | false =>
          replace H := let_hid H
          obtain ⟨t_21, ht_21, H⟩ := H
          obtain rfl : t_21 = true := ht_21.symm
          replace H := app_hid H
          replace H := ite_t H
          obtain ⟨w_t_23, hw_t_23⟩ : ∃ x, wt_20.alloc (.cells #[] 3) = x := ⟨_, rfl⟩
          have bw_t_23 : Below wt_20.heap.size wt_20 w_t_23 := by rw [← hw_t_23]; exact (Below.refl _ _).alloc (Nat.le_refl _) _
          have Ot_23 : Hid (w_t_23.ownsRow w.heap.size 3 1 (.slice (some ⟨wt_20.heap.size, 0, none⟩) 0 0) 0 []) := Lib.hid (by rw [← hw_t_23]; exact own_empty HBwt_20.out.size)
          have Dt_23_thick_0 := Lib.hid (apart_box kthick_0_0__339)
          have Dt_23_off_1 := Lib.hid (apart_box koff_1_0__340)
          have Dt_23_tint_2 := Lib.hid (apart_box ktint_2_0)
          have HBw_t_23 := Lib.hid (Below.step HBwt_20.out bw_t_23)
          have kthick_0_0__350 := cell_below bw_t_23 kthick_0_0__339
          have koff_1_0__351 := cell_below bw_t_23 koff_1_0__340
          have ktint_2_0__352 := cell_below bw_t_23 ktint_2_0
          clear bw_t_23
          cases ret_hid H
          go_wp2_with fail
          go_ret2
          exact ⟨(some ⟨wt_20.heap.size, 0, none⟩), 0, rfl, Ot_23.out, HBw_t_23.out⟩
        | true =>
          replace H := let_hid H
          obtain ⟨t_21, ht_21, H⟩ := H
          obtain rfl : t_21 = false := ht_21.symm
          replace H := app_hid H
          replace H := ite_f H
          replace H := bind_hid H
          obtain ⟨t_28, qt_28, H⟩ := H
          go_wp2_with fail
          go_at_call 84
          refine (Go.Proofs.Ytdgbigkcophjoaa.GiKeysWherePaperIntiIdOfPaperiMatchPapers1.C (list) (thick) (off) (tint) A0 c0 (w.heap.size) (w_thick_0.heap.size) (w_off_1.heap.size) _   (Lib.hid (Cells.below M0.out HBwt_20.out)) N0 (Lib.hid kthick_0_0__339) (Lib.hid koff_1_0__340) (Lib.hid ktint_2_0) qt_28).mono ?_
          rintro e_t_28 wt_28 ⟨At_28, ct_28, rfl, ot_28, bt_28⟩
          have Dt_28_thick_0 := Lib.hid (apart_callbox ot_28 kthick_0_0__339)
          have Dt_28_off_1 := Lib.hid (apart_callbox ot_28 koff_1_0__340)
          have Dt_28_tint_2 := Lib.hid (apart_callbox ot_28 ktint_2_0)
          have Ot_28 := Lib.hid (own_lower ot_28 HBwt_20.out.size)
          clear ot_28
          have HBwt_28 := Lib.hid (Below.step HBwt_20.out bt_28)
          replace kthick_0_0__339 := cell_below bt_28 kthick_0_0__339
          replace koff_1_0__340 := cell_below bt_28 koff_1_0__340
          replace ktint_2_0 := cell_below bt_28 ktint_2_0
          clear bt_28
          cases ret_hid H
          go_wp2_with fail
          go_ret2
          exact ⟨At_28, ct_28, rfl, Ot_28.out, HBwt_28.out⟩
end Go.Proofs.Ytdgbigkcophjoaa.GiMatchPapers

