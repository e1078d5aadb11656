/- Texts on which the proofs of several laws stand, one behind the other (5 of 18). No condition of their own. -/
import Derived.Test.YtgimcnpkngpmiaaChecked
import Derived.Test.YtgimcnpkngpmiaaX11P1
import Derived.Test.YtgimcnpkngpmiaaX11P4
import Derived.WalkKit
import Derived.WalkSpells
import Derived.WalkLawsBesides
import Derived.BigQuiet
import Derived.OwnWalk
import Derived.Deep.LoopGhost
import Derived.Deep.QuietTactic
import Derived.IntWalk
import Derived.Lib.QuietBelow
import Derived.Lib.Hide
import Derived.Outline
import Derived.Lib.ItoaLen
import Derived.Lib.ItoaMem
import Derived.Laws.IdiomStrings
import Derived.Deep.RegionHeld3
import Derived.Test.YtgimcnpkngpmiaaX11P2
/- slices.Clone[[]loop.example/g01062/impl.Postmark,loop.example/g01062/impl.Postmark] as a plain function, and the contract of the program's: where the plain one has an answer, the program has it. Conditions: slices read as lists. -/
namespace Go.Proofs.Ytgimcnpkngpmiaa.GxSlicesCloneLoopExampleG01062ImplPostmarkLoopExampleG01062ImplPostmark
set_option linter.unusedVariables false
set_option linter.unusedSimpArgs false
open Go.RowKit
open Go.Proofs.Ytgimcnpkngpmiaa.Rowed Go.Proofs.Ytgimcnpkngpmiaa.Turn Go.Proofs.Ytgimcnpkngpmiaa.Aid Go.Proofs.Ytgimcnpkngpmiaa.GoP Go.Proofs.Ytgimcnpkngpmiaa.GoM

def P (s_0 : (List Go.Proofs.Ytgimcnpkngpmiaa.PPostmark.Postmark)) : Option ((List Go.Proofs.Ytgimcnpkngpmiaa.PPostmark.Postmark)) :=
  Go.Proofs.Ytgimcnpkngpmiaa.GoK.nilK s_0 fun (nt_2 : Bool) =>
  iteK nt_2
  (some [])
  (guardK (([] : List Go.Proofs.Ytgimcnpkngpmiaa.PPostmark.Postmark).length + s_0.length ≤ 1099511627776) <|
  letK (([] : List Go.Proofs.Ytgimcnpkngpmiaa.PPostmark.Postmark) ++ s_0) fun (t_6 : (List Go.Proofs.Ytgimcnpkngpmiaa.PPostmark.Postmark)) =>
  some t_6)

set_option maxRecDepth 100000 in
set_option maxHeartbeats 2000000 in
theorem C (s_0 : (List Go.Proofs.Ytgimcnpkngpmiaa.PPostmark.Postmark)) (A0 : Option Addr) (c0 : Nat)  (w : World) (M0 : Hid (Cells w 6 A0 s_0.length (Go.Proofs.Ytgimcnpkngpmiaa.PPostmark.flat s_0))) (N0 : Hid (s_0.length ≤ 9223372036854775807)) (Q0 : Hid (Room A0 s_0.length c0))  {r : (List Go.Proofs.Ytgimcnpkngpmiaa.PPostmark.Postmark)} (H : Hid (P s_0 = some r)) :
    Calls Try.prog 54 #[.slice A0 s_0.length c0] w (fun e w' => ∃ A_r c_r, e = .returned (.slice A_r r.length c_r) ∧ w'.ownsRow w.heap.size 26 6 (.slice A_r r.length c_r) r.length (Go.Proofs.Ytgimcnpkngpmiaa.PPostmark.flat r) ∧ Below w.heap.size w w') := by
  have HB := Lib.hid (Below.refl w.heap.size w)
  unfold P at H
  have N0o := N0.out
  obtain ⟨i0_26, hi_26, hz0_26, hz1_26, hz2_26⟩ := Aid.info_parts (P := Try.prog) (T := 26) (z := .agg #[.int .i64 0, .string ByteArray.empty, .int .i64 0, .int .i64 0, .int .i64 0, .string ByteArray.empty]) (s := 6) (b := 64) (by kernel_rfl)
  go_enter Try.func54, Try.ntmps54
  have mt_2 := Go.Proofs.Ytgimcnpkngpmiaa.GoK.nil_cells (l := s_0) (Cells.below M0.out HB.out) (fun h_ => by cases s_0 with | nil => rfl | cons y_ ys_ => simp [Go.Proofs.Ytgimcnpkngpmiaa.PPostmark.flat, Go.Proofs.Ytgimcnpkngpmiaa.PPostmark.Postmark.cells] at h_)
  obtain ⟨nt_2, ht_2⟩ : ∃ z_, (A0 : Option Addr).isNone = z_ := ⟨_, rfl⟩
  have rt_2 : ∀ W_, (binOp .eql 32 (.slice A0 s_0.length c0) (.slice none 0 0)).run Try.prog W_ = .ok (.bool nt_2) W_ := by intro W_; rw [← ht_2]; exact Lib.run_eql_slice_nil W_ _ _ _ _ _ _ _ Try.underlying32
  replace H := Go.Proofs.Ytgimcnpkngpmiaa.GoK.nilK_hid H nt_2 (by rw [← ht_2]; exact mt_2) (by intro h_; subst h_; rfl)
  clear mt_2 ht_2
  cases nt_2 with
  | false =>
    replace H := ite_f H
    obtain ⟨w_t_4, hw_t_4⟩ : ∃ x, w.alloc (.cells #[] 26) = x := ⟨_, rfl⟩
    have bw_t_4 : Below w.heap.size w w_t_4 := by rw [← hw_t_4]; exact (Below.refl _ _).alloc (Nat.le_refl _) _
    have Ot_4 : Hid (w_t_4.ownsRow w.heap.size 26 6 (.slice (some ⟨w.heap.size, 0, none⟩) 0 0) 0 []) := Lib.hid (by rw [← hw_t_4]; exact own_empty HB.out.size)
    have HBw_t_4 := Lib.hid (Below.step HB.out bw_t_4)
    clear bw_t_4
    replace H := guard_hid H
    obtain ⟨hlt_6, H⟩ := H
    replace H := let_hid H
    obtain ⟨t_6, ht_6, H⟩ := H
    have hht_6 := Lib.hid ht_6
    clear ht_6
    have hst_6 := HBw_t_4.out.size
    have Ct_6 := Lib.hid ((Cells.below M0.out HBw_t_4.out))
    go_wp2_with (at_builtin; refine append_spread rfl _ _ 32 rfl w.heap.size 26 i0_26 (.agg #[.int .i64 0, .string ByteArray.empty, .int .i64 0, .int .i64 0, .int .i64 0, .string ByteArray.empty]) 6 64 Try.underlying32 hi_26 hz0_26 hz1_26 hz2_26 rfl (by decide) (some ⟨w.heap.size, 0, none⟩) 0 0 _ rfl Ot_4.out A0 s_0.length c0 (Go.Proofs.Ytgimcnpkngpmiaa.PPostmark.flat s_0) rfl Q0.out Ct_6.out (fun u hu => by obtain ⟨y_, _, hy_⟩ := List.mem_flatMap.1 hu; simp only [Go.Proofs.Ytgimcnpkngpmiaa.PPostmark.Postmark.cells, List.mem_cons, List.not_mem_nil, or_false] at hy_; rcases hy_ with rfl | rfl | rfl | rfl | rfl | rfl <;> rfl) (by unfold maxLen; simp only [List.length_nil] at hlt_6; omega) (by simp only [List.length_nil] at hlt_6; omega) hst_6 ?_; intro vt_6 wt_6 ot_6 gt_6 yt_6; obtain ⟨At_6, ct_6, rfl, pt_6⟩ := own_pushS (f := Go.Proofs.Ytgimcnpkngpmiaa.PPostmark.flat) hht_6.out (by simp [Go.Proofs.Ytgimcnpkngpmiaa.PPostmark.flat]) rfl ot_6; have Pt_6 := Lib.hid pt_6; have Yt_6 := Lib.hid yt_6; have Gt_6 := Lib.hid gt_6; clear ot_6 gt_6 pt_6 yt_6; refine stop_in ?_)
    refine stop_out ?_
    clear Ct_6
    have HBwt_6 := Lib.hid (HBw_t_4.out.grown Gt_6.out hst_6 (fun q hq => (Ot_4.out.lt q hq).1))
    clear hst_6
    clear Ot_4 Yt_6 Gt_6
    obtain rfl := ret_hid H
    go_wp2_with fail
    go_ret
    exact ⟨At_6, ct_6, rfl, Pt_6.out, HBwt_6.out⟩
  | true =>
    replace H := ite_t H
    obtain rfl := ret_hid H
    go_wp2_with fail
    go_ret
    exact ⟨none, 0, rfl, own_nil, HB.out⟩
end Go.Proofs.Ytgimcnpkngpmiaa.GxSlicesCloneLoopExampleG01062ImplPostmarkLoopExampleG01062ImplPostmark

/- The contracts of the laws' helpers on slices of strings: szStringS, toStringS, eqStringS. Condition: the slice reads as a list of strings. -/
namespace Go.Proofs.Ytgimcnpkngpmiaa.HelpStr
set_option linter.unusedVariables false
open Go.RowKit
open Go.Proofs.Ytgimcnpkngpmiaa.Rowed

/-- how many bytes the strings hold together -/
def nbytes (l : List ByteArray) : Nat := (l.map ByteArray.size).sum
/-- szStringS: what is left of 'left' behind the strings and their number, or -1 where nothing is left -/
def SzPost (l : List ByteArray) (left : Int) (w : World) (e : Ending) (w' : World) : Prop :=
  ((0 ≤ left - (l.length : Int) - (nbytes l : Int) ∧ e = .returned (.int .i64 (left - (l.length : Int) - (nbytes l : Int)))) ∨ (left - (l.length : Int) - (nbytes l : Int) < 0 ∧ e = .returned (.int .i64 (-1)))) ∧ w = w'

/-- toStringS: a new row with the same strings -/
def ToPost (l : List ByteArray) (w : World) (e : Ending) (w' : World) : Prop :=
  ∃ g, e = .returned (.slice (some ⟨g, 0, none⟩) l.length l.length) ∧ w'.ownsRow w.heap.size 9 1 (.slice (some ⟨g, 0, none⟩) l.length l.length) l.length (l.map Value.string) ∧ Below w.heap.size w w'

def RelTo (l : List ByteArray) (ys : List Value) (w : World) (k : Nat) (wr : World) : Prop :=
  wr.ownsRow w.heap.size 9 1 (.slice (some ⟨w.heap.size, 0, none⟩) l.length l.length) l.length (fill (l.map Value.string) ys k) ∧ Below w.heap.size w wr

end Go.Proofs.Ytgimcnpkngpmiaa.HelpStr

/- The contracts of the laws' helpers that mark a slice of strings and look whether the marks are held: markText, markStringS, heldStringS. Conditions: the marks begin at 1 or more; the slice is one that the caller has made. -/
namespace Go.Proofs.Ytgimcnpkngpmiaa.MarkStr
set_option linter.unusedVariables false
open Go.RowKit
open Go.Proofs.Ytgimcnpkngpmiaa.Rowed Go.Proofs.Ytgimcnpkngpmiaa.HelpStr

/-- the mark of number k -/
def mt (k : Nat) : ByteArray := ⟨(109 :: Lib.decDigits k).toArray⟩

theorem ext_of {a b : ByteArray} (h : a.data.toList = b.data.toList) : a = b := by
  obtain ⟨⟨x⟩⟩ := a
  obtain ⟨⟨y⟩⟩ := b
  simp at h
  rw [h]
theorem add_str {P : Program} (a b c : ByteArray) (h : a.data.toList ++ b.data.toList = c.data.toList) (hl : c.data.toList.length ≤ 9223372036854775807) (W : World) :
    (Op.stringOp .add a b).run P W = .ok (.string c) W := by
  have e1 : a.data.toList.length = a.size := by simp
  have e2 : b.data.toList.length = b.size := by simp
  rw [← h, List.length_append, e1, e2] at hl
  rw [run_string_add_sum]
  · congr 2
    apply ext_of
    rw [← h]
    simp
  · exact hl
theorem dec_small (j : Nat) (h : j < 10) : Lib.decDigits j = [UInt8.ofNat (48 + j % 10)] := by
  rw [Lib.decDigits_one h, Nat.mod_eq_of_lt h]
theorem dec_step (j : Nat) (h : ¬ j < 10) : Lib.decDigits j = Lib.decDigits (j / 10) ++ [UInt8.ofNat (48 + j % 10)] := by
  rw [Lib.decDigits, dif_neg h]

/-- what is done when j is what is left: o -/
def Rel (k j : Nat) (o : List UInt8) : Prop := (if j = 0 then [] else Lib.decDigits j) ++ o = Lib.decDigits k
theorem Rel.next {k j : Nat} {o : List UInt8} (h : Rel k j o) (hj : 0 < j) : Rel k (j / 10) (UInt8.ofNat (48 + j % 10) :: o) := by
  unfold Rel at h ⊢
  rw [if_neg (by omega)] at h
  by_cases h10 : j < 10
  · rw [if_pos (by omega)]
    rw [dec_small j h10] at h
    exact h
  · rw [if_neg (by omega)]
    rw [dec_step j h10, List.append_assoc] at h
    exact h
theorem Rel.len {k j : Nat} {o : List UInt8} (h : Rel k j o) (hk : k ≤ 1000000000) : o.length ≤ 20 := by
  have h1 := congrArg List.length h
  rw [List.length_append, Lib.decDigits_length] at h1
  have := Lib.nDigits_le20 k (by omega)
  omega
theorem byte_num (j : Nat) : ((UInt8.ofNat (48 + j % 10)).toNat : Int) = 48 + (j : Int) % 10 := by
  rw [UInt8.toNat_ofNat']; omega

theorem conv_one {P : Program} (W : World) (src dst e : TypeId) (c : UInt8) (hs : P.underlying src = some (.slice e)) (he : P.underlying e = some (.int .u8)) (hd : P.underlying dst = some .string) :
    (convert src dst (.slice (some ⟨W.heap.size, 0, none⟩) 1 1)).run P (W.alloc (.cells #[.int .u8 (c.toNat : Int)] e)) = .ok (.string ⟨#[c]⟩) (W.alloc (.cells #[.int .u8 (c.toNat : Int)] e)) := by
  have := run_convert_bytes_back (P := P) (W.alloc (.cells #[.int .u8 (c.toNat : Int)] e)) src dst e ⟨W.heap.size, 0, none⟩ 1 [c] hs he hd (fun j hj => by
    have : j = 0 := by simpa using hj
    subst this
    rw [show (⟨W.heap.size, 0, none⟩ : Addr).add 0 = ⟨W.heap.size, 0, none⟩ from rfl, World.cell?_alloc_new]
    rfl)
  exact this

set_option maxHeartbeats 1000000 in
theorem markText_any (k : Nat) (w : World) (h1 : 1 ≤ k) (h2 : k ≤ 1000000000) :
    Calls Try.prog 55 #[.int .i64 (k : Int)] w fun e w' => e = .returned (.string (mt k)) ∧ Below w.heap.size w w' := by
  have hk0 : decide (k = 0) = false := by simp; omega
  go_enter Try.func55, Try.ntmps55
  go_wp2
  go_loopw [0, 3] (fun t o wr => ∃ (j : Nat) (q : ByteArray), j ≤ k ∧ t = .int .i64 j ∧ o = .string q ∧ Hid (Rel k j q.data.toList) ∧ Hid (Below w.heap.size w wr)) (fun t _ _ => (intOf t).toNat)
  case atStart => exact ⟨k, ⟨#[]⟩, Nat.le_refl _, rfl, rfl, Lib.hid (by unfold Rel; rw [if_neg (by omega)]; simp), Lib.hid (Below.refl _ _)⟩
  case round =>
    obtain ⟨j, q, hjk, rfl, rfl, HR, HB⟩ := hrel
    by_cases hj : 0 < j
    · obtain ⟨ch, hch, HN⟩ : ∃ ch : UInt8, (ch.toNat : Int) = 48 + (j : Int) % 10 ∧ Hid (Rel k (j / 10) (ch :: q.data.toList)) := ⟨_, byte_num j, HR.out.next hj⟩
      have hadd := add_str (P := Try.prog) ⟨#[ch]⟩ q ⟨(ch :: q.data.toList).toArray⟩ rfl (by have := HN.out.len h2; show (ch :: q.data.toList).length ≤ _; omega)
      have hcv := fun W => conv_one (P := Try.prog) W 65 9 5 ch Try.underlying65 Try.underlying5 Try.underlying9
      rw [hch] at hcv
      have HB3 := Lib.hid (HB.out.alloc HB.out.size (.cells #[.int .u8 (48 + (j : Int) % 10)] 5))
      clear hch
      go_wp2
      go_roundw
      case rel => exact ⟨j / 10, _, by omega, by go_num, rfl, HN, HB3⟩
      case measure => simp [intOf]; omega
    · obtain rfl : j = 0 := by omega
      have hfin : q.data.toList = Lib.decDigits k := HR.out
      have HF := Lib.hid hfin
      have hadd := add_str (P := Try.prog) ⟨#[109]⟩ q (mt k) (by unfold mt; rw [hfin]; rfl) (by have := HR.out.len h2; rw [hfin] at this; show (109 :: Lib.decDigits k).length ≤ _; rw [List.length_cons]; omega)
      clear hfin
      go_wp2
      go_ret
      exact ⟨rfl, HB.out⟩

/-- the marks k, k + 1, .. -/
def marks (k n : Nat) : List Value := (List.range n).map fun i => Value.string (mt (k + i))
theorem grown_of {W W' : World} (h : Below W.heap.size W W') : W.grownBy W' none := ⟨h.os, h.tape, h.output, h.size, fun k hk _ => h.block k hk⟩
theorem grown_weak {W W' : World} (h : W.grownBy W' none) (g : Nat) : W.grownBy W' (some g) := ⟨h.os, h.tape, h.output, h.size, fun k hk _ => h.block k hk (by simp)⟩
theorem grown_tr {a b c : World} {r : Option Nat} (h : a.grownBy b r) (k : b.grownBy c r) : a.grownBy c r :=
  ⟨k.os.trans h.os, k.tape.trans h.tape, k.output.trans h.output, Nat.le_trans h.size k.size, fun i hi hr => (k.block i (Nat.lt_of_lt_of_le hi h.size) hr).trans (h.block i hi hr)⟩

def MarkRel (w : World) (base g n c k : Nat) (xs : List Value) (i : Nat) (wr : World) : Prop :=
  wr.ownsRow base 9 1 (.slice (some ⟨g, 0, none⟩) n c) n (fill (marks k n) xs i) ∧ w.grownBy wr (some g)

def MarkPost (w : World) (base g n c k : Nat) (e : Ending) (w' : World) : Prop :=
  e = .returned (.int .i64 ((k + n : Nat) : Int)) ∧ w'.ownsRow base 9 1 (.slice (some ⟨g, 0, none⟩) n c) n (marks k n) ∧ w.grownBy w' (some g)

def HeldPost (w : World) (k n : Nat) (e : Ending) (w' : World) : Prop := e = .returned (.int .i64 ((k + n : Nat) : Int)) ∧ Below w.heap.size w w'

end Go.Proofs.Ytgimcnpkngpmiaa.MarkStr

/- markText as a plain function, from 1 to a billion; the contract of the program's. No condition. -/
namespace Go.Proofs.Ytgimcnpkngpmiaa.GlMarkText
set_option linter.unusedVariables false
open Go.RowKit
open Go.Proofs.Ytgimcnpkngpmiaa.Turn
def P (k : Int) : Option ByteArray := if 1 ≤ k ∧ k ≤ 1000000000 then some (Go.Proofs.Ytgimcnpkngpmiaa.MarkStr.mt k.toNat) else none
theorem C (k : Int) (w : World) {r : ByteArray} (H : Hid (P k = some r)) : Calls Try.prog 55 #[.int .i64 k] w (Gives (.string r) w) := by
  have h : P k = some r := H
  unfold P at h
  by_cases hk : 1 ≤ k ∧ k ≤ 1000000000
  · rw [if_pos hk] at h
    obtain rfl := Option.some.inj h
    obtain ⟨n, rfl⟩ := Int.eq_ofNat_of_zero_le (show 0 ≤ k by omega)
    exact Go.Proofs.Ytgimcnpkngpmiaa.MarkStr.markText_any n w (by omega) (by omega)
  · rw [if_neg hk] at h; simp at h
end Go.Proofs.Ytgimcnpkngpmiaa.GlMarkText

/- loop.example/g01062/laws.markPostmarkS as a plain function, and the contract of the program's: where the plain one has an answer, the program has it. Conditions: slices read as lists. -/
namespace Go.Proofs.Ytgimcnpkngpmiaa.GlMarkPostmarkS
set_option linter.unusedVariables false
set_option linter.unusedSimpArgs false
open Go.RowKit
open Go.Proofs.Ytgimcnpkngpmiaa.Rowed Go.Proofs.Ytgimcnpkngpmiaa.Turn Go.Proofs.Ytgimcnpkngpmiaa.Aid Go.Proofs.Ytgimcnpkngpmiaa.GoP Go.Proofs.Ytgimcnpkngpmiaa.GoM

def l0  (k0 : Nat) (s : (List Go.Proofs.Ytgimcnpkngpmiaa.PPostmark.Postmark) × Int) (nx0 bk0 : (List Go.Proofs.Ytgimcnpkngpmiaa.PPostmark.Postmark) × Int → Option (Int × (List Go.Proofs.Ytgimcnpkngpmiaa.PPostmark.Postmark))) : Option (Int × (List Go.Proofs.Ytgimcnpkngpmiaa.PPostmark.Postmark)) :=
  unp2 s fun a_0l0 k_1l0 =>
  Option.bind (idx a_0l0 (k0 : Int)) fun (yt_9 : Go.Proofs.Ytgimcnpkngpmiaa.PPostmark.Postmark) =>
  unPostmark yt_9 fun (t_9_id : Int) (t_9_town : ByteArray) (t_9_kind_ : Int) (t_9_first : Int) (t_9_last : Int) (t_9_lost : ByteArray) =>
  letK (a_0l0.set k0 (Go.Proofs.Ytgimcnpkngpmiaa.PPostmark.Postmark.mk k_1l0 t_9_town t_9_kind_ t_9_first t_9_last t_9_lost)) fun (l11_11 : (List Go.Proofs.Ytgimcnpkngpmiaa.PPostmark.Postmark)) =>
  letK (IntKind.i64.wrap (k_1l0 + 1)) fun (t_13 : Int) =>
  Option.bind (Go.Proofs.Ytgimcnpkngpmiaa.GlMarkText.P t_13) fun (t_18 : ByteArray) =>
  Option.bind (idx l11_11 (k0 : Int)) fun (yt_19 : Go.Proofs.Ytgimcnpkngpmiaa.PPostmark.Postmark) =>
  unPostmark yt_19 fun (t_19_id : Int) (t_19_town : ByteArray) (t_19_kind_ : Int) (t_19_first : Int) (t_19_last : Int) (t_19_lost : ByteArray) =>
  letK (l11_11.set k0 (Go.Proofs.Ytgimcnpkngpmiaa.PPostmark.Postmark.mk t_19_id t_18 t_19_kind_ t_19_first t_19_last t_19_lost)) fun (l21_21 : (List Go.Proofs.Ytgimcnpkngpmiaa.PPostmark.Postmark)) =>
  letK (IntKind.i64.wrap (t_13 + 1)) fun (t_23 : Int) =>
  Option.bind (idx l21_21 (k0 : Int)) fun (yt_28 : Go.Proofs.Ytgimcnpkngpmiaa.PPostmark.Postmark) =>
  unPostmark yt_28 fun (t_28_id : Int) (t_28_town : ByteArray) (t_28_kind_ : Int) (t_28_first : Int) (t_28_last : Int) (t_28_lost : ByteArray) =>
  letK (l21_21.set k0 (Go.Proofs.Ytgimcnpkngpmiaa.PPostmark.Postmark.mk t_28_id t_28_town t_23 t_28_first t_28_last t_28_lost)) fun (l30_30 : (List Go.Proofs.Ytgimcnpkngpmiaa.PPostmark.Postmark)) =>
  letK (IntKind.i64.wrap (t_23 + 1)) fun (t_32 : Int) =>
  Option.bind (idx l30_30 (k0 : Int)) fun (yt_37 : Go.Proofs.Ytgimcnpkngpmiaa.PPostmark.Postmark) =>
  unPostmark yt_37 fun (t_37_id : Int) (t_37_town : ByteArray) (t_37_kind_ : Int) (t_37_first : Int) (t_37_last : Int) (t_37_lost : ByteArray) =>
  letK (l30_30.set k0 (Go.Proofs.Ytgimcnpkngpmiaa.PPostmark.Postmark.mk t_37_id t_37_town t_37_kind_ t_32 t_37_last t_37_lost)) fun (l39_39 : (List Go.Proofs.Ytgimcnpkngpmiaa.PPostmark.Postmark)) =>
  letK (IntKind.i64.wrap (t_32 + 1)) fun (t_41 : Int) =>
  Option.bind (idx l39_39 (k0 : Int)) fun (yt_46 : Go.Proofs.Ytgimcnpkngpmiaa.PPostmark.Postmark) =>
  unPostmark yt_46 fun (t_46_id : Int) (t_46_town : ByteArray) (t_46_kind_ : Int) (t_46_first : Int) (t_46_last : Int) (t_46_lost : ByteArray) =>
  letK (l39_39.set k0 (Go.Proofs.Ytgimcnpkngpmiaa.PPostmark.Postmark.mk t_46_id t_46_town t_46_kind_ t_46_first t_41 t_46_lost)) fun (l48_48 : (List Go.Proofs.Ytgimcnpkngpmiaa.PPostmark.Postmark)) =>
  letK (IntKind.i64.wrap (t_41 + 1)) fun (t_50 : Int) =>
  Option.bind (Go.Proofs.Ytgimcnpkngpmiaa.GlMarkText.P t_50) fun (t_55 : ByteArray) =>
  Option.bind (idx l48_48 (k0 : Int)) fun (yt_56 : Go.Proofs.Ytgimcnpkngpmiaa.PPostmark.Postmark) =>
  unPostmark yt_56 fun (t_56_id : Int) (t_56_town : ByteArray) (t_56_kind_ : Int) (t_56_first : Int) (t_56_last : Int) (t_56_lost : ByteArray) =>
  letK (l48_48.set k0 (Go.Proofs.Ytgimcnpkngpmiaa.PPostmark.Postmark.mk t_56_id t_56_town t_56_kind_ t_56_first t_56_last t_55)) fun (l58_58 : (List Go.Proofs.Ytgimcnpkngpmiaa.PPostmark.Postmark)) =>
  letK (IntKind.i64.wrap (t_50 + 1)) fun (t_60 : Int) =>
  appK nx0 (l58_58, t_60)

def e0  (s : (List Go.Proofs.Ytgimcnpkngpmiaa.PPostmark.Postmark) × Int) : Option (Int × (List Go.Proofs.Ytgimcnpkngpmiaa.PPostmark.Postmark)) :=
  unp2 s fun a_0l0 k_1l0 =>
  some (k_1l0, a_0l0)

def P (a : (List Go.Proofs.Ytgimcnpkngpmiaa.PPostmark.Postmark)) (k_1 : Int) : Option (Int × (List Go.Proofs.Ytgimcnpkngpmiaa.PPostmark.Postmark)) :=
  cntK (l0 ) (a.length) 0 (a, k_1) (e0 )

set_option maxRecDepth 100000 in
set_option maxHeartbeats 2000000 in
theorem C (a : (List Go.Proofs.Ytgimcnpkngpmiaa.PPostmark.Postmark)) (k_1 : Int) (A0 : Option Addr) (c0 : Nat)  (b0 : Nat) (w : World) (M0 : Hid (w.ownsRow b0 26 6 (.slice A0 a.length c0) a.length (Go.Proofs.Ytgimcnpkngpmiaa.PPostmark.flat a))) (N0 : Hid (a.length ≤ 9223372036854775807))  {r : Int} {l_ : (List Go.Proofs.Ytgimcnpkngpmiaa.PPostmark.Postmark)} (H : Hid (P a k_1 = some (r, l_))) :
    Calls Try.prog 25 #[.slice A0 a.length c0, .int .i64 k_1] w (fun e w' => e = .returned (.int .i64 r) ∧ w'.ownsRow b0 26 6 (.slice A0 a.length c0) a.length (Go.Proofs.Ytgimcnpkngpmiaa.PPostmark.flat l_) ∧ l_.length = a.length ∧ w.grownBy w' (Value.slice A0 a.length c0).ownBlock) := by
  have HB := Lib.hid (Aid.grown_refl w (Value.slice A0 a.length c0).ownBlock)
  unfold P at H
  have N0o := N0.out
  go_enter Try.func25, Try.ntmps25
  go_wp2_with fail
  have hb_0 : a.length ≤ 9223372036854775807 := own_max M0.out
  go_wp2_with fail
  go_loopg [5, 1] (a.length) (fun m_ v5_ v1_ wr => ∃ (k0 : Nat) (a_0l0 : (List Go.Proofs.Ytgimcnpkngpmiaa.PPostmark.Postmark)) (k_1l0 : Int), k0 + m_ = a.length ∧ v5_ = .int .i64 (k0 : Int) ∧ v1_ = .int .i64 k_1l0 ∧ Hid (cntK (l0 ) m_ k0 (a_0l0, k_1l0) (e0 ) = some (r, l_)) ∧ Hid (w.grownBy wr (Value.slice A0 a.length c0).ownBlock) ∧ Hid (wr.ownsRow b0 26 6 (.slice A0 a.length c0) a.length (Go.Proofs.Ytgimcnpkngpmiaa.PPostmark.flat a_0l0)) ∧ Hid (a_0l0.length = a.length))
  case atStart => exact ⟨0, _, _, by omega, rfl, rfl, H, HB, M0, Lib.hid (rfl)⟩
  case round =>
    obtain ⟨k0, a_0l0, k_1l0, hkm0, rfl, rfl, H, HBwr0, Oa_0l0, hna_0l0⟩ := hrel
    rename World => wr0
    cases gk with
    | zero =>
      obtain rfl : k0 = a.length := by omega
      have hc0 : decide (((a.length : Nat) : Int) < ((a.length : Nat) : Int)) = false := by simp
      replace H := cnt_zero H
      unfold e0 at H
      replace H := unp2_hid H
      cases ret_hid H
      go_wp2_with fail
      go_ret
      exact ⟨rfl, Oa_0l0.out, hna_0l0.out, HBwr0.out⟩
    | succ m0 =>
      have hlt0 : k0 < a.length := by omega
      have hc0 : decide ((k0 : Int) < ((a.length : Nat) : Int)) = true := by simp; omega
      replace H := cnt_succ H
      unfold l0 at H
      replace H := unp2_hid H
      replace H := idx_hid H
      obtain ⟨nt_9, yt_9, et_9, lt_9, gt_9, H⟩ := H
      obtain rfl : k0 = nt_9 := by omega
      clear et_9
      obtain ⟨t_9_id, t_9_town, t_9_kind_, t_9_first, t_9_last, t_9_lost⟩ := yt_9
      replace H := unPostmark_hid H
      have hqt_9 := hna_0l0.out
      obtain ⟨qt_9, Qt_9⟩ := own_some Oa_0l0.out (by omega)
      subst Qt_9
      obtain ⟨ab_t_9, ao_t_9, zt_9, At_9, z_t_9, ct_9_0, ct_9_1, ct_9_2, ct_9_3, ct_9_4, ct_9_5⟩ := Go.Proofs.Ytgimcnpkngpmiaa.OPostmark.at_ (own_cells Oa_0l0.out) (k := k0) (by omega)
      obtain rfl := Option.some.inj (gt_9.out.symm.trans z_t_9)
      simp only [Option.some.injEq, Addr.mk.injEq] at At_9
      obtain ⟨rfl, rfl, _⟩ := At_9
      clear z_t_9
      simp only [Nat.zero_add] at ct_9_0 ct_9_1 ct_9_2 ct_9_3 ct_9_4 ct_9_5
      have b0t_9 : (0 : Int) ≤ (k0 : Int) := by omega
      have b1t_9 : (k0 : Int) < ((a.length : Nat) : Int) := by omega
      have b2t_9 : ((k0 : Int)).toNat = k0 := by omega
      clear hqt_9
      replace H := let_hid H
      obtain ⟨l11_11, hl11_11, H⟩ := H
      try simp only [Int.toNat_natCast] at hl11_11
      obtain ⟨wl11_11, hwl11_11⟩ : ∃ x, (wr0).setCell ⟨qt_9, k0 * 6, none⟩ (.int .i64 k_1l0) = x := ⟨_, rfl⟩
      have z0l11_11 := Oa_0l0.out.frozenAt (k0 * 6)
      have Sl11_11 := Lib.hid (own_stores [(k0 * 6, .int .i64 k_1l0)] Oa_0l0.out)
      have nl11_11 : Hid (l11_11.length = a.length) := Lib.hid (by rw [← hl11_11, List.length_set]; exact hna_0l0.out)
      have Pl11_11 : Hid (wl11_11.ownsRow b0 26 6 (.slice (some ⟨qt_9, 0, none⟩) a.length c0) a.length (Go.Proofs.Ytgimcnpkngpmiaa.PPostmark.flat l11_11)) := Lib.hid (by have es_ := set_self gt_9.out; have e0_ := flat_set Go.Proofs.Ytgimcnpkngpmiaa.PPostmark.Postmark.cells 6 (fun _ => rfl) a_0l0 (k0) 0 (Go.Proofs.Ytgimcnpkngpmiaa.PPostmark.Postmark.mk t_9_id t_9_town t_9_kind_ t_9_first t_9_last t_9_lost) (Go.Proofs.Ytgimcnpkngpmiaa.PPostmark.Postmark.mk k_1l0 t_9_town t_9_kind_ t_9_first t_9_last t_9_lost) (.int .i64 k_1l0) lt_9 (by decide) rfl; rw [es_] at e0_; have e_ : ([(k0 * 6, .int .i64 k_1l0)] : List (Nat × Value)).foldl (fun xs p => xs.set p.1 p.2) (Go.Proofs.Ytgimcnpkngpmiaa.PPostmark.flat a_0l0) = (Go.Proofs.Ytgimcnpkngpmiaa.PPostmark.flat l11_11) := (by rw [← hl11_11]; show _ = List.flatMap Go.Proofs.Ytgimcnpkngpmiaa.PPostmark.Postmark.cells _; first | (rw [← e0_]; first | done | rfl)); rw [← hwl11_11, ← e_]; exact Sl11_11.out.1)
      have Gl11_11 : Hid (wr0.grownBy wl11_11 (Value.slice (some ⟨qt_9, 0, none⟩) a.length c0).ownBlock) := Lib.hid (by rw [← hwl11_11]; exact Sl11_11.out.2)
      have HBwl11_11 := Lib.hid (Aid.grown_tr HBwr0.out Gl11_11.out)
      have hhl11_11 := Lib.hid hl11_11
      clear hl11_11 Sl11_11
      clear Oa_0l0 Gl11_11
      replace H := let_hid H
      obtain ⟨t_13, ht_13, H⟩ := H
      replace H := bind_hid H
      obtain ⟨t_18, qt_18, H⟩ := H
      go_wp2_with fail
      clear z0l11_11 ct_9_0 ct_9_1 ct_9_2 ct_9_3 ct_9_4 ct_9_5
      go_at_call 55
      refine (Go.Proofs.Ytgimcnpkngpmiaa.GlMarkText.C (t_13)  _    qt_18).mono ?_
      rintro e_t_18 wt_18 ⟨rfl, bt_18⟩
      have HBwt_18 := Lib.hid (grown_below HBwl11_11.out bt_18)
      replace Pl11_11 := Lib.hid (own_below Pl11_11.out bt_18)
      clear bt_18
      replace H := idx_hid H
      obtain ⟨nt_19, yt_19, et_19, lt_19, gt_19, H⟩ := H
      obtain rfl : k0 = nt_19 := by omega
      clear et_19
      obtain ⟨t_19_id, t_19_town, t_19_kind_, t_19_first, t_19_last, t_19_lost⟩ := yt_19
      replace H := unPostmark_hid H
      have hqt_19 := nl11_11.out
      obtain ⟨ab_t_19, ao_t_19, zt_19, At_19, z_t_19, ct_19_0, ct_19_1, ct_19_2, ct_19_3, ct_19_4, ct_19_5⟩ := Go.Proofs.Ytgimcnpkngpmiaa.OPostmark.at_ (own_cells Pl11_11.out) (k := k0) (by omega)
      obtain rfl := Option.some.inj (gt_19.out.symm.trans z_t_19)
      simp only [Option.some.injEq, Addr.mk.injEq] at At_19
      obtain ⟨rfl, rfl, _⟩ := At_19
      clear z_t_19
      simp only [Nat.zero_add] at ct_19_0 ct_19_1 ct_19_2 ct_19_3 ct_19_4 ct_19_5
      have b0t_19 : (0 : Int) ≤ (k0 : Int) := by omega
      have b1t_19 : (k0 : Int) < ((a.length : Nat) : Int) := by omega
      have b2t_19 : ((k0 : Int)).toNat = k0 := by omega
      clear hqt_19
      replace H := let_hid H
      obtain ⟨l21_21, hl21_21, H⟩ := H
      try simp only [Int.toNat_natCast] at hl21_21
      obtain ⟨wl21_21, hwl21_21⟩ : ∃ x, (wt_18).setCell ⟨qt_9, k0 * 6 + 1, none⟩ (.string t_18) = x := ⟨_, rfl⟩
      have z0l21_21 := Pl11_11.out.frozenAt (k0 * 6 + 1)
      have Sl21_21 := Lib.hid (own_stores [(k0 * 6 + 1, .string t_18)] Pl11_11.out)
      have nl21_21 : Hid (l21_21.length = a.length) := Lib.hid (by rw [← hl21_21, List.length_set]; exact nl11_11.out)
      have Pl21_21 : Hid (wl21_21.ownsRow b0 26 6 (.slice (some ⟨qt_9, 0, none⟩) a.length c0) a.length (Go.Proofs.Ytgimcnpkngpmiaa.PPostmark.flat l21_21)) := Lib.hid (by have es_ := set_self gt_19.out; have e0_ := flat_set Go.Proofs.Ytgimcnpkngpmiaa.PPostmark.Postmark.cells 6 (fun _ => rfl) l11_11 (k0) 1 (Go.Proofs.Ytgimcnpkngpmiaa.PPostmark.Postmark.mk t_19_id t_19_town t_19_kind_ t_19_first t_19_last t_19_lost) (Go.Proofs.Ytgimcnpkngpmiaa.PPostmark.Postmark.mk t_19_id t_18 t_19_kind_ t_19_first t_19_last t_19_lost) (.string t_18) lt_19 (by decide) rfl; rw [es_] at e0_; have e_ : ([(k0 * 6 + 1, .string t_18)] : List (Nat × Value)).foldl (fun xs p => xs.set p.1 p.2) (Go.Proofs.Ytgimcnpkngpmiaa.PPostmark.flat l11_11) = (Go.Proofs.Ytgimcnpkngpmiaa.PPostmark.flat l21_21) := (by rw [← hl21_21]; show _ = List.flatMap Go.Proofs.Ytgimcnpkngpmiaa.PPostmark.Postmark.cells _; first | (rw [← e0_]; first | done | rfl)); rw [← hwl21_21, ← e_]; exact Sl21_21.out.1)
      have Gl21_21 : Hid (wt_18.grownBy wl21_21 (Value.slice (some ⟨qt_9, 0, none⟩) a.length c0).ownBlock) := Lib.hid (by rw [← hwl21_21]; exact Sl21_21.out.2)
      have HBwl21_21 := Lib.hid (Aid.grown_tr HBwt_18.out Gl21_21.out)
      have hhl21_21 := Lib.hid hl21_21
      clear hl21_21 Sl21_21
      clear Pl11_11 Gl21_21
      replace H := let_hid H
      obtain ⟨t_23, ht_23, H⟩ := H
      replace H := idx_hid H
      obtain ⟨nt_28, yt_28, et_28, lt_28, gt_28, H⟩ := H
      obtain rfl : k0 = nt_28 := by omega
      clear et_28
      obtain ⟨t_28_id, t_28_town, t_28_kind_, t_28_first, t_28_last, t_28_lost⟩ := yt_28
      replace H := unPostmark_hid H
      have hqt_28 := nl21_21.out
      obtain ⟨ab_t_28, ao_t_28, zt_28, At_28, z_t_28, ct_28_0, ct_28_1, ct_28_2, ct_28_3, ct_28_4, ct_28_5⟩ := Go.Proofs.Ytgimcnpkngpmiaa.OPostmark.at_ (own_cells Pl21_21.out) (k := k0) (by omega)
      obtain rfl := Option.some.inj (gt_28.out.symm.trans z_t_28)
      simp only [Option.some.injEq, Addr.mk.injEq] at At_28
      obtain ⟨rfl, rfl, _⟩ := At_28
      clear z_t_28
      simp only [Nat.zero_add] at ct_28_0 ct_28_1 ct_28_2 ct_28_3 ct_28_4 ct_28_5
      have b0t_28 : (0 : Int) ≤ (k0 : Int) := by omega
      have b1t_28 : (k0 : Int) < ((a.length : Nat) : Int) := by omega
      have b2t_28 : ((k0 : Int)).toNat = k0 := by omega
      clear hqt_28
      replace H := let_hid H
      obtain ⟨l30_30, hl30_30, H⟩ := H
      try simp only [Int.toNat_natCast] at hl30_30
      obtain ⟨wl30_30, hwl30_30⟩ : ∃ x, (wl21_21).setCell ⟨qt_9, k0 * 6 + 2, none⟩ (.int .i64 t_23) = x := ⟨_, rfl⟩
      have z0l30_30 := Pl21_21.out.frozenAt (k0 * 6 + 2)
      have Sl30_30 := Lib.hid (own_stores [(k0 * 6 + 2, .int .i64 t_23)] Pl21_21.out)
      have nl30_30 : Hid (l30_30.length = a.length) := Lib.hid (by rw [← hl30_30, List.length_set]; exact nl21_21.out)
      have Pl30_30 : Hid (wl30_30.ownsRow b0 26 6 (.slice (some ⟨qt_9, 0, none⟩) a.length c0) a.length (Go.Proofs.Ytgimcnpkngpmiaa.PPostmark.flat l30_30)) := Lib.hid (by have es_ := set_self gt_28.out; have e0_ := flat_set Go.Proofs.Ytgimcnpkngpmiaa.PPostmark.Postmark.cells 6 (fun _ => rfl) l21_21 (k0) 2 (Go.Proofs.Ytgimcnpkngpmiaa.PPostmark.Postmark.mk t_28_id t_28_town t_28_kind_ t_28_first t_28_last t_28_lost) (Go.Proofs.Ytgimcnpkngpmiaa.PPostmark.Postmark.mk t_28_id t_28_town t_23 t_28_first t_28_last t_28_lost) (.int .i64 t_23) lt_28 (by decide) rfl; rw [es_] at e0_; have e_ : ([(k0 * 6 + 2, .int .i64 t_23)] : List (Nat × Value)).foldl (fun xs p => xs.set p.1 p.2) (Go.Proofs.Ytgimcnpkngpmiaa.PPostmark.flat l21_21) = (Go.Proofs.Ytgimcnpkngpmiaa.PPostmark.flat l30_30) := (by rw [← hl30_30]; show _ = List.flatMap Go.Proofs.Ytgimcnpkngpmiaa.PPostmark.Postmark.cells _; first | (rw [← e0_]; first | done | rfl)); rw [← hwl30_30, ← e_]; exact Sl30_30.out.1)
      have Gl30_30 : Hid (wl21_21.grownBy wl30_30 (Value.slice (some ⟨qt_9, 0, none⟩) a.length c0).ownBlock) := Lib.hid (by rw [← hwl30_30]; exact Sl30_30.out.2)
      have HBwl30_30 := Lib.hid (Aid.grown_tr HBwl21_21.out Gl30_30.out)
      have hhl30_30 := Lib.hid hl30_30
      clear hl30_30 Sl30_30
      clear Pl21_21 Gl30_30
      replace H := let_hid H
      obtain ⟨t_32, ht_32, H⟩ := H
      replace H := idx_hid H
      obtain ⟨nt_37, yt_37, et_37, lt_37, gt_37, H⟩ := H
      obtain rfl : k0 = nt_37 := by omega
      clear et_37
      obtain ⟨t_37_id, t_37_town, t_37_kind_, t_37_first, t_37_last, t_37_lost⟩ := yt_37
      replace H := unPostmark_hid H
      have hqt_37 := nl30_30.out
      obtain ⟨ab_t_37, ao_t_37, zt_37, At_37, z_t_37, ct_37_0, ct_37_1, ct_37_2, ct_37_3, ct_37_4, ct_37_5⟩ := Go.Proofs.Ytgimcnpkngpmiaa.OPostmark.at_ (own_cells Pl30_30.out) (k := k0) (by omega)
      obtain rfl := Option.some.inj (gt_37.out.symm.trans z_t_37)
      simp only [Option.some.injEq, Addr.mk.injEq] at At_37
      obtain ⟨rfl, rfl, _⟩ := At_37
      clear z_t_37
      simp only [Nat.zero_add] at ct_37_0 ct_37_1 ct_37_2 ct_37_3 ct_37_4 ct_37_5
      have b0t_37 : (0 : Int) ≤ (k0 : Int) := by omega
      have b1t_37 : (k0 : Int) < ((a.length : Nat) : Int) := by omega
      have b2t_37 : ((k0 : Int)).toNat = k0 := by omega
      clear hqt_37
      replace H := let_hid H
      obtain ⟨l39_39, hl39_39, H⟩ := H
      try simp only [Int.toNat_natCast] at hl39_39
      obtain ⟨wl39_39, hwl39_39⟩ : ∃ x, (wl30_30).setCell ⟨qt_9, k0 * 6 + 3, none⟩ (.int .i64 t_32) = x := ⟨_, rfl⟩
      have z0l39_39 := Pl30_30.out.frozenAt (k0 * 6 + 3)
      have Sl39_39 := Lib.hid (own_stores [(k0 * 6 + 3, .int .i64 t_32)] Pl30_30.out)
      have nl39_39 : Hid (l39_39.length = a.length) := Lib.hid (by rw [← hl39_39, List.length_set]; exact nl30_30.out)
      have Pl39_39 : Hid (wl39_39.ownsRow b0 26 6 (.slice (some ⟨qt_9, 0, none⟩) a.length c0) a.length (Go.Proofs.Ytgimcnpkngpmiaa.PPostmark.flat l39_39)) := Lib.hid (by have es_ := set_self gt_37.out; have e0_ := flat_set Go.Proofs.Ytgimcnpkngpmiaa.PPostmark.Postmark.cells 6 (fun _ => rfl) l30_30 (k0) 3 (Go.Proofs.Ytgimcnpkngpmiaa.PPostmark.Postmark.mk t_37_id t_37_town t_37_kind_ t_37_first t_37_last t_37_lost) (Go.Proofs.Ytgimcnpkngpmiaa.PPostmark.Postmark.mk t_37_id t_37_town t_37_kind_ t_32 t_37_last t_37_lost) (.int .i64 t_32) lt_37 (by decide) rfl; rw [es_] at e0_; have e_ : ([(k0 * 6 + 3, .int .i64 t_32)] : List (Nat × Value)).foldl (fun xs p => xs.set p.1 p.2) (Go.Proofs.Ytgimcnpkngpmiaa.PPostmark.flat l30_30) = (Go.Proofs.Ytgimcnpkngpmiaa.PPostmark.flat l39_39) := (by rw [← hl39_39]; show _ = List.flatMap Go.Proofs.Ytgimcnpkngpmiaa.PPostmark.Postmark.cells _; first | (rw [← e0_]; first | done | rfl)); rw [← hwl39_39, ← e_]; exact Sl39_39.out.1)
      have Gl39_39 : Hid (wl30_30.grownBy wl39_39 (Value.slice (some ⟨qt_9, 0, none⟩) a.length c0).ownBlock) := Lib.hid (by rw [← hwl39_39]; exact Sl39_39.out.2)
      have HBwl39_39 := Lib.hid (Aid.grown_tr HBwl30_30.out Gl39_39.out)
      have hhl39_39 := Lib.hid hl39_39
      clear hl39_39 Sl39_39
      clear Pl30_30 Gl39_39
      replace H := let_hid H
      obtain ⟨t_41, ht_41, H⟩ := H
      replace H := idx_hid H
      obtain ⟨nt_46, yt_46, et_46, lt_46, gt_46, H⟩ := H
      obtain rfl : k0 = nt_46 := by omega
      clear et_46
      obtain ⟨t_46_id, t_46_town, t_46_kind_, t_46_first, t_46_last, t_46_lost⟩ := yt_46
      replace H := unPostmark_hid H
      have hqt_46 := nl39_39.out
      obtain ⟨ab_t_46, ao_t_46, zt_46, At_46, z_t_46, ct_46_0, ct_46_1, ct_46_2, ct_46_3, ct_46_4, ct_46_5⟩ := Go.Proofs.Ytgimcnpkngpmiaa.OPostmark.at_ (own_cells Pl39_39.out) (k := k0) (by omega)
      obtain rfl := Option.some.inj (gt_46.out.symm.trans z_t_46)
      simp only [Option.some.injEq, Addr.mk.injEq] at At_46
      obtain ⟨rfl, rfl, _⟩ := At_46
      clear z_t_46
      simp only [Nat.zero_add] at ct_46_0 ct_46_1 ct_46_2 ct_46_3 ct_46_4 ct_46_5
      have b0t_46 : (0 : Int) ≤ (k0 : Int) := by omega
      have b1t_46 : (k0 : Int) < ((a.length : Nat) : Int) := by omega
      have b2t_46 : ((k0 : Int)).toNat = k0 := by omega
      clear hqt_46
      replace H := let_hid H
      obtain ⟨l48_48, hl48_48, H⟩ := H
      try simp only [Int.toNat_natCast] at hl48_48
      obtain ⟨wl48_48, hwl48_48⟩ : ∃ x, (wl39_39).setCell ⟨qt_9, k0 * 6 + 4, none⟩ (.int .i64 t_41) = x := ⟨_, rfl⟩
      have z0l48_48 := Pl39_39.out.frozenAt (k0 * 6 + 4)
      have Sl48_48 := Lib.hid (own_stores [(k0 * 6 + 4, .int .i64 t_41)] Pl39_39.out)
      have nl48_48 : Hid (l48_48.length = a.length) := Lib.hid (by rw [← hl48_48, List.length_set]; exact nl39_39.out)
      have Pl48_48 : Hid (wl48_48.ownsRow b0 26 6 (.slice (some ⟨qt_9, 0, none⟩) a.length c0) a.length (Go.Proofs.Ytgimcnpkngpmiaa.PPostmark.flat l48_48)) := Lib.hid (by have es_ := set_self gt_46.out; have e0_ := flat_set Go.Proofs.Ytgimcnpkngpmiaa.PPostmark.Postmark.cells 6 (fun _ => rfl) l39_39 (k0) 4 (Go.Proofs.Ytgimcnpkngpmiaa.PPostmark.Postmark.mk t_46_id t_46_town t_46_kind_ t_46_first t_46_last t_46_lost) (Go.Proofs.Ytgimcnpkngpmiaa.PPostmark.Postmark.mk t_46_id t_46_town t_46_kind_ t_46_first t_41 t_46_lost) (.int .i64 t_41) lt_46 (by decide) rfl; rw [es_] at e0_; have e_ : ([(k0 * 6 + 4, .int .i64 t_41)] : List (Nat × Value)).foldl (fun xs p => xs.set p.1 p.2) (Go.Proofs.Ytgimcnpkngpmiaa.PPostmark.flat l39_39) = (Go.Proofs.Ytgimcnpkngpmiaa.PPostmark.flat l48_48) := (by rw [← hl48_48]; show _ = List.flatMap Go.Proofs.Ytgimcnpkngpmiaa.PPostmark.Postmark.cells _; first | (rw [← e0_]; first | done | rfl)); rw [← hwl48_48, ← e_]; exact Sl48_48.out.1)
      have Gl48_48 : Hid (wl39_39.grownBy wl48_48 (Value.slice (some ⟨qt_9, 0, none⟩) a.length c0).ownBlock) := Lib.hid (by rw [← hwl48_48]; exact Sl48_48.out.2)
      have HBwl48_48 := Lib.hid (Aid.grown_tr HBwl39_39.out Gl48_48.out)
      have hhl48_48 := Lib.hid hl48_48
      clear hl48_48 Sl48_48
      clear Pl39_39 Gl48_48
      replace H := let_hid H
      obtain ⟨t_50, ht_50, H⟩ := H
      replace H := bind_hid H
      obtain ⟨t_55, qt_55, H⟩ := H
      go_wp2_with fail
      clear z0l21_21 ct_19_0 ct_19_1 ct_19_2 ct_19_3 ct_19_4 ct_19_5 z0l30_30 ct_28_0 ct_28_1 ct_28_2 ct_28_3 ct_28_4 ct_28_5 z0l39_39 ct_37_0 ct_37_1 ct_37_2 ct_37_3 ct_37_4 ct_37_5 z0l48_48 ct_46_0 ct_46_1 ct_46_2 ct_46_3 ct_46_4 ct_46_5
      go_at_call 55
      refine (Go.Proofs.Ytgimcnpkngpmiaa.GlMarkText.C (t_50)  _    qt_55).mono ?_
      rintro e_t_55 wt_55 ⟨rfl, bt_55⟩
      have HBwt_55 := Lib.hid (grown_below HBwl48_48.out bt_55)
      replace Pl48_48 := Lib.hid (own_below Pl48_48.out bt_55)
      clear bt_55
      replace H := idx_hid H
      obtain ⟨nt_56, yt_56, et_56, lt_56, gt_56, H⟩ := H
      obtain rfl : k0 = nt_56 := by omega
      clear et_56
      obtain ⟨t_56_id, t_56_town, t_56_kind_, t_56_first, t_56_last, t_56_lost⟩ := yt_56
      replace H := unPostmark_hid H
      have hqt_56 := nl48_48.out
      obtain ⟨ab_t_56, ao_t_56, zt_56, At_56, z_t_56, ct_56_0, ct_56_1, ct_56_2, ct_56_3, ct_56_4, ct_56_5⟩ := Go.Proofs.Ytgimcnpkngpmiaa.OPostmark.at_ (own_cells Pl48_48.out) (k := k0) (by omega)
      obtain rfl := Option.some.inj (gt_56.out.symm.trans z_t_56)
      simp only [Option.some.injEq, Addr.mk.injEq] at At_56
      obtain ⟨rfl, rfl, _⟩ := At_56
      clear z_t_56
      simp only [Nat.zero_add] at ct_56_0 ct_56_1 ct_56_2 ct_56_3 ct_56_4 ct_56_5
      have b0t_56 : (0 : Int) ≤ (k0 : Int) := by omega
      have b1t_56 : (k0 : Int) < ((a.length : Nat) : Int) := by omega
      have b2t_56 : ((k0 : Int)).toNat = k0 := by omega
      clear hqt_56
      replace H := let_hid H
      obtain ⟨l58_58, hl58_58, H⟩ := H
      try simp only [Int.toNat_natCast] at hl58_58
      obtain ⟨wl58_58, hwl58_58⟩ : ∃ x, (wt_55).setCell ⟨qt_9, k0 * 6 + 5, none⟩ (.string t_55) = x := ⟨_, rfl⟩
      have z0l58_58 := Pl48_48.out.frozenAt (k0 * 6 + 5)
      have Sl58_58 := Lib.hid (own_stores [(k0 * 6 + 5, .string t_55)] Pl48_48.out)
      have nl58_58 : Hid (l58_58.length = a.length) := Lib.hid (by rw [← hl58_58, List.length_set]; exact nl48_48.out)
      have Pl58_58 : Hid (wl58_58.ownsRow b0 26 6 (.slice (some ⟨qt_9, 0, none⟩) a.length c0) a.length (Go.Proofs.Ytgimcnpkngpmiaa.PPostmark.flat l58_58)) := Lib.hid (by have es_ := set_self gt_56.out; have e0_ := flat_set Go.Proofs.Ytgimcnpkngpmiaa.PPostmark.Postmark.cells 6 (fun _ => rfl) l48_48 (k0) 5 (Go.Proofs.Ytgimcnpkngpmiaa.PPostmark.Postmark.mk t_56_id t_56_town t_56_kind_ t_56_first t_56_last t_56_lost) (Go.Proofs.Ytgimcnpkngpmiaa.PPostmark.Postmark.mk t_56_id t_56_town t_56_kind_ t_56_first t_56_last t_55) (.string t_55) lt_56 (by decide) rfl; rw [es_] at e0_; have e_ : ([(k0 * 6 + 5, .string t_55)] : List (Nat × Value)).foldl (fun xs p => xs.set p.1 p.2) (Go.Proofs.Ytgimcnpkngpmiaa.PPostmark.flat l48_48) = (Go.Proofs.Ytgimcnpkngpmiaa.PPostmark.flat l58_58) := (by rw [← hl58_58]; show _ = List.flatMap Go.Proofs.Ytgimcnpkngpmiaa.PPostmark.Postmark.cells _; first | (rw [← e0_]; first | done | rfl)); rw [← hwl58_58, ← e_]; exact Sl58_58.out.1)
      have Gl58_58 : Hid (wt_55.grownBy wl58_58 (Value.slice (some ⟨qt_9, 0, none⟩) a.length c0).ownBlock) := Lib.hid (by rw [← hwl58_58]; exact Sl58_58.out.2)
      have HBwl58_58 := Lib.hid (Aid.grown_tr HBwt_55.out Gl58_58.out)
      have hhl58_58 := Lib.hid hl58_58
      clear hl58_58 Sl58_58
      clear Pl48_48 Gl58_58
      replace H := let_hid H
      obtain ⟨t_60, ht_60, H⟩ := H
      replace H := app_hid H
      go_wp2_with fail
      clear z0l58_58 ct_56_0 ct_56_1 ct_56_2 ct_56_3 ct_56_4 ct_56_5
      go_roundg m0
      case measure => omega
      case rel => exact ⟨k0 + 1, _, _, by omega, by go_num, rfl, H, HBwl58_58, Pl58_58, Lib.hid (nl58_58.out)⟩
end Go.Proofs.Ytgimcnpkngpmiaa.GlMarkPostmarkS

/- loop.example/g01062/laws.heldPostmarkS as a plain function, and the contract of the program's: where the plain one has an answer, the program has it. Conditions: slices read as lists. -/
namespace Go.Proofs.Ytgimcnpkngpmiaa.GlHeldPostmarkS
set_option linter.unusedVariables false
set_option linter.unusedSimpArgs false
open Go.RowKit
open Go.Proofs.Ytgimcnpkngpmiaa.Rowed Go.Proofs.Ytgimcnpkngpmiaa.Turn Go.Proofs.Ytgimcnpkngpmiaa.Aid Go.Proofs.Ytgimcnpkngpmiaa.GoP Go.Proofs.Ytgimcnpkngpmiaa.GoM

def l0 (a : (List Go.Proofs.Ytgimcnpkngpmiaa.PPostmark.Postmark)) (k0 : Nat) (s : Int) (nx0 bk0 : Int → Option (Int)) : Option (Int) :=
  letK s fun k_1l0 =>
  Option.bind (idx a (k0 : Int)) fun (yt_8 : Go.Proofs.Ytgimcnpkngpmiaa.PPostmark.Postmark) =>
  unPostmark yt_8 fun (t_8_id : Int) (t_8_town : ByteArray) (t_8_kind_ : Int) (t_8_first : Int) (t_8_last : Int) (t_8_lost : ByteArray) =>
  letK (t_8_id != k_1l0) fun (t_12 : Bool) =>
  iteK t_12
  (some (-1))
  (letK (IntKind.i64.wrap (k_1l0 + 1)) fun (t_15 : Int) =>
  Option.bind (idx a (k0 : Int)) fun (yt_19 : Go.Proofs.Ytgimcnpkngpmiaa.PPostmark.Postmark) =>
  unPostmark yt_19 fun (t_19_id : Int) (t_19_town : ByteArray) (t_19_kind_ : Int) (t_19_first : Int) (t_19_last : Int) (t_19_lost : ByteArray) =>
  Option.bind (Go.Proofs.Ytgimcnpkngpmiaa.GlMarkText.P t_15) fun (t_23 : ByteArray) =>
  letK (!(t_19_town.toList == t_23.toList)) fun (t_24 : Bool) =>
  iteK t_24
  (some (-1))
  (letK (IntKind.i64.wrap (t_15 + 1)) fun (t_27 : Int) =>
  Option.bind (idx a (k0 : Int)) fun (yt_31 : Go.Proofs.Ytgimcnpkngpmiaa.PPostmark.Postmark) =>
  unPostmark yt_31 fun (t_31_id : Int) (t_31_town : ByteArray) (t_31_kind_ : Int) (t_31_first : Int) (t_31_last : Int) (t_31_lost : ByteArray) =>
  letK (t_31_kind_ != t_27) fun (t_35 : Bool) =>
  iteK t_35
  (some (-1))
  (letK (IntKind.i64.wrap (t_27 + 1)) fun (t_38 : Int) =>
  Option.bind (idx a (k0 : Int)) fun (yt_42 : Go.Proofs.Ytgimcnpkngpmiaa.PPostmark.Postmark) =>
  unPostmark yt_42 fun (t_42_id : Int) (t_42_town : ByteArray) (t_42_kind_ : Int) (t_42_first : Int) (t_42_last : Int) (t_42_lost : ByteArray) =>
  letK (t_42_first != t_38) fun (t_46 : Bool) =>
  iteK t_46
  (some (-1))
  (letK (IntKind.i64.wrap (t_38 + 1)) fun (t_49 : Int) =>
  Option.bind (idx a (k0 : Int)) fun (yt_53 : Go.Proofs.Ytgimcnpkngpmiaa.PPostmark.Postmark) =>
  unPostmark yt_53 fun (t_53_id : Int) (t_53_town : ByteArray) (t_53_kind_ : Int) (t_53_first : Int) (t_53_last : Int) (t_53_lost : ByteArray) =>
  letK (t_53_last != t_49) fun (t_57 : Bool) =>
  iteK t_57
  (some (-1))
  (letK (IntKind.i64.wrap (t_49 + 1)) fun (t_60 : Int) =>
  Option.bind (idx a (k0 : Int)) fun (yt_64 : Go.Proofs.Ytgimcnpkngpmiaa.PPostmark.Postmark) =>
  unPostmark yt_64 fun (t_64_id : Int) (t_64_town : ByteArray) (t_64_kind_ : Int) (t_64_first : Int) (t_64_last : Int) (t_64_lost : ByteArray) =>
  Option.bind (Go.Proofs.Ytgimcnpkngpmiaa.GlMarkText.P t_60) fun (t_68 : ByteArray) =>
  letK (!(t_64_lost.toList == t_68.toList)) fun (t_69 : Bool) =>
  iteK t_69
  (some (-1))
  (letK (IntKind.i64.wrap (t_60 + 1)) fun (t_72 : Int) =>
  appK nx0 (t_72)))))))

def e0  (s : Int) : Option (Int) :=
  letK s fun k_1l0 =>
  some k_1l0

def P (a : (List Go.Proofs.Ytgimcnpkngpmiaa.PPostmark.Postmark)) (k_1 : Int) : Option (Int) :=
  cntK (l0 a) (a.length) 0 (k_1) (e0 )

set_option maxRecDepth 100000 in
set_option maxHeartbeats 2000000 in
theorem C (a : (List Go.Proofs.Ytgimcnpkngpmiaa.PPostmark.Postmark)) (k_1 : Int) (A0 : Option Addr) (c0 : Nat)  (w : World) (M0 : Hid (Cells w 6 A0 a.length (Go.Proofs.Ytgimcnpkngpmiaa.PPostmark.flat a))) (N0 : Hid (a.length ≤ 9223372036854775807))  {r : Int} (H : Hid (P a k_1 = some r)) :
    Calls Try.prog 26 #[.slice A0 a.length c0, .int .i64 k_1] w (Gives (.int .i64 r) w) := by
  have HB := Lib.hid (Below.refl w.heap.size w)
  unfold P at H
  have N0o := N0.out
  go_enter Try.func26, Try.ntmps26
  go_wp2_with fail
  go_loopg [5, 1] (a.length) (fun m_ v5_ v1_ wr => ∃ (k0 : Nat) (k_1l0 : Int), k0 + m_ = a.length ∧ v5_ = .int .i64 (k0 : Int) ∧ v1_ = .int .i64 k_1l0 ∧ Hid (cntK (l0 a) m_ k0 (k_1l0) (e0 ) = some r) ∧ Hid (Below w.heap.size w wr))
  case atStart => exact ⟨0, _, by omega, rfl, rfl, H, HB⟩
  case round =>
    obtain ⟨k0, k_1l0, hkm0, rfl, rfl, H, HBwr0⟩ := hrel
    rename World => wr0
    cases gk with
    | zero =>
      obtain rfl : k0 = a.length := by omega
      have hc0 : decide (((a.length : Nat) : Int) < ((a.length : Nat) : Int)) = false := by simp
      replace H := cnt_zero H
      unfold e0 at H
      replace H := let_hid H
      obtain ⟨_, rfl, H⟩ := H
      obtain rfl := ret_hid H
      go_wp2_with fail
      go_ret
      exact ⟨rfl, HBwr0.out⟩
    | succ m0 =>
      have hlt0 : k0 < a.length := by omega
      have hc0 : decide ((k0 : Int) < ((a.length : Nat) : Int)) = true := by simp; omega
      replace H := cnt_succ H
      unfold l0 at H
      replace H := let_hid H
      obtain ⟨_, rfl, H⟩ := H
      replace H := idx_hid H
      obtain ⟨nt_8, yt_8, et_8, lt_8, gt_8, H⟩ := H
      obtain rfl : k0 = nt_8 := by omega
      clear et_8
      obtain ⟨t_8_id, t_8_town, t_8_kind_, t_8_first, t_8_last, t_8_lost⟩ := yt_8
      replace H := unPostmark_hid H
      obtain ⟨ab_t_8, ao_t_8, zt_8, At_8, z_t_8, ct_8_0, ct_8_1, ct_8_2, ct_8_3, ct_8_4, ct_8_5⟩ := Go.Proofs.Ytgimcnpkngpmiaa.OPostmark.at_ M0.out lt_8
      obtain rfl := Option.some.inj (gt_8.out.symm.trans z_t_8)
      subst At_8
      have ltt_8 := cell_lt ct_8_0
      replace ct_8_0 := cell_below HBwr0.out ct_8_0
      replace ct_8_1 := cell_below HBwr0.out ct_8_1
      replace ct_8_2 := cell_below HBwr0.out ct_8_2
      replace ct_8_3 := cell_below HBwr0.out ct_8_3
      replace ct_8_4 := cell_below HBwr0.out ct_8_4
      replace ct_8_5 := cell_below HBwr0.out ct_8_5
      clear z_t_8
      have b0t_8 : (0 : Int) ≤ (k0 : Int) := by omega
      have b1t_8 : (k0 : Int) < ((a.length : Nat) : Int) := by omega
      have b2t_8 : ((k0 : Int)).toNat = k0 := by omega
      replace H := let_hid H
      obtain ⟨t_12, ht_12, H⟩ := H
      cases t_12 with
      | false =>
        replace H := ite_f H
        replace H := let_hid H
        obtain ⟨t_15, ht_15, H⟩ := H
        go_wp2_with fail
        have Hct_8_0 := Lib.hid ct_8_0
        replace ct_8_0 := cell_regrown ct_8_0
        have Hct_8_1 := Lib.hid ct_8_1
        replace ct_8_1 := cell_regrown ct_8_1
        have Hct_8_2 := Lib.hid ct_8_2
        replace ct_8_2 := cell_regrown ct_8_2
        have Hct_8_3 := Lib.hid ct_8_3
        replace ct_8_3 := cell_regrown ct_8_3
        have Hct_8_4 := Lib.hid ct_8_4
        replace ct_8_4 := cell_regrown ct_8_4
        have Hct_8_5 := Lib.hid ct_8_5
        replace ct_8_5 := cell_regrown ct_8_5
        replace H := idx_hid H
        obtain ⟨nt_19, yt_19, et_19, lt_19, gt_19, H⟩ := H
        obtain rfl : k0 = nt_19 := by omega
        clear et_19
        obtain rfl := Option.some.inj (gt_8.out.symm.trans gt_19.out)
        clear gt_19 lt_19
        replace H := unPostmark_hid H
        replace H := bind_hid H
        obtain ⟨t_23, qt_23, H⟩ := H
        have nt_23 : ∀ d os, Calls Try.prog 55 #[.int .i64 t_15] (Go.Sort.grow (redrawn wr0 d) os) fun e w'' => e = .returned (.string t_23) ∧ ∃ p : Regrown, w'' = Go.Sort.grow (redrawn wr0 p.d) p.os := fun d os => Calls.regrown_of (Go.Proofs.Ytgimcnpkngpmiaa.GlMarkText.C (t_15)  _    qt_23)
        replace H := let_hid H
        obtain ⟨t_24, ht_24, H⟩ := H
        refine wp_region_quiet_below (by kernel_rfl) (by kernel_rfl) ?_
        repeat (go_big_quiet_step (first | (go_at_call 55; exact nt_23 _ _)))
        refine wpQuiet_nil ?_
        intro Y7 hY7
        replace hY7 := below_class hY7
        clear nt_23
        replace ct_8_0 := Hct_8_0.out
        clear Hct_8_0
        replace ct_8_1 := Hct_8_1.out
        clear Hct_8_1
        replace ct_8_2 := Hct_8_2.out
        clear Hct_8_2
        replace ct_8_3 := Hct_8_3.out
        clear Hct_8_3
        replace ct_8_4 := Hct_8_4.out
        clear Hct_8_4
        replace ct_8_5 := Hct_8_5.out
        clear Hct_8_5
        have HBY7 := Lib.hid (Below.step HBwr0.out hY7)
        replace ct_8_0 := cell_below hY7 ct_8_0
        replace ct_8_1 := cell_below hY7 ct_8_1
        replace ct_8_2 := cell_below hY7 ct_8_2
        replace ct_8_3 := cell_below hY7 ct_8_3
        replace ct_8_4 := cell_below hY7 ct_8_4
        replace ct_8_5 := cell_below hY7 ct_8_5
        clear hY7
        cases t_24 with
        | false =>
          replace H := ite_f H
          replace H := let_hid H
          obtain ⟨t_27, ht_27, H⟩ := H
          replace H := idx_hid H
          obtain ⟨nt_31, yt_31, et_31, lt_31, gt_31, H⟩ := H
          obtain rfl : k0 = nt_31 := by omega
          clear et_31
          obtain rfl := Option.some.inj (gt_8.out.symm.trans gt_31.out)
          clear gt_31 lt_31
          replace H := unPostmark_hid H
          replace H := let_hid H
          obtain ⟨t_35, ht_35, H⟩ := H
          cases t_35 with
          | false =>
            replace H := ite_f H
            replace H := let_hid H
            obtain ⟨t_38, ht_38, H⟩ := H
            replace H := idx_hid H
            obtain ⟨nt_42, yt_42, et_42, lt_42, gt_42, H⟩ := H
            obtain rfl : k0 = nt_42 := by omega
            clear et_42
            obtain rfl := Option.some.inj (gt_8.out.symm.trans gt_42.out)
            clear gt_42 lt_42
            replace H := unPostmark_hid H
            replace H := let_hid H
            obtain ⟨t_46, ht_46, H⟩ := H
            cases t_46 with
            | false =>
              replace H := ite_f H
              replace H := let_hid H
              obtain ⟨t_49, ht_49, H⟩ := H
              replace H := idx_hid H
              obtain ⟨nt_53, yt_53, et_53, lt_53, gt_53, H⟩ := H
              obtain rfl : k0 = nt_53 := by omega
              clear et_53
              obtain rfl := Option.some.inj (gt_8.out.symm.trans gt_53.out)
              clear gt_53 lt_53
              replace H := unPostmark_hid H
              replace H := let_hid H
              obtain ⟨t_57, ht_57, H⟩ := H
              cases t_57 with
              | false =>
                replace H := ite_f H
                replace H := let_hid H
                obtain ⟨t_60, ht_60, H⟩ := H
                go_wp2_with fail
                have Hct_8_0 := Lib.hid ct_8_0
                replace ct_8_0 := cell_regrown ct_8_0
                have Hct_8_1 := Lib.hid ct_8_1
                replace ct_8_1 := cell_regrown ct_8_1
                have Hct_8_2 := Lib.hid ct_8_2
                replace ct_8_2 := cell_regrown ct_8_2
                have Hct_8_3 := Lib.hid ct_8_3
                replace ct_8_3 := cell_regrown ct_8_3
                have Hct_8_4 := Lib.hid ct_8_4
                replace ct_8_4 := cell_regrown ct_8_4
                have Hct_8_5 := Lib.hid ct_8_5
                replace ct_8_5 := cell_regrown ct_8_5
                replace H := idx_hid H
                obtain ⟨nt_64, yt_64, et_64, lt_64, gt_64, H⟩ := H
                obtain rfl : k0 = nt_64 := by omega
                clear et_64
                obtain rfl := Option.some.inj (gt_8.out.symm.trans gt_64.out)
                clear gt_64 lt_64
                replace H := unPostmark_hid H
                replace H := bind_hid H
                obtain ⟨t_68, qt_68, H⟩ := H
                have nt_68 : ∀ d os, Calls Try.prog 55 #[.int .i64 t_60] (Go.Sort.grow (redrawn Y7 d) os) fun e w'' => e = .returned (.string t_68) ∧ ∃ p : Regrown, w'' = Go.Sort.grow (redrawn Y7 p.d) p.os := fun d os => Calls.regrown_of (Go.Proofs.Ytgimcnpkngpmiaa.GlMarkText.C (t_60)  _    qt_68)
                replace H := let_hid H
                obtain ⟨t_69, ht_69, H⟩ := H
                refine wp_region_quiet_below (by kernel_rfl) (by kernel_rfl) ?_
                repeat (go_big_quiet_step (first | (go_at_call 55; exact nt_68 _ _)))
                refine wpQuiet_nil ?_
                intro Y19 hY19
                replace hY19 := below_class hY19
                clear nt_68
                replace ct_8_0 := Hct_8_0.out
                clear Hct_8_0
                replace ct_8_1 := Hct_8_1.out
                clear Hct_8_1
                replace ct_8_2 := Hct_8_2.out
                clear Hct_8_2
                replace ct_8_3 := Hct_8_3.out
                clear Hct_8_3
                replace ct_8_4 := Hct_8_4.out
                clear Hct_8_4
                replace ct_8_5 := Hct_8_5.out
                clear Hct_8_5
                have HBY19 := Lib.hid (Below.step HBY7.out hY19)
                replace ct_8_0 := cell_below hY19 ct_8_0
                replace ct_8_1 := cell_below hY19 ct_8_1
                replace ct_8_2 := cell_below hY19 ct_8_2
                replace ct_8_3 := cell_below hY19 ct_8_3
                replace ct_8_4 := cell_below hY19 ct_8_4
                replace ct_8_5 := cell_below hY19 ct_8_5
                clear hY19
                cases t_69 with
                | false =>
                  replace H := ite_f H
                  replace H := let_hid H
                  obtain ⟨t_72, ht_72, H⟩ := H
                  replace H := app_hid H
                  go_wp2_with fail
                  go_roundg m0
                  case measure => omega
                  case rel => exact ⟨k0 + 1, _, by omega, by go_num, rfl, H, HBY19⟩
                | true =>
                  replace H := ite_t H
                  obtain rfl := ret_hid H
                  go_wp2_with fail
                  go_ret
                  exact ⟨rfl, HBY19.out⟩
              | true =>
                replace H := ite_t H
                obtain rfl := ret_hid H
                go_wp2_with fail
                go_ret
                exact ⟨rfl, HBY7.out⟩
            | true =>
              replace H := ite_t H
              obtain rfl := ret_hid H
              go_wp2_with fail
              go_ret
              exact ⟨rfl, HBY7.out⟩
          | true =>
            replace H := ite_t H
            obtain rfl := ret_hid H
            go_wp2_with fail
            go_ret
            exact ⟨rfl, HBY7.out⟩
        | true =>
          replace H := ite_t H
          obtain rfl := ret_hid H
          go_wp2_with fail
          go_ret
          exact ⟨rfl, HBY7.out⟩
      | true =>
        replace H := ite_t H
        obtain rfl := ret_hid H
        go_wp2_with fail
        go_ret
        exact ⟨rfl, HBwr0.out⟩
end Go.Proofs.Ytgimcnpkngpmiaa.GlHeldPostmarkS

/- Loops that count, that search, and that gather behind what is there already: the plain loops' answers. (QCount) No condition but those of each theorem. -/
namespace Go.Proofs.Ytgimcnpkngpmiaa.QCount
set_option linter.unusedVariables false
set_option linter.unusedSimpArgs false
open Go.RowKit
open Go.Proofs.Ytgimcnpkngpmiaa.GoP Go.Proofs.Ytgimcnpkngpmiaa.PlainStamp Go.Proofs.Ytgimcnpkngpmiaa.QBase Go.Proofs.Ytgimcnpkngpmiaa.QLoop

/-- the first place at which the test holds -/
def firstI {α : Type} (p : α → Bool) (l : List α) : Int := match l.findIdx? p with | some i => (i : Int) | none => -1
theorem find_loop {α R : Type} {l : List α} {p : α → Bool} {f : Nat → Unit → (Unit → Option R) → (Unit → Option R) → Option R} {fin : Unit → Option R} {yes : Nat → Option R}
    (step : ∀ k nx x, l[k]? = some x → f k () nx fin = if p x = true then yes k else nx ()) : cntK f l.length 0 () fin = match l.findIdx? p with | some i => yes i | none => fin () := by
  have key : ∀ m k, k + m = l.length → (∀ i x, i < k → l[i]? = some x → p x = false) → cntK f m k () fin = match l.findIdx? p with | some i => yes i | none => fin () := by
    intro m
    induction m with
    | zero =>
      intro k hk hu; obtain rfl : k = l.length := by omega
      have : l.findIdx? p = none := by
        rw [List.findIdx?_eq_none_iff]
        intro x hx
        obtain ⟨i, hi⟩ := List.getElem?_of_mem hx
        exact hu i x (List.getElem?_eq_some_iff.1 hi).1 hi
      rw [this]; rfl
    | succ m ih =>
      intro k hk hu
      obtain ⟨x, hx, _⟩ := at_lt (l := l) (k := k) (by omega)
      show f k () _ fin = _
      rw [step k _ x hx]
      cases hp : p x with
      | true =>
        have : l.findIdx? p = some k := by
          rw [List.findIdx?_eq_some_iff_getElem]
          obtain ⟨hlt, e⟩ := List.getElem?_eq_some_iff.1 hx
          refine ⟨hlt, by rw [e]; exact hp, fun j hj => ?_⟩
          rw [hu j l[j] hj (List.getElem?_eq_getElem (by omega))]; simp
        rw [this, if_pos rfl]
      | false =>
        rw [if_neg (by simp)]
        refine ih (k + 1) (by omega) (fun i y hi hy => ?_)
        by_cases he : i = k
        · subst he; rw [hx] at hy; obtain rfl := Option.some.inj hy; exact hp
        · exact hu i y (by omega) hy
  exact key l.length 0 (by omega) (fun i x hi _ => by omega)
end Go.Proofs.Ytgimcnpkngpmiaa.QCount

/- Lists of valid records in strictly rising order of any kind; texts in the order of their bytes. (QOrd) No condition but those of each theorem. -/
namespace Go.Proofs.Ytgimcnpkngpmiaa.QOrd
set_option linter.unusedVariables false
set_option linter.unusedSimpArgs false
open Go.RowKit
open Go.Proofs.Ytgimcnpkngpmiaa.GoP Go.Proofs.Ytgimcnpkngpmiaa.PlainStamp Go.Proofs.Ytgimcnpkngpmiaa.QBase Go.Proofs.Ytgimcnpkngpmiaa.QLoop

/-- texts in the order of their bytes -/
def bl (a b : ByteArray) : Bool := Op.bytesLess a.toList b.toList
theorem bl_self' : ∀ x, Op.bytesLess x x = false
  | [] => rfl
  | a :: x => by
    have h1 : ¬ a < a := fun k => by rw [UInt8.lt_iff_toNat_lt] at k; omega
    simp [Op.bytesLess, h1, bl_self' x]
theorem bl_total' : ∀ x y, x ≠ y → Op.bytesLess x y = !(Op.bytesLess y x)
  | [], [], h => absurd rfl h
  | [], b :: y, _ => by simp [Op.bytesLess]
  | a :: x, [], _ => by simp [Op.bytesLess]
  | a :: x, b :: y, h => by
    by_cases hab : a = b
    · subst hab
      have h1 : ¬ a < a := fun k => by rw [UInt8.lt_iff_toNat_lt] at k; omega
      have := bl_total' x y (fun e => h (by rw [e]))
      simp [Op.bytesLess, h1, this]
    · have hne : a.toNat ≠ b.toNat := fun e => hab (UInt8.toNat_inj.1 e)
      by_cases hlt : a < b
      · have h2 : ¬ b < a := fun k => by rw [UInt8.lt_iff_toNat_lt] at k hlt; omega
        simp [Op.bytesLess, hlt, h2, Ne.symm hab]
      · have h2 : b < a := by rw [UInt8.lt_iff_toNat_lt] at hlt ⊢; omega
        simp [Op.bytesLess, hlt, h2, hab]
theorem bl_trans' : ∀ x y z, Op.bytesLess x y = true → Op.bytesLess y z = true → Op.bytesLess x z = true
  | [], _, [], h1, h2 => by rename_i y; cases y <;> simp [Op.bytesLess] at h1 h2
  | [], _, c :: z, _, _ => by simp [Op.bytesLess]
  | a :: x, [], _, h1, _ => by simp [Op.bytesLess] at h1
  | a :: x, b :: y, [], _, h2 => by simp [Op.bytesLess] at h2
  | a :: x, b :: y, c :: z, h1, h2 => by
    simp only [Op.bytesLess, Bool.or_eq_true, decide_eq_true_eq, Bool.and_eq_true, beq_iff_eq] at h1 h2 ⊢
    rcases h1 with h1 | ⟨rfl, h1⟩
    · rcases h2 with h2 | ⟨rfl, h2⟩
      · left; rw [UInt8.lt_iff_toNat_lt] at h1 h2 ⊢; omega
      · left; exact h1
    · rcases h2 with h2 | ⟨rfl, h2⟩
      · left; exact h2
      · right; exact ⟨rfl, bl_trans' x y z h1 h2⟩
theorem list_inj {a b : ByteArray} (h : a.toList = b.toList) : a = b := by
  rw [Lib.toList_data, Lib.toList_data] at h
  cases a; cases b; congr 1; exact Array.toList_inj.1 h
theorem bl_self (a : ByteArray) : bl a a = false := bl_self' _
theorem bl_total {a b : ByteArray} (h : a ≠ b) : bl a b = !(bl b a) := bl_total' _ _ (fun e => h (list_inj e))
theorem bl_trans {a b c : ByteArray} (h1 : bl a b = true) (h2 : bl b c = true) : bl a c = true := bl_trans' _ _ _ h1 h2
theorem bl_asymm {a b : ByteArray} (h : bl a b = true) : bl b a = false := by
  by_cases e : a = b
  · rw [e]; exact bl_self b
  · rw [bl_total e] at h; simpa using h
theorem bl_lt (a b : ByteArray) : Op.bytesLess a.toList b.toList = bl a b := rfl
theorem eq_list (a b : ByteArray) : (a.toList == b.toList) = decide (a = b) := by
  by_cases e : a = b
  · subst e; simp
  · rw [decide_eq_false e, beq_eq_false_iff_ne]; exact fun h => e (list_inj h)

/-- valid, and behind the one ahead of it -/
def riseAt {α : Type} (ok : α → Bool) (lt : α → α → Bool) (l : List α) (k : Nat) : Bool :=
  match l[k]? with
  | none => true
  | some s => ok s && (decide (k = 0) || (match l[k-1]? with | none => true | some r => lt r s))
def riseTo {α : Type} (ok : α → Bool) (lt : α → α → Bool) (l : List α) (k : Nat) : Bool := (List.range k).all (riseAt ok lt l)
def riseL {α : Type} (m : Nat) (ok : α → Bool) (lt : α → α → Bool) (l : List α) : Bool := decide (l.length ≤ m) && riseTo ok lt l l.length
end Go.Proofs.Ytgimcnpkngpmiaa.QOrd

/- Chapter 11: postmarks: the plain functions of the program and of the reference agree, and the laws answer true. (Q11Find) No condition but those of each theorem. -/
namespace Go.Proofs.Ytgimcnpkngpmiaa.Q11Find
set_option linter.unusedVariables false
set_option linter.unusedSimpArgs false
open Go.RowKit
open Go.Proofs.Ytgimcnpkngpmiaa.GoP Go.Proofs.Ytgimcnpkngpmiaa.PlainStamp Go.Proofs.Ytgimcnpkngpmiaa.QBase Go.Proofs.Ytgimcnpkngpmiaa.QCount Go.Proofs.Ytgimcnpkngpmiaa.QOrd Go.Proofs.Ytgimcnpkngpmiaa.Q11List Go.Proofs.Ytgimcnpkngpmiaa.Q11Mark Go.Proofs.Ytgimcnpkngpmiaa.QUp Go.Proofs.Ytgimcnpkngpmiaa.QLoop Go.Proofs.Ytgimcnpkngpmiaa.PPostmark

def isId (id : Int) (x : Postmark) : Bool := decide (x.id = id)
/-- the postmark with an id, and its place -/
def fnd (l : List Postmark) (id : Int) : Option (Nat × Postmark) := match l.findIdx? (isId id) with | none => none | some i => l[i]?.map fun x => (i, x)
theorem fnd_some {l : List Postmark} {id : Int} {i : Nat} {x : Postmark} (h : fnd l id = some (i, x)) : firstI (isId id) l = (i : Int) ∧ l[i]? = some x ∧ x.id = id ∧ i < l.length := by
  unfold fnd at h
  unfold firstI
  cases hq : l.findIdx? (isId id) with
  | none => rw [hq] at h; simp at h
  | some q =>
    rw [hq] at h
    simp only [Option.map_eq_some_iff, Prod.mk.injEq] at h
    obtain ⟨y, hy, rfl, rfl⟩ := h
    rw [List.findIdx?_eq_some_iff_getElem] at hq
    obtain ⟨hql, hqp, _⟩ := hq
    obtain ⟨h1, h2⟩ := List.getElem?_eq_some_iff.1 hy
    refine ⟨rfl, hy, ?_, hql⟩
    rw [h2] at hqp
    unfold isId at hqp; simpa using hqp
theorem fnd_none {l : List Postmark} {id : Int} (h : fnd l id = none) : firstI (isId id) l = -1 ∧ ∀ x ∈ l, x.id ≠ id := by
  unfold fnd at h
  unfold firstI
  cases hq : l.findIdx? (isId id) with
  | none =>
    refine ⟨rfl, fun x hx => ?_⟩
    rw [List.findIdx?_eq_none_iff] at hq
    have := hq x hx
    unfold isId at this; simpa using this
  | some q =>
    rw [hq] at h
    have hq2 := hq
    rw [List.findIdx?_eq_some_iff_getElem] at hq
    obtain ⟨hql, _⟩ := hq
    simp [List.getElem?_eq_getElem hql] at h
theorem find_impl (l : List Postmark) (id : Int) : GxSlicesIndexFuncLoopExampleG01062ImplPostmarkLoopExampleG01062ImplPostmarkiIndexOfPostmark1.P l id = some (firstI (isId id) l) := by
  simp only [GxSlicesIndexFuncLoopExampleG01062ImplPostmarkLoopExampleG01062ImplPostmarkiIndexOfPostmark1.P]
  rw [find_loop (p := isId id) (yes := fun i => some (i : Int))]
  · unfold firstI
    cases l.findIdx? (isId id) <;> rfl
  · intro k nx x hx
    have hi : idx l (k : Int) = some x := by rw [idx_nat, hx]
    simp only [GxSlicesIndexFuncLoopExampleG01062ImplPostmarkLoopExampleG01062ImplPostmarkiIndexOfPostmark1.l0, hi, Option.bind_some, unPostmark, GiIndexOfPostmark1.P, letK, appK, iteK_if]
    rfl
theorem indexOf_eq (l : List Postmark) (hf : ∀ s ∈ l, s.fits) (id : Int) : GiIndexOfPostmark.P l id = some (if okPms l = true then firstI (isId id) l else -1) := by
  simp only [GiIndexOfPostmark.P, arePostmarks_eq l hf, find_impl, Option.bind_some, letK, iteK_if]
  cases okPms l <;> simp
theorem l11Find_eq (l : List Postmark) (id : Int) : GsL11Find.P l id = some (firstI (isId id) l) := by
  simp only [GsL11Find.P]
  rw [find_loop (p := isId id) (yes := fun i => some (i : Int))]
  · unfold firstI
    cases l.findIdx? (isId id) <;> rfl
  · intro k nx x hx
    have hi : idx l (k : Int) = some x := by rw [idx_nat, hx]
    simp only [GsL11Find.l0, hi, Option.bind_some, unPostmark, letK, appK, iteK_if]
    rfl
end Go.Proofs.Ytgimcnpkngpmiaa.Q11Find

/- loop.example/g01062/impl.ExtendUse as a plain function, and the contract of the program's: where the plain one has an answer, the program has it. Conditions: slices read as lists. -/
namespace Go.Proofs.Ytgimcnpkngpmiaa.GiExtendUse
set_option linter.unusedVariables false
set_option linter.unusedSimpArgs false
open Go.RowKit
open Go.Proofs.Ytgimcnpkngpmiaa.Rowed Go.Proofs.Ytgimcnpkngpmiaa.Turn Go.Proofs.Ytgimcnpkngpmiaa.Aid Go.Proofs.Ytgimcnpkngpmiaa.GoP Go.Proofs.Ytgimcnpkngpmiaa.GoM

def P (list : (List Go.Proofs.Ytgimcnpkngpmiaa.PPostmark.Postmark)) (id : Int) (day : Int) : Option ((List Go.Proofs.Ytgimcnpkngpmiaa.PPostmark.Postmark) × Int × Bool) :=
  Option.bind (Go.Proofs.Ytgimcnpkngpmiaa.GiIndexOfPostmark.P list id) fun (t_5 : Int) =>
  letK (decide (t_5 < 0)) fun (t_8 : Bool) =>
  joinK (fun (t_13 : Bool) =>
  iteK t_13
  (some (([] : List Go.Proofs.Ytgimcnpkngpmiaa.PPostmark.Postmark), 0, false))
  (Option.bind (idx list t_5) fun (yt_20 : Go.Proofs.Ytgimcnpkngpmiaa.PPostmark.Postmark) =>
  unPostmark yt_20 fun (t_20_id : Int) (t_20_town : ByteArray) (t_20_kind_ : Int) (t_20_first : Int) (t_20_last : Int) (t_20_lost : ByteArray) =>
  letK (min t_20_first day) fun (t_30 : Int) =>
  letK (max t_20_last day) fun (t_36 : Int) =>
  Option.bind (Go.Proofs.Ytgimcnpkngpmiaa.GxSlicesCloneLoopExampleG01062ImplPostmarkLoopExampleG01062ImplPostmark.P list) fun (t_40 : (List Go.Proofs.Ytgimcnpkngpmiaa.PPostmark.Postmark)) =>
  Option.bind (idx t_40 t_5) fun (yt_45 : Go.Proofs.Ytgimcnpkngpmiaa.PPostmark.Postmark) =>
  unPostmark yt_45 fun (t_45_id : Int) (t_45_town : ByteArray) (t_45_kind_ : Int) (t_45_first : Int) (t_45_last : Int) (t_45_lost : ByteArray) =>
  letK (t_40.set (t_5).toNat (Go.Proofs.Ytgimcnpkngpmiaa.PPostmark.Postmark.mk t_20_id t_20_town t_20_kind_ t_30 t_36 t_20_lost)) fun (l46_46 : (List Go.Proofs.Ytgimcnpkngpmiaa.PPostmark.Postmark)) =>
  letK (IntKind.i64.wrap (t_36 - t_30)) fun (t_52 : Int) =>
  letK (IntKind.i64.wrap (t_20_last - t_20_first)) fun (t_57 : Int) =>
  letK (IntKind.i64.wrap (t_52 - t_57)) fun (t_58 : Int) =>
  some (l46_46, t_58, true))) fun jt_13 => iteK t_8 (appK jt_13 true) (Option.bind (Go.Proofs.Ytgimcnpkngpmiaa.GiIsDay.P day) fun (t_11 : Bool) =>
  letK (!t_11) fun (t_12 : Bool) =>
  appK jt_13 t_12)

set_option maxRecDepth 100000 in
set_option maxHeartbeats 2000000 in
theorem C (list : (List Go.Proofs.Ytgimcnpkngpmiaa.PPostmark.Postmark)) (id : Int) (day : Int) (A0 : Option Addr) (c0 : Nat)  (w : World) (M0 : Hid (Cells w 6 A0 list.length (Go.Proofs.Ytgimcnpkngpmiaa.PPostmark.flat list))) (N0 : Hid (list.length ≤ 9223372036854775807)) (Q0 : Hid (Room A0 list.length c0))  {r0 : (List Go.Proofs.Ytgimcnpkngpmiaa.PPostmark.Postmark)} {r1 : Int} {r2 : Bool} (H : Hid (P list id day = some (r0, r1, r2))) :
    Calls Try.prog 30 #[.slice A0 list.length c0, .int .i64 id, .int .i64 day] w (fun e w' => ∃ A_r0 c_r0, e = .returned (.tuple #[.slice A_r0 r0.length c_r0, .int .i64 r1, .bool r2]) ∧ w'.ownsRow w.heap.size 26 6 (.slice A_r0 r0.length c_r0) r0.length (Go.Proofs.Ytgimcnpkngpmiaa.PPostmark.flat r0) ∧ Below w.heap.size w w') := by
  have HB := Lib.hid (Below.refl w.heap.size w)
  unfold P at H
  have N0o := N0.out
  go_enter Try.func30, Try.ntmps30
  replace H := bind_hid H
  obtain ⟨t_5, qt_5, H⟩ := H
  go_wp2_with fail
  go_at_call 53
  refine (Go.Proofs.Ytgimcnpkngpmiaa.GiIndexOfPostmark.C (list) (id) A0 c0 _   (Lib.hid (Cells.below M0.out HB.out)) N0 qt_5).mono ?_
  rintro e_t_5 wt_5 ⟨rfl, bt_5⟩
  have HBwt_5 := Lib.hid (Below.step HB.out bt_5)
  clear bt_5
  replace H := let_hid H
  obtain ⟨t_8, ht_8, H⟩ := H
  replace H := join_hid H
  cases t_8 with
  | false =>
    replace H := ite_f H
    replace H := bind_hid H
    obtain ⟨t_11, qt_11, H⟩ := H
    go_wp2_with fail
    go_at_call 43
    refine (Go.Proofs.Ytgimcnpkngpmiaa.GiIsDay.C (day)  _    qt_11).mono ?_
    rintro e_t_11 wt_11 ⟨rfl, bt_11⟩
    have HBwt_11 := Lib.hid (Below.step HBwt_5.out bt_11)
    clear bt_11
    cases t_11 with
    | false =>
      replace H := let_hid H
      obtain ⟨t_12, ht_12, H⟩ := H
      obtain rfl : t_12 = true := ht_12.symm
      replace H := app_hid H
      replace H := ite_t H
      obtain ⟨w_t_14, hw_t_14⟩ : ∃ x, wt_11.alloc (.cells #[] 26) = x := ⟨_, rfl⟩
      have bw_t_14 : Below wt_11.heap.size wt_11 w_t_14 := by rw [← hw_t_14]; exact (Below.refl _ _).alloc (Nat.le_refl _) _
      have Ot_14 : Hid (w_t_14.ownsRow w.heap.size 26 6 (.slice (some ⟨wt_11.heap.size, 0, none⟩) 0 0) 0 []) := Lib.hid (by rw [← hw_t_14]; exact own_empty HBwt_11.out.size)
      have HBw_t_14 := Lib.hid (Below.step HBwt_11.out bw_t_14)
      clear bw_t_14
      cases ret_hid H
      go_wp2_with fail
      go_ret3
      exact ⟨(some ⟨wt_11.heap.size, 0, none⟩), 0, rfl, Ot_14.out, HBw_t_14.out⟩
    | true =>
      replace H := let_hid H
      obtain ⟨t_12, ht_12, H⟩ := H
      obtain rfl : t_12 = false := ht_12.symm
      replace H := app_hid H
      replace H := ite_f H
      replace H := idx_hid H
      obtain ⟨nt_20, yt_20, et_20, lt_20, gt_20, H⟩ := H
      subst et_20
      have nc_399 : ¬ (nt_20 < 0) := by have := of_decide_eq_false ht_8; omega
      obtain ⟨t_20_id, t_20_town, t_20_kind_, t_20_first, t_20_last, t_20_lost⟩ := yt_20
      replace H := unPostmark_hid H
      obtain ⟨ab_t_20, ao_t_20, zt_20, At_20, z_t_20, ct_20_0, ct_20_1, ct_20_2, ct_20_3, ct_20_4, ct_20_5⟩ := Go.Proofs.Ytgimcnpkngpmiaa.OPostmark.at_ M0.out lt_20
      obtain rfl := Option.some.inj (gt_20.out.symm.trans z_t_20)
      subst At_20
      have ltt_20 := cell_lt ct_20_0
      replace ct_20_0 := cell_below HBwt_11.out ct_20_0
      replace ct_20_1 := cell_below HBwt_11.out ct_20_1
      replace ct_20_2 := cell_below HBwt_11.out ct_20_2
      replace ct_20_3 := cell_below HBwt_11.out ct_20_3
      replace ct_20_4 := cell_below HBwt_11.out ct_20_4
      replace ct_20_5 := cell_below HBwt_11.out ct_20_5
      clear z_t_20
      have b0t_20 : (0 : Int) ≤ (nt_20 : Int) := by omega
      have b1t_20 : (nt_20 : Int) < ((list.length : Nat) : Int) := by omega
      have b2t_20 : ((nt_20 : Int)).toNat = nt_20 := by omega
      obtain ⟨w_before_22, hw_before_22⟩ : ∃ x, wt_11.alloc (.cells #[.int .i64 t_20_id, .string t_20_town, .int .i64 t_20_kind_, .int .i64 t_20_first, .int .i64 t_20_last, .string t_20_lost] 26) = x := ⟨_, rfl⟩
      have bw_before_22 : Below wt_11.heap.size wt_11 w_before_22 := by rw [← hw_before_22]; exact (Below.refl _ _).alloc (Nat.le_refl _) _
      have HBw_before_22 := Lib.hid (Below.step HBwt_11.out bw_before_22)
      have ct_20_0__400 := cell_below bw_before_22 ct_20_0
      have ct_20_1__401 := cell_below bw_before_22 ct_20_1
      have ct_20_2__402 := cell_below bw_before_22 ct_20_2
      have ct_20_3__403 := cell_below bw_before_22 ct_20_3
      have ct_20_4__404 := cell_below bw_before_22 ct_20_4
      have ct_20_5__405 := cell_below bw_before_22 ct_20_5
      clear bw_before_22
      have kbefore_22_0 : w_before_22.cell? ⟨wt_11.heap.size, 0, none⟩ = some (.int .i64 t_20_id) := by rw [← hw_before_22]; exact box_new _ _ _ 0 _ rfl
      have kbefore_22_1 : w_before_22.cell? ⟨wt_11.heap.size, 1, none⟩ = some (.string t_20_town) := by rw [← hw_before_22]; exact box_new _ _ _ 1 _ rfl
      have kbefore_22_2 : w_before_22.cell? ⟨wt_11.heap.size, 2, none⟩ = some (.int .i64 t_20_kind_) := by rw [← hw_before_22]; exact box_new _ _ _ 2 _ rfl
      have kbefore_22_3 : w_before_22.cell? ⟨wt_11.heap.size, 3, none⟩ = some (.int .i64 t_20_first) := by rw [← hw_before_22]; exact box_new _ _ _ 3 _ rfl
      have kbefore_22_4 : w_before_22.cell? ⟨wt_11.heap.size, 4, none⟩ = some (.int .i64 t_20_last) := by rw [← hw_before_22]; exact box_new _ _ _ 4 _ rfl
      have kbefore_22_5 : w_before_22.cell? ⟨wt_11.heap.size, 5, none⟩ = some (.string t_20_lost) := by rw [← hw_before_22]; exact box_new _ _ _ 5 _ rfl
      obtain ⟨w_after_25, hw_after_25⟩ : ∃ x, w_before_22.alloc (.cells #[.int .i64 t_20_id, .string t_20_town, .int .i64 t_20_kind_, .int .i64 t_20_first, .int .i64 t_20_last, .string t_20_lost] 26) = x := ⟨_, rfl⟩
      have bw_after_25 : Below w_before_22.heap.size w_before_22 w_after_25 := by rw [← hw_after_25]; exact (Below.refl _ _).alloc (Nat.le_refl _) _
      have Dafter_25_before_22 := Lib.hid (apart_box kbefore_22_0)
      have HBw_after_25 := Lib.hid (Below.step HBw_before_22.out bw_after_25)
      have ct_20_0__406 := cell_below bw_after_25 ct_20_0__400
      have ct_20_1__407 := cell_below bw_after_25 ct_20_1__401
      have ct_20_2__408 := cell_below bw_after_25 ct_20_2__402
      have ct_20_3__409 := cell_below bw_after_25 ct_20_3__403
      have ct_20_4__410 := cell_below bw_after_25 ct_20_4__404
      have ct_20_5__411 := cell_below bw_after_25 ct_20_5__405
      have kbefore_22_0__412 := cell_below bw_after_25 kbefore_22_0
      have kbefore_22_1__413 := cell_below bw_after_25 kbefore_22_1
      have kbefore_22_2__414 := cell_below bw_after_25 kbefore_22_2
      have kbefore_22_3__415 := cell_below bw_after_25 kbefore_22_3
      have kbefore_22_4__416 := cell_below bw_after_25 kbefore_22_4
      have kbefore_22_5__417 := cell_below bw_after_25 kbefore_22_5
      clear bw_after_25
      have kafter_25_0 : w_after_25.cell? ⟨w_before_22.heap.size, 0, none⟩ = some (.int .i64 t_20_id) := by rw [← hw_after_25]; exact box_new _ _ _ 0 _ rfl
      have kafter_25_1 : w_after_25.cell? ⟨w_before_22.heap.size, 1, none⟩ = some (.string t_20_town) := by rw [← hw_after_25]; exact box_new _ _ _ 1 _ rfl
      have kafter_25_2 : w_after_25.cell? ⟨w_before_22.heap.size, 2, none⟩ = some (.int .i64 t_20_kind_) := by rw [← hw_after_25]; exact box_new _ _ _ 2 _ rfl
      have kafter_25_3 : w_after_25.cell? ⟨w_before_22.heap.size, 3, none⟩ = some (.int .i64 t_20_first) := by rw [← hw_after_25]; exact box_new _ _ _ 3 _ rfl
      have kafter_25_4 : w_after_25.cell? ⟨w_before_22.heap.size, 4, none⟩ = some (.int .i64 t_20_last) := by rw [← hw_after_25]; exact box_new _ _ _ 4 _ rfl
      have kafter_25_5 : w_after_25.cell? ⟨w_before_22.heap.size, 5, none⟩ = some (.string t_20_lost) := by rw [← hw_after_25]; exact box_new _ _ _ 5 _ rfl
      have Oafter_25 : Hid (w_after_25.ownsRow w.heap.size 26 6 (.slice (some ⟨w_before_22.heap.size, 0, none⟩) 1 1) 1 [.int .i64 t_20_id, .string t_20_town, .int .i64 t_20_kind_, .int .i64 t_20_first, .int .i64 t_20_last, .string t_20_lost]) := Lib.hid (by rw [← hw_after_25]; exact own_laid (n := 1) HBw_before_22.out.size rfl rfl (by unfold maxLen; omega))
      replace H := let_hid H
      obtain ⟨t_30, ht_30, H⟩ := H
      obtain ⟨wb32_32, hwb32_32⟩ : ∃ x, (w_after_25).setCell ⟨w_before_22.heap.size, 3, none⟩ (.int .i64 t_30) = x := ⟨_, rfl⟩
      have z0b32_32 := Oafter_25.out.frozenAt 3
      have Sb32_32 := Lib.hid (own_stores [(3, .int .i64 t_30)] Oafter_25.out)
      have Pb32_32 : Hid (wb32_32.ownsRow w.heap.size 26 6 (.slice (some ⟨w_before_22.heap.size, 0, none⟩) 1 1) 1 [.int .i64 t_20_id, .string t_20_town, .int .i64 t_20_kind_, .int .i64 t_30, .int .i64 t_20_last, .string t_20_lost]) := Lib.hid (by rw [← hwb32_32]; exact Sb32_32.out.1)
      have Gb32_32 : Hid (w_after_25.grownBy wb32_32 (Value.slice (some ⟨w_before_22.heap.size, 0, none⟩) 1 1).ownBlock) := Lib.hid (by rw [← hwb32_32]; exact Sb32_32.out.2)
      have HBwb32_32 := Lib.hid (HBw_after_25.out.grown Gb32_32.out HBw_after_25.out.size (fun q hq => (Oafter_25.out.lt q hq).1))
      clear Sb32_32
      have ct_20_0__418 := cell_other ct_20_0__406 Gb32_32.out (apart_old Oafter_25.out ltt_20)
      have ct_20_1__419 := cell_other ct_20_1__407 Gb32_32.out (apart_old Oafter_25.out ltt_20)
      have ct_20_2__420 := cell_other ct_20_2__408 Gb32_32.out (apart_old Oafter_25.out ltt_20)
      have ct_20_3__421 := cell_other ct_20_3__409 Gb32_32.out (apart_old Oafter_25.out ltt_20)
      have ct_20_4__422 := cell_other ct_20_4__410 Gb32_32.out (apart_old Oafter_25.out ltt_20)
      have ct_20_5__423 := cell_other ct_20_5__411 Gb32_32.out (apart_old Oafter_25.out ltt_20)
      have kbefore_22_0__424 := cell_other kbefore_22_0__412 Gb32_32.out Dafter_25_before_22.out
      have kbefore_22_1__425 := cell_other kbefore_22_1__413 Gb32_32.out Dafter_25_before_22.out
      have kbefore_22_2__426 := cell_other kbefore_22_2__414 Gb32_32.out Dafter_25_before_22.out
      have kbefore_22_3__427 := cell_other kbefore_22_3__415 Gb32_32.out Dafter_25_before_22.out
      have kbefore_22_4__428 := cell_other kbefore_22_4__416 Gb32_32.out Dafter_25_before_22.out
      have kbefore_22_5__429 := cell_other kbefore_22_5__417 Gb32_32.out Dafter_25_before_22.out
      clear Oafter_25 Gb32_32
      have kafter_25_0__430 : wb32_32.cell? ⟨w_before_22.heap.size, 0, none⟩ = some (.int .i64 t_20_id) := Pb32_32.out.cells rfl 0 _ rfl
      have kafter_25_1__431 : wb32_32.cell? ⟨w_before_22.heap.size, 1, none⟩ = some (.string t_20_town) := Pb32_32.out.cells rfl 1 _ rfl
      have kafter_25_2__432 : wb32_32.cell? ⟨w_before_22.heap.size, 2, none⟩ = some (.int .i64 t_20_kind_) := Pb32_32.out.cells rfl 2 _ rfl
      have kafter_25_3__433 : wb32_32.cell? ⟨w_before_22.heap.size, 3, none⟩ = some (.int .i64 t_30) := Pb32_32.out.cells rfl 3 _ rfl
      have kafter_25_4__434 : wb32_32.cell? ⟨w_before_22.heap.size, 4, none⟩ = some (.int .i64 t_20_last) := Pb32_32.out.cells rfl 4 _ rfl
      have kafter_25_5__435 : wb32_32.cell? ⟨w_before_22.heap.size, 5, none⟩ = some (.string t_20_lost) := Pb32_32.out.cells rfl 5 _ rfl
      replace H := let_hid H
      obtain ⟨t_36, ht_36, H⟩ := H
      obtain ⟨wb38_38, hwb38_38⟩ : ∃ x, (wb32_32).setCell ⟨w_before_22.heap.size, 4, none⟩ (.int .i64 t_36) = x := ⟨_, rfl⟩
      have z0b38_38 := Pb32_32.out.frozenAt 4
      have Sb38_38 := Lib.hid (own_stores [(4, .int .i64 t_36)] Pb32_32.out)
      have Pb38_38 : Hid (wb38_38.ownsRow w.heap.size 26 6 (.slice (some ⟨w_before_22.heap.size, 0, none⟩) 1 1) 1 [.int .i64 t_20_id, .string t_20_town, .int .i64 t_20_kind_, .int .i64 t_30, .int .i64 t_36, .string t_20_lost]) := Lib.hid (by rw [← hwb38_38]; exact Sb38_38.out.1)
      have Gb38_38 : Hid (wb32_32.grownBy wb38_38 (Value.slice (some ⟨w_before_22.heap.size, 0, none⟩) 1 1).ownBlock) := Lib.hid (by rw [← hwb38_38]; exact Sb38_38.out.2)
      have HBwb38_38 := Lib.hid (HBwb32_32.out.grown Gb38_38.out HBwb32_32.out.size (fun q hq => (Pb32_32.out.lt q hq).1))
      clear Sb38_38
      have ct_20_0__436 := cell_other ct_20_0__418 Gb38_38.out (apart_old Pb32_32.out ltt_20)
      have ct_20_1__437 := cell_other ct_20_1__419 Gb38_38.out (apart_old Pb32_32.out ltt_20)
      have ct_20_2__438 := cell_other ct_20_2__420 Gb38_38.out (apart_old Pb32_32.out ltt_20)
      have ct_20_3__439 := cell_other ct_20_3__421 Gb38_38.out (apart_old Pb32_32.out ltt_20)
      have ct_20_4__440 := cell_other ct_20_4__422 Gb38_38.out (apart_old Pb32_32.out ltt_20)
      have ct_20_5__441 := cell_other ct_20_5__423 Gb38_38.out (apart_old Pb32_32.out ltt_20)
      have kbefore_22_0__442 := cell_other kbefore_22_0__424 Gb38_38.out Dafter_25_before_22.out
      have kbefore_22_1__443 := cell_other kbefore_22_1__425 Gb38_38.out Dafter_25_before_22.out
      have kbefore_22_2__444 := cell_other kbefore_22_2__426 Gb38_38.out Dafter_25_before_22.out
      have kbefore_22_3__445 := cell_other kbefore_22_3__427 Gb38_38.out Dafter_25_before_22.out
      have kbefore_22_4__446 := cell_other kbefore_22_4__428 Gb38_38.out Dafter_25_before_22.out
      have kbefore_22_5__447 := cell_other kbefore_22_5__429 Gb38_38.out Dafter_25_before_22.out
      clear Pb32_32 Gb38_38
      have kafter_25_0__448 : wb38_38.cell? ⟨w_before_22.heap.size, 0, none⟩ = some (.int .i64 t_20_id) := Pb38_38.out.cells rfl 0 _ rfl
      have kafter_25_1__449 : wb38_38.cell? ⟨w_before_22.heap.size, 1, none⟩ = some (.string t_20_town) := Pb38_38.out.cells rfl 1 _ rfl
      have kafter_25_2__450 : wb38_38.cell? ⟨w_before_22.heap.size, 2, none⟩ = some (.int .i64 t_20_kind_) := Pb38_38.out.cells rfl 2 _ rfl
      have kafter_25_3__451 : wb38_38.cell? ⟨w_before_22.heap.size, 3, none⟩ = some (.int .i64 t_30) := Pb38_38.out.cells rfl 3 _ rfl
      have kafter_25_4__452 : wb38_38.cell? ⟨w_before_22.heap.size, 4, none⟩ = some (.int .i64 t_36) := Pb38_38.out.cells rfl 4 _ rfl
      have kafter_25_5__453 : wb38_38.cell? ⟨w_before_22.heap.size, 5, none⟩ = some (.string t_20_lost) := Pb38_38.out.cells rfl 5 _ rfl
      replace H := bind_hid H
      obtain ⟨t_40, qt_40, H⟩ := H
      go_wp2_with fail
      clear ct_20_0 ct_20_1 ct_20_2 ct_20_3 ct_20_4 ct_20_5 ct_20_0__400 ct_20_1__401 ct_20_2__402 ct_20_3__403 ct_20_4__404 ct_20_5__405 kbefore_22_0 kbefore_22_1 kbefore_22_2 kbefore_22_3 kbefore_22_4 kbefore_22_5 z0b32_32 ct_20_0__406 ct_20_1__407 ct_20_2__408 ct_20_3__409 ct_20_4__410 ct_20_5__411 kbefore_22_0__412 kbefore_22_1__413 kbefore_22_2__414 kbefore_22_3__415 kbefore_22_4__416 kbefore_22_5__417 kafter_25_0 kafter_25_1 kafter_25_2 kafter_25_3 kafter_25_4 kafter_25_5 z0b38_38 ct_20_0__418 ct_20_1__419 ct_20_2__420 ct_20_3__421 ct_20_4__422 ct_20_5__423 kbefore_22_0__424 kbefore_22_1__425 kbefore_22_2__426 kbefore_22_3__427 kbefore_22_4__428 kbefore_22_5__429 kafter_25_0__430 kafter_25_1__431 kafter_25_2__432 kafter_25_3__433 kafter_25_4__434 kafter_25_5__435
      go_at_call 54
      refine (Go.Proofs.Ytgimcnpkngpmiaa.GxSlicesCloneLoopExampleG01062ImplPostmarkLoopExampleG01062ImplPostmark.C (list) (some ⟨ab_t_20, ao_t_20, none⟩) c0 _   (Lib.hid (Cells.below M0.out HBwb38_38.out)) N0 Q0 qt_40).mono ?_
      rintro e_t_40 wt_40 ⟨At_40, ct_40, rfl, ot_40, bt_40⟩
      have Dt_40_before_22 := Lib.hid (apart_callbox ot_40 kbefore_22_0__442)
      have Dt_40_after_25 := Lib.hid (apart_callbox ot_40 kafter_25_0__448)
      have Ot_40 := Lib.hid (own_lower ot_40 HBwb38_38.out.size)
      clear ot_40
      have HBwt_40 := Lib.hid (Below.step HBwb38_38.out bt_40)
      replace ct_20_0__436 := cell_below bt_40 ct_20_0__436
      replace ct_20_1__437 := cell_below bt_40 ct_20_1__437
      replace ct_20_2__438 := cell_below bt_40 ct_20_2__438
      replace ct_20_3__439 := cell_below bt_40 ct_20_3__439
      replace ct_20_4__440 := cell_below bt_40 ct_20_4__440
      replace ct_20_5__441 := cell_below bt_40 ct_20_5__441
      replace kbefore_22_0__442 := cell_below bt_40 kbefore_22_0__442
      replace kbefore_22_1__443 := cell_below bt_40 kbefore_22_1__443
      replace kbefore_22_2__444 := cell_below bt_40 kbefore_22_2__444
      replace kbefore_22_3__445 := cell_below bt_40 kbefore_22_3__445
      replace kbefore_22_4__446 := cell_below bt_40 kbefore_22_4__446
      replace kbefore_22_5__447 := cell_below bt_40 kbefore_22_5__447
      replace kafter_25_0__448 := cell_below bt_40 kafter_25_0__448
      replace kafter_25_1__449 := cell_below bt_40 kafter_25_1__449
      replace kafter_25_2__450 := cell_below bt_40 kafter_25_2__450
      replace kafter_25_3__451 := cell_below bt_40 kafter_25_3__451
      replace kafter_25_4__452 := cell_below bt_40 kafter_25_4__452
      replace kafter_25_5__453 := cell_below bt_40 kafter_25_5__453
      replace Pb38_38 := Lib.hid (own_below Pb38_38.out bt_40)
      clear bt_40
      replace H := idx_hid H
      obtain ⟨nt_45, yt_45, et_45, lt_45, gt_45, H⟩ := H
      obtain rfl : nt_20 = nt_45 := by omega
      clear et_45
      obtain ⟨t_45_id, t_45_town, t_45_kind_, t_45_first, t_45_last, t_45_lost⟩ := yt_45
      replace H := unPostmark_hid H
      obtain ⟨qt_45, Qt_45⟩ := own_some Ot_40.out (by omega)
      subst Qt_45
      obtain ⟨ab_t_45, ao_t_45, zt_45, At_45, z_t_45, ct_45_0, ct_45_1, ct_45_2, ct_45_3, ct_45_4, ct_45_5⟩ := Go.Proofs.Ytgimcnpkngpmiaa.OPostmark.at_ (own_cells Ot_40.out) (k := nt_20) (by omega)
      obtain rfl := Option.some.inj (gt_45.out.symm.trans z_t_45)
      simp only [Option.some.injEq, Addr.mk.injEq] at At_45
      obtain ⟨rfl, rfl, _⟩ := At_45
      clear z_t_45
      simp only [Nat.zero_add] at ct_45_0 ct_45_1 ct_45_2 ct_45_3 ct_45_4 ct_45_5
      have b0t_45 : (0 : Int) ≤ (nt_20 : Int) := by omega
      have b1t_45 : (nt_20 : Int) < ((t_40.length : Nat) : Int) := by omega
      have b2t_45 : ((nt_20 : Int)).toNat = nt_20 := by omega
      replace H := let_hid H
      obtain ⟨l46_46, hl46_46, H⟩ := H
      try simp only [Int.toNat_natCast] at hl46_46
      obtain ⟨wl46_46, hwl46_46⟩ : ∃ x, ((((((wt_40).setCell ⟨qt_45, nt_20 * 6, none⟩ (.int .i64 t_20_id)).setCell ⟨qt_45, nt_20 * 6 + 1, none⟩ (.string t_20_town)).setCell ⟨qt_45, nt_20 * 6 + 2, none⟩ (.int .i64 t_20_kind_)).setCell ⟨qt_45, nt_20 * 6 + 3, none⟩ (.int .i64 t_30)).setCell ⟨qt_45, nt_20 * 6 + 4, none⟩ (.int .i64 t_36)).setCell ⟨qt_45, nt_20 * 6 + 5, none⟩ (.string t_20_lost) = x := ⟨_, rfl⟩
      have z0l46_46 := Ot_40.out.frozenAt (nt_20 * 6)
      have z1l46_46 := Ot_40.out.frozenAt (nt_20 * 6 + 1)
      have z2l46_46 := Ot_40.out.frozenAt (nt_20 * 6 + 2)
      have z3l46_46 := Ot_40.out.frozenAt (nt_20 * 6 + 3)
      have z4l46_46 := Ot_40.out.frozenAt (nt_20 * 6 + 4)
      have z5l46_46 := Ot_40.out.frozenAt (nt_20 * 6 + 5)
      have Sl46_46 := Lib.hid (own_stores [(nt_20 * 6, .int .i64 t_20_id), (nt_20 * 6 + 1, .string t_20_town), (nt_20 * 6 + 2, .int .i64 t_20_kind_), (nt_20 * 6 + 3, .int .i64 t_30), (nt_20 * 6 + 4, .int .i64 t_36), (nt_20 * 6 + 5, .string t_20_lost)] Ot_40.out)
      have nl46_46 : Hid (l46_46.length = t_40.length) := Lib.hid (by rw [← hl46_46, List.length_set])
      have Pl46_46 : Hid (wl46_46.ownsRow w.heap.size 26 6 (.slice (some ⟨qt_45, 0, none⟩) t_40.length ct_40) t_40.length (Go.Proofs.Ytgimcnpkngpmiaa.PPostmark.flat l46_46)) := Lib.hid (by have es_ := set_self gt_45.out; have e0_ := flat_set Go.Proofs.Ytgimcnpkngpmiaa.PPostmark.Postmark.cells 6 (fun _ => rfl) t_40 (nt_20) 0 (Go.Proofs.Ytgimcnpkngpmiaa.PPostmark.Postmark.mk t_45_id t_45_town t_45_kind_ t_45_first t_45_last t_45_lost) (Go.Proofs.Ytgimcnpkngpmiaa.PPostmark.Postmark.mk t_20_id t_45_town t_45_kind_ t_45_first t_45_last t_45_lost) (.int .i64 t_20_id) lt_45 (by decide) rfl; have e1_ := flat_set Go.Proofs.Ytgimcnpkngpmiaa.PPostmark.Postmark.cells 6 (fun _ => rfl) t_40 (nt_20) 1 (Go.Proofs.Ytgimcnpkngpmiaa.PPostmark.Postmark.mk t_20_id t_45_town t_45_kind_ t_45_first t_45_last t_45_lost) (Go.Proofs.Ytgimcnpkngpmiaa.PPostmark.Postmark.mk t_20_id t_20_town t_45_kind_ t_45_first t_45_last t_45_lost) (.string t_20_town) lt_45 (by decide) rfl; have e2_ := flat_set Go.Proofs.Ytgimcnpkngpmiaa.PPostmark.Postmark.cells 6 (fun _ => rfl) t_40 (nt_20) 2 (Go.Proofs.Ytgimcnpkngpmiaa.PPostmark.Postmark.mk t_20_id t_20_town t_45_kind_ t_45_first t_45_last t_45_lost) (Go.Proofs.Ytgimcnpkngpmiaa.PPostmark.Postmark.mk t_20_id t_20_town t_20_kind_ t_45_first t_45_last t_45_lost) (.int .i64 t_20_kind_) lt_45 (by decide) rfl; have e3_ := flat_set Go.Proofs.Ytgimcnpkngpmiaa.PPostmark.Postmark.cells 6 (fun _ => rfl) t_40 (nt_20) 3 (Go.Proofs.Ytgimcnpkngpmiaa.PPostmark.Postmark.mk t_20_id t_20_town t_20_kind_ t_45_first t_45_last t_45_lost) (Go.Proofs.Ytgimcnpkngpmiaa.PPostmark.Postmark.mk t_20_id t_20_town t_20_kind_ t_30 t_45_last t_45_lost) (.int .i64 t_30) lt_45 (by decide) rfl; have e4_ := flat_set Go.Proofs.Ytgimcnpkngpmiaa.PPostmark.Postmark.cells 6 (fun _ => rfl) t_40 (nt_20) 4 (Go.Proofs.Ytgimcnpkngpmiaa.PPostmark.Postmark.mk t_20_id t_20_town t_20_kind_ t_30 t_45_last t_45_lost) (Go.Proofs.Ytgimcnpkngpmiaa.PPostmark.Postmark.mk t_20_id t_20_town t_20_kind_ t_30 t_36 t_45_lost) (.int .i64 t_36) lt_45 (by decide) rfl; have e5_ := flat_set Go.Proofs.Ytgimcnpkngpmiaa.PPostmark.Postmark.cells 6 (fun _ => rfl) t_40 (nt_20) 5 (Go.Proofs.Ytgimcnpkngpmiaa.PPostmark.Postmark.mk t_20_id t_20_town t_20_kind_ t_30 t_36 t_45_lost) (Go.Proofs.Ytgimcnpkngpmiaa.PPostmark.Postmark.mk t_20_id t_20_town t_20_kind_ t_30 t_36 t_20_lost) (.string t_20_lost) lt_45 (by decide) rfl; rw [es_] at e0_; have e_ : ([(nt_20 * 6, .int .i64 t_20_id), (nt_20 * 6 + 1, .string t_20_town), (nt_20 * 6 + 2, .int .i64 t_20_kind_), (nt_20 * 6 + 3, .int .i64 t_30), (nt_20 * 6 + 4, .int .i64 t_36), (nt_20 * 6 + 5, .string t_20_lost)] : List (Nat × Value)).foldl (fun xs p => xs.set p.1 p.2) (Go.Proofs.Ytgimcnpkngpmiaa.PPostmark.flat t_40) = (Go.Proofs.Ytgimcnpkngpmiaa.PPostmark.flat l46_46) := (by rw [← hl46_46]; show _ = List.flatMap Go.Proofs.Ytgimcnpkngpmiaa.PPostmark.Postmark.cells _; first | (rw [← e5_, ← e4_, ← e3_, ← e2_, ← e1_, ← e0_]; first | done | rfl) | (rw [← e5_, ← e4_, ← e3_, ← e2_, ← e1_, es_, ← e0_]; first | done | rfl)); rw [← hwl46_46, ← e_]; exact Sl46_46.out.1)
      have Gl46_46 : Hid (wt_40.grownBy wl46_46 (Value.slice (some ⟨qt_45, 0, none⟩) t_40.length ct_40).ownBlock) := Lib.hid (by rw [← hwl46_46]; exact Sl46_46.out.2)
      have HBwl46_46 := Lib.hid (HBwt_40.out.grown Gl46_46.out HBwt_40.out.size (fun q hq => (Ot_40.out.lt q hq).1))
      have hhl46_46 := Lib.hid hl46_46
      clear hl46_46 Sl46_46
      have ct_20_0__454 := cell_other ct_20_0__436 Gl46_46.out (apart_old Ot_40.out ltt_20)
      have ct_20_1__455 := cell_other ct_20_1__437 Gl46_46.out (apart_old Ot_40.out ltt_20)
      have ct_20_2__456 := cell_other ct_20_2__438 Gl46_46.out (apart_old Ot_40.out ltt_20)
      have ct_20_3__457 := cell_other ct_20_3__439 Gl46_46.out (apart_old Ot_40.out ltt_20)
      have ct_20_4__458 := cell_other ct_20_4__440 Gl46_46.out (apart_old Ot_40.out ltt_20)
      have ct_20_5__459 := cell_other ct_20_5__441 Gl46_46.out (apart_old Ot_40.out ltt_20)
      have kbefore_22_0__460 := cell_other kbefore_22_0__442 Gl46_46.out Dt_40_before_22.out
      have kbefore_22_1__461 := cell_other kbefore_22_1__443 Gl46_46.out Dt_40_before_22.out
      have kbefore_22_2__462 := cell_other kbefore_22_2__444 Gl46_46.out Dt_40_before_22.out
      have kbefore_22_3__463 := cell_other kbefore_22_3__445 Gl46_46.out Dt_40_before_22.out
      have kbefore_22_4__464 := cell_other kbefore_22_4__446 Gl46_46.out Dt_40_before_22.out
      have kbefore_22_5__465 := cell_other kbefore_22_5__447 Gl46_46.out Dt_40_before_22.out
      have kafter_25_0__466 := cell_other kafter_25_0__448 Gl46_46.out Dt_40_after_25.out
      have kafter_25_1__467 := cell_other kafter_25_1__449 Gl46_46.out Dt_40_after_25.out
      have kafter_25_2__468 := cell_other kafter_25_2__450 Gl46_46.out Dt_40_after_25.out
      have kafter_25_3__469 := cell_other kafter_25_3__451 Gl46_46.out Dt_40_after_25.out
      have kafter_25_4__470 := cell_other kafter_25_4__452 Gl46_46.out Dt_40_after_25.out
      have kafter_25_5__471 := cell_other kafter_25_5__453 Gl46_46.out Dt_40_after_25.out
      replace Pb38_38 := Lib.hid (own_other Pb38_38.out Gl46_46.out Dt_40_after_25.out)
      clear Ot_40 Gl46_46
      go_wp2_with fail
      clear z0l46_46 z1l46_46 z2l46_46 z3l46_46 z4l46_46 z5l46_46 ct_20_0__436 ct_20_1__437 ct_20_2__438 ct_20_3__439 ct_20_4__440 ct_20_5__441 kbefore_22_0__442 kbefore_22_1__443 kbefore_22_2__444 kbefore_22_3__445 kbefore_22_4__446 kbefore_22_5__447 kafter_25_0__448 kafter_25_1__449 kafter_25_2__450 kafter_25_3__451 kafter_25_4__452 kafter_25_5__453 ct_45_0 ct_45_1 ct_45_2 ct_45_3 ct_45_4 ct_45_5
      have Hct_20_0__454 := Lib.hid ct_20_0__454
      replace ct_20_0__454 := cell_regrown ct_20_0__454
      have Hct_20_1__455 := Lib.hid ct_20_1__455
      replace ct_20_1__455 := cell_regrown ct_20_1__455
      have Hct_20_2__456 := Lib.hid ct_20_2__456
      replace ct_20_2__456 := cell_regrown ct_20_2__456
      have Hct_20_3__457 := Lib.hid ct_20_3__457
      replace ct_20_3__457 := cell_regrown ct_20_3__457
      have Hct_20_4__458 := Lib.hid ct_20_4__458
      replace ct_20_4__458 := cell_regrown ct_20_4__458
      have Hct_20_5__459 := Lib.hid ct_20_5__459
      replace ct_20_5__459 := cell_regrown ct_20_5__459
      have Hkbefore_22_0__460 := Lib.hid kbefore_22_0__460
      replace kbefore_22_0__460 := cell_regrown kbefore_22_0__460
      have Hkbefore_22_1__461 := Lib.hid kbefore_22_1__461
      replace kbefore_22_1__461 := cell_regrown kbefore_22_1__461
      have Hkbefore_22_2__462 := Lib.hid kbefore_22_2__462
      replace kbefore_22_2__462 := cell_regrown kbefore_22_2__462
      have Hkbefore_22_3__463 := Lib.hid kbefore_22_3__463
      replace kbefore_22_3__463 := cell_regrown kbefore_22_3__463
      have Hkbefore_22_4__464 := Lib.hid kbefore_22_4__464
      replace kbefore_22_4__464 := cell_regrown kbefore_22_4__464
      have Hkbefore_22_5__465 := Lib.hid kbefore_22_5__465
      replace kbefore_22_5__465 := cell_regrown kbefore_22_5__465
      have Hkafter_25_0__466 := Lib.hid kafter_25_0__466
      replace kafter_25_0__466 := cell_regrown kafter_25_0__466
      have Hkafter_25_1__467 := Lib.hid kafter_25_1__467
      replace kafter_25_1__467 := cell_regrown kafter_25_1__467
      have Hkafter_25_2__468 := Lib.hid kafter_25_2__468
      replace kafter_25_2__468 := cell_regrown kafter_25_2__468
      have Hkafter_25_3__469 := Lib.hid kafter_25_3__469
      replace kafter_25_3__469 := cell_regrown kafter_25_3__469
      have Hkafter_25_4__470 := Lib.hid kafter_25_4__470
      replace kafter_25_4__470 := cell_regrown kafter_25_4__470
      have Hkafter_25_5__471 := Lib.hid kafter_25_5__471
      replace kafter_25_5__471 := cell_regrown kafter_25_5__471
      replace H := let_hid H
      obtain ⟨t_52, ht_52, H⟩ := H
      replace H := let_hid H
      obtain ⟨t_57, ht_57, H⟩ := H
      replace H := let_hid H
      obtain ⟨t_58, ht_58, H⟩ := H
      refine wp_region_quiet_below (by kernel_rfl) (by kernel_rfl) ?_
      repeat (go_big_quiet_step (fail))
      refine wpQuiet_nil ?_
      intro Y10 hY10
      replace hY10 := below_class hY10
      replace ct_20_0__454 := Hct_20_0__454.out
      clear Hct_20_0__454
      replace ct_20_1__455 := Hct_20_1__455.out
      clear Hct_20_1__455
      replace ct_20_2__456 := Hct_20_2__456.out
      clear Hct_20_2__456
      replace ct_20_3__457 := Hct_20_3__457.out
      clear Hct_20_3__457
      replace ct_20_4__458 := Hct_20_4__458.out
      clear Hct_20_4__458
      replace ct_20_5__459 := Hct_20_5__459.out
      clear Hct_20_5__459
      replace kbefore_22_0__460 := Hkbefore_22_0__460.out
      clear Hkbefore_22_0__460
      replace kbefore_22_1__461 := Hkbefore_22_1__461.out
      clear Hkbefore_22_1__461
      replace kbefore_22_2__462 := Hkbefore_22_2__462.out
      clear Hkbefore_22_2__462
      replace kbefore_22_3__463 := Hkbefore_22_3__463.out
      clear Hkbefore_22_3__463
      replace kbefore_22_4__464 := Hkbefore_22_4__464.out
      clear Hkbefore_22_4__464
      replace kbefore_22_5__465 := Hkbefore_22_5__465.out
      clear Hkbefore_22_5__465
      replace kafter_25_0__466 := Hkafter_25_0__466.out
      clear Hkafter_25_0__466
      replace kafter_25_1__467 := Hkafter_25_1__467.out
      clear Hkafter_25_1__467
      replace kafter_25_2__468 := Hkafter_25_2__468.out
      clear Hkafter_25_2__468
      replace kafter_25_3__469 := Hkafter_25_3__469.out
      clear Hkafter_25_3__469
      replace kafter_25_4__470 := Hkafter_25_4__470.out
      clear Hkafter_25_4__470
      replace kafter_25_5__471 := Hkafter_25_5__471.out
      clear Hkafter_25_5__471
      have HBY10 := Lib.hid (Below.step HBwl46_46.out hY10)
      replace ct_20_0__454 := cell_below hY10 ct_20_0__454
      replace ct_20_1__455 := cell_below hY10 ct_20_1__455
      replace ct_20_2__456 := cell_below hY10 ct_20_2__456
      replace ct_20_3__457 := cell_below hY10 ct_20_3__457
      replace ct_20_4__458 := cell_below hY10 ct_20_4__458
      replace ct_20_5__459 := cell_below hY10 ct_20_5__459
      replace kbefore_22_0__460 := cell_below hY10 kbefore_22_0__460
      replace kbefore_22_1__461 := cell_below hY10 kbefore_22_1__461
      replace kbefore_22_2__462 := cell_below hY10 kbefore_22_2__462
      replace kbefore_22_3__463 := cell_below hY10 kbefore_22_3__463
      replace kbefore_22_4__464 := cell_below hY10 kbefore_22_4__464
      replace kbefore_22_5__465 := cell_below hY10 kbefore_22_5__465
      replace kafter_25_0__466 := cell_below hY10 kafter_25_0__466
      replace kafter_25_1__467 := cell_below hY10 kafter_25_1__467
      replace kafter_25_2__468 := cell_below hY10 kafter_25_2__468
      replace kafter_25_3__469 := cell_below hY10 kafter_25_3__469
      replace kafter_25_4__470 := cell_below hY10 kafter_25_4__470
      replace kafter_25_5__471 := cell_below hY10 kafter_25_5__471
      replace Pl46_46 := Lib.hid (own_below Pl46_46.out hY10)
      replace Pb38_38 := Lib.hid (own_below Pb38_38.out hY10)
      clear hY10
      cases ret_hid H
      go_wp2_with fail
      go_ret3
      have hr_0 := nl46_46.out
      replace Pl46_46 := Lib.hid (own_len hr_0 Pl46_46.out)
      exact ⟨(some ⟨qt_45, 0, none⟩), ct_40, (by first | (rw [hr_0]; done) | (rw [hr_0]; rfl)), Pl46_46.out, HBY10.out⟩
  | true =>
    replace H := ite_t H
    replace H := app_hid H
    replace H := ite_t H
    obtain ⟨w_t_14, hw_t_14⟩ : ∃ x, wt_5.alloc (.cells #[] 26) = x := ⟨_, rfl⟩
    have bw_t_14 : Below wt_5.heap.size wt_5 w_t_14 := by rw [← hw_t_14]; exact (Below.refl _ _).alloc (Nat.le_refl _) _
    have Ot_14 : Hid (w_t_14.ownsRow w.heap.size 26 6 (.slice (some ⟨wt_5.heap.size, 0, none⟩) 0 0) 0 []) := Lib.hid (by rw [← hw_t_14]; exact own_empty HBwt_5.out.size)
    have HBw_t_14 := Lib.hid (Below.step HBwt_5.out bw_t_14)
    clear bw_t_14
    cases ret_hid H
    go_wp2_with fail
    go_ret3
    exact ⟨(some ⟨wt_5.heap.size, 0, none⟩), 0, rfl, Ot_14.out, HBw_t_14.out⟩
end Go.Proofs.Ytgimcnpkngpmiaa.GiExtendUse

/- loop.example/g01062/spec.l1Most as a plain function, and the contract of the program's: where the plain one has an answer, the program has it. Conditions: slices read as lists. -/
namespace Go.Proofs.Ytgimcnpkngpmiaa.GsL1Most
set_option linter.unusedVariables false
set_option linter.unusedSimpArgs false
open Go.RowKit
open Go.Proofs.Ytgimcnpkngpmiaa.Rowed Go.Proofs.Ytgimcnpkngpmiaa.Turn Go.Proofs.Ytgimcnpkngpmiaa.Aid Go.Proofs.Ytgimcnpkngpmiaa.GoP Go.Proofs.Ytgimcnpkngpmiaa.GoM

def P (a : Int) (b : Int) : Option (Int) :=
  letK (decide (b < a)) fun (t_3 : Bool) =>
  iteK t_3
  (some a)
  (some b)

set_option maxRecDepth 100000 in
set_option maxHeartbeats 2000000 in
theorem C (a : Int) (b : Int)   (w : World)   {r : Int} (H : Hid (P a b = some r)) :
    Calls Try.prog 62 #[.int .i64 a, .int .i64 b] w (Gives (.int .i64 r) w) := by
  have HB := Lib.hid (Below.refl w.heap.size w)
  unfold P at H
  go_enter Try.func62, Try.ntmps62
  replace H := let_hid H
  obtain ⟨t_3, ht_3, H⟩ := H
  cases t_3 with
  | false =>
    replace H := ite_f H
    obtain rfl := ret_hid H
    go_wp2_with fail
    go_ret
    exact ⟨rfl, HB.out⟩
  | true =>
    replace H := ite_t H
    obtain rfl := ret_hid H
    go_wp2_with fail
    go_ret
    exact ⟨rfl, HB.out⟩

set_option maxRecDepth 100000 in
set_option maxHeartbeats 2000000 in
theorem C0 (a : Int) (b : Int)   (w : World)   {r : Int} (H : Hid (P a b = some r)) :
    Calls Try.prog 62 #[.int .i64 a, .int .i64 b] w (fun e w'' => e = .returned (.int .i64 r) ∧ w'' = w) := by
  have HB := Lib.hid (Below.refl w.heap.size w)
  unfold P at H
  go_enter Try.func62, Try.ntmps62
  replace H := let_hid H
  obtain ⟨t_3, ht_3, H⟩ := H
  cases t_3 with
  | false =>
    replace H := ite_f H
    obtain rfl := ret_hid H
    go_wp2_with fail
    go_ret
    exact ⟨rfl, rfl⟩
  | true =>
    replace H := ite_t H
    obtain rfl := ret_hid H
    go_wp2_with fail
    go_ret
    exact ⟨rfl, rfl⟩
end Go.Proofs.Ytgimcnpkngpmiaa.GsL1Most

/- loop.example/g01062/spec.l1Least as a plain function, and the contract of the program's: where the plain one has an answer, the program has it. Conditions: slices read as lists. -/
namespace Go.Proofs.Ytgimcnpkngpmiaa.GsL1Least
set_option linter.unusedVariables false
set_option linter.unusedSimpArgs false
open Go.RowKit
open Go.Proofs.Ytgimcnpkngpmiaa.Rowed Go.Proofs.Ytgimcnpkngpmiaa.Turn Go.Proofs.Ytgimcnpkngpmiaa.Aid Go.Proofs.Ytgimcnpkngpmiaa.GoP Go.Proofs.Ytgimcnpkngpmiaa.GoM

def P (a : Int) (b : Int) : Option (Int) :=
  letK (decide (a < b)) fun (t_3 : Bool) =>
  iteK t_3
  (some a)
  (some b)

set_option maxRecDepth 100000 in
set_option maxHeartbeats 2000000 in
theorem C (a : Int) (b : Int)   (w : World)   {r : Int} (H : Hid (P a b = some r)) :
    Calls Try.prog 63 #[.int .i64 a, .int .i64 b] w (Gives (.int .i64 r) w) := by
  have HB := Lib.hid (Below.refl w.heap.size w)
  unfold P at H
  go_enter Try.func63, Try.ntmps63
  replace H := let_hid H
  obtain ⟨t_3, ht_3, H⟩ := H
  cases t_3 with
  | false =>
    replace H := ite_f H
    obtain rfl := ret_hid H
    go_wp2_with fail
    go_ret
    exact ⟨rfl, HB.out⟩
  | true =>
    replace H := ite_t H
    obtain rfl := ret_hid H
    go_wp2_with fail
    go_ret
    exact ⟨rfl, HB.out⟩

set_option maxRecDepth 100000 in
set_option maxHeartbeats 2000000 in
theorem C0 (a : Int) (b : Int)   (w : World)   {r : Int} (H : Hid (P a b = some r)) :
    Calls Try.prog 63 #[.int .i64 a, .int .i64 b] w (fun e w'' => e = .returned (.int .i64 r) ∧ w'' = w) := by
  have HB := Lib.hid (Below.refl w.heap.size w)
  unfold P at H
  go_enter Try.func63, Try.ntmps63
  replace H := let_hid H
  obtain ⟨t_3, ht_3, H⟩ := H
  cases t_3 with
  | false =>
    replace H := ite_f H
    obtain rfl := ret_hid H
    go_wp2_with fail
    go_ret
    exact ⟨rfl, rfl⟩
  | true =>
    replace H := ite_t H
    obtain rfl := ret_hid H
    go_wp2_with fail
    go_ret
    exact ⟨rfl, rfl⟩
end Go.Proofs.Ytgimcnpkngpmiaa.GsL1Least

