/- Texts on which the proofs of several laws stand, one behind the other (14 of 14). No condition of their own. -/
import Derived.Test.YtgimcnpkngpmiaaDoorX12P13
import Derived.Test.YtgimcnpkngpmiaaDoorX12P7
import Derived.Test.YtgimcnpkngpmiaaDoorX12P10
import Derived.Test.YtgimcnpkngpmiaaDoorX12P2
import Derived.Test.YtgimcnpkngpmiaaDoorX12P9
import Derived.Test.YtgimcnpkngpmiaaDoorX12P8
import Derived.Test.YtgimcnpkngpmiaaDoorX12P3
import Derived.Test.YtgimcnpkngpmiaaDoorX12P11
import Derived.Test.YtgimcnpkngpmiaaDoorX12P12
/- Chapter 11: postmarks: the plain functions of the program and of the reference agree, and the laws answer true. (Q11Reading) No condition but those of each theorem. -/
namespace Go.Proofs.YtgimcnpkngpmiaaDoor.Q11Reading
set_option linter.unusedVariables false
set_option linter.unusedSimpArgs false
open Go.RowKit
open Go.Proofs.YtgimcnpkngpmiaaDoor.GoP Go.Proofs.YtgimcnpkngpmiaaDoor.PlainStamp Go.Proofs.YtgimcnpkngpmiaaDoor.QBase Go.Proofs.YtgimcnpkngpmiaaDoor.QWord Go.Proofs.YtgimcnpkngpmiaaDoor.QUp Go.Proofs.YtgimcnpkngpmiaaDoor.QByte Go.Proofs.YtgimcnpkngpmiaaDoor.QLoop

def signR (b : UInt8) : Bool := b == 63 || small b
def readB (s : ByteArray) : Bool := inB (s.size : Int) 1 10 && s.toList.all signR
theorem small_put (b : UInt8) : small (GxStringsReplaceAll.putB 63 97 b) = signR b := by
  unfold signR GxStringsReplaceAll.putB
  by_cases h : b = 63
  · subst h; rfl
  · rw [if_neg h]; simp [h]
theorem isReading_eq (s : ByteArray) (hz : s.size < 4294967281) : GiIsReading.P s = some (readB s) := by
  have e : GxStringsReplaceAll.P s ⟨#[63]⟩ ⟨#[97]⟩ = some (bs (s.toList.map (GxStringsReplaceAll.putB 63 97))) := by
    rw [Lib.toList_data]
    show (if (63 : UInt8) ≠ 97 ∧ s.size < 4294967281 then _ else _) = _
    rw [if_pos ⟨by decide, hz⟩]; rfl
  simp only [GiIsReading.P, e, Option.bind_some, isWord_eq, wordB, readB, bs_size, bs_list, List.length_map, toList_size, List.all_map]
  congr 2
  congr 1
  funext b
  exact small_put b
theorem l11Reading_eq (s : ByteArray) (hz : s.size ≤ 9223372036854775807) (fuel : Nat) (hfu : 100 ≤ fuel) : GsL11Reading.P fuel s = some (readB s) := by
  simp only [GsL11Reading.P]
  refine lp_is (n := min s.size 11) _ (fun k (i : Int) => i = (k : Int) ∧ (s.toList.take k).all signR = true) ?_ ?_ fuel 0 _ (by omega) (by omega) ⟨rfl, rfl⟩
  · rintro k i nx hk ⟨rfl, hall⟩ hn
    obtain ⟨y, hy, hi⟩ := at_lt (l := s.toList) (k := k) (by rw [toList_size]; omega)
    have hw := wrap_in (x := (k : Int) + 1) (by omega) (by omega)
    have n63 : ((y.toNat : Int) != 63) = !(y == 63) := by rw [← byte_eq y 63]; rfl
    simp only [GsL11Reading.l0, letK, joinK, appK, iteK_if, hi, hw, Option.bind_some, n63]
    rw [if_pos (by simp; omega), decide_eq_true (show (k : Int) ≤ 10 by omega), if_pos rfl]
    have hnn := hn ((k + 1 : Nat) : Int)
    rw [show ((k + 1 : Nat) : Int) = (k : Int) + 1 by omega] at hnn
    cases h63 : (y == 63) with
    | true =>
      simp only [Bool.not_true, Bool.false_eq_true, if_false]
      exact hnn ⟨by omega, by rw [all_next hy, hall]; simp [signR, h63]⟩
    | false =>
      simp only [Bool.not_false, if_true]
      by_cases h1 : (y.toNat : Int) < 97
      · have hb : signR y = false := by unfold signR small; rw [h63]; simp; omega
        have : readB s = false := by unfold readB; rw [not_all hy hb, Bool.and_false]
        simp [h1, this]
      · by_cases h2 : (122 : Int) < (y.toNat : Int)
        · have hb : signR y = false := by unfold signR small; rw [h63]; simp; omega
          have : readB s = false := by unfold readB; rw [not_all hy hb, Bool.and_false]
          simp [h1, h2, this]
        · have hb : signR y = true := by unfold signR small; rw [h63]; simp; omega
          simp [h1, h2]
          exact hnn ⟨by omega, by rw [all_next hy, hall, hb]; rfl⟩
  · rintro i nx ⟨rfl, hall⟩
    have hfin : GsL11Reading.e0 s (min s.size 11 : Nat) = some (readB s) := by
      simp only [GsL11Reading.e0, letK, l1In_eq, Option.bind_some, readB]
      by_cases h10 : s.size ≤ 10
      · rw [show min s.size 11 = s.size by omega, List.take_of_length_le (by rw [toList_size]; exact Nat.le_refl _)] at hall
        rw [hall, Bool.and_true]
      · have : inB (s.size : Int) 1 10 = false := by unfold inB; simp; omega
        rw [this, Bool.false_and]
    simp only [GsL11Reading.l0, letK, joinK, appK, iteK_if]
    by_cases hlt : ((min s.size 11 : Nat) : Int) < (s.size : Int)
    · rw [if_pos (by simpa using hlt), decide_eq_false (show ¬ ((min s.size 11 : Nat) : Int) ≤ 10 by omega), if_neg (by simp)]
      exact hfin
    · rw [if_neg (by simpa using hlt), if_neg (by simp)]
      exact hfin
end Go.Proofs.YtgimcnpkngpmiaaDoor.Q11Reading

/- Chapter 11: postmarks: the plain functions of the program and of the reference agree, and the laws answer true. (Q11Used) No condition but those of each theorem. -/
namespace Go.Proofs.YtgimcnpkngpmiaaDoor.Q11Used
set_option linter.unusedVariables false
set_option linter.unusedSimpArgs false
open Go.RowKit
open Go.Proofs.YtgimcnpkngpmiaaDoor.GoP Go.Proofs.YtgimcnpkngpmiaaDoor.PlainStamp Go.Proofs.YtgimcnpkngpmiaaDoor.QBase Go.Proofs.YtgimcnpkngpmiaaDoor.Q11Mark Go.Proofs.YtgimcnpkngpmiaaDoor.QLoop Go.Proofs.YtgimcnpkngpmiaaDoor.PPostmark

def usedB (day : Int) (x : Postmark) : Bool := inB day x.first x.last
theorem used_impl (x : Postmark) (day : Int) : GiWasUsedOn.P x day = some (usedB day x) := by
  obtain ⟨a, b, c, d, e, g⟩ := x
  simp only [GiWasUsedOn.P, unPostmark, within_eq, Option.bind_some, usedB]
theorem used_spec (x : Postmark) (day : Int) : GsL11Used.P (Postmark.mk x.id x.town x.kind_ x.first x.last x.lost) day = some (usedB day x) := by
  simp only [GsL11Used.P, unPostmark, l1In_eq, Option.bind_some, usedB]
end Go.Proofs.YtgimcnpkngpmiaaDoor.Q11Used

/- Chapter 11: postmarks: the plain functions of the program and of the reference agree, and the laws answer true. (Q11Reads) No condition but those of each theorem. -/
namespace Go.Proofs.YtgimcnpkngpmiaaDoor.Q11Reads
set_option linter.unusedVariables false
set_option linter.unusedSimpArgs false
open Go.RowKit
open Go.Proofs.YtgimcnpkngpmiaaDoor.GoP Go.Proofs.YtgimcnpkngpmiaaDoor.PlainStamp Go.Proofs.YtgimcnpkngpmiaaDoor.QBase Go.Proofs.YtgimcnpkngpmiaaDoor.QAll Go.Proofs.YtgimcnpkngpmiaaDoor.QByte Go.Proofs.YtgimcnpkngpmiaaDoor.QLoop

def readAt (x y : UInt8) : Bool := (x == y || x == 63) || y == 63
def readsB (a b : ByteArray) : Bool := decide (a.size = b.size) && allN a.size fun i => readAt (a.toList.getD i 0) (b.toList.getD i 0)
theorem reads_impl (a b : ByteArray) (hz : a.size ≤ 9223372036854775807) : GiReadsAs.P a b = some (readsB a b) := by
  simp only [GiReadsAs.P, letK, iteK_if, readsB]
  by_cases h : a.size = b.size
  · rw [if_neg (by simp; omega), guardK_pos hz, decide_eq_true h, Bool.true_and, all_cnt (p := fun i => readAt (a.toList.getD i 0) (b.toList.getD i 0)) (no := false)]
    · cases allN a.size fun i => readAt (a.toList.getD i 0) (b.toList.getD i 0) <;> simp [GiReadsAs.e0]
    · intro k nx hk
      obtain ⟨x, hx, hxi⟩ := at_lt (l := a.toList) (k := k) (by rw [toList_size]; omega)
      obtain ⟨y, hy, hyi⟩ := at_lt (l := b.toList) (k := k) (by rw [toList_size]; omega)
      have gx : a.toList.getD k 0 = x := by simp [List.getD, hx]
      have gy : b.toList.getD k 0 = y := by simp [List.getD, hy]
      have n1 : ((x.toNat : Int) != (y.toNat : Int)) = !(x == y) := by rw [← byte_eq x y]; rfl
      have n2 : ((x.toNat : Int) != 63) = !(x == 63) := by rw [← byte_eq x 63]; rfl
      have n3 : ((y.toNat : Int) != 63) = !(y == 63) := by rw [← byte_eq y 63]; rfl
      simp only [GiReadsAs.l0, hxi, hyi, gx, gy, Option.bind_some, letK, joinK, appK, iteK_if, n1, n2, n3, readAt]
      cases (x == y) <;> cases (x == 63) <;> cases (y == 63) <;> simp
  · rw [if_pos (by simp; omega), decide_eq_false h, Bool.false_and]
theorem reads_spec (a b : ByteArray) (hz : a.size ≤ 9223372036854775807) : GsL11Reads.P a b = some (readsB a b) := by
  simp only [GsL11Reads.P, letK, iteK_if, readsB]
  by_cases h : a.size = b.size
  · rw [if_neg (by simp; omega), guardK_pos hz, decide_eq_true h, Bool.true_and, all_cnt (p := fun i => readAt (a.toList.getD i 0) (b.toList.getD i 0)) (no := false)]
    · cases allN a.size fun i => readAt (a.toList.getD i 0) (b.toList.getD i 0) <;> simp [GsL11Reads.e0]
    · intro k nx hk
      obtain ⟨x, hx, hxi⟩ := at_lt (l := a.toList) (k := k) (by rw [toList_size]; omega)
      obtain ⟨y, hy, hyi⟩ := at_lt (l := b.toList) (k := k) (by rw [toList_size]; omega)
      have gx : a.toList.getD k 0 = x := by simp [List.getD, hx]
      have gy : b.toList.getD k 0 = y := by simp [List.getD, hy]
      have n1 : ((x.toNat : Int) != (y.toNat : Int)) = !(x == y) := by rw [← byte_eq x y]; rfl
      have n2 : ((x.toNat : Int) != 63) = !(x == 63) := by rw [← byte_eq x 63]; rfl
      have n3 : ((y.toNat : Int) != 63) = !(y == 63) := by rw [← byte_eq y 63]; rfl
      simp only [GsL11Reads.l0, hxi, hyi, gx, gy, Option.bind_some, letK, joinK, appK, iteK_if, n1, n2, n3, readAt]
      cases (x == y) <;> cases (x == 63) <;> cases (y == 63) <;> simp
  · rw [if_pos (by simp; omega), decide_eq_false h, Bool.false_and]
theorem reads_self (a : ByteArray) : readsB a a = true := by
  unfold readsB
  rw [decide_eq_true rfl, Bool.true_and, allN_iff]
  intro i _
  unfold readAt; simp
theorem reads_comm (a b : ByteArray) : readsB a b = readsB b a := by
  unfold readsB
  by_cases h : a.size = b.size
  · rw [decide_eq_true h, decide_eq_true h.symm, Bool.true_and, Bool.true_and, h]
    congr 1; funext i
    unfold readAt
    rw [show (a.toList.getD i 0 == b.toList.getD i 0) = (b.toList.getD i 0 == a.toList.getD i 0) from by rw [Bool.eq_iff_iff, beq_iff_eq, beq_iff_eq]; exact eq_comm]
    cases (b.toList.getD i 0 == a.toList.getD i 0) <;> cases (a.toList.getD i 0 == 63) <;> cases (b.toList.getD i 0 == 63) <;> rfl
  · rw [decide_eq_false h, decide_eq_false (fun e => h e.symm), Bool.false_and, Bool.false_and]
end Go.Proofs.YtgimcnpkngpmiaaDoor.Q11Reads

/- Chapter 11: postmarks: the plain functions of the program and of the reference agree, and the laws answer true. (Q11Read) No condition but those of each theorem. -/
namespace Go.Proofs.YtgimcnpkngpmiaaDoor.Q11Read
set_option linter.unusedVariables false
set_option linter.unusedSimpArgs false
open Go.RowKit
open Go.Proofs.YtgimcnpkngpmiaaDoor.GoP Go.Proofs.YtgimcnpkngpmiaaDoor.PlainStamp Go.Proofs.YtgimcnpkngpmiaaDoor.QBase Go.Proofs.YtgimcnpkngpmiaaDoor.QWord Go.Proofs.YtgimcnpkngpmiaaDoor.QGath Go.Proofs.YtgimcnpkngpmiaaDoor.Q11Reading Go.Proofs.YtgimcnpkngpmiaaDoor.Q11Used Go.Proofs.YtgimcnpkngpmiaaDoor.Q11Reads Go.Proofs.YtgimcnpkngpmiaaDoor.Q11Show Go.Proofs.YtgimcnpkngpmiaaDoor.Q11List Go.Proofs.YtgimcnpkngpmiaaDoor.Q11Mark Go.Proofs.YtgimcnpkngpmiaaDoor.QByte Go.Proofs.YtgimcnpkngpmiaaDoor.QUp Go.Proofs.YtgimcnpkngpmiaaDoor.QLoop Go.Proofs.YtgimcnpkngpmiaaDoor.PPostmark

def seenB (r : ByteArray) (day : Int) (x : Postmark) : Bool := usedB day x && readsB r (shown x)
def readRes (l : List Postmark) (r : ByteArray) (day : Int) : List Int × Bool := if (okPms l && (readB r && inB day 0 4000)) = true then ((l.filter (seenB r day)).map Postmark.id, true) else ([], false)
theorem read1_eq (x : Postmark) (hx : okPm x = true) (r : ByteArray) (hr : r.size ≤ 9223372036854775807) (day : Int) : GiReadMarks1.P x day r = some (seenB r day x) := by
  have hu := used_impl x day
  have hz := okPm_size hx
  have hs := shown_impl hz.1 (by omega)
  obtain ⟨a, b, c, d, e, g⟩ := x
  simp only [GiReadMarks1.P, unPostmark, hu, hs, reads_impl r _ hr, Option.bind_some, joinK, appK, iteK_if, seenB]
  cases usedB day ⟨a, b, c, d, e, g⟩ <;> simp
theorem read_impl (l : List Postmark) (hf : ∀ s ∈ l, s.fits) (r : ByteArray) (hr : r.size < 4294967281) (day : Int) : GiReadMarks.P l r day = some (readRes l r day) := by
  simp only [GiReadMarks.P, arePostmarks_eq l hf, isReading_eq r hr, isDay_eq, Option.bind_some, letK, joinK, appK, iteK_if, readRes]
  cases hc : okPms l with
  | false => simp
  | true =>
    cases hrd : readB r with
    | false => simp
    | true =>
      cases hd : inB day 0 4000 with
      | false => simp
      | true =>
        have h12 : l.length ≤ 12 := upL_len hc
        have hk : GiKeysWherePostmarkIntiIdOfPostmarkiReadMarks1.P l day r = some ((l.filter (seenB r day)).map Postmark.id) := by
          simp only [GiKeysWherePostmarkIntiIdOfPostmarkiReadMarks1.P]
          rw [gather (p := seenB r day) (g := Postmark.id) (by omega)]
          · rfl
          · intro k nx x s hx hs
            have hi : idx l (k : Int) = some x := by rw [idx_nat, hx]
            have h1 := read1_eq x (pms_mem hc (List.mem_of_getElem? hx)) r (by omega) day
            simp only [GiKeysWherePostmarkIntiIdOfPostmarkiReadMarks1.l0, letK, hi, Option.bind_some, unPostmark, GiIdOfPostmark.P, appK, iteK_if]
            rw [show GiReadMarks1.P (Postmark.mk x.id x.town x.kind_ x.first x.last x.lost) day r = some (seenB r day x) from h1]
            simp only [Option.bind_some]
            rw [guardK_pos hs]
            cases seenB r day x <;> rfl
        simp [hk]
theorem read_spec (fuel : Nat) (hfu : 100 ≤ fuel) (l : List Postmark) (hf : ∀ s ∈ l, s.fits) (hl : l.length ≤ 9223372036854775807) (r : ByteArray) (hr : r.size ≤ 9223372036854775807) (day : Int) : GsReadMarks.P fuel l r day = some (readRes l r day) := by
  simp only [GsReadMarks.P, l11Good_eq fuel hfu l hf hl, l11Reading_eq r hr fuel hfu, l2Day_eq, Option.bind_some, letK, joinK, appK, iteK_if, readRes]
  cases hc : okPms l with
  | false => simp
  | true =>
    cases hrd : readB r with
    | false => simp
    | true =>
      cases hd : inB day 0 4000 with
      | false => simp
      | true =>
        have h12 : l.length ≤ 12 := upL_len hc
        simp only [Bool.not_true, Bool.and_true, Bool.false_eq_true, if_false, if_true]
        rw [gather (p := seenB r day) (g := Postmark.id) (by omega)]
        · rfl
        · intro k nx x s hx hs
          have hi : idx l (k : Int) = some x := by rw [idx_nat, hx]
          have hz := okPm_size (pms_mem hc (List.mem_of_getElem? hx))
          have h1 := shown_spec hz.1 (by omega) fuel hfu
          simp only [GsReadMarks.l0, letK, joinK, hi, Option.bind_some, unPostmark, used_spec, appK, iteK_if]
          rw [show GsL11Shown.P fuel (Postmark.mk x.id x.town x.kind_ x.first x.last x.lost) = some (shown x) from h1]
          simp only [Option.bind_some, reads_spec r _ hr]
          rw [guardK_pos hs]
          unfold seenB
          cases usedB day x <;> cases readsB r (shown x) <;> simp
end Go.Proofs.YtgimcnpkngpmiaaDoor.Q11Read

/- Chapter 11: postmarks: the plain functions of the program and of the reference agree, and the laws answer true. (Q11Same) No condition but those of each theorem. -/
namespace Go.Proofs.YtgimcnpkngpmiaaDoor.Q11Same
set_option linter.unusedVariables false
set_option linter.unusedSimpArgs false
open Go.RowKit
open Go.Proofs.YtgimcnpkngpmiaaDoor.GoP Go.Proofs.YtgimcnpkngpmiaaDoor.PlainStamp Go.Proofs.YtgimcnpkngpmiaaDoor.QBase Go.Proofs.YtgimcnpkngpmiaaDoor.Q11Find Go.Proofs.YtgimcnpkngpmiaaDoor.Q11Reads Go.Proofs.YtgimcnpkngpmiaaDoor.Q11Show Go.Proofs.YtgimcnpkngpmiaaDoor.QCount Go.Proofs.YtgimcnpkngpmiaaDoor.QOrd Go.Proofs.YtgimcnpkngpmiaaDoor.Q11List Go.Proofs.YtgimcnpkngpmiaaDoor.Q11Mark Go.Proofs.YtgimcnpkngpmiaaDoor.QUp Go.Proofs.YtgimcnpkngpmiaaDoor.QLoop Go.Proofs.YtgimcnpkngpmiaaDoor.PPostmark

def sameRes (l : List Postmark) (a b : Int) : Bool × Bool := if okPms l = true then (match fnd l a, fnd l b with | some (_, x), some (_, y) => (readsB (shown x) (shown y), true) | _, _ => (false, false)) else (false, false)
theorem same_impl (l : List Postmark) (hf : ∀ s ∈ l, s.fits) (a b : Int) : GiSameTown.P l a b = some (sameRes l a b) := by
  simp only [GiSameTown.P, indexOf_eq l hf, Option.bind_some, letK, joinK, appK, iteK_if, sameRes]
  cases hc : okPms l with
  | false => simp
  | true =>
    simp only [if_true]
    cases ha : fnd l a with
    | none => simp [(fnd_none ha).1]
    | some p =>
      obtain ⟨i, x⟩ := p
      obtain ⟨e1, hx, _, _⟩ := fnd_some ha
      have hnx : ¬ ((i : Int) < 0) := by omega
      cases hb : fnd l b with
      | none => simp [(fnd_none hb).1]
      | some q =>
        obtain ⟨k, y⟩ := q
        obtain ⟨e2, hy, _, _⟩ := fnd_some hb
        have hny : ¬ ((k : Int) < 0) := by omega
        have hzx := okPm_size (pms_mem hc (List.mem_of_getElem? hx))
        have hzy := okPm_size (pms_mem hc (List.mem_of_getElem? hy))
        have s1 := shown_impl hzx.1 (by omega)
        have s2 := shown_impl hzy.1 (by omega)
        have hr := reads_impl (shown x) (shown y) (by rw [shown_size hzx.1]; omega)
        simp [e1, e2, hnx, hny, idx_nat, hx, hy, unPostmark, s1, s2, hr]
theorem same_spec (fuel : Nat) (hfu : 100 ≤ fuel) (l : List Postmark) (hf : ∀ s ∈ l, s.fits) (hl : l.length ≤ 9223372036854775807) (a b : Int) : GsSameTown.P fuel l a b = some (sameRes l a b) := by
  simp only [GsSameTown.P, l11Good_eq fuel hfu l hf hl, l11Find_eq, Option.bind_some, letK, joinK, appK, iteK_if, sameRes]
  cases hc : okPms l with
  | false => simp
  | true =>
    cases ha : fnd l a with
    | none => simp [(fnd_none ha).1]
    | some p =>
      obtain ⟨i, x⟩ := p
      obtain ⟨e1, hx, _, _⟩ := fnd_some ha
      have hnx : ¬ ((i : Int) < 0) := by omega
      cases hb : fnd l b with
      | none => simp [(fnd_none hb).1]
      | some q =>
        obtain ⟨k, y⟩ := q
        obtain ⟨e2, hy, _, _⟩ := fnd_some hb
        have hny : ¬ ((k : Int) < 0) := by omega
        have hzx := okPm_size (pms_mem hc (List.mem_of_getElem? hx))
        have hzy := okPm_size (pms_mem hc (List.mem_of_getElem? hy))
        have s1 := shown_spec hzx.1 (by omega) fuel hfu
        have s2 := shown_spec hzy.1 (by omega) fuel hfu
        have hr := reads_spec (shown x) (shown y) (by rw [shown_size hzx.1]; omega)
        simp [e1, e2, hnx, hny, idx_nat, hx, hy, unPostmark, s1, s2, hr]
end Go.Proofs.YtgimcnpkngpmiaaDoor.Q11Same

/- Chapter 11: postmarks: the plain functions of the program and of the reference agree, and the laws answer true. (Q11Marks) No condition but those of each theorem. -/
namespace Go.Proofs.YtgimcnpkngpmiaaDoor.Q11Marks
set_option linter.unusedVariables false
set_option linter.unusedSimpArgs false
open Go.RowKit
open Go.Proofs.YtgimcnpkngpmiaaDoor.GoP Go.Proofs.YtgimcnpkngpmiaaDoor.PlainStamp Go.Proofs.YtgimcnpkngpmiaaDoor.QBase Go.Proofs.YtgimcnpkngpmiaaDoor.QWord Go.Proofs.YtgimcnpkngpmiaaDoor.Q11Help Go.Proofs.YtgimcnpkngpmiaaDoor.Q11Find Go.Proofs.YtgimcnpkngpmiaaDoor.QCount Go.Proofs.YtgimcnpkngpmiaaDoor.QOrd Go.Proofs.YtgimcnpkngpmiaaDoor.Q11List Go.Proofs.YtgimcnpkngpmiaaDoor.Q11Mark Go.Proofs.YtgimcnpkngpmiaaDoor.QUp Go.Proofs.YtgimcnpkngpmiaaDoor.QAll Go.Proofs.YtgimcnpkngpmiaaDoor.QLoop Go.Proofs.YtgimcnpkngpmiaaDoor.PPostmark

def ofT (town : ByteArray) (x : Postmark) : Bool := decide (x.town = town)
theorem not1_eq (x : Postmark) (town : ByteArray) : GiMarksOf1.P x town = some (!ofT town x) := by
  obtain ⟨a, b, c, d, e, g⟩ := x
  simp only [GiMarksOf1.P, unPostmark, letK, eq_list, ofT]
theorem filter_eq {l : List Postmark} (h12 : l.length ≤ 12) (town : ByteArray) (fuel : Nat) (hfu : 100 ≤ fuel) :
    GxSlicesDeleteFuncLoopExampleG01062ImplPostmarkLoopExampleG01062ImplPostmarkiMarksOf1.P fuel l town = some (l.filter (ofT town)) := by
  simp only [GxSlicesDeleteFuncLoopExampleG01062ImplPostmarkLoopExampleG01062ImplPostmarkiMarksOf1.P, GxSlicesIndexFuncLoopExampleG01062ImplPostmarkLoopExampleG01062ImplPostmarkiMarksOf1.P]
  rw [find_loop (p := fun x => !ofT town x) (yes := fun i => some (i : Int))]
  · cases hq : l.findIdx? fun x => !ofT town x with
    | none =>
      rw [List.findIdx?_eq_none_iff] at hq
      have hall : l.filter (ofT town) = l := List.filter_eq_self.2 (fun x hx => by have := hq x hx; simpa using this)
      simp [GxSlicesIndexFuncLoopExampleG01062ImplPostmarkLoopExampleG01062ImplPostmarkiMarksOf1.e0, letK, iteK_if, hall]
    | some q =>
      rw [List.findIdx?_eq_some_iff_getElem] at hq
      obtain ⟨hql, hqp, hqb⟩ := hq
      simp only [Option.bind_some, letK, iteK_if]
      rw [if_neg (by simp), wrap_in (by omega) (by omega)]
      refine lp_is (n := l.length) _ (fun k (s : List Postmark × Int × Int) => s.2.2 = (k : Int) ∧ s.1.length = l.length ∧ q < k ∧ s.2.1 = (((l.take k).filter (ofT town)).length : Int) ∧ ((l.take k).filter (ofT town)).length < k ∧ s.1.take ((l.take k).filter (ofT town)).length = (l.take k).filter (ofT town) ∧ ∀ j : Nat, k ≤ j → s.1[j]? = l[j]?) ?_ ?_ fuel (q + 1) _ (by omega) (by omega) ?_
      · rintro k ⟨s, i, j⟩ nx hk ⟨h1, h2, h3, h4, h5, h6, h7⟩ hn
        dsimp only at h1 h2 h4 h6 h7
        subst h1
        obtain ⟨x, hx, _⟩ := at_lt (l := l) (k := k) hk
        have hsx : s[k]? = some x := by rw [h7 k (Nat.le_refl _), hx]
        have hnt := not1_eq x town
        simp only [GxSlicesDeleteFuncLoopExampleG01062ImplPostmarkLoopExampleG01062ImplPostmarkiMarksOf1.l0, unp3, letK, iteK_if]
        rw [if_pos (by simp; omega)]
        simp only [idx_nat, hsx, Option.bind_some, unPostmark]
        rw [show GiMarksOf1.P (Postmark.mk x.id x.town x.kind_ x.first x.last x.lost) town = some (!ofT town x) from hnt]
        simp only [Option.bind_some, Bool.not_not, appK]
        cases ht : ofT town x with
        | true =>
          obtain ⟨y, hy, hyi⟩ := at_lt (l := s) (k := ((l.take k).filter (ofT town)).length) (by omega)
          rw [if_pos rfl, h4, hyi]
          simp only [Option.bind_some]
          rw [wrap_in (by omega) (by omega), wrap_in (by omega) (by omega)]
          have hf1 : (l.take (k + 1)).filter (ofT town) = (l.take k).filter (ofT town) ++ [x] := by rw [take_next hx, List.filter_append]; simp [List.filter, ht]
          refine hn _ ⟨by dsimp only; omega, by dsimp only; rw [List.length_set]; exact h2, by omega, by dsimp only; rw [hf1, List.length_append, List.length_singleton]; omega, by rw [hf1, List.length_append, List.length_singleton]; omega, ?_, ?_⟩
          · dsimp only
            rw [hf1, List.length_append, List.length_singleton, Int.toNat_natCast]
            rw [take_next (x := x) (by rw [List.getElem?_set_self (by omega)]), List.take_set_of_le (Nat.le_refl _), h6]
          · intro j hj
            dsimp only
            rw [Int.toNat_natCast, List.getElem?_set_ne (by omega)]
            exact h7 j (by omega)
        | false =>
          rw [if_neg (by simp), wrap_in (by omega) (by omega)]
          have hf1 : (l.take (k + 1)).filter (ofT town) = (l.take k).filter (ofT town) := by rw [take_next hx, List.filter_append]; simp [List.filter, ht]
          refine hn _ ⟨by dsimp only; omega, h2, by omega, by rw [hf1]; exact h4, by rw [hf1]; omega, by rw [hf1]; exact h6, fun j hj => h7 j (by omega)⟩
      · rintro ⟨s, i, j⟩ nx ⟨h1, h2, h3, h4, h5, h6, h7⟩
        dsimp only at h1 h2 h4 h6 h7
        rw [List.take_of_length_le (Nat.le_refl _)] at h4 h5 h6
        simp only [GxSlicesDeleteFuncLoopExampleG01062ImplPostmarkLoopExampleG01062ImplPostmarkiMarksOf1.l0, unp3, letK, iteK_if, h1, h2, appK, GxSlicesDeleteFuncLoopExampleG01062ImplPostmarkLoopExampleG01062ImplPostmarkiMarksOf1.e0, h4]
        rw [if_neg (by simp), guardK_pos (by omega), guardK_pos (by rw [List.length_append, List.length_take, List.length_replicate]; omega), Int.toNat_natCast]
        rw [List.take_append_of_le_length (by rw [List.length_take]; omega), List.take_take, Nat.min_self, h6]
      · refine ⟨by dsimp only; omega, rfl, by omega, ?_, ?_, ?_, fun j hj => rfl⟩
        all_goals
          have hpre : (l.take q).filter (ofT town) = l.take q := List.filter_eq_self.2 (fun x hx => by
            obtain ⟨i, hi⟩ := List.getElem?_of_mem hx
            obtain ⟨hi1, hi2⟩ := List.getElem?_eq_some_iff.1 hi
            rw [List.length_take] at hi1
            rw [List.getElem_take] at hi2
            have := hqb i (by omega)
            rw [hi2] at this
            simpa using this)
          have hat : l[q]? = some l[q] := List.getElem?_eq_getElem hql
          have hpre2 : (l.take (q + 1)).filter (ofT town) = l.take q := by
            rw [take_next hat, List.filter_append, hpre]
            have : ofT town l[q] = false := by simpa using hqp
            simp [List.filter, this]
        · dsimp only; rw [hpre2, List.length_take]; omega
        · rw [hpre2, List.length_take]; omega
        · dsimp only; rw [hpre2, List.length_take, Nat.min_eq_left (by omega)]
  · intro k nx x hx
    have hi : idx l (k : Int) = some x := by rw [idx_nat, hx]
    have hnt := not1_eq x town
    simp only [GxSlicesIndexFuncLoopExampleG01062ImplPostmarkLoopExampleG01062ImplPostmarkiMarksOf1.l0, hi, Option.bind_some, unPostmark]
    rw [show GiMarksOf1.P (Postmark.mk x.id x.town x.kind_ x.first x.last x.lost) town = some (!ofT town x) from hnt]
    simp only [Option.bind_some, appK, iteK_if]
def ofTown (l : List Postmark) (town : ByteArray) : List Postmark := if okPms l = true then l.filter (ofT town) else []
theorem ofTown_len (l : List Postmark) (town : ByteArray) : (ofTown l town).length ≤ 12 := by
  unfold ofTown
  split
  · rename_i hc
    have h12 : l.length ≤ 12 := upL_len hc
    have := List.length_filter_le (ofT town) l
    omega
  · simp
theorem ofTown_mem {l : List Postmark} {town : ByteArray} {x : Postmark} (h : x ∈ ofTown l town) : okPms l = true ∧ okPm x = true ∧ x ∈ l ∧ x.town = town := by
  unfold ofTown at h
  split at h
  · rename_i hc
    rw [List.mem_filter] at h
    refine ⟨hc, pms_mem hc h.1, h.1, ?_⟩
    have := h.2
    unfold ofT at this; simpa using this
  · simp at h
/-- of a town that is no word there is none -/
theorem ofTown_word {l : List Postmark} {town : ByteArray} (h : wordB town = false) : ofTown l town = [] := by
  rw [List.eq_nil_iff_forall_not_mem]
  intro x hx
  obtain ⟨_, h2, _, rfl⟩ := ofTown_mem hx
  have := (okPm_of h2).2.1
  rw [h] at this; exact absurd this (by simp)
theorem marksOf_eq (l : List Postmark) (hf : ∀ s ∈ l, s.fits) (town : ByteArray) (fuel : Nat) (hfu : 100 ≤ fuel) : GiMarksOf.P fuel l town = some (ofTown l town) := by
  simp only [GiMarksOf.P, arePostmarks_eq l hf, Option.bind_some, letK, iteK_if, ofTown]
  cases hc : okPms l with
  | false => simp
  | true =>
    have h12 : l.length ≤ 12 := upL_len hc
    simp [clone_eq (show l.length ≤ 1000000 by omega), filter_eq h12 town fuel hfu]
end Go.Proofs.YtgimcnpkngpmiaaDoor.Q11Marks

/- Chapter 11: postmarks: the plain functions of the program and of the reference agree, and the laws answer true. (Q11Latest) No condition but those of each theorem. -/
namespace Go.Proofs.YtgimcnpkngpmiaaDoor.Q11Latest
set_option linter.unusedVariables false
set_option linter.unusedSimpArgs false
open Go.RowKit
open Go.Proofs.YtgimcnpkngpmiaaDoor.GoP Go.Proofs.YtgimcnpkngpmiaaDoor.PlainStamp Go.Proofs.YtgimcnpkngpmiaaDoor.QBase Go.Proofs.YtgimcnpkngpmiaaDoor.QWord Go.Proofs.YtgimcnpkngpmiaaDoor.Q11Marks Go.Proofs.YtgimcnpkngpmiaaDoor.Q11Help Go.Proofs.YtgimcnpkngpmiaaDoor.Q11Find Go.Proofs.YtgimcnpkngpmiaaDoor.QCount Go.Proofs.YtgimcnpkngpmiaaDoor.QOrd Go.Proofs.YtgimcnpkngpmiaaDoor.Q11List Go.Proofs.YtgimcnpkngpmiaaDoor.Q11Mark Go.Proofs.YtgimcnpkngpmiaaDoor.QUp Go.Proofs.YtgimcnpkngpmiaaDoor.QAll Go.Proofs.YtgimcnpkngpmiaaDoor.QLoop Go.Proofs.YtgimcnpkngpmiaaDoor.PPostmark

def latStep (m x : Postmark) : Postmark := if m.last < x.last then x else m
def latOf (f : List Postmark) : Option Postmark := match f with | [] => none | a :: r => some (r.foldl latStep a)
theorem latOf_snoc (f : List Postmark) (x : Postmark) : latOf (f ++ [x]) = some (match latOf f with | none => x | some m => latStep m x) := by
  cases f with
  | nil => rfl
  | cons a r => simp [latOf]
theorem latOf_none {f : List Postmark} : latOf f = none ↔ f = [] := by cases f <;> simp [latOf]
theorem latOf_mem : ∀ {f : List Postmark} {m : Postmark}, latOf f = some m → m ∈ f ∧ ∀ x ∈ f, x.last ≤ m.last := by
  intro f m h
  cases f with
  | nil => simp [latOf] at h
  | cons a r =>
    simp only [latOf, Option.some.injEq] at h
    subst h
    have key : ∀ (r : List Postmark) (b : Postmark), (r.foldl latStep b = b ∨ r.foldl latStep b ∈ r) ∧ b.last ≤ (r.foldl latStep b).last ∧ ∀ x ∈ r, x.last ≤ (r.foldl latStep b).last := by
      intro r
      induction r with
      | nil => intro b; simp
      | cons c r ih =>
        intro b
        obtain ⟨h1, h2, h3⟩ := ih (latStep b c)
        have h4 : b.last ≤ (latStep b c).last ∧ c.last ≤ (latStep b c).last ∧ (latStep b c = b ∨ latStep b c = c) := by
          unfold latStep; split <;> simp <;> omega
        rw [List.foldl_cons]
        refine ⟨?_, by omega, ?_⟩
        · rcases h1 with h1 | h1
          · rcases h4.2.2 with h5 | h5
            · rw [h1]; exact Or.inl h5
            · rw [h1, h5]; exact Or.inr List.mem_cons_self
          · exact Or.inr (List.mem_cons_of_mem _ h1)
        · intro x hx
          rcases List.mem_cons.1 hx with rfl | hx
          · omega
          · exact h3 x hx
    obtain ⟨h1, h2, h3⟩ := key r a
    refine ⟨?_, fun x hx => ?_⟩
    · rcases h1 with h1 | h1
      · rw [h1]; exact List.mem_cons_self
      · exact List.mem_cons_of_mem _ h1
    · rcases List.mem_cons.1 hx with rfl | hx
      · exact h2
      · exact h3 x hx
theorem compare_eq (x y : Int) : GxCmpCompareInt.P x y = some (if x < y then -1 else if y < x then 1 else 0) := by
  simp only [GxCmpCompareInt.P, GxCmpIsNaNInt.P, Option.bind_some, letK, iteK_if]
  by_cases h1 : x < y
  · simp [h1]
  · by_cases h2 : y < x <;> simp [h1, h2]
theorem max_eq {l : List Postmark} (h12 : l.length ≤ 12) (fuel : Nat) (hfu : 100 ≤ fuel) {m0 : Postmark} (hb : latOf l = some m0) :
    GxSlicesMaxFuncLoopExampleG01062ImplPostmarkLoopExampleG01062ImplPostmarkiLatestUse1.P fuel l = some m0 := by
  have hpos : 0 < l.length := by
    cases l with
    | nil => simp [latOf] at hb
    | cons a r => simp
  obtain ⟨a, ha, hai⟩ := at_lt (l := l) (k := 0) hpos
  have hai' : idx l 0 = some a := hai
  simp only [GxSlicesMaxFuncLoopExampleG01062ImplPostmarkLoopExampleG01062ImplPostmarkiLatestUse1.P, letK, iteK_if]
  rw [if_neg (by simp; omega)]
  simp only [GxSlicesMaxFuncLoopExampleG01062ImplPostmarkLoopExampleG01062ImplPostmarkiLatestUse1.j0, hai', Option.bind_some, unPostmark]
  refine lp_is (n := l.length) _ (fun k (s : Int × Int × ByteArray × Int × Int × Int × ByteArray) => ∃ m : Postmark, s = ((k : Int), m.id, m.town, m.kind_, m.first, m.last, m.lost) ∧ latOf (l.take k) = some m) ?_ ?_ fuel 1 _ (by omega) (by omega) ?_
  · rintro k s nx hk ⟨m, rfl, hm⟩ hn
    obtain ⟨x, hx, hxi⟩ := at_lt (l := l) (k := k) hk
    have hw := wrap_in (x := (k : Int) + 1) (by omega) (by omega)
    have hs := latOf_snoc (l.take k) x
    rw [hm, ← take_next hx] at hs
    simp only [GxSlicesMaxFuncLoopExampleG01062ImplPostmarkLoopExampleG01062ImplPostmarkiLatestUse1.l0, unp7, letK, iteK_if, hxi, Option.bind_some, unPostmark, GiLatestUse1.P, compare_eq, hw, appK]
    rw [if_pos (by simp; omega)]
    by_cases h : m.last < x.last
    · have h2 : ¬ x.last < m.last := by omega
      rw [if_neg h2, if_pos h, if_pos (by simp)]
      exact hn _ ⟨x, rfl, by rw [hs]; simp [latStep, h]⟩
    · rw [if_neg (by by_cases h3 : x.last < m.last <;> simp [h, h3])]
      exact hn _ ⟨m, rfl, by rw [hs]; simp [latStep, h]⟩
  · rintro s nx ⟨m, rfl, hm⟩
    rw [List.take_of_length_le (Nat.le_refl _), hb] at hm
    obtain rfl := Option.some.inj hm
    simp only [GxSlicesMaxFuncLoopExampleG01062ImplPostmarkLoopExampleG01062ImplPostmarkiLatestUse1.l0, unp7, letK, iteK_if, appK, GxSlicesMaxFuncLoopExampleG01062ImplPostmarkLoopExampleG01062ImplPostmarkiLatestUse1.e0]
    rw [if_neg (by simp)]
  · refine ⟨a, rfl, ?_⟩
    rw [take_next (k := 0) ha]; rfl
def latRes (l : List Postmark) (town : ByteArray) : Int × Int × Bool := match latOf (ofTown l town) with | none => (0, 0, false) | some m => (m.id, m.last, true)
theorem latest_impl (l : List Postmark) (hf : ∀ s ∈ l, s.fits) (town : ByteArray) (fuel : Nat) (hfu : 100 ≤ fuel) : GiLatestUse.P fuel l town = some (latRes l town) := by
  have hlen := ofTown_len l town
  simp only [GiLatestUse.P, marksOf_eq l hf town fuel hfu, Option.bind_some, letK, iteK_if, latRes]
  cases hb : latOf (ofTown l town) with
  | none => rw [latOf_none.1 hb]; simp
  | some m =>
    have hpos : ¬ ((ofTown l town).length : Int) = 0 := by
      intro h0
      have : ofTown l town = [] := List.eq_nil_of_length_eq_zero (by omega)
      rw [this] at hb; simp [latOf] at hb
    rw [if_neg (by simpa using hpos), max_eq hlen fuel hfu hb]
    rfl
theorem latest_spec (fuel : Nat) (hfu : 100 ≤ fuel) (l : List Postmark) (hf : ∀ s ∈ l, s.fits) (hl : l.length ≤ 9223372036854775807) (town : ByteArray) (hz : town.size ≤ 9223372036854775807) : GsLatestUse.P fuel l town = some (latRes l town) := by
  simp only [GsLatestUse.P, l11Good_eq fuel hfu l hf hl, l2Word_eq town hz, Option.bind_some, letK, joinK, appK, iteK_if]
  cases hc : okPms l with
  | false => simp [latRes, ofTown, hc, latOf]
  | true =>
    cases hw : wordB town with
    | false => simp [latRes, ofTown_word hw, latOf]
    | true =>
      simp only [Bool.not_true, Bool.false_eq_true, if_false, latRes, ofTown, hc, if_true]
      refine cnt_is _ (fun k s => (latOf ((l.take k).filter (ofT town)) = none ∧ s = (0, -1)) ∨ ∃ m : Postmark, s = (m.id, m.last) ∧ okPm m = true ∧ latOf ((l.take k).filter (ofT town)) = some m) ?_ ?_ (0, -1) (Or.inl ⟨rfl, rfl⟩)
      · rintro k ⟨b0, m0⟩ nx hk hI hn
        obtain ⟨x, hx, hxi⟩ := at_lt (l := l) (k := k) hk
        have hox := pms_mem hc (List.mem_of_getElem? hx)
        have hxl := okPm_of hox
        simp only [GsLatestUse.l0, unp2, letK, joinK, appK, iteK_if, hxi, Option.bind_some, unPostmark, eq_list]
        have ho : decide (x.town = town) = ofT town x := rfl
        rw [ho]
        cases ht : ofT town x with
        | false =>
          have hf1 : (l.take (k + 1)).filter (ofT town) = (l.take k).filter (ofT town) := by rw [take_next hx, List.filter_append]; simp [List.filter, ht]
          simp only [Bool.false_eq_true, if_false]
          exact hn _ (by rw [hf1]; exact hI)
        | true =>
          have hf1 : (l.take (k + 1)).filter (ofT town) = (l.take k).filter (ofT town) ++ [x] := by rw [take_next hx, List.filter_append]; simp [List.filter, ht]
          have hs := latOf_snoc ((l.take k).filter (ofT town)) x
          rw [← hf1] at hs
          simp only [if_true]
          rcases hI with ⟨h1, h2⟩ | ⟨m, h1, hom, h3⟩
          · simp only [Prod.mk.injEq] at h2
            obtain ⟨rfl, rfl⟩ := h2
            rw [if_pos (by simp; omega)]
            exact hn _ (Or.inr ⟨x, rfl, hox, by rw [hs, h1]⟩)
          · simp only [Prod.mk.injEq] at h1
            obtain ⟨rfl, rfl⟩ := h1
            rw [h3] at hs
            by_cases h5 : m.last < x.last
            · rw [if_pos (by simpa using h5)]
              exact hn _ (Or.inr ⟨x, rfl, hox, by rw [hs]; simp [latStep, h5]⟩)
            · rw [if_neg (by simpa using h5)]
              exact hn _ (Or.inr ⟨m, rfl, hom, by rw [hs]; simp [latStep, h5]⟩)
      · rintro ⟨b0, m0⟩ hI
        rw [List.take_of_length_le (Nat.le_refl _)] at hI
        simp only [GsLatestUse.e0, unp2, letK, iteK_if]
        rcases hI with ⟨h1, h2⟩ | ⟨m, h1, hom, h3⟩
        · simp only [Prod.mk.injEq] at h2
          obtain ⟨rfl, rfl⟩ := h2
          rw [h1]; rfl
        · simp only [Prod.mk.injEq] at h1
          obtain ⟨rfl, rfl⟩ := h1
          have := (okPm_of hom).1
          have hne : ¬ m.id = 0 := by omega
          rw [h3, if_neg (by simpa using hne)]
end Go.Proofs.YtgimcnpkngpmiaaDoor.Q11Latest

/- The named law of postmarks: what is shown reads as itself, a lost letter is still read, and no use is later than the latest one. (Q11Facts) No condition but those of each theorem. -/
namespace Go.Proofs.YtgimcnpkngpmiaaDoor.Q11Facts
set_option linter.unusedVariables false
set_option linter.unusedSimpArgs false
open Go.RowKit
open Go.Proofs.YtgimcnpkngpmiaaDoor.GoP Go.Proofs.YtgimcnpkngpmiaaDoor.PlainStamp Go.Proofs.YtgimcnpkngpmiaaDoor.QBase Go.Proofs.YtgimcnpkngpmiaaDoor.Q11Set Go.Proofs.YtgimcnpkngpmiaaDoor.Q11Lose Go.Proofs.YtgimcnpkngpmiaaDoor.Q11Read Go.Proofs.YtgimcnpkngpmiaaDoor.Q11Reading Go.Proofs.YtgimcnpkngpmiaaDoor.Q11Used Go.Proofs.YtgimcnpkngpmiaaDoor.Q11Reads Go.Proofs.YtgimcnpkngpmiaaDoor.Q11Same Go.Proofs.YtgimcnpkngpmiaaDoor.Q11Latest Go.Proofs.YtgimcnpkngpmiaaDoor.Q11Marks Go.Proofs.YtgimcnpkngpmiaaDoor.Q11Help Go.Proofs.YtgimcnpkngpmiaaDoor.Q11Show Go.Proofs.YtgimcnpkngpmiaaDoor.Q11Find Go.Proofs.YtgimcnpkngpmiaaDoor.QWord Go.Proofs.YtgimcnpkngpmiaaDoor.QByte Go.Proofs.YtgimcnpkngpmiaaDoor.QCount Go.Proofs.YtgimcnpkngpmiaaDoor.QOrd Go.Proofs.YtgimcnpkngpmiaaDoor.Q11List Go.Proofs.YtgimcnpkngpmiaaDoor.Q11Mark Go.Proofs.YtgimcnpkngpmiaaDoor.QAll Go.Proofs.YtgimcnpkngpmiaaDoor.QUp Go.Proofs.YtgimcnpkngpmiaaDoor.QLoop Go.Proofs.YtgimcnpkngpmiaaDoor.PPostmark

theorem shown_read {x : Postmark} (hx : okPm x = true) : readB (shown x) = true := by
  obtain ⟨_, hw, _, _, _, _, hl⟩ := okPm_of hx
  have hz := okPm_size hx
  unfold readB
  rw [shown_size hz.1, Bool.and_eq_true]
  refine ⟨by unfold inB; simp; omega, ?_⟩
  unfold shown
  rw [bs_list, List.all_eq_true]
  intro b hb
  obtain ⟨i, hi⟩ := List.getElem?_of_mem hb
  have hlt := (List.getElem?_eq_some_iff.1 hi).1
  rw [shL_len hz.1] at hlt
  obtain ⟨t, ht, _⟩ := at_lt (l := x.town.toList) (k := i) (by rw [toList_size]; exact hlt)
  obtain ⟨c, hc, _⟩ := at_lt (l := x.lost.toList) (k := i) (by rw [toList_size]; omega)
  rw [shL_at ht hc] at hi
  obtain rfl := Option.some.inj hi
  unfold sh signR
  by_cases h : c = 120
  · rw [if_pos h]; rfl
  · rw [if_neg h]
    unfold wordB at hw
    rw [Bool.and_eq_true, List.all_eq_true] at hw
    rw [hw.2 t (List.mem_of_getElem? ht), Bool.or_true]
/-- a postmark that has lost a letter is still read -/
theorem lost_read {x : Postmark} (hx : okPm x = true) {q : Nat} : readsB (shown x) (shown (lostAt x q)) = true := by
  have hz := okPm_size hx
  have hz2 : (lostAt x q).lost.size = (lostAt x q).town.size := by rw [lostAt_size]; exact hz.1
  have e1 := shown_size hz.1
  have e2 := shown_size hz2
  have e3 : (lostAt x q).town = x.town := rfl
  unfold readsB
  rw [decide_eq_true (by rw [e1, e2, e3]), Bool.true_and, allN_iff]
  intro i hi
  rw [e1] at hi
  obtain ⟨t, ht, _⟩ := at_lt (l := x.town.toList) (k := i) (by rw [toList_size]; exact hi)
  obtain ⟨c, hc, _⟩ := at_lt (l := x.lost.toList) (k := i) (by rw [toList_size]; omega)
  have g1 : (shown x).toList.getD i 0 = sh t c := by
    unfold shown; rw [bs_list, List.getD_eq_getElem?_getD, shL_at ht hc]; rfl
  have hlo : (lostAt x q).lost.toList = x.lost.toList.set q 120 := by unfold lostAt; dsimp only; rw [bs_list]
  by_cases hq : i = q
  · subst hq
    have hc2 : (lostAt x i).lost.toList[i]? = some 120 := by rw [hlo, List.getElem?_set_self (by rw [toList_size]; omega)]
    have g2 : (shown (lostAt x i)).toList.getD i 0 = sh t 120 := by
      unfold shown; rw [bs_list, List.getD_eq_getElem?_getD, shL_at (p := lostAt x i) (t := t) (b := 120) ht hc2]; rfl
    rw [g1, g2]
    unfold readAt
    have : sh t 120 = 63 := by unfold sh; rw [if_pos rfl]
    rw [this]; simp
  · have hc2 : (lostAt x q).lost.toList[i]? = some c := by rw [hlo, List.getElem?_set_ne (fun e => hq e.symm), hc]
    have g2 : (shown (lostAt x q)).toList.getD i 0 = sh t c := by
      unfold shown; rw [bs_list, List.getD_eq_getElem?_getD, shL_at (p := lostAt x q) (t := t) (b := c) ht hc2]; rfl
    rw [g1, g2]
    unfold readAt; simp
theorem lose_facts {l out : List Postmark} {id place : Int} (h : loseRes l id place = (out, true)) : okPms l = true ∧ okPms out = true ∧ ∀ (k : Nat) (x : Postmark), l[k]? = some x → ∃ ids, readRes out (shown x) x.first = (ids, true) ∧ x.id ∈ ids := by
  unfold loseRes at h
  by_cases hc : okPms l = true
  · rw [if_pos hc] at h
    cases ha : fnd l id with
    | none => rw [ha] at h; simp at h
    | some p =>
      obtain ⟨i, y⟩ := p
      obtain ⟨_, hy, _, hil⟩ := fnd_some ha
      rw [ha] at h
      dsimp only at h
      by_cases hcond : (inB place 0 ((y.lost.size : Int) - 1) && !(y.lost.toList.getD place.toNat 0 == 120) && okPm (lostAt y place.toNat)) = true
      · rw [if_pos hcond] at h
        simp only [Prod.mk.injEq, and_true] at h
        subst h
        have hok : okPm (lostAt y place.toNat) = true := by simp only [Bool.and_eq_true] at hcond; exact hcond.2
        have hco : okPms (l.set i (lostAt y place.toNat)) = true := by rw [upL_set (y := lostAt y place.toNat) hc hy rfl]; exact hok
        refine ⟨hc, hco, fun k x hx => ?_⟩
        have hox := pms_mem hc (List.mem_of_getElem? hx)
        obtain ⟨_, _, _, hfi, hla, hle, _⟩ := okPm_of hox
        refine ⟨_, by unfold readRes; rw [hco, shown_read hox, show inB x.first 0 4000 = true by unfold inB; simp; omega]; rfl, ?_⟩
        rw [List.mem_map]
        by_cases hki : i = k
        · subst hki
          rw [hy] at hx; obtain rfl := Option.some.inj hx
          refine ⟨lostAt y place.toNat, List.mem_filter.2 ⟨List.mem_of_getElem? (List.getElem?_set_self hil), ?_⟩, rfl⟩
          unfold seenB
          rw [lost_read hox, Bool.and_true]
          show inB y.first y.first y.last = true
          unfold inB; simp; omega
        · refine ⟨x, List.mem_filter.2 ⟨List.mem_of_getElem? (i := k) (by rw [List.getElem?_set_ne hki]; exact hx), ?_⟩, rfl⟩
          unfold seenB
          rw [reads_self, Bool.and_true]
          unfold usedB inB; simp; omega
      · rw [if_neg hcond] at h; simp at h
  · rw [if_neg hc] at h; simp at h
theorem same_comm (l : List Postmark) (a b : Int) : sameRes l a b = sameRes l b a := by
  unfold sameRes
  cases fnd l a with
  | none => cases fnd l b <;> rfl
  | some p =>
    obtain ⟨i, x⟩ := p
    cases fnd l b with
    | none => rfl
    | some q => obtain ⟨k, y⟩ := q; simp only [reads_comm (shown x) (shown y)]
theorem same_self {l : List Postmark} {a : Int} {s : Bool} (h : sameRes l a a = (s, true)) : s = true := by
  unfold sameRes at h
  split at h
  · cases hf : fnd l a with
    | none => rw [hf] at h; simp at h
    | some p =>
      obtain ⟨i, x⟩ := p
      rw [hf] at h
      simp only [Prod.mk.injEq, and_true] at h
      rw [← h, reads_self]
  · simp at h
theorem lat_facts {l : List Postmark} {town : ByteArray} {best last : Int} (h : latRes l town = (best, last, true)) : ∀ x ∈ l, (x.town = town → x.last ≤ last) ∧ (x.id = best → x.town = town ∧ x.last = last) := by
  unfold latRes at h
  cases hb : latOf (ofTown l town) with
  | none => rw [hb] at h; simp at h
  | some m =>
    rw [hb] at h
    simp only [Prod.mk.injEq, and_true] at h
    obtain ⟨rfl, rfl⟩ := h
    obtain ⟨hm, hmax⟩ := latOf_mem hb
    obtain ⟨hc, hom, hml, hmt⟩ := ofTown_mem hm
    have hto : upTo okPm Postmark.id l l.length = true := by unfold okPms upL at hc; simp only [Bool.and_eq_true] at hc; exact hc.2
    intro x hx
    refine ⟨fun ht => hmax x ?_, fun hid => ?_⟩
    · unfold ofTown; rw [if_pos hc, List.mem_filter]; exact ⟨hx, by unfold ofT; simpa using ht⟩
    · obtain ⟨i, hi⟩ := List.getElem?_of_mem hx
      obtain ⟨j, hj⟩ := List.getElem?_of_mem hml
      have hij : i = j := by
        rcases Nat.lt_trichotomy i j with h | h | h
        · have := up_less hto h hi hj; omega
        · exact h
        · have := up_less hto h hj hi; omega
      subst hij
      rw [hi] at hj; obtain rfl := Option.some.inj hj
      exact ⟨hmt, rfl⟩
end Go.Proofs.YtgimcnpkngpmiaaDoor.Q11Facts

/- The named law of postmarks: what is shown reads as itself, a lost letter is still read, and no use is later than the latest one. (QL11FnPostmarks) No condition but those of each theorem. -/
namespace Go.Proofs.YtgimcnpkngpmiaaDoor.QL11FnPostmarks
set_option linter.unusedVariables false
set_option linter.unusedSimpArgs false
open Go.RowKit
open Go.Proofs.YtgimcnpkngpmiaaDoor.GoP Go.Proofs.YtgimcnpkngpmiaaDoor.PlainStamp Go.Proofs.YtgimcnpkngpmiaaDoor.QBase Go.Proofs.YtgimcnpkngpmiaaDoor.Q11DrawsG Go.Proofs.YtgimcnpkngpmiaaDoor.Q11RHelp Go.Proofs.YtgimcnpkngpmiaaDoor.Q11Facts Go.Proofs.YtgimcnpkngpmiaaDoor.Q11ShownBy Go.Proofs.YtgimcnpkngpmiaaDoor.Q11Lose Go.Proofs.YtgimcnpkngpmiaaDoor.Q11Read Go.Proofs.YtgimcnpkngpmiaaDoor.Q11Reading Go.Proofs.YtgimcnpkngpmiaaDoor.Q11Used Go.Proofs.YtgimcnpkngpmiaaDoor.Q11Reads Go.Proofs.YtgimcnpkngpmiaaDoor.Q11Same Go.Proofs.YtgimcnpkngpmiaaDoor.Q11Latest Go.Proofs.YtgimcnpkngpmiaaDoor.Q11Marks Go.Proofs.YtgimcnpkngpmiaaDoor.Q11Help Go.Proofs.YtgimcnpkngpmiaaDoor.Q11Show Go.Proofs.YtgimcnpkngpmiaaDoor.Q11Find Go.Proofs.YtgimcnpkngpmiaaDoor.Q11DrawsL Go.Proofs.YtgimcnpkngpmiaaDoor.Q11Draws Go.Proofs.YtgimcnpkngpmiaaDoor.QWord Go.Proofs.YtgimcnpkngpmiaaDoor.QByte Go.Proofs.YtgimcnpkngpmiaaDoor.QCount Go.Proofs.YtgimcnpkngpmiaaDoor.QOrd Go.Proofs.YtgimcnpkngpmiaaDoor.Q11List Go.Proofs.YtgimcnpkngpmiaaDoor.Q11Mark Go.Proofs.YtgimcnpkngpmiaaDoor.QAll Go.Proofs.YtgimcnpkngpmiaaDoor.QUp Go.Proofs.YtgimcnpkngpmiaaDoor.QLoop Go.Proofs.YtgimcnpkngpmiaaDoor.PPostmark

theorem okPm_fits {x : Postmark} (h : okPm x = true) : x.fits := by
  obtain ⟨h1, _, h3, h4, h5, _, _⟩ := okPm_of h
  have hz := okPm_size h
  exact smP_fits ⟨by omega, by omega, by omega, by omega, by omega, by omega⟩
theorem smL_fits {l : List Postmark} (h : smL l) : ∀ s ∈ l, s.fits := fun s hs => smP_fits (h.2 s hs)
theorem tail_ok {tapes : List Int → GoC.Tape} (HE : GoC.Tells tapes) {fuel : Nat} (hf : 1048577 ≤ fuel) (code : List Int) : GlFnPostmarks.q7 code fuel tapes false = some true := by
  obtain ⟨l, r, d, e1, hl, hr⟩ := drawRead_ok HE hf code
  obtain ⟨p, e2, hp⟩ := drawShown_ok HE hf code
  have hfl := smL_fits hl
  have hl30 := hl.1
  have hpf := smP_fits hp
  have hps := (fits_sz hpf).2
  have a1 := read_impl l hfl r (by omega) d
  have a2 := read_spec fuel (by omega) l hfl (by omega) r (by omega) d
  have a3 := shownBy_impl p hps
  have a4 := shownBy_spec p hpf fuel (by omega)
  have a5 := isPostmark_eq p hps
  have a6 := l11One_eq p hpf fuel (by omega)
  have a7 := arePostmarks_eq l hfl
  have a8 := l11Good_eq fuel (by omega) l hfl (by omega)
  obtain ⟨⟨ids, b1⟩, h1⟩ : ∃ z, readRes l r d = z := ⟨_, rfl⟩
  obtain ⟨⟨s, b2⟩, h2⟩ : ∃ z, shownRes p = z := ⟨_, rfl⟩
  rw [h1] at a1 a2
  rw [h2] at a3 a4
  obtain ⟨x0, x1, x2, x3, x4, x5⟩ := p
  simp only [GlFnPostmarks.q7, GlFnPostmarks.q8, letK, iteK_if, Bool.false_eq_true, if_false, e1, bind3_some, a1, a2, bind2_some, e2, Option.bind_some, unPostmark, a3, a4, GsIsPostmark.P, a5, a6, GsArePostmarks.P, a7, a8, rInts_self, beq_self_eq_true, joinK, appK, if_true]
theorem same_part {tapes : List Int → GoC.Tape} (HE : GoC.Tells tapes) {fuel : Nat} (hf : 1048577 ≤ fuel) (code : List Int) (i : Int) : GlFnPostmarks.e1 code fuel tapes i = some true := by
  obtain ⟨l, a, b, e1, hl⟩ := drawSame_ok HE hf code
  have hfl := smL_fits hl
  have hl30 := hl.1
  have a1 := same_impl l hfl a b
  have a2 := same_spec fuel (by omega) l hfl (by omega) a b
  have a3 := same_impl l hfl b a
  rw [same_comm l b a] at a3
  obtain ⟨⟨s, o⟩, h1⟩ : ∃ z, sameRes l a b = z := ⟨_, rfl⟩
  rw [h1] at a1 a2 a3
  have ht := tail_ok HE hf code
  simp only [GlFnPostmarks.e1, letK, e1, bind3_some, a1, a2, bind2_some, beq_self_eq_true, Bool.not_true, joinK, appK, iteK_if, Bool.false_eq_true, if_false, GlFnPostmarks.q6, a3]
  cases o with
  | false => simp only [Bool.false_eq_true, if_false]; exact ht
  | true =>
    simp only [if_true]
    by_cases hab : a = b
    · subst hab
      have hs := same_self h1
      subst hs
      simp only [beq_self_eq_true, if_true, Bool.not_true]
      exact ht
    · have hne : (a == b) = false := by simpa using hab
      simp only [hne, Bool.false_eq_true, if_false]
      exact ht
theorem late_part {tapes : List Int → GoC.Tape} (HE : GoC.Tells tapes) {fuel : Nat} (hf : 1048577 ≤ fuel) (code : List Int) (i : Int) : GlFnPostmarks.e0 code fuel tapes i = some true := by
  obtain ⟨l, town, e1, hl, hts⟩ := drawLatest_ok HE hf code
  have hfl := smL_fits hl
  have hl30 := hl.1
  have a1 := latest_impl l hfl town fuel (by omega)
  have a2 := latest_spec fuel (by omega) l hfl (by omega) town (by omega)
  obtain ⟨⟨best, last, fine⟩, h1⟩ : ∃ z, latRes l town = z := ⟨_, rfl⟩
  rw [h1] at a1 a2
  have hs := same_part HE hf code
  simp only [GlFnPostmarks.e0, letK, e1, bind2_some, a1, a2, bind3_some, bne_self_eq_false, beq_self_eq_true, Bool.not_true, joinK, appK, iteK_if, Bool.false_eq_true, if_false, GlFnPostmarks.q3]
  cases fine with
  | false =>
    refine lp_is (n := 0) true (fun _ _ => True) (fun k s nx hk _ _ => by omega) (fun s nx _ => ?_) fuel 0 0 (by omega) (by omega) trivial
    simp only [GlFnPostmarks.l1, letK, joinK, appK, iteK_if, GlFnPostmarks.q4]
    by_cases h : s < (l.length : Int)
    · simp only [decide_eq_true h, if_true, Bool.false_eq_true, if_false]; exact hs _
    · simp only [decide_eq_false h, Bool.false_eq_true, if_false]; exact hs _
  | true =>
    have hfc := lat_facts h1
    refine lp_is (n := l.length) true (fun k s => s = (k : Int)) (fun k s nx hk hI hn => ?_) (fun s nx hI => ?_) fuel 0 0 (by omega) (by omega) rfl
    · subst hI
      obtain ⟨x, hx, hi⟩ := at_lt (l := l) (k := k) hk
      obtain ⟨f1, f2⟩ := hfc x (List.mem_of_getElem? hx)
      have hw := wrap_in (x := (k : Int) + 1) (by omega) (by omega)
      have hnn := hn ((k + 1 : Nat) : Int) rfl
      rw [show ((k + 1 : Nat) : Int) = (k : Int) + 1 by omega] at hnn
      simp only [GlFnPostmarks.l1, letK, joinK, appK, iteK_if, GlFnPostmarks.q4, decide_eq_true (show (k : Int) < (l.length : Int) by omega), if_true, hi, Option.bind_some, unPostmark, eq_list, GlFnPostmarks.q5, hw]
      by_cases ht : x.town = town
      · have hle := f1 ht
        simp only [decide_eq_true ht, if_true, decide_eq_false (show ¬ last < x.last by omega), Bool.false_eq_true, if_false]
        by_cases hid : x.id = best
        · have hb : (x.id == best) = true := by simpa using hid
          have hq : (x.last != last) = false := by simpa using (f2 hid).2
          simp only [hb, if_true, Bool.not_true, Bool.false_eq_true, if_false, hq]
          exact hnn
        · have hb : (x.id == best) = false := by simpa using hid
          simp only [hb, Bool.false_eq_true, if_false]
          exact hnn
      · simp only [decide_eq_false ht, Bool.false_eq_true, if_false]
        have hb : (x.id == best) = false := by
          rw [Bool.eq_false_iff]; intro h
          exact ht (f2 (by simpa using h)).1
        simp only [hb, Bool.false_eq_true, if_false]
        exact hnn
    · subst hI
      simp only [GlFnPostmarks.l1, letK, joinK, appK, iteK_if, GlFnPostmarks.q4, decide_eq_false (show ¬ (l.length : Int) < (l.length : Int) by omega), Bool.false_eq_true, if_false]
      exact hs _
theorem law_postmarks {tapes : List Int → GoC.Tape} (HE : GoC.Tells tapes) (code : List Int) {fuel : Nat} (hf : 1048577 ≤ fuel) : GlFnPostmarks.P fuel tapes code = some true := by
  simp only [GlFnPostmarks.P, rBig_eq, Option.bind_some, iteK_if]
  by_cases hb : (65536 : Int) < (code.length : Int)
  · rw [if_pos (by simpa using hb)]
  · rw [if_neg (by simpa using hb)]
    obtain ⟨l, id, place, e1, hl⟩ := drawLose_ok HE hf code
    have hfl := smL_fits hl
    have hl30 := hl.1
    have a1 := lose_impl l hfl id place
    have a2 := lose_spec fuel (by omega) l hfl (by omega) id place
    obtain ⟨⟨out, ok⟩, h1⟩ : ∃ z, loseRes l id place = z := ⟨_, rfl⟩
    rw [h1] at a1 a2
    have hs := late_part HE hf code
    simp only [e1, bind3_some, a1, a2, bind2_some, letK, beq_self_eq_true, Bool.not_true, joinK, appK, iteK_if, Bool.false_eq_true, if_false, rMarks_self, Option.bind_some, GlFnPostmarks.q0]
    cases ok with
    | false =>
      refine lp_is (n := 0) true (fun _ _ => True) (fun k s nx hk _ _ => by omega) (fun s nx _ => ?_) fuel 0 0 (by omega) (by omega) trivial
      simp only [GlFnPostmarks.l0, letK, joinK, appK, iteK_if, GlFnPostmarks.q1]
      by_cases h : s < (l.length : Int)
      · simp only [decide_eq_true h, if_true, Bool.false_eq_true, if_false]; exact hs _
      · simp only [decide_eq_false h, Bool.false_eq_true, if_false]; exact hs _
    | true =>
      obtain ⟨hc, hco, hfc⟩ := lose_facts h1
      have hfo : ∀ s ∈ out, s.fits := fun s hs' => okPm_fits (pms_mem hco hs')
      refine lp_is (n := l.length) true (fun k s => s = (k : Int)) (fun k s nx hk hI hn => ?_) (fun s nx hI => ?_) fuel 0 0 (by omega) (by omega) rfl
      · subst hI
        obtain ⟨x, hx, hi⟩ := at_lt (l := l) (k := k) hk
        have hox := pms_mem hc (List.mem_of_getElem? hx)
        have hzx := okPm_size hox
        obtain ⟨ids, hr, hin⟩ := hfc k x hx
        have b1 := shownBy_impl x (by omega)
        have b2 : shownRes x = (shown x, true) := by unfold shownRes; rw [if_pos hox]
        rw [b2] at b1
        have b1' : GiShownBy.P (Postmark.mk x.id x.town x.kind_ x.first x.last x.lost) = some (shown x, true) := b1
        have b3 := read_impl out hfo (shown x) (by rw [shown_size hzx.1]; omega) x.first
        rw [hr] at b3
        have hw := wrap_in (x := (k : Int) + 1) (by omega) (by omega)
        have hnn := hn ((k + 1 : Nat) : Int) rfl
        rw [show ((k + 1 : Nat) : Int) = (k : Int) + 1 by omega] at hnn
        simp only [GlFnPostmarks.l0, letK, joinK, appK, iteK_if, GlFnPostmarks.q1, decide_eq_true (show (k : Int) < (l.length : Int) by omega), if_true, hi, Option.bind_some, unPostmark, b1', bind2_some, b3, Bool.not_true, Bool.false_eq_true, if_false, rHas_yes hin, GlFnPostmarks.q2, hw]
        exact hnn
      · subst hI
        simp only [GlFnPostmarks.l0, letK, joinK, appK, iteK_if, GlFnPostmarks.q1, decide_eq_false (show ¬ (l.length : Int) < (l.length : Int) by omega), Bool.false_eq_true, if_false]
        exact hs _
end Go.Proofs.YtgimcnpkngpmiaaDoor.QL11FnPostmarks

