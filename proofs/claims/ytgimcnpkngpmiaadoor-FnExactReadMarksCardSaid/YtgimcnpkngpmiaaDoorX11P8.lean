/- Texts on which the proofs of several laws stand, one behind the other (8 of 9). No condition of their own. -/
import Derived.Test.YtgimcnpkngpmiaaDoorX11P4
import Derived.Test.YtgimcnpkngpmiaaDoorX11P6
import Derived.Test.YtgimcnpkngpmiaaDoorX11P2
import Derived.Test.YtgimcnpkngpmiaaDoorX11P7
import Derived.Test.YtgimcnpkngpmiaaDoorX11P5
/- Chapter 11: postmarks: the plain functions of the program and of the reference agree, and the laws answer true. (Q11Reading) No condition but those of each theorem. -/
namespace Go.Proofs.YtgimcnpkngpmiaaDoor.Q11Reading
set_option linter.unusedVariables false
set_option linter.unusedSimpArgs false
open Go.RowKit
open Go.Proofs.YtgimcnpkngpmiaaDoor.GoP Go.Proofs.YtgimcnpkngpmiaaDoor.PlainStamp Go.Proofs.YtgimcnpkngpmiaaDoor.QBase Go.Proofs.YtgimcnpkngpmiaaDoor.QWord Go.Proofs.YtgimcnpkngpmiaaDoor.QUp Go.Proofs.YtgimcnpkngpmiaaDoor.QByte Go.Proofs.YtgimcnpkngpmiaaDoor.QLoop

def signR (b : UInt8) : Bool := b == 63 || small b
def readB (s : ByteArray) : Bool := inB (s.size : Int) 1 10 && s.toList.all signR
theorem small_put (b : UInt8) : small (GxStringsReplaceAll.putB 63 97 b) = signR b := by
  unfold signR GxStringsReplaceAll.putB
  by_cases h : b = 63
  · subst h; rfl
  · rw [if_neg h]; simp [h]
theorem isReading_eq (s : ByteArray) (hz : s.size < 4294967281) : GiIsReading.P s = some (readB s) := by
  have e : GxStringsReplaceAll.P s ⟨#[63]⟩ ⟨#[97]⟩ = some (bs (s.toList.map (GxStringsReplaceAll.putB 63 97))) := by
    rw [Lib.toList_data]
    show (if (63 : UInt8) ≠ 97 ∧ s.size < 4294967281 then _ else _) = _
    rw [if_pos ⟨by decide, hz⟩]; rfl
  simp only [GiIsReading.P, e, Option.bind_some, isWord_eq, wordB, readB, bs_size, bs_list, List.length_map, toList_size, List.all_map]
  congr 2
  congr 1
  funext b
  exact small_put b
theorem l11Reading_eq (s : ByteArray) (hz : s.size ≤ 9223372036854775807) (fuel : Nat) (hfu : 100 ≤ fuel) : GsL11Reading.P fuel s = some (readB s) := by
  simp only [GsL11Reading.P]
  refine lp_is (n := min s.size 11) _ (fun k (i : Int) => i = (k : Int) ∧ (s.toList.take k).all signR = true) ?_ ?_ fuel 0 _ (by omega) (by omega) ⟨rfl, rfl⟩
  · rintro k i nx hk ⟨rfl, hall⟩ hn
    obtain ⟨y, hy, hi⟩ := at_lt (l := s.toList) (k := k) (by rw [toList_size]; omega)
    have hw := wrap_in (x := (k : Int) + 1) (by omega) (by omega)
    have n63 : ((y.toNat : Int) != 63) = !(y == 63) := by rw [← byte_eq y 63]; rfl
    simp only [GsL11Reading.l0, letK, joinK, appK, iteK_if, hi, hw, Option.bind_some, n63]
    rw [if_pos (by simp; omega), decide_eq_true (show (k : Int) ≤ 10 by omega), if_pos rfl]
    have hnn := hn ((k + 1 : Nat) : Int)
    rw [show ((k + 1 : Nat) : Int) = (k : Int) + 1 by omega] at hnn
    cases h63 : (y == 63) with
    | true =>
      simp only [Bool.not_true, Bool.false_eq_true, if_false]
      exact hnn ⟨by omega, by rw [all_next hy, hall]; simp [signR, h63]⟩
    | false =>
      simp only [Bool.not_false, if_true]
      by_cases h1 : (y.toNat : Int) < 97
      · have hb : signR y = false := by unfold signR small; rw [h63]; simp; omega
        have : readB s = false := by unfold readB; rw [not_all hy hb, Bool.and_false]
        simp [h1, this]
      · by_cases h2 : (122 : Int) < (y.toNat : Int)
        · have hb : signR y = false := by unfold signR small; rw [h63]; simp; omega
          have : readB s = false := by unfold readB; rw [not_all hy hb, Bool.and_false]
          simp [h1, h2, this]
        · have hb : signR y = true := by unfold signR small; rw [h63]; simp; omega
          simp [h1, h2]
          exact hnn ⟨by omega, by rw [all_next hy, hall, hb]; rfl⟩
  · rintro i nx ⟨rfl, hall⟩
    have hfin : GsL11Reading.e0 s (min s.size 11 : Nat) = some (readB s) := by
      simp only [GsL11Reading.e0, letK, l1In_eq, Option.bind_some, readB]
      by_cases h10 : s.size ≤ 10
      · rw [show min s.size 11 = s.size by omega, List.take_of_length_le (by rw [toList_size]; exact Nat.le_refl _)] at hall
        rw [hall, Bool.and_true]
      · have : inB (s.size : Int) 1 10 = false := by unfold inB; simp; omega
        rw [this, Bool.false_and]
    simp only [GsL11Reading.l0, letK, joinK, appK, iteK_if]
    by_cases hlt : ((min s.size 11 : Nat) : Int) < (s.size : Int)
    · rw [if_pos (by simpa using hlt), decide_eq_false (show ¬ ((min s.size 11 : Nat) : Int) ≤ 10 by omega), if_neg (by simp)]
      exact hfin
    · rw [if_neg (by simpa using hlt), if_neg (by simp)]
      exact hfin
end Go.Proofs.YtgimcnpkngpmiaaDoor.Q11Reading

/- Chapter 11: postmarks: the plain functions of the program and of the reference agree, and the laws answer true. (Q11Used) No condition but those of each theorem. -/
namespace Go.Proofs.YtgimcnpkngpmiaaDoor.Q11Used
set_option linter.unusedVariables false
set_option linter.unusedSimpArgs false
open Go.RowKit
open Go.Proofs.YtgimcnpkngpmiaaDoor.GoP Go.Proofs.YtgimcnpkngpmiaaDoor.PlainStamp Go.Proofs.YtgimcnpkngpmiaaDoor.QBase Go.Proofs.YtgimcnpkngpmiaaDoor.Q11Mark Go.Proofs.YtgimcnpkngpmiaaDoor.QLoop Go.Proofs.YtgimcnpkngpmiaaDoor.PPostmark

def usedB (day : Int) (x : Postmark) : Bool := inB day x.first x.last
theorem used_impl (x : Postmark) (day : Int) : GiWasUsedOn.P x day = some (usedB day x) := by
  obtain ⟨a, b, c, d, e, g⟩ := x
  simp only [GiWasUsedOn.P, unPostmark, within_eq, Option.bind_some, usedB]
theorem used_spec (x : Postmark) (day : Int) : GsL11Used.P (Postmark.mk x.id x.town x.kind_ x.first x.last x.lost) day = some (usedB day x) := by
  simp only [GsL11Used.P, unPostmark, l1In_eq, Option.bind_some, usedB]
end Go.Proofs.YtgimcnpkngpmiaaDoor.Q11Used

/- Chapter 11: postmarks: the plain functions of the program and of the reference agree, and the laws answer true. (Q11Reads) No condition but those of each theorem. -/
namespace Go.Proofs.YtgimcnpkngpmiaaDoor.Q11Reads
set_option linter.unusedVariables false
set_option linter.unusedSimpArgs false
open Go.RowKit
open Go.Proofs.YtgimcnpkngpmiaaDoor.GoP Go.Proofs.YtgimcnpkngpmiaaDoor.PlainStamp Go.Proofs.YtgimcnpkngpmiaaDoor.QBase Go.Proofs.YtgimcnpkngpmiaaDoor.QAll Go.Proofs.YtgimcnpkngpmiaaDoor.QByte Go.Proofs.YtgimcnpkngpmiaaDoor.QLoop

def readAt (x y : UInt8) : Bool := (x == y || x == 63) || y == 63
def readsB (a b : ByteArray) : Bool := decide (a.size = b.size) && allN a.size fun i => readAt (a.toList.getD i 0) (b.toList.getD i 0)
theorem reads_impl (a b : ByteArray) (hz : a.size ≤ 9223372036854775807) : GiReadsAs.P a b = some (readsB a b) := by
  simp only [GiReadsAs.P, letK, iteK_if, readsB]
  by_cases h : a.size = b.size
  · rw [if_neg (by simp; omega), guardK_pos hz, decide_eq_true h, Bool.true_and, all_cnt (p := fun i => readAt (a.toList.getD i 0) (b.toList.getD i 0)) (no := false)]
    · cases allN a.size fun i => readAt (a.toList.getD i 0) (b.toList.getD i 0) <;> simp [GiReadsAs.e0]
    · intro k nx hk
      obtain ⟨x, hx, hxi⟩ := at_lt (l := a.toList) (k := k) (by rw [toList_size]; omega)
      obtain ⟨y, hy, hyi⟩ := at_lt (l := b.toList) (k := k) (by rw [toList_size]; omega)
      have gx : a.toList.getD k 0 = x := by simp [List.getD, hx]
      have gy : b.toList.getD k 0 = y := by simp [List.getD, hy]
      have n1 : ((x.toNat : Int) != (y.toNat : Int)) = !(x == y) := by rw [← byte_eq x y]; rfl
      have n2 : ((x.toNat : Int) != 63) = !(x == 63) := by rw [← byte_eq x 63]; rfl
      have n3 : ((y.toNat : Int) != 63) = !(y == 63) := by rw [← byte_eq y 63]; rfl
      simp only [GiReadsAs.l0, hxi, hyi, gx, gy, Option.bind_some, letK, joinK, appK, iteK_if, n1, n2, n3, readAt]
      cases (x == y) <;> cases (x == 63) <;> cases (y == 63) <;> simp
  · rw [if_pos (by simp; omega), decide_eq_false h, Bool.false_and]
theorem reads_spec (a b : ByteArray) (hz : a.size ≤ 9223372036854775807) : GsL11Reads.P a b = some (readsB a b) := by
  simp only [GsL11Reads.P, letK, iteK_if, readsB]
  by_cases h : a.size = b.size
  · rw [if_neg (by simp; omega), guardK_pos hz, decide_eq_true h, Bool.true_and, all_cnt (p := fun i => readAt (a.toList.getD i 0) (b.toList.getD i 0)) (no := false)]
    · cases allN a.size fun i => readAt (a.toList.getD i 0) (b.toList.getD i 0) <;> simp [GsL11Reads.e0]
    · intro k nx hk
      obtain ⟨x, hx, hxi⟩ := at_lt (l := a.toList) (k := k) (by rw [toList_size]; omega)
      obtain ⟨y, hy, hyi⟩ := at_lt (l := b.toList) (k := k) (by rw [toList_size]; omega)
      have gx : a.toList.getD k 0 = x := by simp [List.getD, hx]
      have gy : b.toList.getD k 0 = y := by simp [List.getD, hy]
      have n1 : ((x.toNat : Int) != (y.toNat : Int)) = !(x == y) := by rw [← byte_eq x y]; rfl
      have n2 : ((x.toNat : Int) != 63) = !(x == 63) := by rw [← byte_eq x 63]; rfl
      have n3 : ((y.toNat : Int) != 63) = !(y == 63) := by rw [← byte_eq y 63]; rfl
      simp only [GsL11Reads.l0, hxi, hyi, gx, gy, Option.bind_some, letK, joinK, appK, iteK_if, n1, n2, n3, readAt]
      cases (x == y) <;> cases (x == 63) <;> cases (y == 63) <;> simp
  · rw [if_pos (by simp; omega), decide_eq_false h, Bool.false_and]
end Go.Proofs.YtgimcnpkngpmiaaDoor.Q11Reads

/- Chapter 11: postmarks: the plain functions of the program and of the reference agree, and the laws answer true. (Q11List) No condition but those of each theorem. -/
namespace Go.Proofs.YtgimcnpkngpmiaaDoor.Q11List
set_option linter.unusedVariables false
set_option linter.unusedSimpArgs false
open Go.RowKit
open Go.Proofs.YtgimcnpkngpmiaaDoor.GoP Go.Proofs.YtgimcnpkngpmiaaDoor.PlainStamp Go.Proofs.YtgimcnpkngpmiaaDoor.QBase Go.Proofs.YtgimcnpkngpmiaaDoor.Q11Mark Go.Proofs.YtgimcnpkngpmiaaDoor.QUp Go.Proofs.YtgimcnpkngpmiaaDoor.QLoop Go.Proofs.YtgimcnpkngpmiaaDoor.PPostmark

def okPms (l : List Postmark) : Bool := upL 12 okPm Postmark.id l
theorem arePostmarks_eq (l : List Postmark) (hf : ∀ s ∈ l, s.fits) : GiArePostmarks.P l = some (okPms l) := by
  simp only [GiArePostmarks.P, GiAreByKeyPostmarkIntiIsPostmarkiIdOfPostmark.P, letK, iteK_if]
  by_cases hl : l.length ≤ 12
  · rw [if_neg (by simp; omega), up_loop (ok := okPm) (id := Postmark.id) (no := false)]
    · unfold okPms upL; cases upTo okPm Postmark.id l l.length <;> simp [hl, GiAreByKeyPostmarkIntiIsPostmarkiIdOfPostmark.e0]
    · intro k nx s hs
      have hi : idx l (k : Int) = some s := by rw [idx_nat, hs]
      have hk : k < l.length := (List.getElem?_eq_some_iff.1 hs).1
      have hm := isPostmark_eq s (fits_sz (hf s (List.mem_of_getElem? hs))).2
      simp only [GiAreByKeyPostmarkIntiIsPostmarkiIdOfPostmark.l0, hi, Option.bind_some, unPostmark, GiIdOfPostmark.P, letK, joinK, appK, iteK_if]
      rw [hm]
      refine ⟨fun h => by simp [h], fun h => ⟨fun h0 => by subst h0; simp [h], fun h0 r hr => ?_⟩⟩
      rw [idx_pred h0 (by omega) hr]
      have hk0 : (0 : Int) < (k : Int) := by omega
      have hk1 : ¬ k = 0 := by omega
      exact ⟨fun hlt => by (have hc : ¬ s.id ≤ r.id := by omega); simp [h, hk0, hk1, hc], fun hge => by simp [h, hk0, hk1, hge]⟩
  · rw [if_pos (by simp; omega)]; unfold okPms upL; simp [hl]
theorem l11Good_eq (fuel : Nat) (hfu : 100 ≤ fuel) (l : List Postmark) (hf : ∀ s ∈ l, s.fits) (hl : l.length ≤ 9223372036854775807) : GsL11Good.P fuel l = some (okPms l) := by
  simp only [GsL11Good.P]
  rw [up_loop (ok := okPm) (id := Postmark.id) (no := false)]
  · unfold okPms upL; cases upTo okPm Postmark.id l l.length <;> simp [GsL11Good.e0, letK]; omega
  · intro k nx s hs
    have hi : idx l (k : Int) = some s := by rw [idx_nat, hs]
    have hk : k < l.length := (List.getElem?_eq_some_iff.1 hs).1
    have hm := l11One_eq s (hf s (List.mem_of_getElem? hs)) fuel hfu
    simp only [GsL11Good.l0, hi, Option.bind_some, unPostmark, letK, joinK, appK, iteK_if]
    rw [hm]
    refine ⟨fun h => by simp [h], fun h => ⟨fun h0 => by subst h0; simp [h], fun h0 r hr => ?_⟩⟩
    rw [idx_pred h0 (by omega) hr]
    have hk0 : (0 : Int) < (k : Int) := by omega
    have hk1 : ¬ k = 0 := by omega
    exact ⟨fun hlt => by (have hc : ¬ s.id ≤ r.id := by omega); simp [h, hk0, hk1, hc], fun hge => by simp [h, hk0, hk1, hge]⟩
theorem pms_mem {l : List Postmark} (h : okPms l = true) {x : Postmark} (hx : x ∈ l) : okPm x = true := upL_mem h hx
end Go.Proofs.YtgimcnpkngpmiaaDoor.Q11List

/- Chapter 11: postmarks: the plain functions of the program and of the reference agree, and the laws answer true. (Q11Read) No condition but those of each theorem. -/
namespace Go.Proofs.YtgimcnpkngpmiaaDoor.Q11Read
set_option linter.unusedVariables false
set_option linter.unusedSimpArgs false
open Go.RowKit
open Go.Proofs.YtgimcnpkngpmiaaDoor.GoP Go.Proofs.YtgimcnpkngpmiaaDoor.PlainStamp Go.Proofs.YtgimcnpkngpmiaaDoor.QBase Go.Proofs.YtgimcnpkngpmiaaDoor.QWord Go.Proofs.YtgimcnpkngpmiaaDoor.QGath Go.Proofs.YtgimcnpkngpmiaaDoor.Q11Reading Go.Proofs.YtgimcnpkngpmiaaDoor.Q11Used Go.Proofs.YtgimcnpkngpmiaaDoor.Q11Reads Go.Proofs.YtgimcnpkngpmiaaDoor.Q11Show Go.Proofs.YtgimcnpkngpmiaaDoor.Q11List Go.Proofs.YtgimcnpkngpmiaaDoor.Q11Mark Go.Proofs.YtgimcnpkngpmiaaDoor.QByte Go.Proofs.YtgimcnpkngpmiaaDoor.QUp Go.Proofs.YtgimcnpkngpmiaaDoor.QLoop Go.Proofs.YtgimcnpkngpmiaaDoor.PPostmark

def seenB (r : ByteArray) (day : Int) (x : Postmark) : Bool := usedB day x && readsB r (shown x)
def readRes (l : List Postmark) (r : ByteArray) (day : Int) : List Int × Bool := if (okPms l && (readB r && inB day 0 4000)) = true then ((l.filter (seenB r day)).map Postmark.id, true) else ([], false)
theorem read1_eq (x : Postmark) (hx : okPm x = true) (r : ByteArray) (hr : r.size ≤ 9223372036854775807) (day : Int) : GiReadMarks1.P x day r = some (seenB r day x) := by
  have hu := used_impl x day
  have hz := okPm_size hx
  have hs := shown_impl hz.1 (by omega)
  obtain ⟨a, b, c, d, e, g⟩ := x
  simp only [GiReadMarks1.P, unPostmark, hu, hs, reads_impl r _ hr, Option.bind_some, joinK, appK, iteK_if, seenB]
  cases usedB day ⟨a, b, c, d, e, g⟩ <;> simp
theorem read_impl (l : List Postmark) (hf : ∀ s ∈ l, s.fits) (r : ByteArray) (hr : r.size < 4294967281) (day : Int) : GiReadMarks.P l r day = some (readRes l r day) := by
  simp only [GiReadMarks.P, arePostmarks_eq l hf, isReading_eq r hr, isDay_eq, Option.bind_some, letK, joinK, appK, iteK_if, readRes]
  cases hc : okPms l with
  | false => simp
  | true =>
    cases hrd : readB r with
    | false => simp
    | true =>
      cases hd : inB day 0 4000 with
      | false => simp
      | true =>
        have h12 : l.length ≤ 12 := upL_len hc
        have hk : GiKeysWherePostmarkIntiIdOfPostmarkiReadMarks1.P l day r = some ((l.filter (seenB r day)).map Postmark.id) := by
          simp only [GiKeysWherePostmarkIntiIdOfPostmarkiReadMarks1.P]
          rw [gather (p := seenB r day) (g := Postmark.id) (by omega)]
          · rfl
          · intro k nx x s hx hs
            have hi : idx l (k : Int) = some x := by rw [idx_nat, hx]
            have h1 := read1_eq x (pms_mem hc (List.mem_of_getElem? hx)) r (by omega) day
            simp only [GiKeysWherePostmarkIntiIdOfPostmarkiReadMarks1.l0, letK, hi, Option.bind_some, unPostmark, GiIdOfPostmark.P, appK, iteK_if]
            rw [show GiReadMarks1.P (Postmark.mk x.id x.town x.kind_ x.first x.last x.lost) day r = some (seenB r day x) from h1]
            simp only [Option.bind_some]
            rw [guardK_pos hs]
            cases seenB r day x <;> rfl
        simp [hk]
theorem read_spec (fuel : Nat) (hfu : 100 ≤ fuel) (l : List Postmark) (hf : ∀ s ∈ l, s.fits) (hl : l.length ≤ 9223372036854775807) (r : ByteArray) (hr : r.size ≤ 9223372036854775807) (day : Int) : GsReadMarks.P fuel l r day = some (readRes l r day) := by
  simp only [GsReadMarks.P, l11Good_eq fuel hfu l hf hl, l11Reading_eq r hr fuel hfu, l2Day_eq, Option.bind_some, letK, joinK, appK, iteK_if, readRes]
  cases hc : okPms l with
  | false => simp
  | true =>
    cases hrd : readB r with
    | false => simp
    | true =>
      cases hd : inB day 0 4000 with
      | false => simp
      | true =>
        have h12 : l.length ≤ 12 := upL_len hc
        simp only [Bool.not_true, Bool.and_true, Bool.false_eq_true, if_false, if_true]
        rw [gather (p := seenB r day) (g := Postmark.id) (by omega)]
        · rfl
        · intro k nx x s hx hs
          have hi : idx l (k : Int) = some x := by rw [idx_nat, hx]
          have hz := okPm_size (pms_mem hc (List.mem_of_getElem? hx))
          have h1 := shown_spec hz.1 (by omega) fuel hfu
          simp only [GsReadMarks.l0, letK, joinK, hi, Option.bind_some, unPostmark, used_spec, appK, iteK_if]
          rw [show GsL11Shown.P fuel (Postmark.mk x.id x.town x.kind_ x.first x.last x.lost) = some (shown x) from h1]
          simp only [Option.bind_some, reads_spec r _ hr]
          rw [guardK_pos hs]
          unfold seenB
          cases usedB day x <;> cases readsB r (shown x) <;> simp
theorem readRes_len (l : List Postmark) (r : ByteArray) (day : Int) : (readRes l r day).1.length ≤ 12 := by
  unfold readRes
  split
  · rename_i h
    simp only [Bool.and_eq_true] at h
    have h1 : l.length ≤ 12 := upL_len h.1
    have := List.length_filter_le (seenB r day) l
    rw [List.length_map]; omega
  · simp
end Go.Proofs.YtgimcnpkngpmiaaDoor.Q11Read

/- The laws' helper that marks a slice of Postmark as a plain function. No condition. -/
namespace Go.Proofs.YtgimcnpkngpmiaaDoor.QHPostmark
set_option linter.unusedVariables false
set_option linter.unusedSimpArgs false
open Go.RowKit
open Go.Proofs.YtgimcnpkngpmiaaDoor.GoP Go.Proofs.YtgimcnpkngpmiaaDoor.QBase Go.Proofs.YtgimcnpkngpmiaaDoor.QLoop Go.Proofs.YtgimcnpkngpmiaaDoor.PPostmark 
theorem set_at {α : Type} {l : List α} {k : Nat} (x : α) (h : k < l.length) : idx (l.set k x) (k : Int) = some x := by rw [idx_nat, List.getElem?_set_self h]
theorem mark_ok (k : Int) (h : 1 ≤ k ∧ k ≤ 1000000000) : ∃ t, GlMarkText.P k = some t := by
  unfold GlMarkText.P; rw [if_pos h]; exact ⟨_, rfl⟩
theorem markF (l : List Postmark) (k0 : Int) (hk0 : 1 ≤ k0) (hk1 : k0 ≤ 100000000) (hl : l.length ≤ 1048576) : ∃ v l', GlMarkPostmarkS.P l k0 = some (v, l') ∧ v = k0 + 6 * (l.length : Int) := by
  obtain ⟨⟨v, l'⟩, h, hv⟩ : ∃ r : Int × List Postmark, GlMarkPostmarkS.P l k0 = some r ∧ r.1 = k0 + 6 * (l.length : Int) := by
    simp only [GlMarkPostmarkS.P]
    refine cnt_ex (n := l.length) (Q := fun r : Int × List Postmark => r.1 = k0 + 6 * (l.length : Int)) (fun k (s : List Postmark × Int) => s.1.length = l.length ∧ s.2 = 6 * (k : Int) + k0) ?_ ?_ l.length 0 (l, k0) (by omega) ⟨rfl, by simp⟩
    · rintro k ⟨a, b⟩ nx hk ⟨h1, h2⟩ hn
      dsimp only at h1 h2
      obtain ⟨x, hx, hi⟩ := at_lt (l := a) (k := k) (by omega)
      have ha : k < a.length := by omega
      have w1 : IntKind.i64.wrap (b + 1) = b + 1 := wrap_in (by omega) (by omega)
      have w2 : IntKind.i64.wrap (b + 1 + 1) = b + 1 + 1 := wrap_in (by omega) (by omega)
      have w3 : IntKind.i64.wrap (b + 1 + 1 + 1) = b + 1 + 1 + 1 := wrap_in (by omega) (by omega)
      have w4 : IntKind.i64.wrap (b + 1 + 1 + 1 + 1) = b + 1 + 1 + 1 + 1 := wrap_in (by omega) (by omega)
      have w5 : IntKind.i64.wrap (b + 1 + 1 + 1 + 1 + 1) = b + 1 + 1 + 1 + 1 + 1 := wrap_in (by omega) (by omega)
      have w6 : IntKind.i64.wrap (b + 1 + 1 + 1 + 1 + 1 + 1) = b + 1 + 1 + 1 + 1 + 1 + 1 := wrap_in (by omega) (by omega)
      obtain ⟨t1, m1⟩ := mark_ok (b + 1) (by omega)
      obtain ⟨t5, m5⟩ := mark_ok (b + 1 + 1 + 1 + 1 + 1) (by omega)
      simp (disch := simp [ha]) only [GlMarkPostmarkS.l0, unp2, hi, set_at, Option.bind_some, unPostmark, letK, appK, w1, w2, w3, w4, w5, w6, m1, m5]
      exact hn _ ⟨by simpa using h1, by dsimp only; omega⟩
    · rintro ⟨a, b⟩ ⟨h1, h2⟩
      exact ⟨_, rfl, by dsimp only at h2 ⊢; omega⟩
  exact ⟨v, l', h, hv⟩
theorem markS (l : List Postmark) (hl : l.length ≤ 1048576) : ∃ v l', GlMarkPostmarkS.P l 1 = some (v, l') ∧ 0 ≤ v := by
  obtain ⟨v, l', h, hv⟩ := markF l 1 (by omega) (by omega) hl
  exact ⟨v, l', h, by omega⟩
end Go.Proofs.YtgimcnpkngpmiaaDoor.QHPostmark

/- The laws' helpers on slices of ints as plain functions: equal, marked, held. Condition: at most 2^40 numbers. -/
namespace Go.Proofs.YtgimcnpkngpmiaaDoor.QInt
set_option linter.unusedVariables false
set_option linter.unusedSimpArgs false
open Go.RowKit
open Go.Proofs.YtgimcnpkngpmiaaDoor.GoP Go.Proofs.YtgimcnpkngpmiaaDoor.QBase Go.Proofs.YtgimcnpkngpmiaaDoor.QLoop

theorem eqI (l : List Int) : GlEqIntS.P l l = some true := by
  simp only [GlEqIntS.P, letK, iteK_if]
  rw [if_neg (by simp)]
  refine cnt_is true (fun _ _ => True) ?_ (fun s _ => rfl) () trivial
  intro k s nx hk _ hn
  obtain ⟨x, hx, hi⟩ := at_lt (l := l) (k := k) hk
  simp only [GlEqIntS.l0, hi, Option.bind_some, letK, appK, iteK_if]
  rw [if_neg (by simp)]
  exact hn () trivial
/-- 1, 2, 3 .. -/
def ups (n : Nat) : List Int := (List.range n).map (fun i : Nat => (i : Int) + 1)
theorem ups_at {n k : Nat} (h : k < n) : (ups n)[k]? = some ((k : Int) + 1) := by unfold ups; simp [h]
theorem ups_len (n : Nat) : (ups n).length = n := by simp [ups]
theorem markI (l : List Int) (hl : l.length ≤ 1099511627776) : GlMarkIntS.P l 1 = some ((l.length : Int) + 1, ups l.length) := by
  simp only [GlMarkIntS.P]
  refine cnt_is _ (fun k s => s.1.length = l.length ∧ s.2 = (k : Int) + 1 ∧ ∀ i, i < k → s.1[i]? = some ((i : Int) + 1)) ?_ ?_ (l, 1) ⟨rfl, rfl, fun i hi => by omega⟩
  · rintro k ⟨a, b⟩ nx hk ⟨h1, h2, h3⟩ hn
    dsimp only at h1 h2 h3
    obtain ⟨x, hx, hi⟩ := at_lt (l := a) (k := k) (by omega)
    simp only [GlMarkIntS.l0, unp2, hi, Option.bind_some, letK, appK]
    rw [wrap_in (by omega) (by omega)]
    refine hn _ ⟨by simpa using h1, by dsimp only; omega, fun i hi2 => ?_⟩
    dsimp only
    by_cases he : i = k
    · subst he; rw [List.getElem?_set_self (by omega), h2]
    · rw [List.getElem?_set_ne (by omega)]; exact h3 i (by omega)
  · rintro ⟨a, b⟩ ⟨h1, h2, h3⟩
    dsimp only at h1 h2 h3
    have : a = ups l.length := by
      apply List.ext_getElem?
      intro i
      by_cases hi : i < l.length
      · rw [h3 i hi, ups_at hi]
      · rw [List.getElem?_eq_none (by omega), List.getElem?_eq_none (by rw [ups_len]; omega)]
    simp only [GlMarkIntS.e0, unp2]
    rw [this, h2]
theorem heldI (n : Nat) (hl : n ≤ 1099511627776) : GlHeldIntS.P (ups n) 1 = some ((n : Int) + 1) := by
  simp only [GlHeldIntS.P]
  refine cnt_is _ (fun k s => s = (k : Int) + 1) ?_ ?_ 1 rfl
  · intro k s nx hk hI hn
    rw [ups_len] at hk
    have hi : idx (ups n) (k : Int) = some ((k : Int) + 1) := by rw [idx_nat, ups_at hk]
    simp only [GlHeldIntS.l0, hi, Option.bind_some, letK, appK, iteK_if]
    rw [if_neg (by simp [hI]), wrap_in (by omega) (by omega)]
    exact hn _ (by omega)
  · intro s hI
    simp only [GlHeldIntS.e0, letK]
    rw [hI, ups_len]
/-- a loop that gathers -/
theorem gather {α β R : Type} {l : List α} {p : α → Bool} {g : α → β} {f : Nat → List β → (List β → Option R) → (List β → Option R) → Option R} {fin : List β → Option R} (hl : l.length ≤ 1099511627776)
    (step : ∀ k nx x s, l[k]? = some x → s.length ≤ 1099511627776 → f k s nx fin = nx (if p x then s ++ [g x] else s)) : cntK f l.length 0 [] fin = fin ((l.filter p).map g) := by
  have key : ∀ m k, k + m = l.length → cntK f m k (((l.take k).filter p).map g) fin = fin ((l.filter p).map g) := by
    intro m
    induction m with
    | zero => intro k hk; obtain rfl : k = l.length := by omega
              rw [List.take_of_length_le (Nat.le_refl _)]; rfl
    | succ m ih =>
      intro k hk
      obtain ⟨x, hx, _⟩ := at_lt (l := l) (k := k) (by omega)
      show f k _ _ fin = _
      have hle : (((l.take k).filter p).map g).length ≤ 1099511627776 := by
        rw [List.length_map]
        have := List.length_filter_le p (l.take k)
        rw [List.length_take] at this
        omega
      rw [step k _ x _ hx hle, ← ih (k + 1) (by omega), take_next hx, List.filter_append, List.map_append]
      cases hp : p x <;> simp [List.filter, hp]
  exact key l.length 0 (by omega)
end Go.Proofs.YtgimcnpkngpmiaaDoor.QInt

/- Chapter 11: postmarks: the plain functions of the program and of the reference agree, and the laws answer true. (QL11Read) No condition but those of each theorem. -/
namespace Go.Proofs.YtgimcnpkngpmiaaDoor.QL11Read
set_option linter.unusedVariables false
set_option linter.unusedSimpArgs false
open Go.RowKit
open Go.Proofs.YtgimcnpkngpmiaaDoor.GoP Go.Proofs.YtgimcnpkngpmiaaDoor.PlainStamp Go.Proofs.YtgimcnpkngpmiaaDoor.QBase Go.Proofs.YtgimcnpkngpmiaaDoor.Q11Read Go.Proofs.YtgimcnpkngpmiaaDoor.QLoop Go.Proofs.YtgimcnpkngpmiaaDoor.PPostmark Go.Proofs.YtgimcnpkngpmiaaDoor.QHPostmarkE Go.Proofs.YtgimcnpkngpmiaaDoor.QHPostmark Go.Proofs.YtgimcnpkngpmiaaDoor.QInt

theorem law_read (fuel : Nat) (hfu : 100 ≤ fuel) (l : List Postmark) (r : ByteArray) (day : Int) (hf : ∀ s ∈ l, s.fits) (hl : l.length ≤ 9223372036854775807) : GlFnExactReadMarks.P fuel l r day = some true := by
  obtain ⟨v, hv, hn⟩ := szS l hf hl
  simp only [GlFnExactReadMarks.P, hv, Option.bind_some, letK, iteK_if]
  by_cases hb0 : (1048576 : Int) < (r.size : Int)
  · rw [if_pos (by simpa using hb0)]
  · rw [if_neg (by simpa using hb0)]
    by_cases hb : v < 0
    · rw [if_pos (by simp; omega)]
    · rw [if_neg (by simp; omega)]
      have hle := hn (by omega)
      obtain ⟨⟨a, b⟩, hr⟩ : ∃ x, x = readRes l r day := ⟨_, rfl⟩
      have hlen : a.length ≤ 1099511627776 := by have := readRes_len l r day; rw [← hr] at this; dsimp only at this; omega
      obtain ⟨v2, l2, hm, hv2⟩ := markS l hle
      have hv3 : ¬ v2 < 0 := by omega
      have hv4 : ¬ (a.length : Int) + 1 < 0 := by omega
      simp [toS l hle, read_spec fuel hfu l hf hl r (by omega), read_impl l hf r (by omega), ← hr, bind2, joinK, appK, iteK_if, eqS, eqI, hm, hv3, markI a hlen, heldI a.length hlen, hv4]
end Go.Proofs.YtgimcnpkngpmiaaDoor.QL11Read

