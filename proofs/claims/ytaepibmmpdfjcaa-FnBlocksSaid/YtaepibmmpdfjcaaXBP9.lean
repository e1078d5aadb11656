/- Texts on which the proofs of several laws stand, one behind the other (9 of 9). No condition of their own. -/
import Derived.Test.YtaepibmmpdfjcaaXBP8
import Derived.Test.YtaepibmmpdfjcaaXBP3
import Derived.Test.YtaepibmmpdfjcaaXBP2
import Derived.Test.YtaepibmmpdfjcaaXBP4
import Derived.Test.YtaepibmmpdfjcaaXBP1
import Derived.Test.YtaepibmmpdfjcaaXBP5
import Derived.Test.YtaepibmmpdfjcaaXBP7
/- Rising rows: what a rising row gives; loops that sum; loops from one on. No condition. -/
namespace Go.Proofs.Ytaepibmmpdfjcaa.QUp
set_option linter.unusedVariables false
set_option linter.unusedSimpArgs false
open Go.RowKit
open Go.Proofs.Ytaepibmmpdfjcaa.GoP Go.Proofs.Ytaepibmmpdfjcaa.QBase Go.Proofs.Ytaepibmmpdfjcaa.QLoop Go.Proofs.Ytaepibmmpdfjcaa.QAll

/-- a loop with fuel, from k on, by an invariant -/
theorem lp_is {σ ρ : Type} {f : σ → (σ → Option ρ) → (σ → Option ρ) → Option ρ} {fin : σ → Option ρ} {n : Nat} (r : ρ) (I : Nat → σ → Prop)
    (step : ∀ k s nx, k < n → I k s → (∀ s', I (k + 1) s' → nx s' = some r) → f s nx fin = some r) (done : ∀ s nx, I n s → f s nx fin = some r) (fuel : Nat) (k : Nat) (s : σ) (hk : k ≤ n) (hf : n - k < fuel) (hI : I k s) : loopK f fuel s fin = some r := by
  obtain ⟨r', h, rfl⟩ := lp_ex (Q := fun x => x = r) I (fun k s nx hk hI hn => ⟨r, step k s nx hk hI (fun s' h' => by obtain ⟨_, h, rfl⟩ := hn s' h'; exact h), rfl⟩) (fun s nx h => ⟨r, done s nx h, rfl⟩) fuel k s hk hf hI
  exact h
end Go.Proofs.Ytaepibmmpdfjcaa.QUp

/- Chapter 11: postmarks: the plain functions of the program and of the reference agree, and the laws answer true. (QByte) No condition but those of each theorem. -/
namespace Go.Proofs.Ytaepibmmpdfjcaa.QByte
set_option linter.unusedVariables false
set_option linter.unusedSimpArgs false
open Go.RowKit
open Go.Proofs.Ytaepibmmpdfjcaa.GoP Go.Proofs.Ytaepibmmpdfjcaa.PlainStamp Go.Proofs.Ytaepibmmpdfjcaa.QBase Go.Proofs.Ytaepibmmpdfjcaa.QLoop

/-- the text of these bytes -/
def bs (l : List UInt8) : ByteArray := ⟨l.toArray⟩
theorem bs_size (l : List UInt8) : (bs l).size = l.length := by unfold bs; show l.toArray.size = _; rw [List.size_toArray]
theorem bs_list (l : List UInt8) : (bs l).toList = l := by rw [Lib.toList_data]; simp [bs]
theorem bs_app (a b : List UInt8) : bs a ++ bs b = bs (a ++ b) := by
  apply ByteArray.ext; simp [bs]
theorem bs_cut (l : List UInt8) (i j : Nat) : (bs l).extract i j = bs ((l.take j).drop i) := by
  apply ByteArray.ext
  simp [bs, List.drop_take]
theorem bs_of (s : ByteArray) : bs s.toList = s := by
  apply ByteArray.ext; rw [Lib.toList_data]; simp [bs]
theorem toList_size (s : ByteArray) : s.toList.length = s.size := by rw [Lib.toList_data]; rfl
def toI (l : List UInt8) : List Int := l.map fun b => (b.toNat : Int)
theorem byte_eq (b c : UInt8) : ((b.toNat : Int) == (c.toNat : Int)) = (b == c) := by
  rw [Bool.eq_iff_iff, beq_iff_eq, beq_iff_eq]
  constructor
  · intro h; exact UInt8.toNat.inj (by omega)
  · intro h; rw [h]
end Go.Proofs.Ytaepibmmpdfjcaa.QByte

/- Places for blocks on sheets: the plain functions of the program and of the reference agree, and the law answers true. (Q4See) No condition but those of each theorem. -/
namespace Go.Proofs.Ytaepibmmpdfjcaa.Q4See
set_option linter.unusedVariables false
set_option linter.unusedSimpArgs false
open Go.RowKit
open Go.Proofs.Ytaepibmmpdfjcaa.GoP Go.Proofs.Ytaepibmmpdfjcaa.PlainStamp Go.Proofs.Ytaepibmmpdfjcaa.QBase Go.Proofs.Ytaepibmmpdfjcaa.QLoop Go.Proofs.Ytaepibmmpdfjcaa.QStrs Go.Proofs.Ytaepibmmpdfjcaa.QSheet

/-- what is seen at a place, a point beside the rows -/
def see (l : List ByteArray) (r c : Int) : Int :=
  if 0 ≤ r ∧ r < (l.length : Int) ∧ 0 ≤ c ∧ c < ((rw_ l r.toNat).size : Int) then ((ch (rw_ l r.toNat) c.toNat).toNat : Int) else 46
theorem see_in {l : List ByteArray} {i j : Nat} (h1 : i < l.length) (h2 : j < (rw_ l i).size) : see l (i : Int) (j : Int) = ((ch (rw_ l i) j).toNat : Int) := by
  unfold see
  rw [Int.toNat_natCast, Int.toNat_natCast, if_pos ⟨by omega, by omega, by omega, by omega⟩]
theorem row_size {l : List ByteArray} (hs : ∀ s ∈ l, s.size ≤ 1048576) {i : Nat} (h : i < l.length) : (rw_ l i).size ≤ 1048576 := by
  obtain ⟨r, hr, hi, hd⟩ := at_row h
  rw [show rw_ l i = r from hd]; exact hs r (List.mem_of_getElem? hr)
theorem inB_of2 {n a b : Int} : inB n a b = decide (a ≤ n ∧ n ≤ b) := by
  unfold inB; rfl
theorem seenAt_eq (l : List ByteArray) (r c : Int) (hl : l.length ≤ 1048576) (hs : ∀ s ∈ l, s.size ≤ 1048576) : GiSeenAt.P l r c = some (see l r c) := by
  simp only [GiSeenAt.P, within_eq, Option.bind_some, letK, joinK, appK, iteK_if]
  rw [wrap_in (by omega) (by omega)]
  by_cases hr : 0 ≤ r ∧ r < (l.length : Int)
  · obtain ⟨i, rfl⟩ : ∃ i : Nat, r = i := ⟨r.toNat, by omega⟩
    have hi : i < l.length := by omega
    obtain ⟨y, hy, hiy, hd⟩ := at_row hi
    have hsz := hs y (List.mem_of_getElem? hy)
    have e1 : inB (i : Int) 0 ((l.length : Int) - 1) = true := by unfold inB; simp; omega
    simp only [e1, hiy, Option.bind_some, Bool.not_true, Bool.false_eq_true, if_false]
    rw [wrap_in (by omega) (by omega)]
    by_cases hc : 0 ≤ c ∧ c < (y.size : Int)
    · obtain ⟨j, rfl⟩ : ∃ j : Nat, c = j := ⟨c.toNat, by omega⟩
      obtain ⟨b, hb, hib, hdb⟩ := at_list (s := y) (k := j) (by omega)
      have e2 : inB (j : Int) 0 ((y.size : Int) - 1) = true := by unfold inB; simp; omega
      simp only [e2, hib, Option.bind_some, Bool.not_true, Bool.false_eq_true, if_false]
      rw [see_in hi (by rw [show rw_ l i = y from hd]; omega), show rw_ l i = y from hd, show ch y j = b from hdb]
    · have e2 : inB c 0 ((y.size : Int) - 1) = false := by unfold inB; simp; omega
      simp only [e2, Bool.not_false, if_true]
      unfold see
      rw [Int.toNat_natCast, show rw_ l i = y from hd, if_neg (by omega)]
  · have e1 : inB r 0 ((l.length : Int) - 1) = false := by unfold inB; simp; omega
    simp only [e1, Bool.not_false, if_true]
    unfold see
    rw [if_neg (by omega)]
def okp (x y : Int) : Bool := x == 46 || (y == 46 || x == y)
def agreeB (l m : List ByteArray) (d r : Int) : Bool := allN m.length fun i => allN (rw_ m i).size fun j => okp (see l (d + i) (r + j)) ((ch (rw_ m i) j).toNat : Int)
theorem agree_eq (l m : List ByteArray) (d r : Int) (hl : l.length ≤ 1048576) (hs : ∀ s ∈ l, s.size ≤ 1048576) (hm : m.length ≤ 1048576) (hms : ∀ s ∈ m, s.size ≤ 1048576) (hd : -5 ≤ d ∧ d ≤ 1048576) (hr : -5 ≤ r ∧ r ≤ 1048576) :
    GiAgree.P l m d r = some (agreeB l m d r) := by
  simp only [GiAgree.P]
  rw [all_cnt (p := fun i => allN (rw_ m i).size fun j => okp (see l (d + i) (r + j)) ((ch (rw_ m i) j).toNat : Int)) (no := false)]
  · unfold agreeB
    cases allN m.length _ <;> rfl
  · intro k nx hk
    obtain ⟨y, hy, hi, hdy⟩ := at_row hk
    have hsz := hms y (List.mem_of_getElem? hy)
    simp only [GiAgree.l0, hi, Option.bind_some, show rw_ m k = y from hdy]
    rw [guardK_pos (by omega), all_cnt (p := fun j => okp (see l (d + k) (r + j)) ((ch y j).toNat : Int)) (no := false)]
    · cases allN y.size _ <;> simp [GiAgree.e1, appK]
    · intro j nx2 hj
      obtain ⟨b, hb, hib, hdb⟩ := at_list hj
      simp only [GiAgree.l1, hib, Option.bind_some, letK, joinK, appK, iteK_if]
      rw [wrap_in (by omega) (by omega), wrap_in (by omega) (by omega), seenAt_eq l _ _ hl hs, show ch y j = b from hdb]
      simp only [Option.bind_some]
      unfold okp
      by_cases h1 : see l (d + k) (r + j) = 46
      · simp [h1]
      · by_cases h2 : (b.toNat : Int) = 46
        · simp [h1, h2]
        · by_cases h3 : see l (d + k) (r + j) = (b.toNat : Int)
          · simp [h1, h2, h3]
          · simp [h1, h2, h3]
theorem rowsB_parts {l : List ByteArray} {m : Nat} (h : rowsB l (m : Int) = true) : 1 ≤ l.length ∧ l.length ≤ m ∧ 1 ≤ (rw_ l 0).size ∧ (rw_ l 0).size ≤ m ∧ ∀ i, i < l.length → (rw_ l i).size = (rw_ l 0).size := by
  unfold rowsB at h
  simp only [Bool.and_eq_true] at h
  obtain ⟨h1, h2, h3⟩ := h
  have p1 := inB_pos h1; have p2 := inB_pos h2
  refine ⟨by omega, by omega, by omega, by omega, fun i hi => ?_⟩
  have := allN_iff.1 h3 i hi
  unfold rowB at this
  simp only [Bool.and_eq_true, decide_eq_true_eq] at this
  exact this.1
end Go.Proofs.Ytaepibmmpdfjcaa.Q4See

/- Places for blocks on sheets: the plain functions of the program and of the reference agree, and the law answers true. (Q4Fits) No condition but those of each theorem. -/
namespace Go.Proofs.Ytaepibmmpdfjcaa.Q4Fits
set_option linter.unusedVariables false
set_option linter.unusedSimpArgs false
open Go.RowKit
open Go.Proofs.Ytaepibmmpdfjcaa.GoP Go.Proofs.Ytaepibmmpdfjcaa.PlainStamp Go.Proofs.Ytaepibmmpdfjcaa.QBase Go.Proofs.Ytaepibmmpdfjcaa.QLoop Go.Proofs.Ytaepibmmpdfjcaa.QStrs Go.Proofs.Ytaepibmmpdfjcaa.QSheet Go.Proofs.Ytaepibmmpdfjcaa.Q4See

def fitB (l m : List ByteArray) (r c : Int) : Bool := inB r 0 ((l.length : Int) - m.length) && (inB c 0 (((rw_ l 0).size : Int) - (rw_ m 0).size) && agreeB l m r c)
theorem fits_impl {l m : List ByteArray} (hl : rowsB l (5 : Nat) = true) (hm : rowsB m (3 : Nat) = true) (hls : ∀ s ∈ l, s.size ≤ 1048576) (hms : ∀ s ∈ m, s.size ≤ 1048576) (r c : Nat) (hr : r < 5) (hc : c < 5) :
    GiFits.P l m (r : Int) (c : Int) = some (fitB l m r c) := by
  obtain ⟨a1, a2, a3, a4, a5⟩ := rowsB_parts hl
  obtain ⟨b1, b2, b3, b4, b5⟩ := rowsB_parts hm
  obtain ⟨x, hx, hxi, hdx⟩ := at_row (l := l) (k := 0) (by omega)
  obtain ⟨y, hy, hyi, hdy⟩ := at_row (l := m) (k := 0) (by omega)
  have ex : (rw_ l 0).size = x.size := by rw [show rw_ l 0 = x from hdx]
  have ey : (rw_ m 0).size = y.size := by rw [show rw_ m 0 = y from hdy]
  simp only [Int.ofNat_zero] at hxi hyi
  simp only [GiFits.P, within_eq, Option.bind_some, letK, joinK, appK, iteK_if, fitB]
  rw [wrap_in (x := (l.length : Int) - m.length) (by omega) (by omega)]
  cases inB (r : Int) 0 ((l.length : Int) - m.length) with
  | false => simp
  | true =>
    have hxi' : idx l 0 = some x := hxi
    have hyi' : idx m 0 = some y := hyi
    simp only [if_true, hxi', hyi', Option.bind_some, Bool.true_and]
    rw [wrap_in (x := (x.size : Int) - y.size) (by omega) (by omega), ex, ey]
    cases inB (c : Int) 0 ((x.size : Int) - y.size) with
    | false => simp
    | true => simp [agree_eq l m r c (by omega) hls (by omega) hms (by omega) (by omega)]
theorem okp_is (x y : Int) : okp x y = !((y != 46) && ((x != 46) && (y != x))) := by
  unfold okp
  by_cases h1 : x = 46
  · simp [h1]
  · by_cases h2 : y = 46
    · simp [h2]
    · by_cases h3 : x = y
      · simp [h3]
      · have e1 : (x == 46) = false := by simpa using h1
        have e2 : (y == 46) = false := by simpa using h2
        have e3 : (x == y) = false := by simpa using h3
        have e4 : (y == x) = false := by simpa using fun h : y = x => h3 h.symm
        simp [bne, e1, e2, e3, e4]
theorem fits_spec {l m : List ByteArray} (hl : rowsB l (5 : Nat) = true) (hm : rowsB m (3 : Nat) = true) (r c : Nat) (hr : r < 5) (hc : c < 5) (fuel : Nat) (hf : 10 ≤ fuel) :
    GsL4Fits.P fuel l m (r : Int) (c : Int) = some (fitB l m r c) := by
  obtain ⟨a1, a2, a3, a4, a5⟩ := rowsB_parts hl
  obtain ⟨b1, b2, b3, b4, b5⟩ := rowsB_parts hm
  obtain ⟨x, hx, hxi, hdx⟩ := at_row (l := l) (k := 0) (by omega)
  obtain ⟨y, hy, hyi, hdy⟩ := at_row (l := m) (k := 0) (by omega)
  have ex : (rw_ l 0).size = x.size := by rw [show rw_ l 0 = x from hdx]
  have ey : (rw_ m 0).size = y.size := by rw [show rw_ m 0 = y from hdy]
  have hxi' : idx l 0 = some x := hxi
  have hyi' : idx m 0 = some y := hyi
  have n1 : ¬ ((r : Int) < 0) := by omega
  have n2 : ¬ ((c : Int) < 0) := by omega
  simp only [GsL4Fits.P, letK, joinK, appK, iteK_if, fitB, n1, n2, decide_false, Bool.false_eq_true, if_false, hxi', hyi', Option.bind_some]
  rw [wrap_in (x := (l.length : Int) - m.length) (by omega) (by omega), wrap_in (x := (x.size : Int) - y.size) (by omega) (by omega), ex, ey]
  by_cases h1 : (r : Int) ≤ (l.length : Int) - m.length
  · by_cases h2 : (c : Int) ≤ (x.size : Int) - y.size
    · have e1 : inB (r : Int) 0 ((l.length : Int) - m.length) = true := inB_yes (by omega) h1
      have e2 : inB (c : Int) 0 ((x.size : Int) - y.size) = true := inB_yes (by omega) h2
      simp only [e1, e2, Bool.true_and, show ¬ ((l.length : Int) - m.length < r) by omega, show ¬ ((x.size : Int) - y.size < c) by omega, decide_false, Bool.false_eq_true, if_false]
      rw [all_lp (n := m.length) (p := fun i => allN (rw_ m i).size fun j => okp (see l ((r : Int) + i) ((c : Int) + j)) ((ch (rw_ m i) j).toNat : Int)) (no := false)]
      · show (if agreeB l m r c = true then _ else _) = _
        cases agreeB l m r c <;> simp [GsL4Fits.e0, letK]
      · intro i nx hi
        obtain ⟨u, hu, hui, hdu⟩ := at_row (l := m) (k := i) hi
        obtain ⟨v, hv, hvi, hdv⟩ := at_row (l := l) (k := r + i) (by omega)
        have su : (rw_ m i).size = u.size := by rw [show rw_ m i = u from hdu]
        have sv : (rw_ l (r + i)).size = v.size := by rw [show rw_ l (r + i) = v from hdv]
        have c1 := b5 i hi
        have c2 := a5 (r + i) (by omega)
        have hlt0 : (i : Int) < (m.length : Int) := by omega
        simp only [GsL4Fits.l0, letK, hlt0, decide_true, iteK_if, if_true]
        rw [all_lp (n := u.size) (p := fun j => okp (see l ((r : Int) + i) ((c : Int) + j)) ((ch (rw_ m i) j).toNat : Int)) (no := false)]
        · rw [show rw_ m i = u from hdu]
          simp only [GsL4Fits.e1, letK, appK]
          rw [next_i (by omega)]
          exact ⟨fun h => by rw [if_neg (by rw [h]; simp)], fun h => by rw [if_pos h]⟩
        · intro j nx2 hj
          obtain ⟨p, hp, hpi, hdp⟩ := at_list (s := u) (k := j) hj
          obtain ⟨q, hq, hqi, hdq⟩ := at_list (s := v) (k := c + j) (by omega)
          have hlt1 : (j : Int) < (u.size : Int) := by omega
          have es : see l ((r : Int) + i) ((c : Int) + j) = (q.toNat : Int) := by
            have := see_in (l := l) (i := r + i) (j := c + j) (by omega) (by rw [sv]; omega)
            rw [show rw_ l (r + i) = v from hdv, show ch v (c + j) = q from hdq] at this
            rw [← this]
            congr 1
          have ep : ch (rw_ m i) j = p := by rw [show rw_ m i = u from hdu]; exact hdp
          simp only [GsL4Fits.l1, letK, hui, Option.bind_some, hlt1, decide_true, iteK_if, if_true, hpi]
          rw [wrap_in (x := (r : Int) + i) (by omega) (by omega), wrap_in (x := (c : Int) + j) (by omega) (by omega), show (r : Int) + i = ((r + i : Nat) : Int) by omega, show (c : Int) + j = ((c + j : Nat) : Int) by omega]
          rw [show ((r + i : Nat) : Int) = (r : Int) + i by omega, show ((c + j : Nat) : Int) = (c : Int) + j by omega, es, ep, okp_is]
          have hvi' : idx l ((r : Int) + i) = some v := by rw [show (r : Int) + i = ((r + i : Nat) : Int) by omega]; exact hvi
          have hqi' : idx v.toList ((c : Int) + j) = some q := by rw [show (c : Int) + j = ((c + j : Nat) : Int) by omega]; exact hqi
          simp only [hvi', hqi', Option.bind_some, joinK, appK]
          rw [next_i (by omega)]
          cases h1 : ((p.toNat : Int) != 46) <;> cases h2 : ((q.toNat : Int) != 46) <;> cases h3 : ((p.toNat : Int) != (q.toNat : Int)) <;> simp
        · intro nx2
          simp [GsL4Fits.l1, letK, hui, appK, iteK_if]
        · omega
      · intro nx
        simp [GsL4Fits.l0, letK, appK, iteK_if]
      · omega
    · have e2 : inB (c : Int) 0 ((x.size : Int) - y.size) = false := inB_no (by omega)
      simp [e2, show ¬ ((l.length : Int) - m.length < r) by omega, show ((x.size : Int) - y.size < c) by omega]
  · have e1 : inB (r : Int) 0 ((l.length : Int) - m.length) = false := inB_no (by omega)
    simp [e1, show ((l.length : Int) - m.length < r) by omega]
end Go.Proofs.Ytaepibmmpdfjcaa.Q4Fits

/- Blocks that are laid on sheets: the plain functions of the program and of the reference agree, and the law answers true. (Q4Lay) No condition but those of each theorem. -/
namespace Go.Proofs.Ytaepibmmpdfjcaa.Q4Lay
set_option linter.unusedVariables false
set_option linter.unusedSimpArgs false
open Go.RowKit
open Go.Proofs.Ytaepibmmpdfjcaa.GoP Go.Proofs.Ytaepibmmpdfjcaa.PlainStamp Go.Proofs.Ytaepibmmpdfjcaa.QBase Go.Proofs.Ytaepibmmpdfjcaa.QUp Go.Proofs.Ytaepibmmpdfjcaa.QByte Go.Proofs.Ytaepibmmpdfjcaa.Q4Fits Go.Proofs.Ytaepibmmpdfjcaa.Q4See Go.Proofs.Ytaepibmmpdfjcaa.QSheet Go.Proofs.Ytaepibmmpdfjcaa.QStrs Go.Proofs.Ytaepibmmpdfjcaa.QLoop

theorem strK_toI (l : List UInt8) : Go.Proofs.Ytaepibmmpdfjcaa.GoB.strK (toI l) = bs l := by
  unfold Go.Proofs.Ytaepibmmpdfjcaa.GoB.strK toI bs
  rw [List.map_map]
  have : ((fun z : Int => UInt8.ofNat z.toNat) ∘ fun b : UInt8 => (b.toNat : Int)) = id := by
    funext b; simp
  rw [this, List.map_id]
theorem map_range_at {α : Type} (f : Nat → α) {n k : Nat} (h : k < n) : ((List.range n).map f)[k]? = some (f k) := by simp [h]
theorem set_map_range {α : Type} (f : Nat → α) (n p : Nat) (v : α) : ((List.range n).map f).set p v = (List.range n).map fun k => if k = p then v else f k := by
  apply List.ext_getElem?
  intro k
  by_cases hk : k < n
  · rw [map_range_at _ hk]
    by_cases hp : k = p
    · subst hp; rw [List.getElem?_set_self (by simpa using hk)]; simp
    · rw [List.getElem?_set_ne (fun e => hp e.symm), map_range_at _ hk]; simp [hp]
  · rw [List.getElem?_eq_none (by simp; omega), List.getElem?_eq_none (by simp; omega)]
theorem map_ch (s : ByteArray) : (List.range s.size).map (ch s) = s.toList := by
  apply List.ext_getElem?
  intro k
  by_cases hk : k < s.size
  · obtain ⟨b, hb, _, hd⟩ := at_list hk
    rw [map_range_at _ hk, hb]
    exact congrArg some hd
  · rw [List.getElem?_eq_none (by simp; omega), List.getElem?_eq_none (by rw [toList_size]; omega)]
theorem map_rw (l : List ByteArray) : (List.range l.length).map (rw_ l) = l := by
  apply List.ext_getElem?
  intro k
  by_cases hk : k < l.length
  · obtain ⟨b, hb, _, hd⟩ := at_row hk
    rw [map_range_at _ hk, hb]
    exact congrArg some hd
  · rw [List.getElem?_eq_none (by simp; omega), List.getElem?_eq_none (by omega)]
/-- a row with a block's row over its points -/
def cellS (l m : List ByteArray) (r c i k : Nat) : UInt8 := if ((r ≤ i ∧ i < r + m.length) ∧ c ≤ k ∧ k < c + (rw_ m 0).size) ∧ ch (rw_ l i) k = 46 then ch (rw_ m (i - r)) (k - c) else ch (rw_ l i) k
def rowS (l m : List ByteArray) (r c i : Nat) : List UInt8 := (List.range (rw_ l 0).size).map (cellS l m r c i)
def lay (l m : List ByteArray) (r c : Nat) : List ByteArray := (List.range l.length).map fun i => bs (rowS l m r c i)
def cellI (l m : List ByteArray) (r c i j k : Nat) : UInt8 := if (c ≤ k ∧ k < c + j) ∧ ch (rw_ m (i - r)) (k - c) ≠ 46 then ch (rw_ m (i - r)) (k - c) else ch (rw_ l i) k
def rowI (l m : List ByteArray) (r c i j : Nat) : List UInt8 := (List.range (rw_ l 0).size).map (cellI l m r c i j)
theorem cell_same {l m : List ByteArray} (hl : rowsB l (5 : Nat) = true) (hm : rowsB m (3 : Nat) = true) {r c : Nat} (hr : r + m.length ≤ l.length) (hc : c + (rw_ m 0).size ≤ (rw_ l 0).size) (ha : agreeB l m (r : Int) (c : Int) = true) {i : Nat} (hi : r ≤ i ∧ i < r + m.length) : rowI l m r c i (rw_ m 0).size = rowS l m r c i := by
  obtain ⟨a1, a2, a3, a4, a5⟩ := rowsB_parts hl
  obtain ⟨b1, b2, b3, b4, b5⟩ := rowsB_parts hm
  unfold rowI rowS
  apply List.map_congr_left
  intro k hk
  rw [List.mem_range] at hk
  unfold cellI cellS
  by_cases hin : c ≤ k ∧ k < c + (rw_ m 0).size
  · have h1 := allN_iff.1 ha (i - r) (by omega)
    have h2 := allN_iff.1 h1 (k - c) (by rw [b5 (i - r) (by omega)]; omega)
    have hs := see_in (l := l) (i := i) (j := k) (by omega) (by rw [a5 i (by omega)]; omega)
    rw [show (r : Int) + ((i - r : Nat) : Int) = (i : Int) by omega, show (c : Int) + ((k - c : Nat) : Int) = (k : Int) by omega, hs] at h2
    generalize ch (rw_ l i) k = x at h2 ⊢
    generalize ch (rw_ m (i - r)) (k - c) = y at h2 ⊢
    unfold okp at h2
    have e46 : ∀ z : UInt8, ((z.toNat : Int) == 46) = (z == 46) := fun z => byte_eq z 46
    rw [e46, e46, byte_eq] at h2
    by_cases hy : y = 46
    · by_cases hx : x = 46
      · simp [hx, hy]
      · simp [hx, hy]
    · by_cases hx : x = 46
      · simp [hx, hy, hin, hi]
      · have hxy : x = y := by simpa [hx, hy] using h2
        simp [hxy, hy]
  · rw [if_neg (fun h => hin h.1), if_neg (fun h => hin h.1.2)]
theorem lay_impl {l m : List ByteArray} (hl : rowsB l (5 : Nat) = true) (hm : rowsB m (3 : Nat) = true) {r c : Nat} (hr : r + m.length ≤ l.length) (hc : c + (rw_ m 0).size ≤ (rw_ l 0).size) (ha : agreeB l m (r : Int) (c : Int) = true) : GiLaidOn.P l m (r : Int) (c : Int) = some (lay l m r c) := by
  obtain ⟨a1, a2, a3, a4, a5⟩ := rowsB_parts hl
  obtain ⟨b1, b2, b3, b4, b5⟩ := rowsB_parts hm
  have hcl : GxSlicesCloneStringString.P l = some l := by
    simp only [GxSlicesCloneStringString.P, Go.Proofs.Ytaepibmmpdfjcaa.GoK.nilK, iteK_if, letK]
    rw [if_neg (by simp), guardK_pos (by simp; omega)]; simp
  simp only [GiLaidOn.P, hcl, Option.bind_some]
  refine cnt_is _ (fun k0 s => s = (List.range l.length).map fun i => if r ≤ i ∧ i < r + k0 then bs (rowI l m r c i (rw_ m 0).size) else rw_ l i) ?_ ?_ l ?_
  · rintro k0 s nx hk0 rfl hn
    obtain ⟨y, hy, hyi, hyd⟩ := at_row hk0
    have hys : y.size = (rw_ m 0).size := by rw [← b5 k0 hk0]; exact congrArg ByteArray.size hyd.symm
    have w1 := wrap_in (x := (r : Int) + (k0 : Int)) (by omega) (by omega)
    have hline : idx ((List.range l.length).map fun i => if r ≤ i ∧ i < r + k0 then bs (rowI l m r c i (rw_ m 0).size) else rw_ l i) ((r : Int) + (k0 : Int)) = some (rw_ l (r + k0)) := by
      rw [show (r : Int) + (k0 : Int) = ((r + k0 : Nat) : Int) by omega, idx_nat, map_range_at _ (by omega), if_neg (by omega)]
    have hxs : (rw_ l (r + k0)).size = (rw_ l 0).size := a5 (r + k0) (by omega)
    simp only [GiLaidOn.l0, letK, hyi, Option.bind_some, w1, hline]
    rw [guardK_pos (by omega), guardK_pos (by omega)]
    refine cnt_is _ (fun j s => s = toI (rowI l m r c (r + k0) j)) ?_ ?_ _ ?_
    · rintro j s nx2 hj rfl hn2
      obtain ⟨b, hb, hbi, hbd⟩ := at_list hj
      have w2 := wrap_in (x := (c : Int) + (j : Int)) (by omega) (by omega)
      have hch : ch (rw_ m (r + k0 - r)) (c + j - c) = b := by
        rw [show r + k0 - r = k0 by omega, show c + j - c = j by omega, show rw_ m k0 = y from hyd]; exact hbd
      have n46 : ((b.toNat : Int) != 46) = !(b == 46) := by rw [← byte_eq b 46]; rfl
      have hlen : (toI (rowI l m r c (r + k0) j)).length = (rw_ l 0).size := by simp [toI, rowI]
      simp only [GiLaidOn.l1, letK, hbi, Option.bind_some, iteK_if, n46, w2, appK]
      have hnext : ∀ k, cellI l m r c (r + k0) (j + 1) k = if k = c + j ∧ b ≠ 46 then b else cellI l m r c (r + k0) j k := by
        intro k
        unfold cellI
        by_cases hk : k = c + j
        · subst hk
          rw [hch, if_neg (show ¬ ((c ≤ c + j ∧ c + j < c + j) ∧ b ≠ 46) by omega)]
          by_cases h46 : b = 46
          · rw [if_neg (fun h => h.2 h46), if_neg (fun h => h.2 h46)]
          · rw [if_pos ⟨by omega, h46⟩, if_pos ⟨rfl, h46⟩]
        · rw [if_neg (show ¬ (k = c + j ∧ b ≠ 46) from fun h => hk h.1)]
          by_cases h1 : c ≤ k ∧ k < c + j
          · by_cases h2 : ch (rw_ m (r + k0 - r)) (k - c) ≠ 46
            · rw [if_pos ⟨by omega, h2⟩, if_pos ⟨h1, h2⟩]
            · rw [if_neg (fun h => h2 h.2), if_neg (fun h => h2 h.2)]
          · rw [if_neg (fun h => h1 (by omega)), if_neg (fun h => h1 h.1)]
      cases h46 : (b == 46) with
      | true =>
        have hb46 : b = 46 := by simpa using h46
        simp only [Bool.not_true, Bool.false_eq_true, if_false]
        refine hn2 _ ?_
        congr 1
        unfold rowI
        apply List.map_congr_left
        intro k _
        rw [hnext, if_neg (fun h => h.2 hb46)]
      | false =>
        have hb46 : b ≠ 46 := by simpa using h46
        have hat : idx (toI (rowI l m r c (r + k0) j)) ((c : Int) + (j : Int)) = some (((rowI l m r c (r + k0) j)[c + j]'(by unfold rowI; rw [List.length_map, List.length_range]; omega)).toNat : Int) := by
          rw [show (c : Int) + (j : Int) = ((c + j : Nat) : Int) by omega, idx_nat]
          unfold toI
          rw [List.getElem?_map, List.getElem?_eq_getElem (by unfold rowI; rw [List.length_map, List.length_range]; omega)]; rfl
        simp only [Bool.not_false, if_true, hat, Option.bind_some]
        refine hn2 _ ?_
        rw [show Int.toNat ((c : Int) + (j : Int)) = c + j by omega]
        unfold toI
        rw [← List.map_set]
        congr 1
        unfold rowI
        rw [set_map_range]
        apply List.map_congr_left
        intro k _
        rw [hnext]
        by_cases hk : k = c + j
        · rw [if_pos hk, if_pos ⟨hk, hb46⟩]
        · rw [if_neg hk, if_neg (fun h => hk h.1)]
    · rintro s rfl
      have hset : idx ((List.range l.length).map fun i => if r ≤ i ∧ i < r + k0 then bs (rowI l m r c i (rw_ m 0).size) else rw_ l i) ((r : Int) + (k0 : Int)) = some (rw_ l (r + k0)) := hline
      simp only [GiLaidOn.e1, letK, w1, strK_toI, hset, Option.bind_some, appK, hys]
      refine hn _ ?_
      rw [show Int.toNat ((r : Int) + (k0 : Int)) = r + k0 by omega, set_map_range]
      apply List.map_congr_left
      intro i _
      by_cases hi : i = r + k0
      · subst hi
        rw [if_pos rfl, if_pos (by omega)]
      · rw [if_neg hi]
        by_cases h1 : r ≤ i ∧ i < r + k0
        · rw [if_pos h1, if_pos (by omega)]
        · rw [if_neg h1, if_neg (by omega)]
    · unfold toI rowI
      rw [← map_ch (rw_ l (r + k0)), hxs]
      congr 1
      apply List.map_congr_left
      intro k _
      unfold cellI
      rw [if_neg (by omega)]
  · rintro s rfl
    simp only [GiLaidOn.e0, letK]
    congr 1
    unfold lay
    apply List.map_congr_left
    intro i hi
    rw [List.mem_range] at hi
    by_cases h1 : r ≤ i ∧ i < r + m.length
    · rw [if_pos h1, cell_same hl hm hr hc ha h1]
    · rw [if_neg h1]
      have : rowS l m r c i = (rw_ l i).toList := by
        rw [← map_ch, a5 i hi]
        unfold rowS
        apply List.map_congr_left
        intro k _
        unfold cellS
        rw [if_neg (fun h => h1 h.1.1)]
      rw [this, bs_of]
  · have : (fun i => if r ≤ i ∧ i < r + 0 then bs (rowI l m r c i (rw_ m 0).size) else rw_ l i) = rw_ l := by
      funext i; rw [if_neg (by omega)]
    rw [this, map_rw]
end Go.Proofs.Ytaepibmmpdfjcaa.Q4Lay

/- Blocks that are laid on sheets: the plain functions of the program and of the reference agree, and the law answers true. (Q4LayS) No condition but those of each theorem. -/
namespace Go.Proofs.Ytaepibmmpdfjcaa.Q4LayS
set_option linter.unusedVariables false
set_option linter.unusedSimpArgs false
open Go.RowKit
open Go.Proofs.Ytaepibmmpdfjcaa.GoP Go.Proofs.Ytaepibmmpdfjcaa.PlainStamp Go.Proofs.Ytaepibmmpdfjcaa.QBase Go.Proofs.Ytaepibmmpdfjcaa.Q4Lay Go.Proofs.Ytaepibmmpdfjcaa.QUp Go.Proofs.Ytaepibmmpdfjcaa.QByte Go.Proofs.Ytaepibmmpdfjcaa.Q4Fits Go.Proofs.Ytaepibmmpdfjcaa.Q4See Go.Proofs.Ytaepibmmpdfjcaa.QSheet Go.Proofs.Ytaepibmmpdfjcaa.QStrs Go.Proofs.Ytaepibmmpdfjcaa.QLoop

theorem cut_one {s : ByteArray} {k : Nat} (h : k < s.size) : s.extract k (k + 1) = bs [ch s k] := by
  obtain ⟨b, hb, _, hd⟩ := at_list h
  have h1 : (bs s.toList).extract k (k + 1) = bs [b] := by
    rw [bs_cut, take_next hb, List.drop_left' (by rw [List.length_take, toList_size]; omega)]
  rw [bs_of] at h1
  rw [h1, show ch s k = b from hd]
theorem lay_spec {l m : List ByteArray} (hl : rowsB l (5 : Nat) = true) (hm : rowsB m (3 : Nat) = true) {r c : Nat} (hr : r + m.length ≤ l.length) (hc : c + (rw_ m 0).size ≤ (rw_ l 0).size) (fuel : Nat) (hf : 10 ≤ fuel) : GsL4Lay.P fuel l m (r : Int) (c : Int) = some (lay l m r c) := by
  obtain ⟨a1, a2, a3, a4, a5⟩ := rowsB_parts hl
  obtain ⟨b1, b2, b3, b4, b5⟩ := rowsB_parts hm
  obtain ⟨m0, hm0, hm0i, hm0d⟩ := at_row (l := m) (k := 0) (by omega)
  have hm0i' : idx m 0 = some m0 := hm0i
  have em0 : m0.size = (rw_ m 0).size := congrArg ByteArray.size hm0d.symm
  have hw0 := wrap_in (x := (m.length : Int) - 1) (by omega) (by omega)
  have hw00 := wrap_in (x := (m0.size : Int) - 1) (by omega) (by omega)
  have hlay : (lay l m r c).length = l.length := by simp [lay]
  simp only [GsL4Lay.P]
  refine cnt_is _ (fun i s => s = (lay l m r c).take i) ?_ ?_ [] rfl
  · rintro i s nx hi rfl hn
    obtain ⟨x, hx, hxi, hxd⟩ := at_row hi
    have hxs : x.size = (rw_ l 0).size := by rw [← a5 i hi]; exact congrArg ByteArray.size hxd.symm
    have hrow : (rowS l m r c i).length = (rw_ l 0).size := by unfold rowS; rw [List.length_map, List.length_range]
    have hlayi : (lay l m r c)[i]? = some (bs (rowS l m r c i)) := by unfold lay; rw [map_range_at _ hi]
    simp only [GsL4Lay.l0, letK]
    refine lp_is (n := (rw_ l 0).size) _ (fun k (s : ByteArray × Int) => s = (bs ((rowS l m r c i).take k), (k : Int))) ?_ ?_ fuel 0 _ (by omega) (by omega) rfl
    · rintro k s nx2 hk rfl hn2
      have hcell : (rowS l m r c i)[k]? = some (cellS l m r c i k) := by unfold rowS; rw [map_range_at _ hk]
      have hchx : ch (rw_ l i) k = ch x k := by rw [show rw_ l i = x from hxd]
      have w1 := wrap_in (x := (k : Int) + 1) (by omega) (by omega)
      have w2 := wrap_in (x := (i : Int) - (r : Int)) (by omega) (by omega)
      have w3 := wrap_in (x := (k : Int) - (c : Int)) (by omega) (by omega)
      have w4 := wrap_in (x := (k : Int) - (c : Int) + 1) (by omega) (by omega)
      have hcut := cut_one (s := x) (k := k) (by omega)
      have hone : ∀ b : UInt8, (bs [b]).size = 1 := fun b => bs_size _
      have htk : (bs ((rowS l m r c i).take k)).size ≤ 5 := by rw [bs_size, List.length_take]; omega
      have fin : ∀ b : UInt8, b = cellS l m r c i k → GsL4Lay.j0 nx2 (bs ((rowS l m r c i).take k)) (k : Int) (bs [b]) = some (lay l m r c) := by
        intro b hb
        simp only [GsL4Lay.j0, letK, w1, appK]
        rw [guardK_pos (by rw [hone]; unfold maxLen; omega), bs_app]
        refine hn2 _ ?_
        rw [take_next hcell, hb]; rfl
      have hlt : (k : Int) < (x.size : Int) := by omega
      simp only [GsL4Lay.l1, unp2, letK, hxi, Option.bind_some, decide_eq_true hlt, iteK_if, if_true, w1, w2, hw0, l1In_eq]
      rw [guardK_pos (by omega), show Int.toNat (k : Int) = k by omega, show Int.toNat ((k : Int) + 1) = k + 1 by omega, hcut]
      simp only [joinK, appK]
      by_cases h1 : r ≤ i ∧ i < r + m.length
      · have e1 : inB ((i : Int) - (r : Int)) 0 ((m.length : Int) - 1) = true := inB_yes (by omega) (by omega)
        simp only [e1, if_true, w3, hm0i', Option.bind_some, hw00, l1In_eq]
        by_cases h2 : c ≤ k ∧ k < c + (rw_ m 0).size
        · have e2 : inB ((k : Int) - (c : Int)) 0 ((m0.size : Int) - 1) = true := inB_yes (by omega) (by omega)
          simp only [e2, if_true]
          have e46 : ((bs [ch x k]).toList == (⟨#[46]⟩ : ByteArray).toList) = (ch x k == 46) := by
            rw [show (⟨#[46]⟩ : ByteArray) = bs [46] from rfl, bs_list, bs_list, Bool.eq_iff_iff]
            simp
          rw [e46]
          cases h46 : (ch x k == 46) with
          | true =>
            have hx46 : ch x k = 46 := by simpa using h46
            obtain ⟨y, hy, hyi, hyd⟩ := at_row (l := m) (k := i - r) (by omega)
            have hys : y.size = (rw_ m 0).size := by rw [← b5 (i - r) (by omega)]; exact congrArg ByteArray.size hyd.symm
            have hyi' : idx m ((i : Int) - (r : Int)) = some y := by rw [show (i : Int) - (r : Int) = ((i - r : Nat) : Int) by omega]; exact hyi
            simp only [if_true, hyi', Option.bind_some, w4]
            rw [guardK_pos (by omega), show Int.toNat ((k : Int) - (c : Int)) = k - c by omega, show Int.toNat ((k : Int) - (c : Int) + 1) = (k - c) + 1 by omega, cut_one (s := y) (k := k - c) (by omega)]
            refine fin _ ?_
            unfold cellS
            rw [if_pos ⟨⟨h1, h2⟩, by rw [hchx]; exact hx46⟩, show rw_ m (i - r) = y from hyd]
          | false =>
            have hx46 : ¬ ch x k = 46 := by simpa using h46
            simp only [Bool.false_eq_true, if_false]
            refine fin _ ?_
            unfold cellS
            rw [if_neg (fun h => hx46 (by rw [← hchx]; exact h.2)), hchx]
        · have e2 : inB ((k : Int) - (c : Int)) 0 ((m0.size : Int) - 1) = false := inB_no (by omega)
          simp only [e2, Bool.false_eq_true, if_false]
          refine fin _ ?_
          unfold cellS
          rw [if_neg (fun h => h2 h.1.2), hchx]
      · have e1 : inB ((i : Int) - (r : Int)) 0 ((m.length : Int) - 1) = false := inB_no (by omega)
        simp only [e1, Bool.false_eq_true, if_false]
        refine fin _ ?_
        unfold cellS
        rw [if_neg (fun h => h1 h.1.1), hchx]
    · rintro s nx2 rfl
      have hnlt : ¬ (((rw_ l 0).size : Nat) : Int) < (x.size : Int) := by omega
      simp only [GsL4Lay.l1, unp2, letK, hxi, Option.bind_some, decide_eq_false hnlt, iteK_if, Bool.false_eq_true, if_false, appK, GsL4Lay.e1]
      have hfull : (rowS l m r c i).take (rw_ l 0).size = rowS l m r c i := List.take_of_length_le (by omega)
      rw [hfull, guardK_pos (by rw [List.length_take]; omega)]
      exact hn _ (take_next hlayi).symm
  · rintro s rfl
    simp only [GsL4Lay.e0, letK]
    have hfull : (lay l m r c).take l.length = lay l m r c := List.take_of_length_le (by omega)
    rw [hfull]
end Go.Proofs.Ytaepibmmpdfjcaa.Q4LayS

/- Blocks that are laid on sheets: the plain functions of the program and of the reference agree, and the law answers true. (Q4LayB) No condition but those of each theorem. -/
namespace Go.Proofs.Ytaepibmmpdfjcaa.Q4LayB
set_option linter.unusedVariables false
set_option linter.unusedSimpArgs false
open Go.RowKit
open Go.Proofs.Ytaepibmmpdfjcaa.GoP Go.Proofs.Ytaepibmmpdfjcaa.PlainStamp Go.Proofs.Ytaepibmmpdfjcaa.QBase Go.Proofs.Ytaepibmmpdfjcaa.Q4LayS Go.Proofs.Ytaepibmmpdfjcaa.Q4Lay Go.Proofs.Ytaepibmmpdfjcaa.QUp Go.Proofs.Ytaepibmmpdfjcaa.QByte Go.Proofs.Ytaepibmmpdfjcaa.Q4Fits Go.Proofs.Ytaepibmmpdfjcaa.Q4See Go.Proofs.Ytaepibmmpdfjcaa.QSheet Go.Proofs.Ytaepibmmpdfjcaa.QStrs Go.Proofs.Ytaepibmmpdfjcaa.QLoop

theorem fits_impl_all {l m : List ByteArray} (hl : rowsB l (5 : Nat) = true) (hm : rowsB m (3 : Nat) = true) (hls : ∀ s ∈ l, s.size ≤ 1048576) (hms : ∀ s ∈ m, s.size ≤ 1048576) (r c : Int) : GiFits.P l m r c = some (fitB l m r c) := by
  obtain ⟨a1, a2, a3, a4, a5⟩ := rowsB_parts hl
  obtain ⟨b1, b2, b3, b4, b5⟩ := rowsB_parts hm
  obtain ⟨x, hx, hxi, hdx⟩ := at_row (l := l) (k := 0) (by omega)
  obtain ⟨y, hy, hyi, hdy⟩ := at_row (l := m) (k := 0) (by omega)
  have ex : (rw_ l 0).size = x.size := by rw [show rw_ l 0 = x from hdx]
  have ey : (rw_ m 0).size = y.size := by rw [show rw_ m 0 = y from hdy]
  have hxi' : idx l 0 = some x := hxi
  have hyi' : idx m 0 = some y := hyi
  by_cases hrc : (0 ≤ r ∧ r < 5) ∧ (0 ≤ c ∧ c < 5)
  · have := fits_impl hl hm hls hms r.toNat c.toNat (by omega) (by omega)
    rw [show ((r.toNat : Nat) : Int) = r by omega, show ((c.toNat : Nat) : Int) = c by omega] at this
    exact this
  · simp only [GiFits.P, within_eq, Option.bind_some, letK, joinK, appK, iteK_if, fitB]
    rw [wrap_in (x := (l.length : Int) - m.length) (by omega) (by omega)]
    cases h1 : inB r 0 ((l.length : Int) - m.length) with
    | false => simp
    | true =>
      have h1' := inB_pos h1
      have h2 : inB c 0 ((x.size : Int) - y.size) = false := inB_no (by omega)
      simp only [if_true, hxi', hyi', Option.bind_some, Bool.true_and]
      rw [wrap_in (x := (x.size : Int) - y.size) (by omega) (by omega), ex, ey, h2]
      simp
theorem fits_spec_all {l m : List ByteArray} (hl : rowsB l (5 : Nat) = true) (hm : rowsB m (3 : Nat) = true) (r c : Int) (fuel : Nat) (hf : 10 ≤ fuel) : GsL4Fits.P fuel l m r c = some (fitB l m r c) := by
  obtain ⟨a1, a2, a3, a4, a5⟩ := rowsB_parts hl
  obtain ⟨b1, b2, b3, b4, b5⟩ := rowsB_parts hm
  obtain ⟨x, hx, hxi, hdx⟩ := at_row (l := l) (k := 0) (by omega)
  obtain ⟨y, hy, hyi, hdy⟩ := at_row (l := m) (k := 0) (by omega)
  have ex : (rw_ l 0).size = x.size := by rw [show rw_ l 0 = x from hdx]
  have ey : (rw_ m 0).size = y.size := by rw [show rw_ m 0 = y from hdy]
  have hxi' : idx l 0 = some x := hxi
  have hyi' : idx m 0 = some y := hyi
  by_cases hrc : (0 ≤ r ∧ r < 5) ∧ (0 ≤ c ∧ c < 5)
  · have := fits_spec hl hm r.toNat c.toNat (by omega) (by omega) fuel hf
    rw [show ((r.toNat : Nat) : Int) = r by omega, show ((c.toNat : Nat) : Int) = c by omega] at this
    exact this
  · have hfalse : fitB l m r c = false := by
      unfold fitB
      cases h1 : inB r 0 ((l.length : Int) - m.length) with
      | false => rfl
      | true =>
        have h1' := inB_pos h1
        rw [inB_no (by omega)]; rfl
    rw [hfalse]
    simp only [GsL4Fits.P, letK, joinK, appK, iteK_if, hxi', hyi', Option.bind_some]
    rw [wrap_in (x := (l.length : Int) - m.length) (by omega) (by omega), wrap_in (x := (x.size : Int) - y.size) (by omega) (by omega)]
    by_cases n1 : r < 0
    · simp [n1]
    · by_cases n2 : (l.length : Int) - m.length < r
      · simp [n1, n2]
      · by_cases n3 : c < 0
        · simp [n1, n2, n3]
        · have n4 : (x.size : Int) - y.size < c := by omega
          simp [n1, n2, n3, n4]
def layRes (l m : List ByteArray) (r c : Int) : List ByteArray × Bool := if (rowsB l (5 : Nat) && (rowsB m (3 : Nat) && fitB l m r c)) = true then (lay l m r.toNat c.toNat, true) else ([], false)
theorem layRes_len (l m : List ByteArray) (r c : Int) : (layRes l m r c).1.length ≤ 5 := by
  unfold layRes
  split
  · rename_i h
    simp only [Bool.and_eq_true] at h
    obtain ⟨a1, a2, _⟩ := rowsB_parts h.1
    unfold lay
    rw [List.length_map, List.length_range]; omega
  · simp
theorem fit_parts {l m : List ByteArray} {r c : Int} (hl : rowsB l (5 : Nat) = true) (hm : rowsB m (3 : Nat) = true) (h : fitB l m r c = true) : ((r.toNat : Nat) : Int) = r ∧ ((c.toNat : Nat) : Int) = c ∧ r.toNat + m.length ≤ l.length ∧ c.toNat + (rw_ m 0).size ≤ (rw_ l 0).size ∧ agreeB l m r c = true := by
  unfold fitB at h
  simp only [Bool.and_eq_true] at h
  have h1 := inB_pos h.1
  have h2 := inB_pos h.2.1
  exact ⟨by omega, by omega, by omega, by omega, h.2.2⟩
theorem layB_impl (l m : List ByteArray) (hls : ∀ s ∈ l, s.size ≤ 1048576) (hms : ∀ s ∈ m, s.size ≤ 1048576) (r c : Int) : GiLayBlock.P l m r c = some (layRes l m r c) := by
  have h1 : GiIsSheet.P l = some (rowsB l (5 : Nat)) := by simp only [GiIsSheet.P, impl_eq l 5 hls, Option.bind_some]; rfl
  have h2 : GiIsBlock.P m = some (rowsB m (3 : Nat)) := by simp only [GiIsBlock.P, impl_eq m 3 hms, Option.bind_some]; rfl
  simp only [GiLayBlock.P, h1, h2, Option.bind_some, letK, joinK, appK, iteK_if, layRes]
  cases hl : rowsB l (5 : Nat) with
  | false => simp
  | true =>
    cases hm : rowsB m (3 : Nat) with
    | false => simp
    | true =>
      simp only [Bool.not_true, Bool.false_eq_true, if_false, fits_impl_all hl hm hls hms r c, Option.bind_some, Bool.true_and]
      cases hfi : fitB l m r c with
      | false => simp
      | true =>
        obtain ⟨e1, e2, e3, e4, e5⟩ := fit_parts hl hm hfi
        have := lay_impl hl hm (r := r.toNat) (c := c.toNat) e3 e4 (by rw [e1, e2]; exact e5)
        rw [e1, e2] at this
        simp [this]
theorem layB_spec (l m : List ByteArray) (hls : ∀ s ∈ l, s.size ≤ 1048576) (hms : ∀ s ∈ m, s.size ≤ 1048576) (r c : Int) (fuel : Nat) (hf : 1048577 ≤ fuel) : GsLayBlock.P fuel l m r c = some (layRes l m r c) := by
  have h1 : GsIsSheet.P fuel l = some (rowsB l (5 : Nat)) := by simp only [GsIsSheet.P, spec_eq l 5 fuel hf hls, Option.bind_some]; rfl
  have h2 : GsIsBlock.P fuel m = some (rowsB m (3 : Nat)) := by simp only [GsIsBlock.P, spec_eq m 3 fuel hf hms, Option.bind_some]; rfl
  simp only [GsLayBlock.P, h1, h2, Option.bind_some, letK, joinK, appK, iteK_if, layRes]
  cases hl : rowsB l (5 : Nat) with
  | false => simp
  | true =>
    cases hm : rowsB m (3 : Nat) with
    | false => simp
    | true =>
      simp only [Bool.not_true, Bool.false_eq_true, if_false, fits_spec_all hl hm r c fuel (by omega), Option.bind_some, Bool.true_and]
      cases hfi : fitB l m r c with
      | false => simp
      | true =>
        obtain ⟨e1, e2, e3, e4, e5⟩ := fit_parts hl hm hfi
        have := lay_spec hl hm (r := r.toNat) (c := c.toNat) e3 e4 fuel (by omega)
        rw [e1, e2] at this
        simp [this]
end Go.Proofs.Ytaepibmmpdfjcaa.Q4LayB

/- The named law of blocks: what is drawn is laid and read alike, a block that is laid takes points away, blocks agree from both sides. (Q4Less) No condition but those of each theorem. -/
namespace Go.Proofs.Ytaepibmmpdfjcaa.Q4Less
set_option linter.unusedVariables false
set_option linter.unusedSimpArgs false
open Go.RowKit
open Go.Proofs.Ytaepibmmpdfjcaa.GoP Go.Proofs.Ytaepibmmpdfjcaa.PlainStamp Go.Proofs.Ytaepibmmpdfjcaa.QBase Go.Proofs.Ytaepibmmpdfjcaa.Q4LayB Go.Proofs.Ytaepibmmpdfjcaa.Q4LayS Go.Proofs.Ytaepibmmpdfjcaa.Q4Lay Go.Proofs.Ytaepibmmpdfjcaa.QByte Go.Proofs.Ytaepibmmpdfjcaa.Q4Fits Go.Proofs.Ytaepibmmpdfjcaa.Q4See Go.Proofs.Ytaepibmmpdfjcaa.QSheet Go.Proofs.Ytaepibmmpdfjcaa.QStrs Go.Proofs.Ytaepibmmpdfjcaa.QLoop

theorem cell_pt {l m : List ByteArray} {r c i k : Nat} (h : cellS l m r c i k = 46) : ch (rw_ l i) k = 46 := by
  unfold cellS at h
  by_cases hp : ((r ≤ i ∧ i < r + m.length) ∧ c ≤ k ∧ k < c + (rw_ m 0).size) ∧ ch (rw_ l i) k = 46
  · exact hp.2
  · rw [if_neg hp] at h; exact h
theorem count_le {f g : Nat → UInt8} (h : ∀ k, f k = 46 → g k = 46) : ∀ n, ((List.range n).map f).count 46 ≤ ((List.range n).map g).count 46 := by
  intro n
  induction n with
  | zero => simp
  | succ n ih =>
    rw [List.range_succ, List.map_append, List.map_append, List.count_append, List.count_append]
    have : ([f n] : List UInt8).count 46 ≤ [g n].count 46 := by
      by_cases hf : f n = 46
      · rw [hf, h n hf]; exact Nat.le_refl _
      · simp [List.count_cons, hf]
    simp only [List.map_cons, List.map_nil]; omega
theorem lay_less {l m : List ByteArray} {r c : Nat} (hl : rowsB l (5 : Nat) = true) : ∀ k, k ≤ l.length → Go.Proofs.Ytaepibmmpdfjcaa.Q4Points.tot (lay l m r c) k ≤ Go.Proofs.Ytaepibmmpdfjcaa.Q4Points.tot l k := by
  obtain ⟨a1, a2, a3, a4, a5⟩ := rowsB_parts hl
  intro k
  induction k with
  | zero => intro _; simp [Go.Proofs.Ytaepibmmpdfjcaa.Q4Points.tot]
  | succ k ih =>
    intro hk
    have h1 := ih (by omega)
    have e1 : (lay l m r c)[k]? = some (bs (rowS l m r c k)) := by unfold lay; exact map_range_at (fun i => bs (rowS l m r c i)) (by omega)
    obtain ⟨x, hx, _, hd⟩ := at_row (l := l) (k := k) (by omega)
    rw [Go.Proofs.Ytaepibmmpdfjcaa.Q4Points.tot_next e1, Go.Proofs.Ytaepibmmpdfjcaa.Q4Points.tot_next hx]
    have hx2 : x = rw_ l k := hd.symm
    have e2 : Go.Proofs.Ytaepibmmpdfjcaa.Q4Points.cnt (bs (rowS l m r c k)) (bs (rowS l m r c k)).size ≤ Go.Proofs.Ytaepibmmpdfjcaa.Q4Points.cnt x x.size := by
      unfold Go.Proofs.Ytaepibmmpdfjcaa.Q4Points.cnt
      rw [List.take_of_length_le (by rw [bs_size, bs_list]; exact Nat.le_refl _), List.take_of_length_le (by rw [size_list]; exact Nat.le_refl _), bs_list, ← map_ch x]
      unfold rowS
      rw [hx2, a5 k (by omega)]
      have := count_le (f := cellS l m r c k) (g := ch (rw_ l k)) (fun j => cell_pt) (rw_ l 0).size
      omega
    omega
theorem okc_at {l : List ByteArray} {m : Nat} (h : rowsB l (m : Int) = true) {i k : Nat} (hi : i < l.length) (hk : k < (rw_ l 0).size) : okc (ch (rw_ l i) k) = true := by
  unfold rowsB at h
  simp only [Bool.and_eq_true] at h
  have := allN_iff.1 h.2.2 i hi
  unfold rowB at this
  simp only [Bool.and_eq_true, decide_eq_true_eq] at this
  exact allN_iff.1 this.2 k (by rw [this.1]; exact hk)
theorem rw_lay {l m : List ByteArray} {r c i : Nat} (hi : i < l.length) : rw_ (lay l m r c) i = bs (rowS l m r c i) := by
  have e1 : (lay l m r c)[i]? = some (bs (rowS l m r c i)) := by unfold lay; exact map_range_at (fun i => bs (rowS l m r c i)) hi
  show (lay l m r c).getD i _ = _
  rw [List.getD_eq_getElem?_getD, e1]; rfl
theorem lay_len (l m : List ByteArray) (r c : Nat) : (lay l m r c).length = l.length := by unfold lay; simp
theorem lay_rows {l m : List ByteArray} {r c : Nat} (hl : rowsB l (5 : Nat) = true) (hm : rowsB m (3 : Nat) = true) : rowsB (lay l m r c) (5 : Nat) = true := by
  obtain ⟨a1, a2, a3, a4, a5⟩ := rowsB_parts hl
  have h0 : (rw_ (lay l m r c) 0).size = (rw_ l 0).size := by rw [rw_lay (by omega), bs_size]; unfold rowS; simp
  have h1 : inB (l.length : Int) 1 ((5 : Nat) : Int) = true := by rw [inB_of2, decide_eq_true_eq]; omega
  have h2 : inB ((rw_ l 0).size : Int) 1 ((5 : Nat) : Int) = true := by rw [inB_of2, decide_eq_true_eq]; omega
  unfold rowsB
  rw [lay_len, h0, h1, h2, Bool.true_and, Bool.true_and, allN_iff]
  intro i hi
  unfold rowB
  have hs : (rowS l m r c i).length = (rw_ l 0).size := by unfold rowS; simp
  rw [rw_lay hi, h0, bs_size, hs]
  simp only [decide_true, Bool.true_and]
  rw [allN_iff]
  intro k hk
  have e : ch (bs (rowS l m r c i)) k = cellS l m r c i k := by
    show (bs (rowS l m r c i)).toList.getD k 0 = _
    rw [bs_list]; unfold rowS
    rw [List.getD_eq_getElem?_getD, map_range_at _ hk]; rfl
  rw [e]
  unfold cellS
  split
  · exact okc_at hm (by omega) (by omega)
  · exact okc_at hl hi hk
end Go.Proofs.Ytaepibmmpdfjcaa.Q4Less

/- Draws on tapes: each gives something within its bounds. (QDraw) No condition but those of each theorem. -/
namespace Go.Proofs.Ytaepibmmpdfjcaa.QDraw
set_option linter.unusedVariables false
set_option linter.unusedSimpArgs false
open Go.RowKit
open Go.Proofs.Ytaepibmmpdfjcaa.GoP Go.Proofs.Ytaepibmmpdfjcaa.PlainStamp Go.Proofs.Ytaepibmmpdfjcaa.QBase Go.Proofs.Ytaepibmmpdfjcaa.QLoop

/-- a tape that may be asked m times more -/
def good (t : GoC.Tape) (m : Nat) : Prop := m ≤ t.left ∧ ∀ i, 0 ≤ t.vals i ∧ t.vals i ≤ 255
theorem good_less {t : GoC.Tape} {m n : Nat} (h : good t m) (hn : n ≤ m) : good t n := ⟨Nat.le_trans hn h.1, h.2⟩
theorem good_of {tapes : List Int → GoC.Tape} (h : GoC.Tells tapes) (code : List Int) {m : Nat} (hm : m ≤ 4611686018427387904) : good (tapes code) m := ⟨by rw [h.1]; exact hm, h.2.1 code⟩
theorem next_ok {t : GoC.Tape} {m : Nat} (h : good t (m + 1)) : ∃ b t', GsL1CurNext.P t = some (b, t') ∧ (0 ≤ b ∧ b ≤ 255) ∧ good t' m := by
  unfold GsL1CurNext.P
  rw [if_pos (by have := h.1; omega)]
  exact ⟨_, _, rfl, h.2 0, by have := h.1; show m ≤ t.left - 1; omega, fun i => h.2 (i + 1)⟩
theorem pick_ok {t : GoC.Tape} {m : Nat} {n : Int} (h : good t (m + 2)) : ∃ x t', GsL1CurPick.P t n = some (x, t') ∧ 0 ≤ x ∧ (x < n ∨ n ≤ 1 ∧ x = 0) ∧ x ≤ 65535 ∧ good t' m := by
  simp only [GsL1CurPick.P, letK, iteK_if]
  by_cases hn : n ≤ 1
  · rw [if_pos (by simpa using hn)]
    exact ⟨0, t, rfl, by omega, by omega, by omega, good_less h (by omega)⟩
  · rw [if_neg (by simpa using hn)]
    obtain ⟨b, t1, e1, hb, h1⟩ := next_ok (m := m + 1) h
    rw [e1]
    simp only [bind2_some]
    by_cases h2 : 200 < n
    · rw [if_pos (by simpa using h2)]
      obtain ⟨b2, t2, e2, hb2, h3⟩ := next_ok (m := m) h1
      rw [e2]
      simp only [bind2_some, GsL1CurPick.j0, unp2, letK]
      rw [guardK_pos (by omega), wrap_in (x := b * 256) (by omega) (by omega), wrap_in (by omega) (by omega), Int.tmod_eq_emod_of_nonneg (by omega)]
      have k1 := Int.emod_nonneg (b * 256 + b2) (show n ≠ 0 by omega)
      have k2 := Int.emod_lt_of_pos (b * 256 + b2) (show 0 < n by omega)
      have k3 : (b * 256 + b2) % n ≤ 65535 := by
        by_cases hq : n ≤ 65536
        · omega
        · rw [Int.emod_eq_of_lt (by omega) (by omega)]; omega
      exact ⟨_, _, rfl, k1, .inl k2, by omega, h3⟩
    · rw [if_neg (by simpa using h2)]
      simp only [GsL1CurPick.j0, unp2, letK]
      rw [guardK_pos (by omega), Int.tmod_eq_emod_of_nonneg (by omega)]
      have k1 := Int.emod_nonneg b (show n ≠ 0 by omega)
      have k2 := Int.emod_lt_of_pos b (show 0 < n by omega)
      exact ⟨_, _, rfl, k1, .inl k2, by omega, good_less h1 (by omega)⟩
theorem among_ok {t : GoC.Tape} {m : Nat} {l : List Int} (h : good t (m + 2)) (h0 : 0 < l.length) : ∃ x t', GsL1CurAmong.P t l = some (x, t') ∧ x ∈ l ∧ good t' m := by
  obtain ⟨x, t', e, hx0, hx, _, hg⟩ := pick_ok (n := (l.length : Int)) h
  simp only [GsL1CurAmong.P, e, bind2_some]
  obtain ⟨y, hy, hyi⟩ := at_lt (l := l) (k := x.toNat) (by omega)
  rw [show ((x.toNat : Nat) : Int) = x by omega] at hyi
  exact ⟨y, t', by rw [hyi]; rfl, List.mem_of_getElem? hy, hg⟩
end Go.Proofs.Ytaepibmmpdfjcaa.QDraw

/- More words for plain functions: tuples of five to eight. No condition. -/
namespace Go.Proofs.Ytaepibmmpdfjcaa.GoP
set_option linter.unusedVariables false
open Go.RowKit
def unp5 {α β γ δ ε ρ : Type} (s : α × β × γ × δ × ε) (f : α → β → γ → δ → ε → Option ρ) : Option ρ := f s.1 s.2.1 s.2.2.1 s.2.2.2.1 s.2.2.2.2
def bind5 {α β γ δ ε ρ : Type} (x : Option (α × β × γ × δ × ε)) (f : α → β → γ → δ → ε → Option ρ) : Option ρ := match x with | none => none | some (x0, x1, x2, x3, x4) => f x0 x1 x2 x3 x4
def unp6 {α β γ δ ε ζ ρ : Type} (s : α × β × γ × δ × ε × ζ) (f : α → β → γ → δ → ε → ζ → Option ρ) : Option ρ := f s.1 s.2.1 s.2.2.1 s.2.2.2.1 s.2.2.2.2.1 s.2.2.2.2.2
def bind6 {α β γ δ ε ζ ρ : Type} (x : Option (α × β × γ × δ × ε × ζ)) (f : α → β → γ → δ → ε → ζ → Option ρ) : Option ρ := match x with | none => none | some (x0, x1, x2, x3, x4, x5) => f x0 x1 x2 x3 x4 x5
def unp7 {α β γ δ ε ζ η ρ : Type} (s : α × β × γ × δ × ε × ζ × η) (f : α → β → γ → δ → ε → ζ → η → Option ρ) : Option ρ := f s.1 s.2.1 s.2.2.1 s.2.2.2.1 s.2.2.2.2.1 s.2.2.2.2.2.1 s.2.2.2.2.2.2
def bind7 {α β γ δ ε ζ η ρ : Type} (x : Option (α × β × γ × δ × ε × ζ × η)) (f : α → β → γ → δ → ε → ζ → η → Option ρ) : Option ρ := match x with | none => none | some (x0, x1, x2, x3, x4, x5, x6) => f x0 x1 x2 x3 x4 x5 x6
def unp8 {α β γ δ ε ζ η θ ρ : Type} (s : α × β × γ × δ × ε × ζ × η × θ) (f : α → β → γ → δ → ε → ζ → η → θ → Option ρ) : Option ρ := f s.1 s.2.1 s.2.2.1 s.2.2.2.1 s.2.2.2.2.1 s.2.2.2.2.2.1 s.2.2.2.2.2.2.1 s.2.2.2.2.2.2.2
def bind8 {α β γ δ ε ζ η θ ρ : Type} (x : Option (α × β × γ × δ × ε × ζ × η × θ)) (f : α → β → γ → δ → ε → ζ → η → θ → Option ρ) : Option ρ := match x with | none => none | some (x0, x1, x2, x3, x4, x5, x6, x7) => f x0 x1 x2 x3 x4 x5 x6 x7
def unp9 {t0 t1 t2 t3 t4 t5 t6 t7 t8 ρ : Type} (s : t0 × t1 × t2 × t3 × t4 × t5 × t6 × t7 × t8) (f : t0 → t1 → t2 → t3 → t4 → t5 → t6 → t7 → t8 → Option ρ) : Option ρ := f s.1 s.2.1 s.2.2.1 s.2.2.2.1 s.2.2.2.2.1 s.2.2.2.2.2.1 s.2.2.2.2.2.2.1 s.2.2.2.2.2.2.2.1 s.2.2.2.2.2.2.2.2
def bind9 {t0 t1 t2 t3 t4 t5 t6 t7 t8 ρ : Type} (x : Option (t0 × t1 × t2 × t3 × t4 × t5 × t6 × t7 × t8)) (f : t0 → t1 → t2 → t3 → t4 → t5 → t6 → t7 → t8 → Option ρ) : Option ρ := match x with | none => none | some (x0, x1, x2, x3, x4, x5, x6, x7, x8) => f x0 x1 x2 x3 x4 x5 x6 x7 x8
def unp10 {t0 t1 t2 t3 t4 t5 t6 t7 t8 t9 ρ : Type} (s : t0 × t1 × t2 × t3 × t4 × t5 × t6 × t7 × t8 × t9) (f : t0 → t1 → t2 → t3 → t4 → t5 → t6 → t7 → t8 → t9 → Option ρ) : Option ρ := f s.1 s.2.1 s.2.2.1 s.2.2.2.1 s.2.2.2.2.1 s.2.2.2.2.2.1 s.2.2.2.2.2.2.1 s.2.2.2.2.2.2.2.1 s.2.2.2.2.2.2.2.2.1 s.2.2.2.2.2.2.2.2.2
def bind10 {t0 t1 t2 t3 t4 t5 t6 t7 t8 t9 ρ : Type} (x : Option (t0 × t1 × t2 × t3 × t4 × t5 × t6 × t7 × t8 × t9)) (f : t0 → t1 → t2 → t3 → t4 → t5 → t6 → t7 → t8 → t9 → Option ρ) : Option ρ := match x with | none => none | some (x0, x1, x2, x3, x4, x5, x6, x7, x8, x9) => f x0 x1 x2 x3 x4 x5 x6 x7 x8 x9
def unp11 {t0 t1 t2 t3 t4 t5 t6 t7 t8 t9 t10 ρ : Type} (s : t0 × t1 × t2 × t3 × t4 × t5 × t6 × t7 × t8 × t9 × t10) (f : t0 → t1 → t2 → t3 → t4 → t5 → t6 → t7 → t8 → t9 → t10 → Option ρ) : Option ρ := f s.1 s.2.1 s.2.2.1 s.2.2.2.1 s.2.2.2.2.1 s.2.2.2.2.2.1 s.2.2.2.2.2.2.1 s.2.2.2.2.2.2.2.1 s.2.2.2.2.2.2.2.2.1 s.2.2.2.2.2.2.2.2.2.1 s.2.2.2.2.2.2.2.2.2.2
def bind11 {t0 t1 t2 t3 t4 t5 t6 t7 t8 t9 t10 ρ : Type} (x : Option (t0 × t1 × t2 × t3 × t4 × t5 × t6 × t7 × t8 × t9 × t10)) (f : t0 → t1 → t2 → t3 → t4 → t5 → t6 → t7 → t8 → t9 → t10 → Option ρ) : Option ρ := match x with | none => none | some (x0, x1, x2, x3, x4, x5, x6, x7, x8, x9, x10) => f x0 x1 x2 x3 x4 x5 x6 x7 x8 x9 x10
def unp12 {t0 t1 t2 t3 t4 t5 t6 t7 t8 t9 t10 t11 ρ : Type} (s : t0 × t1 × t2 × t3 × t4 × t5 × t6 × t7 × t8 × t9 × t10 × t11) (f : t0 → t1 → t2 → t3 → t4 → t5 → t6 → t7 → t8 → t9 → t10 → t11 → Option ρ) : Option ρ := f s.1 s.2.1 s.2.2.1 s.2.2.2.1 s.2.2.2.2.1 s.2.2.2.2.2.1 s.2.2.2.2.2.2.1 s.2.2.2.2.2.2.2.1 s.2.2.2.2.2.2.2.2.1 s.2.2.2.2.2.2.2.2.2.1 s.2.2.2.2.2.2.2.2.2.2.1 s.2.2.2.2.2.2.2.2.2.2.2
def bind12 {t0 t1 t2 t3 t4 t5 t6 t7 t8 t9 t10 t11 ρ : Type} (x : Option (t0 × t1 × t2 × t3 × t4 × t5 × t6 × t7 × t8 × t9 × t10 × t11)) (f : t0 → t1 → t2 → t3 → t4 → t5 → t6 → t7 → t8 → t9 → t10 → t11 → Option ρ) : Option ρ := match x with | none => none | some (x0, x1, x2, x3, x4, x5, x6, x7, x8, x9, x10, x11) => f x0 x1 x2 x3 x4 x5 x6 x7 x8 x9 x10 x11
def unp13 {α0 α1 α2 α3 α4 α5 α6 α7 α8 α9 α10 α11 α12 ρ : Type} (s : α0 × α1 × α2 × α3 × α4 × α5 × α6 × α7 × α8 × α9 × α10 × α11 × α12) (f : α0 → α1 → α2 → α3 → α4 → α5 → α6 → α7 → α8 → α9 → α10 → α11 → α12 → Option ρ) : Option ρ := f s.1 s.2.1 s.2.2.1 s.2.2.2.1 s.2.2.2.2.1 s.2.2.2.2.2.1 s.2.2.2.2.2.2.1 s.2.2.2.2.2.2.2.1 s.2.2.2.2.2.2.2.2.1 s.2.2.2.2.2.2.2.2.2.1 s.2.2.2.2.2.2.2.2.2.2.1 s.2.2.2.2.2.2.2.2.2.2.2.1 s.2.2.2.2.2.2.2.2.2.2.2.2
def unp14 {α0 α1 α2 α3 α4 α5 α6 α7 α8 α9 α10 α11 α12 α13 ρ : Type} (s : α0 × α1 × α2 × α3 × α4 × α5 × α6 × α7 × α8 × α9 × α10 × α11 × α12 × α13) (f : α0 → α1 → α2 → α3 → α4 → α5 → α6 → α7 → α8 → α9 → α10 → α11 → α12 → α13 → Option ρ) : Option ρ := f s.1 s.2.1 s.2.2.1 s.2.2.2.1 s.2.2.2.2.1 s.2.2.2.2.2.1 s.2.2.2.2.2.2.1 s.2.2.2.2.2.2.2.1 s.2.2.2.2.2.2.2.2.1 s.2.2.2.2.2.2.2.2.2.1 s.2.2.2.2.2.2.2.2.2.2.1 s.2.2.2.2.2.2.2.2.2.2.2.1 s.2.2.2.2.2.2.2.2.2.2.2.2.1 s.2.2.2.2.2.2.2.2.2.2.2.2.2
def unp15 {α0 α1 α2 α3 α4 α5 α6 α7 α8 α9 α10 α11 α12 α13 α14 ρ : Type} (s : α0 × α1 × α2 × α3 × α4 × α5 × α6 × α7 × α8 × α9 × α10 × α11 × α12 × α13 × α14) (f : α0 → α1 → α2 → α3 → α4 → α5 → α6 → α7 → α8 → α9 → α10 → α11 → α12 → α13 → α14 → Option ρ) : Option ρ := f s.1 s.2.1 s.2.2.1 s.2.2.2.1 s.2.2.2.2.1 s.2.2.2.2.2.1 s.2.2.2.2.2.2.1 s.2.2.2.2.2.2.2.1 s.2.2.2.2.2.2.2.2.1 s.2.2.2.2.2.2.2.2.2.1 s.2.2.2.2.2.2.2.2.2.2.1 s.2.2.2.2.2.2.2.2.2.2.2.1 s.2.2.2.2.2.2.2.2.2.2.2.2.1 s.2.2.2.2.2.2.2.2.2.2.2.2.2.1 s.2.2.2.2.2.2.2.2.2.2.2.2.2.2
def unp16 {α0 α1 α2 α3 α4 α5 α6 α7 α8 α9 α10 α11 α12 α13 α14 α15 ρ : Type} (s : α0 × α1 × α2 × α3 × α4 × α5 × α6 × α7 × α8 × α9 × α10 × α11 × α12 × α13 × α14 × α15) (f : α0 → α1 → α2 → α3 → α4 → α5 → α6 → α7 → α8 → α9 → α10 → α11 → α12 → α13 → α14 → α15 → Option ρ) : Option ρ := f s.1 s.2.1 s.2.2.1 s.2.2.2.1 s.2.2.2.2.1 s.2.2.2.2.2.1 s.2.2.2.2.2.2.1 s.2.2.2.2.2.2.2.1 s.2.2.2.2.2.2.2.2.1 s.2.2.2.2.2.2.2.2.2.1 s.2.2.2.2.2.2.2.2.2.2.1 s.2.2.2.2.2.2.2.2.2.2.2.1 s.2.2.2.2.2.2.2.2.2.2.2.2.1 s.2.2.2.2.2.2.2.2.2.2.2.2.2.1 s.2.2.2.2.2.2.2.2.2.2.2.2.2.2.1 s.2.2.2.2.2.2.2.2.2.2.2.2.2.2.2
def unp17 {α0 α1 α2 α3 α4 α5 α6 α7 α8 α9 α10 α11 α12 α13 α14 α15 α16 ρ : Type} (s : α0 × α1 × α2 × α3 × α4 × α5 × α6 × α7 × α8 × α9 × α10 × α11 × α12 × α13 × α14 × α15 × α16) (f : α0 → α1 → α2 → α3 → α4 → α5 → α6 → α7 → α8 → α9 → α10 → α11 → α12 → α13 → α14 → α15 → α16 → Option ρ) : Option ρ := f s.1 s.2.1 s.2.2.1 s.2.2.2.1 s.2.2.2.2.1 s.2.2.2.2.2.1 s.2.2.2.2.2.2.1 s.2.2.2.2.2.2.2.1 s.2.2.2.2.2.2.2.2.1 s.2.2.2.2.2.2.2.2.2.1 s.2.2.2.2.2.2.2.2.2.2.1 s.2.2.2.2.2.2.2.2.2.2.2.1 s.2.2.2.2.2.2.2.2.2.2.2.2.1 s.2.2.2.2.2.2.2.2.2.2.2.2.2.1 s.2.2.2.2.2.2.2.2.2.2.2.2.2.2.1 s.2.2.2.2.2.2.2.2.2.2.2.2.2.2.2.1 s.2.2.2.2.2.2.2.2.2.2.2.2.2.2.2.2
def unp18 {α0 α1 α2 α3 α4 α5 α6 α7 α8 α9 α10 α11 α12 α13 α14 α15 α16 α17 ρ : Type} (s : α0 × α1 × α2 × α3 × α4 × α5 × α6 × α7 × α8 × α9 × α10 × α11 × α12 × α13 × α14 × α15 × α16 × α17) (f : α0 → α1 → α2 → α3 → α4 → α5 → α6 → α7 → α8 → α9 → α10 → α11 → α12 → α13 → α14 → α15 → α16 → α17 → Option ρ) : Option ρ := f s.1 s.2.1 s.2.2.1 s.2.2.2.1 s.2.2.2.2.1 s.2.2.2.2.2.1 s.2.2.2.2.2.2.1 s.2.2.2.2.2.2.2.1 s.2.2.2.2.2.2.2.2.1 s.2.2.2.2.2.2.2.2.2.1 s.2.2.2.2.2.2.2.2.2.2.1 s.2.2.2.2.2.2.2.2.2.2.2.1 s.2.2.2.2.2.2.2.2.2.2.2.2.1 s.2.2.2.2.2.2.2.2.2.2.2.2.2.1 s.2.2.2.2.2.2.2.2.2.2.2.2.2.2.1 s.2.2.2.2.2.2.2.2.2.2.2.2.2.2.2.1 s.2.2.2.2.2.2.2.2.2.2.2.2.2.2.2.2.1 s.2.2.2.2.2.2.2.2.2.2.2.2.2.2.2.2.2
end Go.Proofs.Ytaepibmmpdfjcaa.GoP

/- What the named laws of sheets draw: the draws answer, within bounds. (Q4Draws) No condition but those of each theorem. -/
namespace Go.Proofs.Ytaepibmmpdfjcaa.Q4Draws
set_option linter.unusedVariables false
set_option linter.unusedSimpArgs false
open Go.RowKit
open Go.Proofs.Ytaepibmmpdfjcaa.GoP Go.Proofs.Ytaepibmmpdfjcaa.PlainStamp Go.Proofs.Ytaepibmmpdfjcaa.QBase Go.Proofs.Ytaepibmmpdfjcaa.QDraw Go.Proofs.Ytaepibmmpdfjcaa.QUp Go.Proofs.Ytaepibmmpdfjcaa.QAll Go.Proofs.Ytaepibmmpdfjcaa.QLoop Go.Proofs.Ytaepibmmpdfjcaa.PBlock

theorem of_ok {t : GoC.Tape} {m : Nat} {l : List ByteArray} (h : good t (m + 2)) (h0 : 0 < l.length) (h1 : l.length ≤ 1000) : ∃ x t', GsL1CurOf.P t l = some (x, t') ∧ x ∈ l ∧ good t' m := by
  obtain ⟨k, t1, e1, hk0, hk, _, hg⟩ := pick_ok (n := (l.length : Int)) h
  obtain ⟨j, rfl⟩ : ∃ j : Nat, k = (j : Int) := ⟨k.toNat, by omega⟩
  obtain ⟨x, hx, hi⟩ := at_lt (l := l) (k := j) (by omega)
  exact ⟨x, t1, by simp only [GsL1CurOf.P, e1, bind2_some, hi, Option.bind_some], List.mem_of_getElem? hx, hg⟩
theorem row_ok {Q : PBlock.Block × GoC.Tape → Prop} {fuel : Nat} (hf : 100 ≤ fuel) {a : Nat} (ha : a ≤ 3) {t : GoC.Tape} {m : Nat} (h : good t (m + 6)) (fin : ByteArray × Int × GoC.Tape → Option (PBlock.Block × GoC.Tape))
    (hfin : ∀ (s : ByteArray) (t' : GoC.Tape), s.size ≤ 3 → good t' m → ∃ r, fin (s, (a : Int), t') = some r ∧ Q r) : ∃ r, loopK (GsL1CurBlock.l1 (a : Int)) fuel (⟨#[]⟩, 0, t) fin = some r ∧ Q r := by
  refine lp_ex (n := a) (fun k (s : ByteArray × Int × GoC.Tape) => s.2.1 = (k : Int) ∧ s.1.size ≤ k ∧ good s.2.2 (m + 6 - 2 * k)) ?_ ?_ fuel 0 _ (by omega) (by omega) ⟨rfl, Nat.le_refl _, h⟩
  · rintro k ⟨x, i, c⟩ nx hk ⟨h1, h2, h3⟩ hn
    dsimp only at h1 h2 h3
    subst h1
    obtain ⟨u, t1, e1, hu, hg⟩ := of_ok (l := [(⟨#[97]⟩ : ByteArray), (⟨#[97]⟩ : ByteArray), (⟨#[98]⟩ : ByteArray), (⟨#[99]⟩ : ByteArray), (⟨#[46]⟩ : ByteArray)]) (m := m + 4 - 2 * k) (good_less h3 (by omega)) (by simp) (by simp)
    have hs : u.size = 1 := by
      simp only [List.mem_cons, List.not_mem_nil, or_false] at hu
      rcases hu with rfl | rfl | rfl | rfl | rfl <;> rfl
    have hlt : (k : Int) < (a : Int) := by omega
    have happ : (x ++ u).size = x.size + u.size := ByteArray.size_append
    simp only [GsL1CurBlock.l1, unp3, letK, iteK_if, decide_eq_true hlt, if_true, e1, bind2_some, appK]
    rw [guardK_pos (by unfold maxLen; omega), wrap_in (by omega) (by omega)]
    exact hn _ ⟨by dsimp only; omega, by dsimp only; omega, good_less hg (by omega)⟩
  · rintro ⟨x, i, c⟩ nx ⟨h1, h2, h3⟩
    dsimp only at h1 h2 h3
    subst h1
    have hlt : ¬ (a : Int) < (a : Int) := by omega
    simp only [GsL1CurBlock.l1, unp3, letK, iteK_if, decide_eq_false hlt, Bool.false_eq_true, if_false, appK]
    exact hfin x c (by omega) (good_less h3 (by omega))
/-- a block of few rows that are short -/
def smB (l : List ByteArray) : Prop := l.length ≤ 4 ∧ ∀ s ∈ l, s.size ≤ 4
theorem block_end {t : GoC.Tape} {m : Nat} (l : List ByteArray) (i : Int) (hl : l.length ≤ 3) (hs : ∀ s ∈ l, s.size ≤ 4) (h : good t (m + 4)) : ∃ r : PBlock.Block × GoC.Tape, GsL1CurBlock.e0 (l, i, t) = some r ∧ (smB r.1.rows ∧ good r.2 m) := by
  obtain ⟨p, t1, e1, _, _, _, h1⟩ := pick_ok (n := 48) (m := m + 2) h
  simp only [GsL1CurBlock.e0, unp3, e1, bind2_some, letK, iteK_if]
  by_cases hp : p = 0
  · obtain ⟨u, t2, e2, hu, h2⟩ := of_ok (l := [(⟨#[]⟩ : ByteArray), (⟨#[97]⟩ : ByteArray), (⟨#[65]⟩ : ByteArray), (⟨#[97, 98, 99, 100]⟩ : ByteArray)]) (m := m) h1 (by simp) (by simp)
    have hus : u.size ≤ 4 := by
      simp only [List.mem_cons, List.not_mem_nil, or_false] at hu
      rcases hu with rfl | rfl | rfl | rfl <;> decide
    rw [if_pos (by simpa using hp)]
    simp only [e2, bind2_some]
    rw [guardK_pos (by omega)]
    refine ⟨_, rfl, ⟨by simp; omega, fun s hs' => ?_⟩, h2⟩
    rcases List.mem_append.1 hs' with h' | h'
    · exact hs s h'
    · rw [List.mem_singleton.1 h']; exact hus
  · rw [if_neg (by simpa using hp)]
    by_cases hp2 : p = 1
    · rw [if_pos (by simpa using hp2)]
      exact ⟨_, rfl, ⟨by simp, by simp⟩, good_less h1 (by omega)⟩
    · rw [if_neg (by simpa using hp2)]
      exact ⟨_, rfl, ⟨by dsimp only; omega, hs⟩, good_less h1 (by omega)⟩
theorem block_ok {fuel : Nat} (hf : 100 ≤ fuel) {t : GoC.Tape} {m : Nat} (h : good t (m + 30)) : ∃ l t', GsL1CurBlock.P fuel t = some (⟨l⟩, t') ∧ smB l ∧ good t' m := by
  obtain ⟨a, t1, e1, ha0, ha, _, h1⟩ := pick_ok (n := 3) (m := m + 28) h
  obtain ⟨b, t2, e2, hb0, hb, _, h2⟩ := pick_ok (n := 3) (m := m + 26) h1
  obtain ⟨a, rfl⟩ : ∃ j : Nat, a = (j : Int) := ⟨a.toNat, by omega⟩
  obtain ⟨b, rfl⟩ : ∃ j : Nat, b = (j : Int) := ⟨b.toNat, by omega⟩
  have key : ∃ r : PBlock.Block × GoC.Tape, loopK (GsL1CurBlock.l0 fuel ((a + 1 : Nat) : Int) ((b + 1 : Nat) : Int)) fuel (([] : List ByteArray), 0, t2) GsL1CurBlock.e0 = some r ∧ (smB r.1.rows ∧ good r.2 m) := by
    refine lp_ex (n := a + 1) (fun k (s : List ByteArray × Int × GoC.Tape) => s.1.length = k ∧ s.2.1 = (k : Int) ∧ (∀ x ∈ s.1, x.size ≤ 4) ∧ good s.2.2 (m + 26 - 6 * k)) ?_ ?_ fuel 0 _ (by omega) (by omega) ⟨rfl, rfl, by simp, h2⟩
    · rintro k ⟨l, i, c⟩ nx hk ⟨i1, i2, i3, i4⟩ hn
      dsimp only at i1 i2 i3 i4
      subst i2
      have hlt : (k : Int) < ((a + 1 : Nat) : Int) := by omega
      simp only [GsL1CurBlock.l0, unp3, letK, iteK_if, decide_eq_true hlt, if_true]
      refine row_ok hf (a := b + 1) (by omega) (m := m + 20 - 6 * k) (good_less i4 (by omega)) _ fun s t' hs ht => ?_
      simp only [GsL1CurBlock.e1, unp3, letK, appK]
      rw [guardK_pos (by omega), wrap_in (by omega) (by omega)]
      refine hn _ ⟨by simp [i1], by dsimp only; omega, fun x hx => ?_, good_less ht (by omega)⟩
      rcases List.mem_append.1 hx with h' | h'
      · exact i3 x h'
      · rw [List.mem_singleton.1 h']; omega
    · rintro ⟨l, i, c⟩ nx ⟨i1, i2, i3, i4⟩
      dsimp only at i1 i2 i3 i4
      subst i2
      have hlt : ¬ ((a + 1 : Nat) : Int) < ((a + 1 : Nat) : Int) := by omega
      simp only [GsL1CurBlock.l0, unp3, letK, iteK_if, decide_eq_false hlt, Bool.false_eq_true, if_false, appK]
      exact block_end l _ (by omega) i3 (good_less i4 (by omega))
  obtain ⟨⟨⟨l⟩, t'⟩, hr, hq⟩ := key
  refine ⟨l, t', ?_, hq⟩
  simp only [GsL1CurBlock.P, letK, e1, e2, bind2_some]
  rw [wrap_in (x := 1 + (a : Int)) (by omega) (by omega), wrap_in (x := 1 + (b : Int)) (by omega) (by omega), show (1 : Int) + (a : Int) = ((a + 1 : Nat) : Int) by omega, show (1 : Int) + (b : Int) = ((b + 1 : Nat) : Int) by omega]
  exact hr
end Go.Proofs.Ytaepibmmpdfjcaa.Q4Draws

/- What the named laws of sheets draw: the draws answer, within bounds. (Q4DrawsS) No condition but those of each theorem. -/
namespace Go.Proofs.Ytaepibmmpdfjcaa.Q4DrawsS
set_option linter.unusedVariables false
set_option linter.unusedSimpArgs false
open Go.RowKit
open Go.Proofs.Ytaepibmmpdfjcaa.GoP Go.Proofs.Ytaepibmmpdfjcaa.PlainStamp Go.Proofs.Ytaepibmmpdfjcaa.QBase Go.Proofs.Ytaepibmmpdfjcaa.Q4Draws Go.Proofs.Ytaepibmmpdfjcaa.Q4LayB Go.Proofs.Ytaepibmmpdfjcaa.Q4Lay Go.Proofs.Ytaepibmmpdfjcaa.QByte Go.Proofs.Ytaepibmmpdfjcaa.Q4Fits Go.Proofs.Ytaepibmmpdfjcaa.Q4See Go.Proofs.Ytaepibmmpdfjcaa.QSheet Go.Proofs.Ytaepibmmpdfjcaa.QStrs Go.Proofs.Ytaepibmmpdfjcaa.QDraw Go.Proofs.Ytaepibmmpdfjcaa.QUp Go.Proofs.Ytaepibmmpdfjcaa.QLoop Go.Proofs.Ytaepibmmpdfjcaa.PBlock

/-- a sheet of few rows that are short -/
def smS (l : List ByteArray) : Prop := l.length ≤ 6 ∧ ∀ s ∈ l, s.size ≤ 6
theorem blank_ok {fuel : Nat} (hf : 100 ≤ fuel) {a b : Nat} (ha : a ≤ 5) (hb : b ≤ 5) : ∃ l, GsL4Blank.P fuel (a : Int) (b : Int) = some l ∧ (l.length ≤ 5 ∧ ∀ s ∈ l, s.size ≤ 5) := by
  unfold GsL4Blank.P
  refine lp_ex (n := b) (fun k (s : ByteArray × Int) => s.2 = (k : Int) ∧ s.1.size ≤ k) ?_ ?_ fuel 0 _ (by omega) (by omega) ⟨rfl, Nat.le_refl _⟩
  · rintro k ⟨x, i⟩ nx hk ⟨h1, h2⟩ hn
    dsimp only at h1 h2
    subst h1
    have hlt : (k : Int) < (b : Int) := by omega
    have hone : (⟨#[46]⟩ : ByteArray).size = 1 := rfl
    have happ : (x ++ (⟨#[46]⟩ : ByteArray)).size = x.size + 1 := ByteArray.size_append
    simp only [GsL4Blank.l0, unp2, letK, iteK_if, decide_eq_true hlt, if_true, appK]
    rw [guardK_pos (by rw [hone]; unfold maxLen; omega), wrap_in (by omega) (by omega)]
    exact hn _ ⟨by dsimp only; omega, by dsimp only; omega⟩
  · rintro ⟨x, i⟩ nx ⟨h1, h2⟩
    dsimp only at h1 h2
    subst h1
    have hlt : ¬ (b : Int) < (b : Int) := by omega
    simp only [GsL4Blank.l0, unp2, letK, iteK_if, decide_eq_false hlt, Bool.false_eq_true, if_false, appK, GsL4Blank.e0]
    refine lp_ex (n := a) (fun k (s : List ByteArray × Int) => s.2 = (k : Int) ∧ s.1.length = k ∧ ∀ y ∈ s.1, y.size ≤ 5) ?_ ?_ fuel 0 _ (by omega) (by omega) ⟨rfl, rfl, by simp⟩
    · rintro k ⟨l, i⟩ nx hk ⟨i1, i2, i3⟩ hn
      dsimp only at i1 i2 i3
      subst i1
      have hlt : (k : Int) < (a : Int) := by omega
      simp only [GsL4Blank.l1, unp2, letK, iteK_if, decide_eq_true hlt, if_true, appK]
      rw [guardK_pos (by omega), wrap_in (by omega) (by omega)]
      refine hn _ ⟨by dsimp only; omega, by simp [i2], fun y hy => ?_⟩
      rcases List.mem_append.1 hy with h' | h'
      · exact i3 y h'
      · rw [List.mem_singleton.1 h']; omega
    · rintro ⟨l, i⟩ nx ⟨i1, i2, i3⟩
      dsimp only at i1 i2 i3
      subst i1
      have hlt : ¬ (a : Int) < (a : Int) := by omega
      simp only [GsL4Blank.l1, unp2, letK, iteK_if, decide_eq_false hlt, Bool.false_eq_true, if_false, appK, GsL4Blank.e1]
      exact ⟨_, rfl, by omega, i3⟩
theorem laid_sm (l m : List ByteArray) (r c : Int) : (layRes l m r c).1.length ≤ 5 ∧ ∀ s ∈ (layRes l m r c).1, s.size ≤ 5 := by
  refine ⟨layRes_len l m r c, ?_⟩
  unfold layRes
  split
  · rename_i h
    simp only [Bool.and_eq_true] at h
    obtain ⟨a1, a2, a3, a4, _⟩ := rowsB_parts h.1
    intro s hs
    unfold lay at hs
    obtain ⟨i, _, rfl⟩ := List.mem_map.1 hs
    rw [bs_size]
    unfold rowS
    rw [List.length_map, List.length_range]; exact a4
  · simp
theorem sheet_end {t : GoC.Tape} {m : Nat} (l : List ByteArray) (i : Int) (hl : l.length ≤ 5) (hs : ∀ s ∈ l, s.size ≤ 5) (h : good t (m + 4)) : ∃ r : List ByteArray × GoC.Tape, GsL1CurPlateSheet.e0 (l, i, t) = some r ∧ (smS r.1 ∧ good r.2 m) := by
  obtain ⟨p, t1, e1, _, _, _, h1⟩ := pick_ok (n := 32) (m := m + 2) h
  simp only [GsL1CurPlateSheet.e0, unp3, e1, bind2_some, letK, iteK_if]
  by_cases hp : p = 0
  · obtain ⟨u, t2, e2, hu, h2⟩ := of_ok (l := [(⟨#[]⟩ : ByteArray), (⟨#[97, 97, 97, 97, 97, 97]⟩ : ByteArray), (⟨#[46]⟩ : ByteArray)]) (m := m) h1 (by simp) (by simp)
    have hus : u.size ≤ 6 := by
      simp only [List.mem_cons, List.not_mem_nil, or_false] at hu
      rcases hu with rfl | rfl | rfl <;> decide
    rw [if_pos (by simpa using hp)]
    simp only [e2, bind2_some]
    rw [guardK_pos (by omega)]
    refine ⟨_, rfl, ⟨by simp; omega, fun s hs' => ?_⟩, h2⟩
    rcases List.mem_append.1 hs' with h' | h'
    · exact Nat.le_trans (hs s h') (by omega)
    · rw [List.mem_singleton.1 h']; exact hus
  · rw [if_neg (by simpa using hp)]
    by_cases hp2 : p = 1
    · rw [if_pos (by simpa using hp2)]
      exact ⟨_, rfl, ⟨by simp, by simp⟩, good_less h1 (by omega)⟩
    · rw [if_neg (by simpa using hp2)]
      exact ⟨_, rfl, ⟨by dsimp only; omega, fun s hs' => Nat.le_trans (hs s hs') (by omega)⟩, good_less h1 (by omega)⟩
theorem sheet_ok {fuel : Nat} (hf : 1048577 ≤ fuel) {t : GoC.Tape} {m : Nat} (h : good t (m + 200)) : ∃ l t', GsL1CurPlateSheet.P fuel t = some (l, t') ∧ smS l ∧ good t' m := by
  obtain ⟨a, t1, e1, ha0, ha, _, h1⟩ := pick_ok (n := 5) (m := m + 198) h
  obtain ⟨b, t2, e2, hb0, hb, _, h2⟩ := pick_ok (n := 5) (m := m + 196) h1
  obtain ⟨d, t3, e3, hd0, hd, _, h3⟩ := pick_ok (n := 4) (m := m + 194) h2
  obtain ⟨a, rfl⟩ : ∃ j : Nat, a = (j : Int) := ⟨a.toNat, by omega⟩
  obtain ⟨b, rfl⟩ : ∃ j : Nat, b = (j : Int) := ⟨b.toNat, by omega⟩
  obtain ⟨d, rfl⟩ : ∃ j : Nat, d = (j : Int) := ⟨d.toNat, by omega⟩
  obtain ⟨l0, e4, hl0, hs0⟩ := blank_ok (fuel := fuel) (by omega) (a := a + 1) (b := b + 1) (by omega) (by omega)
  have key : ∃ r : List ByteArray × GoC.Tape, loopK (GsL1CurPlateSheet.l0 fuel) fuel (l0, (d : Int), t3) GsL1CurPlateSheet.e0 = some r ∧ (smS r.1 ∧ good r.2 m) := by
    refine lp_ex (n := d) (fun k (s : List ByteArray × Int × GoC.Tape) => s.2.1 = ((d - k : Nat) : Int) ∧ s.1.length ≤ 5 ∧ (∀ x ∈ s.1, x.size ≤ 5) ∧ good s.2.2 (m + 194 - 40 * k)) ?_ ?_ fuel 0 _ (by omega) (by omega) ⟨rfl, hl0, hs0, h3⟩
    · rintro k ⟨l, i, c⟩ nx hk ⟨i1, i2, i3, i4⟩ hn
      dsimp only at i1 i2 i3 i4
      subst i1
      have hlt : (0 : Int) < ((d - k : Nat) : Int) := by omega
      obtain ⟨bl, t5, e5, hb5, h5⟩ := block_ok (fuel := fuel) (by omega) (m := m + 164 - 40 * k) (good_less i4 (by omega))
      obtain ⟨p, t6, e6, _, _, _, h6⟩ := pick_ok (n := 3) (m := m + 162 - 40 * k) (good_less h5 (by omega))
      obtain ⟨q, t7, e7, _, _, _, h7⟩ := pick_ok (n := 3) (m := m + 160 - 40 * k) (good_less h6 (by omega))
      have e8 := layB_spec l bl (fun s hs => Nat.le_trans (i3 s hs) (by omega)) (fun s hs => Nat.le_trans (hb5.2 s hs) (by omega)) p q fuel hf
      obtain ⟨hq1, hq2⟩ := laid_sm l bl p q
      generalize layRes l bl p q = res at e8 hq1 hq2
      obtain ⟨l2, ok⟩ := res
      simp only [GsL1CurPlateSheet.l0, unp3, letK, iteK_if, decide_eq_true hlt, if_true, e5, e6, e7, e8, bind2_some, unBlock, appK]
      rw [wrap_in (by omega) (by omega)]
      cases ok with
      | true => exact hn _ ⟨by dsimp only; omega, hq1, hq2, good_less h7 (by omega)⟩
      | false => exact hn _ ⟨by dsimp only; omega, i2, i3, good_less h7 (by omega)⟩
    · rintro ⟨l, i, c⟩ nx ⟨i1, i2, i3, i4⟩
      dsimp only at i1 i2 i3 i4
      subst i1
      have hlt : ¬ (0 : Int) < ((d - d : Nat) : Int) := by omega
      simp only [GsL1CurPlateSheet.l0, unp3, letK, iteK_if, decide_eq_false hlt, Bool.false_eq_true, if_false, appK]
      exact sheet_end l _ i2 i3 (good_less i4 (by omega))
  obtain ⟨⟨l, t'⟩, hr, hq⟩ := key
  refine ⟨l, t', ?_, hq⟩
  simp only [GsL1CurPlateSheet.P, letK, e1, e2, e3, bind2_some]
  rw [wrap_in (x := 1 + (a : Int)) (by omega) (by omega), wrap_in (x := 1 + (b : Int)) (by omega) (by omega), show (1 : Int) + (a : Int) = ((a + 1 : Nat) : Int) by omega, show (1 : Int) + (b : Int) = ((b + 1 : Nat) : Int) by omega, e4]
  exact hr
end Go.Proofs.Ytaepibmmpdfjcaa.Q4DrawsS

/- Places for blocks on sheets: the plain functions of the program and of the reference agree, and the law answers true. (Q4Places) No condition but those of each theorem. -/
namespace Go.Proofs.Ytaepibmmpdfjcaa.Q4Places
set_option linter.unusedVariables false
set_option linter.unusedSimpArgs false
open Go.RowKit
open Go.Proofs.Ytaepibmmpdfjcaa.GoP Go.Proofs.Ytaepibmmpdfjcaa.PlainStamp Go.Proofs.Ytaepibmmpdfjcaa.QBase Go.Proofs.Ytaepibmmpdfjcaa.QLoop Go.Proofs.Ytaepibmmpdfjcaa.QStrs Go.Proofs.Ytaepibmmpdfjcaa.QSheet Go.Proofs.Ytaepibmmpdfjcaa.Q4See Go.Proofs.Ytaepibmmpdfjcaa.Q4Fits Go.Proofs.Ytaepibmmpdfjcaa.PIntA2

def pv (f : Nat → Nat → Bool) (r j : Nat) : List IntA2 := ((List.range j).filter fun c : Nat => f r c).map fun c : Nat => (⟨(r : Int), (c : Int)⟩ : IntA2)
theorem pv_succ (f : Nat → Nat → Bool) (r j : Nat) : pv f r (j + 1) = if f r j = true then pv f r j ++ [⟨(r : Int), (j : Int)⟩] else pv f r j := by
  unfold pv
  rw [List.range_succ, List.filter_append, List.map_append]
  cases h : f r j <;> simp [List.filter, h]
def pvs (f : Nat → Nat → Bool) (W n : Nat) : List IntA2 := (List.range n).flatMap fun r => pv f r W
theorem pvs_succ (f : Nat → Nat → Bool) (W n : Nat) : pvs f W (n + 1) = pvs f W n ++ pv f n W := by
  unfold pvs
  rw [List.range_succ, List.flatMap_append]
  simp
def plR (l m : List ByteArray) : List IntA2 := pvs (fun r c => fitB l m r c) (rw_ l 0).size l.length
theorem on_impl {l m : List ByteArray} (hl : rowsB l (5 : Nat) = true) (hm : rowsB m (3 : Nat) = true) (hls : ∀ s ∈ l, s.size ≤ 1048576) (hms : ∀ s ∈ m, s.size ≤ 1048576) : GiPlacesOn.P l m = some (plR l m) := by
  obtain ⟨a1, a2, a3, a4, a5⟩ := rowsB_parts hl
  simp only [GiPlacesOn.P]
  refine cnt_is _ (fun r o => o = pvs (fun r c => fitB l m r c) (rw_ l 0).size r ∧ o.length ≤ 5 * r) ?_ ?_ [] ⟨rfl, by simp⟩
  · rintro r o nx hr ⟨h1, h2⟩ hn
    obtain ⟨x, hx, hxi, hdx⟩ := at_row (l := l) (k := r) hr
    have hw := a5 r hr
    rw [show rw_ l r = x from hdx] at hw
    simp only [GiPlacesOn.l0, letK, hxi, Option.bind_some]
    rw [guardK_pos (by omega)]
    refine cnt_is _ (fun j o => o = pvs (fun r c => fitB l m r c) (rw_ l 0).size r ++ pv (fun r c => fitB l m r c) r j ∧ o.length ≤ 5 * r + j) ?_ ?_ o ⟨by rw [h1]; simp [pv], by omega⟩
    · rintro j o nx2 hj ⟨g1, g2⟩ hn2
      have hd := pv_succ (fun r c => fitB l m r c) r j
      simp only [GiPlacesOn.l1, letK, fits_impl hl hm hls hms r j (by omega) (by omega), Option.bind_some, appK, iteK_if]
      cases hb : fitB l m r j with
      | true =>
        rw [hb, if_pos rfl] at hd
        rw [if_pos rfl, guardK_pos (by omega)]
        exact hn2 _ ⟨by rw [g1, hd, List.append_assoc], by rw [List.length_append]; show o.length + 1 ≤ _; omega⟩
      | false =>
        rw [hb, if_neg (by simp)] at hd
        rw [if_neg (by simp)]
        exact hn2 _ ⟨by rw [g1, hd], by omega⟩
    · rintro o ⟨g1, g2⟩
      simp only [GiPlacesOn.e1, letK, appK]
      refine hn _ ⟨?_, by omega⟩
      rw [g1, pvs_succ, hw]
  · rintro o ⟨h1, h2⟩
    simp only [GiPlacesOn.e0, letK, h1]
    rfl
theorem on_spec {l m : List ByteArray} (hl : rowsB l (5 : Nat) = true) (hm : rowsB m (3 : Nat) = true) (fuel : Nat) (hf : 10 ≤ fuel) : GsL4Places.P fuel l m = some (plR l m) := by
  obtain ⟨a1, a2, a3, a4, a5⟩ := rowsB_parts hl
  obtain ⟨x, hx, hxi, hdx⟩ := at_row (l := l) (k := 0) (by omega)
  have hxi' : idx l 0 = some x := hxi
  have ex : (rw_ l 0).size = x.size := by rw [show rw_ l 0 = x from hdx]
  simp only [GsL4Places.P]
  refine cnt_is _ (fun r o => o = pvs (fun r c => fitB l m r c) (rw_ l 0).size r ∧ o.length ≤ 5 * r) ?_ ?_ [] ⟨rfl, by simp⟩
  · rintro r o nx hr ⟨h1, h2⟩ hn
    simp only [GsL4Places.l0, letK]
    obtain ⟨y, hy, rfl⟩ := Go.Proofs.Ytaepibmmpdfjcaa.QAll.lp_ex (f := GsL4Places.l1 l m fuel r) (fin := GsL4Places.e1 nx) (Q := fun y => y = plR l m) (n := x.size) (fun j (st : List IntA2 × Int) => st.2 = (j : Int) ∧ st.1 = pvs (fun r c => fitB l m r c) (rw_ l 0).size r ++ pv (fun r c => fitB l m r c) r j ∧ st.1.length ≤ 5 * r + j) (by
      rintro j ⟨o, c⟩ nx2 hj ⟨g0, g1, g2⟩ hn2
      dsimp only at g0 g1 g2
      subst g0
      have hd := pv_succ (fun r c => fitB l m r c) r j
      have hc2 : decide ((j : Int) < (x.size : Int)) = true := by simp; omega
      simp only [GsL4Places.l1, unp2, letK, hxi', Option.bind_some, hc2, iteK_if, if_true, fits_spec hl hm r j (by omega) (by omega) fuel hf, appK]
      rw [next_i (by omega)]
      cases hb : fitB l m r j with
      | true =>
        rw [hb, if_pos rfl] at hd
        rw [if_pos rfl, guardK_pos (by omega)]
        exact hn2 _ ⟨rfl, by dsimp only; rw [g1, hd, List.append_assoc], by dsimp only; rw [List.length_append]; show o.length + 1 ≤ _; omega⟩
      | false =>
        rw [hb, if_neg (by simp)] at hd
        rw [if_neg (by simp)]
        exact hn2 _ ⟨rfl, by dsimp only; rw [g1, hd], by dsimp only; omega⟩) (by
      rintro ⟨o, c⟩ nx2 ⟨g0, g1, g2⟩
      dsimp only at g0 g1 g2
      subst g0
      have hc2 : decide ((x.size : Int) < (x.size : Int)) = false := by simp
      simp only [GsL4Places.l1, unp2, letK, hxi', Option.bind_some, hc2, iteK_if, Bool.false_eq_true, if_false, appK, GsL4Places.e1]
      have := hn o ⟨by rw [g1, pvs_succ, ex], by omega⟩
      exact ⟨_, this, rfl⟩) fuel 0 (o, 0) (by omega) (by omega) ⟨rfl, by rw [h1]; simp [pv], by simpa using h2⟩
    exact hy
  · rintro o ⟨h1, h2⟩
    simp only [GsL4Places.e0, letK, h1]
    rfl
end Go.Proofs.Ytaepibmmpdfjcaa.Q4Places

/- The named law of blocks: what is drawn is laid and read alike, a block that is laid takes points away, blocks agree from both sides. (QL4BlockL) No condition but those of each theorem. -/
namespace Go.Proofs.Ytaepibmmpdfjcaa.QL4BlockL
set_option linter.unusedVariables false
set_option linter.unusedSimpArgs false
open Go.RowKit
open Go.Proofs.Ytaepibmmpdfjcaa.GoP Go.Proofs.Ytaepibmmpdfjcaa.PlainStamp Go.Proofs.Ytaepibmmpdfjcaa.QBase Go.Proofs.Ytaepibmmpdfjcaa.Q4Sides Go.Proofs.Ytaepibmmpdfjcaa.Q4Less Go.Proofs.Ytaepibmmpdfjcaa.Q4DrawsS Go.Proofs.Ytaepibmmpdfjcaa.Q4Draws Go.Proofs.Ytaepibmmpdfjcaa.Q4Places Go.Proofs.Ytaepibmmpdfjcaa.Q4LayB Go.Proofs.Ytaepibmmpdfjcaa.Q4Lay Go.Proofs.Ytaepibmmpdfjcaa.QByte Go.Proofs.Ytaepibmmpdfjcaa.Q4Fits Go.Proofs.Ytaepibmmpdfjcaa.Q4See Go.Proofs.Ytaepibmmpdfjcaa.QSheet Go.Proofs.Ytaepibmmpdfjcaa.QStrs Go.Proofs.Ytaepibmmpdfjcaa.QDraw Go.Proofs.Ytaepibmmpdfjcaa.QLoop Go.Proofs.Ytaepibmmpdfjcaa.PIntA2 Go.Proofs.Ytaepibmmpdfjcaa.PBlock

theorem vPairs_self (l : List IntA2) : GlVPairs.P l l = some true := by
  simp only [GlVPairs.P, letK, iteK_if]
  rw [if_neg (by simp)]
  refine cnt_is true (fun _ _ => True) ?_ (fun s _ => rfl) () trivial
  rintro k ⟨⟩ nx hk _ hn
  obtain ⟨⟨x, y⟩, _, hi⟩ := at_lt (l := l) (k := k) hk
  simp only [GlVPairs.l0, hi, Option.bind_some, unIntA2, letK, appK, iteK_if]
  rw [if_neg (by simp)]; exact hn () trivial
theorem vTexts_self (l : List ByteArray) : GlVTexts.P l l = some true := by
  simp only [GlVTexts.P, letK, iteK_if]
  rw [if_neg (by simp)]
  refine cnt_is true (fun _ _ => True) ?_ (fun s _ => rfl) () trivial
  rintro k ⟨⟩ nx hk _ hn
  obtain ⟨x, _, hi⟩ := at_lt (l := l) (k := k) hk
  simp only [GlVTexts.l0, hi, Option.bind_some, letK, appK, iteK_if]
  rw [if_neg (by simp)]; exact hn () trivial
def plcRes (l m : List ByteArray) : List IntA2 × Bool := if (rowsB l (5 : Nat) && rowsB m (3 : Nat)) = true then (plR l m, true) else ([], false)
theorem places_res (l m : List ByteArray) (fuel : Nat) (hf : 1048577 ≤ fuel) (hls : ∀ s ∈ l, s.size ≤ 1048576) (hms : ∀ s ∈ m, s.size ≤ 1048576) : GiPlacesFor.P l m = some (plcRes l m) ∧ GsPlacesFor.P fuel l m = some (plcRes l m) := by
  have c1 : GiAreRows.P l 5 = some (rowsB l (5 : Nat)) := impl_eq l 5 hls
  have c2 : GiAreRows.P m 3 = some (rowsB m (3 : Nat)) := impl_eq m 3 hms
  have c3 : GsL4Rows.P fuel l 5 = some (rowsB l (5 : Nat)) := spec_eq l 5 fuel hf hls
  have c4 : GsL4Rows.P fuel m 3 = some (rowsB m (3 : Nat)) := spec_eq m 3 fuel hf hms
  simp only [GiPlacesFor.P, GsPlacesFor.P, GiIsSheet.P, GiIsBlock.P, GsIsSheet.P, GsIsBlock.P, c1, c2, c3, c4, Option.bind_some, letK, joinK, appK, iteK_if, plcRes]
  cases h1 : rowsB l (5 : Nat) with
  | false => simp
  | true =>
    cases h2 : rowsB m (3 : Nat) with
    | false => simp
    | true => simp [on_impl h1 h2 hls hms, on_spec h1 h2 fuel (by omega)]
theorem plR_fit {l m : List ByteArray} {x : IntA2} (h : x ∈ plR l m) : fitB l m x.x0 x.x1 = true := by
  unfold plR pvs at h
  obtain ⟨r, _, h2⟩ := List.mem_flatMap.1 h
  unfold pv at h2
  obtain ⟨c, hc, rfl⟩ := List.mem_map.1 h2
  exact (List.mem_filter.1 hc).2
theorem smS_size {l : List ByteArray} (h : smS l) : ∀ s ∈ l, s.size ≤ 1048576 := fun s hs => Nat.le_trans (h.2 s hs) (by omega)
theorem smB_size {l : List ByteArray} (h : smB l) : ∀ s ∈ l, s.size ≤ 1048576 := fun s hs => Nat.le_trans (h.2 s hs) (by omega)
theorem drawPlaces_ok {tapes : List Int → GoC.Tape} (ht : GoC.Tells tapes) (code : List Int) (fuel : Nat) (hf : 1048577 ≤ fuel) : ∃ l m, GsDrawPlacesFor.P fuel tapes code = some (l, ⟨m⟩) ∧ smS l ∧ smB m := by
  obtain ⟨l, t1, e1, hl, h1⟩ := sheet_ok hf (m := 100) (good_of ht code (by omega))
  obtain ⟨m, t2, e2, hm, h2⟩ := block_ok (fuel := fuel) (by omega) (m := 70) h1
  exact ⟨l, m, by simp only [GsDrawPlacesFor.P, letK, e1, e2, bind2_some, unBlock], hl, hm⟩
theorem drawLay_ok {tapes : List Int → GoC.Tape} (ht : GoC.Tells tapes) (code : List Int) (fuel : Nat) (hf : 1048577 ≤ fuel) : ∃ l m r c, GsDrawLayBlock.P fuel tapes code = some (l, ⟨m⟩, r, c) ∧ smS l ∧ smB m := by
  obtain ⟨l, t1, e1, hl, h1⟩ := sheet_ok hf (m := 100) (good_of ht code (by omega))
  obtain ⟨m, t2, e2, hm, h2⟩ := block_ok (fuel := fuel) (by omega) (m := 70) h1
  obtain ⟨a, t3, e3, _, _, _, h3⟩ := pick_ok (n := 4) (m := 68) h2
  obtain ⟨b, t4, e4, _, _, _, h4⟩ := pick_ok (n := 17) (m := 66) h3
  obtain ⟨c, t5, e5, _, _, _, h5⟩ := pick_ok (n := 4) (m := 64) h4
  exact ⟨l, m, _, _, by simp only [GsDrawLayBlock.P, letK, e1, e2, e3, e4, e5, bind2_some, unBlock]; rfl, hl, hm⟩
theorem drawAgree_ok {tapes : List Int → GoC.Tape} (ht : GoC.Tells tapes) (code : List Int) (fuel : Nat) (hf : 1048577 ≤ fuel) : ∃ a b d r, GsDrawDoAgree.P fuel tapes code = some (⟨a⟩, ⟨b⟩, d, r) ∧ smB a ∧ smB b ∧ (-3 ≤ d ∧ d ≤ 3) ∧ (-3 ≤ r ∧ r ≤ 3) := by
  obtain ⟨a, t1, e1, ha, h1⟩ := block_ok (fuel := fuel) (by omega) (m := 100) (good_of ht code (by omega))
  obtain ⟨b, t2, e2, hb, h2⟩ := block_ok (fuel := fuel) (by omega) (m := 70) h1
  obtain ⟨d, t3, e3, hd, h3⟩ := among_ok (l := [0, 1, 2, (-1), (-2), 3]) (m := 68) h2 (by simp)
  obtain ⟨r, t4, e4, hr, h4⟩ := among_ok (l := [0, 1, 2, (-1), (-2), (-3)]) (m := 66) h3 (by simp)
  simp only [List.mem_cons, List.not_mem_nil, or_false] at hd hr
  exact ⟨a, b, d, r, by simp only [GsDrawDoAgree.P, letK, e1, e2, e3, e4, bind2_some, unBlock], ha, hb, by omega, by omega⟩
theorem drawPoints_ok {tapes : List Int → GoC.Tape} (ht : GoC.Tells tapes) (code : List Int) (fuel : Nat) (hf : 1048577 ≤ fuel) : ∃ l, GsDrawPointsOn.P fuel tapes code = some l ∧ smS l := by
  obtain ⟨l, t1, e1, hl, h1⟩ := sheet_ok hf (m := 100) (good_of ht code (by omega))
  exact ⟨l, by simp only [GsDrawPointsOn.P, GsDrawIsSheet.P, letK, e1, bind2_some, Option.bind_some], hl⟩
theorem drawText_ok {tapes : List Int → GoC.Tape} (ht : GoC.Tells tapes) (code : List Int) (fuel : Nat) (hf : 1048577 ≤ fuel) : ∃ m, GsDrawBlockText.P fuel tapes code = some ⟨m⟩ ∧ smB m := by
  obtain ⟨m, t1, e1, hm, h1⟩ := block_ok (fuel := fuel) (by omega) (m := 100) (good_of ht code (by omega))
  exact ⟨m, by simp only [GsDrawBlockText.P, GsDrawIsBlock.P, letK, e1, bind2_some, unBlock, Option.bind_some], hm⟩
theorem q4_ok {tapes : List Int → GoC.Tape} (ht : GoC.Tells tapes) (code : List Int) : GlFnBlocks.q4 code 1048577 tapes false = some true := by
  obtain ⟨m, e, hm⟩ := drawText_ok ht code 1048577 (Nat.le_refl _)
  have i1 := Go.Proofs.Ytaepibmmpdfjcaa.Q4BlockText.txt_impl m (smB_size hm)
  have i2 := Go.Proofs.Ytaepibmmpdfjcaa.Q4BlockText.txt_spec m (smB_size hm)
  obtain ⟨⟨a, b⟩, hr⟩ : ∃ x, x = Go.Proofs.Ytaepibmmpdfjcaa.Q4BlockText.txtRes m := ⟨_, rfl⟩
  rw [← hr] at i1 i2
  simp [GlFnBlocks.q4, GlFnBlocks.q5, e, unBlock, i1, i2, bind2, joinK, appK, iteK_if, letK]
theorem q3_ok {tapes : List Int → GoC.Tape} (ht : GoC.Tells tapes) (code : List Int) : GlFnBlocks.q3 code 1048577 tapes false = some true := by
  obtain ⟨l, e, hl⟩ := drawPoints_ok ht code 1048577 (Nat.le_refl _)
  have i1 := Go.Proofs.Ytaepibmmpdfjcaa.Q4Points.pts_impl l (smS_size hl)
  have i2 := Go.Proofs.Ytaepibmmpdfjcaa.Q4Points.pts_spec l (smS_size hl)
  obtain ⟨⟨a, b⟩, hr⟩ : ∃ x, x = Go.Proofs.Ytaepibmmpdfjcaa.Q4Points.ptsRes l := ⟨_, rfl⟩
  rw [← hr] at i1 i2
  simp [GlFnBlocks.q3, e, i1, i2, bind2, joinK, appK, iteK_if, letK, q4_ok ht code]
theorem q2_ok {tapes : List Int → GoC.Tape} (ht : GoC.Tells tapes) (code : List Int) : GlFnBlocks.q2 code 1048577 tapes false = some true := by
  obtain ⟨a, b, d, r, e, ha, hb, hd, hr⟩ := drawAgree_ok ht code 1048577 (Nat.le_refl _)
  have la : a.length ≤ 1048576 := Nat.le_trans ha.1 (by omega)
  have lb : b.length ≤ 1048576 := Nat.le_trans hb.1 (by omega)
  have i1 : GiDoAgree.P a b d r = some (agRes a b d r) := Go.Proofs.Ytaepibmmpdfjcaa.QAgreeB.implD a b d r la (smB_size ha) lb (smB_size hb)
  have i2 : GiDoAgree.P b a (-d) (-r) = some (agRes a b d r) := by rw [← ag_sides]; exact Go.Proofs.Ytaepibmmpdfjcaa.QAgreeB.implD b a (-d) (-r) lb (smB_size hb) la (smB_size ha)
  have i3 : GsDoAgree.P 1048577 a b d r = some (agRes a b d r) := Go.Proofs.Ytaepibmmpdfjcaa.QAgreeB.specD a b d r 1048577 (Nat.le_refl _) la (smB_size ha) lb (smB_size hb)
  obtain ⟨⟨x, y⟩, hx⟩ : ∃ x, x = agRes a b d r := ⟨_, rfl⟩
  rw [← hx] at i1 i2 i3
  have w1 : IntKind.i64.wrap (-d) = -d := wrap_in (by omega) (by omega)
  have w2 : IntKind.i64.wrap (-r) = -r := wrap_in (by omega) (by omega)
  simp [GlFnBlocks.q2, e, unBlock, bind4, i1, i2, i3, w1, w2, bind2, joinK, appK, iteK_if, letK, q3_ok ht code]
theorem e0_ok {tapes : List Int → GoC.Tape} (ht : GoC.Tells tapes) (code : List Int) : GlFnBlocks.e0 code 1048577 tapes () = some true := by
  obtain ⟨l, m, r, c, e, hl, hm⟩ := drawLay_ok ht code 1048577 (Nat.le_refl _)
  have i1 := layB_impl l m (smS_size hl) (smB_size hm) r c
  have i2 := layB_spec l m (smS_size hl) (smB_size hm) r c 1048577 (Nat.le_refl _)
  obtain ⟨⟨x, y⟩, hx⟩ : ∃ x, x = layRes l m r c := ⟨_, rfl⟩
  rw [← hx] at i1 i2
  simp [GlFnBlocks.e0, e, unBlock, bind4, i1, i2, bind2, joinK, appK, iteK_if, letK, vTexts_self, q2_ok ht code]
theorem loop_ok {tapes : List Int → GoC.Tape} (ht : GoC.Tells tapes) (code : List Int) {l m : List ByteArray} (hl : smS l) (hm : smB m) (h5 : rowsB l (5 : Nat) = true) (h3 : rowsB m (3 : Nat) = true) : cntK (GlFnBlocks.l0 l m (plR l m)) (plR l m).length 0 () (GlFnBlocks.e0 code 1048577 tapes) = some true := by
  refine cnt_is true (fun _ _ => True) ?_ (fun s _ => e0_ok ht code) () trivial
  rintro k ⟨⟩ nx hk _ hn
  obtain ⟨x, hx, hi⟩ := at_lt (l := plR l m) (k := k) hk
  have hfit := plR_fit (List.mem_of_getElem? hx)
  have i1 := layB_impl l m (smS_size hl) (smB_size hm) x.x0 x.x1
  have e1 : layRes l m x.x0 x.x1 = (lay l m x.x0.toNat x.x1.toNat, true) := by unfold layRes; rw [if_pos (by rw [h5, h3, hfit]; rfl)]
  rw [e1] at i1
  have hsm : ∀ s ∈ lay l m x.x0.toNat x.x1.toNat, s.size ≤ 1048576 := by
    have := (laid_sm l m x.x0 x.x1).2
    rw [e1] at this
    exact fun s hs => Nat.le_trans (this s hs) (by omega)
  have i2 := Go.Proofs.Ytaepibmmpdfjcaa.Q4Points.pts_impl l (smS_size hl)
  have i3 := Go.Proofs.Ytaepibmmpdfjcaa.Q4Points.pts_impl (lay l m x.x0.toNat x.x1.toNat) hsm
  have p2 : Go.Proofs.Ytaepibmmpdfjcaa.Q4Points.ptsRes l = (Go.Proofs.Ytaepibmmpdfjcaa.Q4Points.tot l l.length, true) := by unfold Go.Proofs.Ytaepibmmpdfjcaa.Q4Points.ptsRes; exact if_pos h5
  have p3 : Go.Proofs.Ytaepibmmpdfjcaa.Q4Points.ptsRes (lay l m x.x0.toNat x.x1.toNat) = (Go.Proofs.Ytaepibmmpdfjcaa.Q4Points.tot (lay l m x.x0.toNat x.x1.toNat) l.length, true) := by unfold Go.Proofs.Ytaepibmmpdfjcaa.Q4Points.ptsRes; rw [lay_len]; exact if_pos (lay_rows h5 h3)
  rw [p2] at i2
  rw [p3] at i3
  have hle : ¬ Go.Proofs.Ytaepibmmpdfjcaa.Q4Points.tot l l.length < Go.Proofs.Ytaepibmmpdfjcaa.Q4Points.tot (lay l m x.x0.toNat x.x1.toNat) l.length := by
    have := lay_less (m := m) (r := x.x0.toNat) (c := x.x1.toNat) h5 l.length (Nat.le_refl _); omega
  obtain ⟨x0, x1⟩ := x
  dsimp only at i1 i3 hle
  simp [GlFnBlocks.l0, GlFnBlocks.q1, hi, unIntA2, i1, i2, i3, hle, bind2, joinK, appK, iteK_if, letK]
  exact hn () trivial
theorem law_blocks {tapes : List Int → GoC.Tape} (ht : GoC.Tells tapes) (code : List Int) : GlFnBlocks.P 1048577 tapes code = some true := by
  simp only [GlFnBlocks.P, GlVBig.P, Option.bind_some, letK, iteK_if]
  by_cases hb : (65536 : Int) < (code.length : Int)
  · rw [if_pos (by simpa using hb)]
  · rw [if_neg (by simpa using hb)]
    obtain ⟨l, m, e, hl, hm⟩ := drawPlaces_ok ht code 1048577 (Nat.le_refl _)
    obtain ⟨i1, i2⟩ := places_res l m 1048577 (Nat.le_refl _) (smS_size hl) (smB_size hm)
    have s1 : GiIsSheet.P l = some (rowsB l (5 : Nat)) := by simp only [GiIsSheet.P, impl_eq l 5 (smS_size hl), Option.bind_some]; rfl
    have s2 : GiIsBlock.P m = some (rowsB m (3 : Nat)) := by simp only [GiIsBlock.P, impl_eq m 3 (smB_size hm), Option.bind_some]; rfl
    have hloop := loop_ok ht code hl hm
    have hzero := e0_ok ht code
    unfold plcRes at i1 i2
    generalize rowsB l (5 : Nat) = u at s1 i1 i2 hloop
    generalize rowsB m (3 : Nat) = v at s2 i1 i2 hloop
    have hv := vPairs_self (plR l m)
    have hn := vPairs_self []
    cases u with
    | false => simp at i1 i2; simp [e, unBlock, i1, i2, s1, s2, hn, bind2, joinK, appK, iteK_if, letK, GlFnBlocks.q0, cntK, hzero]
    | true =>
      cases v with
      | false => simp at i1 i2; simp [e, unBlock, i1, i2, s1, s2, hn, bind2, joinK, appK, iteK_if, letK, GlFnBlocks.q0, cntK, hzero]
      | true =>
        simp at i1 i2
        have := hloop rfl rfl
        simp [e, unBlock, i1, i2, s1, s2, hv, bind2, joinK, appK, iteK_if, letK, GlFnBlocks.q0, this]
end Go.Proofs.Ytaepibmmpdfjcaa.QL4BlockL

