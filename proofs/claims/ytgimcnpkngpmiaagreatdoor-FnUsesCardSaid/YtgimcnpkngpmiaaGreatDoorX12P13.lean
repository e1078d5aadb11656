/- Texts on which the proofs of several laws stand, one behind the other (13 of 13). No condition of their own. -/
import Derived.Test.YtgimcnpkngpmiaaGreatDoorX12P12
import Derived.Test.YtgimcnpkngpmiaaGreatDoorX12P2
import Derived.Test.YtgimcnpkngpmiaaGreatDoorX12P6
import Derived.Test.YtgimcnpkngpmiaaGreatDoorX12P7
import Derived.Test.YtgimcnpkngpmiaaGreatDoorX12P10
import Derived.Test.YtgimcnpkngpmiaaGreatDoorX12P3
import Derived.Test.YtgimcnpkngpmiaaGreatDoorX12P4
import Derived.Test.YtgimcnpkngpmiaaGreatDoorX12P8
import Derived.Lib.ItoaLen
import Derived.Lib.AtoiTie
import Derived.Lib.ItoaMem
import Derived.Test.YtgimcnpkngpmiaaGreatDoorX12P11
import Derived.IntWalk
/- The named law of uses: a use that reaches to a day has this day, towns that are told were used, and the gap is less than the days from the first to the last. (Q11UFacts) No condition but those of each theorem. -/
namespace Go.Proofs.YtgimcnpkngpmiaaGreatDoor.Q11UFacts
set_option linter.unusedVariables false
set_option linter.unusedSimpArgs false
open Go.RowKit
open Go.Proofs.YtgimcnpkngpmiaaGreatDoor.GoP Go.Proofs.YtgimcnpkngpmiaaGreatDoor.PlainStamp Go.Proofs.YtgimcnpkngpmiaaGreatDoor.QBase Go.Proofs.YtgimcnpkngpmiaaGreatDoor.Q11Set Go.Proofs.YtgimcnpkngpmiaaGreatDoor.Q11Sweep Go.Proofs.YtgimcnpkngpmiaaGreatDoor.Q11Gap Go.Proofs.YtgimcnpkngpmiaaGreatDoor.Q11Towns Go.Proofs.YtgimcnpkngpmiaaGreatDoor.Q11Used Go.Proofs.YtgimcnpkngpmiaaGreatDoor.Q11Extend Go.Proofs.YtgimcnpkngpmiaaGreatDoor.Q11Marks Go.Proofs.YtgimcnpkngpmiaaGreatDoor.Q11Find Go.Proofs.YtgimcnpkngpmiaaGreatDoor.QTexts Go.Proofs.YtgimcnpkngpmiaaGreatDoor.QWord Go.Proofs.YtgimcnpkngpmiaaGreatDoor.QByte Go.Proofs.YtgimcnpkngpmiaaGreatDoor.QCount Go.Proofs.YtgimcnpkngpmiaaGreatDoor.QOrd Go.Proofs.YtgimcnpkngpmiaaGreatDoor.Q11List Go.Proofs.YtgimcnpkngpmiaaGreatDoor.Q11Mark Go.Proofs.YtgimcnpkngpmiaaGreatDoor.QAll Go.Proofs.YtgimcnpkngpmiaaGreatDoor.QUp Go.Proofs.YtgimcnpkngpmiaaGreatDoor.QLoop Go.Proofs.YtgimcnpkngpmiaaGreatDoor.PPostmark

theorem ext_ok {x : Postmark} {day : Int} (hx : okPm x = true) (hd : inB day 0 4000 = true) : okPm ⟨x.id, x.town, x.kind_, min x.first day, max x.last day, x.lost⟩ = true := by
  obtain ⟨h1, h2, h3, h4, h5, h6, h7⟩ := okPm_of hx
  have hd' := inB_of hd
  unfold okPm
  dsimp only
  rw [h2, h7]
  unfold inB
  simp; omega
theorem ext_facts {l out : List Postmark} {id day n : Int} (h : extR l id day = (out, n, true)) : okPms out = true ∧ inB day 0 4000 = true ∧ (-10000 ≤ n ∧ n ≤ 10000) ∧ ∀ (k : Nat) (x : Postmark), l[k]? = some x → ∃ y, out[k]? = some y ∧ okPm x = true ∧ okPm y = true ∧ (x.id = id → x.town ∈ towns day out ∧ y.last - y.first = x.last - x.first + n) := by
  unfold extR at h
  by_cases hc : okPms l = true
  · rw [if_pos hc] at h
    cases ha : fnd l id with
    | none => rw [ha] at h; simp at h
    | some p =>
      obtain ⟨i, z⟩ := p
      obtain ⟨_, hz, hzid, hil⟩ := fnd_some ha
      rw [ha] at h
      dsimp only at h
      by_cases hd : inB day 0 4000 = true
      · rw [if_pos hd] at h
        simp only [Prod.mk.injEq, and_true] at h
        obtain ⟨rfl, rfl⟩ := h
        have hd' := inB_of hd
        have hoz := pms_mem hc (List.mem_of_getElem? hz)
        obtain ⟨_, _, _, z1, z2, z3, _⟩ := okPm_of hoz
        have hey := ext_ok hoz hd
        have hco : okPms (l.set i ⟨z.id, z.town, z.kind_, min z.first day, max z.last day, z.lost⟩) = true := by rw [upL_set (y := ⟨z.id, z.town, z.kind_, min z.first day, max z.last day, z.lost⟩) hc hz rfl]; exact hey
        have hto : upTo okPm Postmark.id l l.length = true := by unfold okPms upL at hc; simp only [Bool.and_eq_true] at hc; exact hc.2
        refine ⟨hco, hd, by omega, fun k x hx => ?_⟩
        have hox := pms_mem hc (List.mem_of_getElem? hx)
        by_cases hki : i = k
        · subst hki
          rw [hz] at hx; obtain rfl := Option.some.inj hx
          refine ⟨_, List.getElem?_set_self hil, hox, hey, fun _ => ⟨?_, by dsimp only; omega⟩⟩
          unfold towns
          rw [List.mem_map]
          refine ⟨⟨z.id, z.town, z.kind_, min z.first day, max z.last day, z.lost⟩, List.mem_filter.2 ⟨List.mem_of_getElem? (List.getElem?_set_self hil), ?_⟩, rfl⟩
          unfold usedB inB
          simp; omega
        · refine ⟨x, by rw [List.getElem?_set_ne hki]; exact hx, hox, hox, fun hid => ?_⟩
          exfalso
          rcases Nat.lt_trichotomy i k with h | h | h
          · have := up_less hto h hz hx; omega
          · exact hki h
          · have := up_less hto h hx hz; omega
      · rw [if_neg hd] at h; simp at h
  · rw [if_neg hc] at h; simp at h
theorem gap_facts {l : List Postmark} {town : ByteArray} {g : Int} (h : gapRes l town = (g, true)) : okPms l = true ∧ ofTown l town ≠ [] ∧ 0 ≤ g ∧ g ≤ (fl (ofTown l town)).2 - (fl (ofTown l town)).1 ∧ 0 ≤ (fl (ofTown l town)).2 ∧ (0 ≤ (fl (ofTown l town)).1 ∧ (fl (ofTown l town)).2 ≤ 4000) := by
  unfold gapRes at h
  by_cases he : (ofTown l town).isEmpty = true
  · rw [if_pos he] at h; simp at h
  · rw [if_neg he] at h
    simp only [Prod.mk.injEq, and_true] at h
    subst h
    have hne : ofTown l town ≠ [] := by intro e; rw [e] at he; simp at he
    have hgood : ∀ x ∈ ofTown l town, goodD x := by
      intro x hx
      have h := okPm_of (ofTown_mem hx).2.1
      unfold goodD; omega
    obtain ⟨f1, ⟨u, hu, hu2⟩, f3, ⟨v, hv, hv2⟩⟩ := fl_facts hgood hne
    have gu := hgood u hu
    have gv := hgood v hv
    unfold goodD at gu gv
    have h3 := f3 u hu
    have hcov : (fun i => !covB ((ofTown l town).map pr) ((fl (ofTown l town)).1.toNat + i)) 0 = false := by
      have : covB ((ofTown l town).map pr) ((fl (ofTown l town)).1.toNat + 0) = true := by
        unfold covB
        rw [List.any_eq_true]
        exact ⟨pr u, List.mem_map.2 ⟨u, hu, rfl⟩, by unfold pr; simp; omega⟩
      dsimp only; rw [this]; rfl
    have hlt : ∀ (f : Nat → Bool) (n : Nat), f 0 = false → cntN f (n + 1) ≤ n := by
      intro f n hf0
      induction n with
      | zero => rw [cntN_succ, cntN_zero, hf0]; simp
      | succ n ih => rw [cntN_succ]; split <;> omega
    obtain ⟨w, hw⟩ : ∃ w, (fl (ofTown l town)).2.toNat + 1 - (fl (ofTown l town)).1.toNat = w + 1 := ⟨(fl (ofTown l town)).2.toNat - (fl (ofTown l town)).1.toNat, by omega⟩
    have hle := hlt (fun i => !covB ((ofTown l town).map pr) ((fl (ofTown l town)).1.toNat + i)) w hcov
    obtain ⟨y, hy⟩ := List.exists_mem_of_ne_nil _ hne
    refine ⟨(ofTown_mem hy).1, hne, by omega, ?_, by omega, by omega, by omega⟩
    unfold gapV
    rw [hw]
    omega
end Go.Proofs.YtgimcnpkngpmiaaGreatDoor.Q11UFacts

/- The named law of uses: a use that reaches to a day has this day, towns that are told were used, and the gap is less than the days from the first to the last. (Q11UHelp) No condition but those of each theorem. -/
namespace Go.Proofs.YtgimcnpkngpmiaaGreatDoor.Q11UHelp
set_option linter.unusedVariables false
set_option linter.unusedSimpArgs false
open Go.RowKit
open Go.Proofs.YtgimcnpkngpmiaaGreatDoor.GoP Go.Proofs.YtgimcnpkngpmiaaGreatDoor.PlainStamp Go.Proofs.YtgimcnpkngpmiaaGreatDoor.QBase Go.Proofs.YtgimcnpkngpmiaaGreatDoor.QCount Go.Proofs.YtgimcnpkngpmiaaGreatDoor.QAll Go.Proofs.YtgimcnpkngpmiaaGreatDoor.QOrd Go.Proofs.YtgimcnpkngpmiaaGreatDoor.QLoop Go.Proofs.YtgimcnpkngpmiaaGreatDoor.PPostmark

theorem rMarks_self (l : List Postmark) : GlRMarks.P l l = some true := by
  simp only [GlRMarks.P, letK, iteK_if]
  rw [if_neg (by simp)]
  refine cnt_is true (fun _ _ => True) ?_ (fun s _ => rfl) () trivial
  intro k s nx hk _ hn
  obtain ⟨x, hx, hi⟩ := at_lt (l := l) (k := k) hk
  simp only [GlRMarks.l0, hi, Option.bind_some, unPostmark, letK, appK, iteK_if, beq_self_eq_true, Bool.and_self, Bool.not_true, Bool.false_eq_true, if_false]
  exact hn () trivial
theorem rTexts_self (l : List ByteArray) : GlRTexts.P l l = some true := by
  simp only [GlRTexts.P, letK, iteK_if]
  rw [if_neg (by simp)]
  refine cnt_is true (fun _ _ => True) ?_ (fun s _ => rfl) () trivial
  intro k s nx hk _ hn
  obtain ⟨x, hx, hi⟩ := at_lt (l := l) (k := k) hk
  simp only [GlRTexts.l0, hi, Option.bind_some, letK, appK, iteK_if, beq_self_eq_true, Bool.not_true, Bool.false_eq_true, if_false]
  exact hn () trivial
theorem rHasText_yes {l : List ByteArray} {x : ByteArray} (h : x ∈ l) : GlRHasText.P l x = some true := by
  simp only [GlRHasText.P]
  rw [find_loop (p := fun y => decide (y = x)) (yes := fun _ => some true)]
  · cases hq : l.findIdx? (fun y => decide (y = x)) with
    | some i => rfl
    | none =>
      rw [List.findIdx?_eq_none_iff] at hq
      have := hq x h
      simp at this
  · intro k nx y hy
    have hi : idx l (k : Int) = some y := by rw [idx_nat, hy]
    simp only [GlRHasText.l0, hi, Option.bind_some, letK, appK, iteK_if, eq_list]
theorem rBig_eq (code : List Int) : GlRBig.P code = some (decide ((65536 : Int) < (code.length : Int))) := rfl
end Go.Proofs.YtgimcnpkngpmiaaGreatDoor.Q11UHelp

/- Draws on tapes: each gives something within its bounds. (QDraw) No condition but those of each theorem. -/
namespace Go.Proofs.YtgimcnpkngpmiaaGreatDoor.QDraw
set_option linter.unusedVariables false
set_option linter.unusedSimpArgs false
open Go.RowKit
open Go.Proofs.YtgimcnpkngpmiaaGreatDoor.GoP Go.Proofs.YtgimcnpkngpmiaaGreatDoor.PlainStamp Go.Proofs.YtgimcnpkngpmiaaGreatDoor.QBase Go.Proofs.YtgimcnpkngpmiaaGreatDoor.QLoop

/-- a tape that may be asked m times more -/
def good (t : GoC.Tape) (m : Nat) : Prop := m ≤ t.left ∧ ∀ i, 0 ≤ t.vals i ∧ t.vals i ≤ 255
theorem good_less {t : GoC.Tape} {m n : Nat} (h : good t m) (hn : n ≤ m) : good t n := ⟨Nat.le_trans hn h.1, h.2⟩
theorem good_of {tapes : List Int → GoC.Tape} (h : GoC.Tells tapes) (code : List Int) {m : Nat} (hm : m ≤ 4611686018427387904) : good (tapes code) m := ⟨by rw [h.1]; exact hm, h.2.1 code⟩
theorem next_ok {t : GoC.Tape} {m : Nat} (h : good t (m + 1)) : ∃ b t', GsL1CurNext.P t = some (b, t') ∧ (0 ≤ b ∧ b ≤ 255) ∧ good t' m := by
  unfold GsL1CurNext.P
  rw [if_pos (by have := h.1; omega)]
  exact ⟨_, _, rfl, h.2 0, by have := h.1; show m ≤ t.left - 1; omega, fun i => h.2 (i + 1)⟩
theorem pick_ok {t : GoC.Tape} {m : Nat} {n : Int} (h : good t (m + 2)) : ∃ x t', GsL1CurPick.P t n = some (x, t') ∧ 0 ≤ x ∧ (x < n ∨ n ≤ 1 ∧ x = 0) ∧ x ≤ 65535 ∧ good t' m := by
  simp only [GsL1CurPick.P, letK, iteK_if]
  by_cases hn : n ≤ 1
  · rw [if_pos (by simpa using hn)]
    exact ⟨0, t, rfl, by omega, by omega, by omega, good_less h (by omega)⟩
  · rw [if_neg (by simpa using hn)]
    obtain ⟨b, t1, e1, hb, h1⟩ := next_ok (m := m + 1) h
    rw [e1]
    simp only [bind2_some]
    by_cases h2 : 200 < n
    · rw [if_pos (by simpa using h2)]
      obtain ⟨b2, t2, e2, hb2, h3⟩ := next_ok (m := m) h1
      rw [e2]
      simp only [bind2_some, GsL1CurPick.j0, unp2, letK]
      rw [guardK_pos (by omega), wrap_in (x := b * 256) (by omega) (by omega), wrap_in (by omega) (by omega), Int.tmod_eq_emod_of_nonneg (by omega)]
      have k1 := Int.emod_nonneg (b * 256 + b2) (show n ≠ 0 by omega)
      have k2 := Int.emod_lt_of_pos (b * 256 + b2) (show 0 < n by omega)
      have k3 : (b * 256 + b2) % n ≤ 65535 := by
        by_cases hq : n ≤ 65536
        · omega
        · rw [Int.emod_eq_of_lt (by omega) (by omega)]; omega
      exact ⟨_, _, rfl, k1, .inl k2, by omega, h3⟩
    · rw [if_neg (by simpa using h2)]
      simp only [GsL1CurPick.j0, unp2, letK]
      rw [guardK_pos (by omega), Int.tmod_eq_emod_of_nonneg (by omega)]
      have k1 := Int.emod_nonneg b (show n ≠ 0 by omega)
      have k2 := Int.emod_lt_of_pos b (show 0 < n by omega)
      exact ⟨_, _, rfl, k1, .inl k2, by omega, good_less h1 (by omega)⟩
theorem among_ok {t : GoC.Tape} {m : Nat} {l : List Int} (h : good t (m + 2)) (h0 : 0 < l.length) : ∃ x t', GsL1CurAmong.P t l = some (x, t') ∧ x ∈ l ∧ good t' m := by
  obtain ⟨x, t', e, hx0, hx, _, hg⟩ := pick_ok (n := (l.length : Int)) h
  simp only [GsL1CurAmong.P, e, bind2_some]
  obtain ⟨y, hy, hyi⟩ := at_lt (l := l) (k := x.toNat) (by omega)
  rw [show ((x.toNat : Nat) : Int) = x by omega] at hyi
  exact ⟨y, t', by rw [hyi]; rfl, List.mem_of_getElem? hy, hg⟩
theorem one_ok {t : GoC.Tape} {m : Nat} {n : Int} (h : good t (m + 2)) : ∃ b t', GsL1CurOne.P t n = some (b, t') ∧ good t' m := by
  obtain ⟨x, t', e, _, _, _, hg⟩ := pick_ok (n := n) h
  exact ⟨x == 0, t', by simp only [GsL1CurOne.P, e, bind2_some, letK], hg⟩
end Go.Proofs.YtgimcnpkngpmiaaGreatDoor.QDraw

/- What the named laws of postmarks draw: the draws answer, within bounds. (Q11Draws) No condition but those of each theorem. -/
namespace Go.Proofs.YtgimcnpkngpmiaaGreatDoor.Q11Draws
set_option linter.unusedVariables false
set_option linter.unusedSimpArgs false
open Go.RowKit
open Go.Proofs.YtgimcnpkngpmiaaGreatDoor.GoP Go.Proofs.YtgimcnpkngpmiaaGreatDoor.PlainStamp Go.Proofs.YtgimcnpkngpmiaaGreatDoor.QBase Go.Proofs.YtgimcnpkngpmiaaGreatDoor.QDraw Go.Proofs.YtgimcnpkngpmiaaGreatDoor.QUp Go.Proofs.YtgimcnpkngpmiaaGreatDoor.QAll Go.Proofs.YtgimcnpkngpmiaaGreatDoor.QByte Go.Proofs.YtgimcnpkngpmiaaGreatDoor.Q11Help Go.Proofs.YtgimcnpkngpmiaaGreatDoor.QLoop Go.Proofs.YtgimcnpkngpmiaaGreatDoor.PPostmark

def smP (x : Postmark) : Prop := (-100000 ≤ x.id ∧ x.id ≤ 100000) ∧ x.town.size ≤ 20 ∧ (-100 ≤ x.kind_ ∧ x.kind_ ≤ 100) ∧ (-10000 ≤ x.first ∧ x.first ≤ 10000) ∧ (-10000 ≤ x.last ∧ x.last ≤ 10000) ∧ x.lost.size ≤ 40
theorem wf_sm {n : Int} (h1 : -100000 ≤ n) (h2 : n ≤ 100000) : (Lit.int .i64 n).wf = true := by
  simp only [Lit.wf, Bool.and_eq_true, decide_eq_true_eq]
  exact ⟨by show (-9223372036854775808 : Int) ≤ n; omega, by show n ≤ (9223372036854775807 : Int); omega⟩
theorem smP_fits {x : Postmark} (h : smP x) : x.fits := by
  obtain ⟨h1, h2, h3, h4, h5, h6⟩ := h
  exact ⟨wf_sm (by omega) (by omega), by unfold maxLen; omega, wf_sm (by omega) (by omega), wf_sm (by omega) (by omega), wf_sm (by omega) (by omega), by unfold maxLen; omega⟩
theorem of_ok {t : GoC.Tape} {m : Nat} {l : List ByteArray} (h : good t (m + 2)) (h0 : 0 < l.length) (h1 : l.length ≤ 1000) : ∃ x t', GsL1CurOf.P t l = some (x, t') ∧ x ∈ l ∧ good t' m := by
  obtain ⟨q, t1, e1, hq0, hq, _, hg⟩ := pick_ok (n := (l.length : Int)) (m := m) h
  obtain ⟨x, hx, _⟩ := at_lt (l := l) (k := q.toNat) (by omega)
  have hi : idx l q = some x := by rw [show q = ((q.toNat : Nat) : Int) by omega, idx_nat, hx]
  exact ⟨x, t1, by simp only [GsL1CurOf.P, e1, bind2_some, hi, Option.bind_some], List.mem_of_getElem? hx, hg⟩
theorem town_ok {t : GoC.Tape} {m : Nat} (h : good t (m + 2)) : ∃ x t', GsL1CurTown11.P t = some (x, t') ∧ x.size ≤ 5 ∧ good t' m := by
  obtain ⟨x, t1, e1, hx, hg⟩ := of_ok (l := [(⟨#[98, 97, 115, 101, 108]⟩ : ByteArray), (⟨#[98, 101, 114, 110]⟩ : ByteArray), (⟨#[98, 111, 110, 110]⟩ : ByteArray), (⟨#[103, 101, 110, 102]⟩ : ByteArray), (⟨#[98, 97, 115, 101, 108]⟩ : ByteArray)]) (m := m) h (by simp) (by simp)
  refine ⟨x, t1, by simp only [GsL1CurTown11.P, letK, e1, bind2_some], ?_, hg⟩
  simp only [List.mem_cons, List.not_mem_nil, or_false] at hx
  rcases hx with rfl | rfl | rfl | rfl | rfl <;> decide
abbrev St11 := Int × Int × ByteArray × Int × Int × Int × ByteArray × GoC.Tape
theorem end11 {m : Nat} (id k f la : Int) (tw lo : ByteArray) (i : Int) (hid : -90000 ≤ id ∧ id ≤ 90000) (hk : 0 ≤ k ∧ k ≤ 10) (hf : 0 ≤ f ∧ f ≤ 4000) (hla : 0 ≤ la ∧ la ≤ 8000) (htw : tw.size ≤ 5) (hlo : lo.size ≤ 5) {c : GoC.Tape} (h : good c (m + 4)) :
    ∃ r, GsL1CurPostmark11.e0 (i, id, tw, k, f, la, lo, c) = some r ∧ smP r.1 ∧ good r.2 m := by
  obtain ⟨p, t1, e1, hp0, hp, _, h1⟩ := pick_ok (n := 100) (m := m + 2) h
  have hw := wrap_in (x := la + 1) (by omega) (by omega)
  simp only [GsL1CurPostmark11.e0, unp8, e1, bind2_some, letK, iteK_if, hw]
  have base : smP ⟨id, tw, k, f, la, lo⟩ := ⟨⟨by dsimp only; omega, by dsimp only; omega⟩, by dsimp only; omega, ⟨by dsimp only; omega, by dsimp only; omega⟩, ⟨by dsimp only; omega, by dsimp only; omega⟩, ⟨by dsimp only; omega, by dsimp only; omega⟩, by dsimp only; omega⟩
  by_cases q0 : p = 0
  · obtain ⟨x, t2, e2, hx, h2⟩ := among_ok (l := [0, 999, 1000]) (m := m) h1 (by simp)
    simp only [List.mem_cons, List.not_mem_nil, or_false] at hx
    rw [if_pos (by simpa using q0), e2]
    exact ⟨_, rfl, ⟨⟨by dsimp only; omega, by dsimp only; omega⟩, base.2⟩, h2⟩
  rw [if_neg (by simpa using q0)]
  by_cases q1 : p = 1
  · obtain ⟨x, t2, e2, hx, h2⟩ := of_ok (l := [(⟨#[]⟩ : ByteArray), (⟨#[66, 101, 114, 110]⟩ : ByteArray), (⟨#[97, 98, 99, 100, 101, 102, 103, 104, 105, 106, 107]⟩ : ByteArray)]) (m := m) h1 (by simp) (by simp)
    simp only [List.mem_cons, List.not_mem_nil, or_false] at hx
    have hxs : x.size ≤ 20 := by rcases hx with rfl | rfl | rfl <;> decide
    rw [if_pos (by simpa using q1), e2]
    exact ⟨_, rfl, ⟨base.1, hxs, base.2.2⟩, h2⟩
  rw [if_neg (by simpa using q1)]
  by_cases q2 : p = 2
  · obtain ⟨x, t2, e2, hx, h2⟩ := among_ok (l := [0, 6]) (m := m) h1 (by simp)
    simp only [List.mem_cons, List.not_mem_nil, or_false] at hx
    rw [if_pos (by simpa using q2), e2]
    exact ⟨_, rfl, ⟨base.1, base.2.1, ⟨by dsimp only; omega, by dsimp only; omega⟩, base.2.2.2⟩, h2⟩
  rw [if_neg (by simpa using q2)]
  by_cases q3 : p = 3
  · obtain ⟨x, t2, e2, hx, h2⟩ := among_ok (l := [(-1), la + 1]) (m := m) h1 (by simp)
    simp only [List.mem_cons, List.not_mem_nil, or_false] at hx
    rw [if_pos (by simpa using q3), e2]
    exact ⟨_, rfl, ⟨base.1, base.2.1, base.2.2.1, ⟨by dsimp only; omega, by dsimp only; omega⟩, base.2.2.2.2⟩, h2⟩
  rw [if_neg (by simpa using q3)]
  by_cases q4 : p = 4
  · rw [if_pos (by simpa using q4)]
    exact ⟨_, rfl, ⟨base.1, base.2.1, base.2.2.1, base.2.2.2.1, ⟨by dsimp only; omega, by dsimp only; omega⟩, base.2.2.2.2.2⟩, good_less h1 (by omega)⟩
  rw [if_neg (by simpa using q4)]
  by_cases q5 : p = 5
  · obtain ⟨x, t2, e2, hx, h2⟩ := of_ok (l := [(⟨#[]⟩ : ByteArray), (⟨#[120, 120, 120, 120]⟩ : ByteArray), (⟨#[46, 46, 63, 46]⟩ : ByteArray), (⟨#[46, 46, 46, 46, 46]⟩ : ByteArray)]) (m := m) h1 (by simp) (by simp)
    simp only [List.mem_cons, List.not_mem_nil, or_false] at hx
    have hxs : x.size ≤ 40 := by rcases hx with rfl | rfl | rfl | rfl <;> decide
    rw [if_pos (by simpa using q5), e2]
    exact ⟨_, rfl, ⟨base.1, base.2.1, base.2.2.1, base.2.2.2.1, base.2.2.2.2.1, hxs⟩, h2⟩
  rw [if_neg (by simpa using q5)]
  exact ⟨_, rfl, base, good_less h1 (by omega)⟩
theorem mark11_ok {fuel : Nat} (hf : 1048577 ≤ fuel) {t : GoC.Tape} {m : Nat} (id : Int) (hid : -90000 ≤ id ∧ id ≤ 90000) (h : good t (m + 40)) : ∃ x t', GsL1CurPostmark11.P fuel t id = some (x, t') ∧ smP x ∧ good t' m := by
  obtain ⟨tw, t1, e1, htw, h1⟩ := town_ok (m := m + 38) h
  obtain ⟨k, t2, e2, hk0, hk, _, h2⟩ := pick_ok (n := 5) (m := m + 36) h1
  obtain ⟨f, t3, e3, hfm, h3⟩ := among_ok (l := [0, 100, 100, 200, 3990]) (m := m + 34) h2 (by simp)
  obtain ⟨a, t4, e4, ham, h4⟩ := among_ok (l := [0, 10, 99, 100, 4000]) (m := m + 32) h3 (by simp)
  simp only [List.mem_cons, List.not_mem_nil, or_false] at hfm ham
  have w1 := wrap_in (x := 1 + k) (by omega) (by omega)
  have w2 := wrap_in (x := f + a) (by omega) (by omega)
  simp only [GsL1CurPostmark11.P, letK, e1, e2, e3, e4, bind2_some, w1, w2, least_eq, Option.bind_some]
  obtain ⟨r, hr, hs, hg⟩ : ∃ r, loopK GsL1CurPostmark11.l0 fuel (0, id, tw, 1 + k, f, min 4000 (f + a), (⟨#[]⟩ : ByteArray), t4) GsL1CurPostmark11.e0 = some r ∧ smP r.1 ∧ good r.2 m := by
    refine lp_ex (Q := fun r : Postmark × GoC.Tape => smP r.1 ∧ good r.2 m) (n := tw.size) (fun j (s : St11) => ∃ lo c, s = ((j : Int), id, tw, 1 + k, f, min 4000 (f + a), lo, c) ∧ lo.size = j ∧ good c (m + 32 - 2 * j)) ?_ ?_ fuel 0 _ (by omega) (by omega) ⟨_, _, rfl, rfl, h4⟩
    · rintro j s nx hj ⟨lo, c, rfl, hlo, hgc⟩ hn
      have wj := wrap_in (x := (j : Int) + 1) (by omega) (by omega)
      have z1 : (⟨#[120]⟩ : ByteArray).size = 1 := rfl
      have z2 : (⟨#[46]⟩ : ByteArray).size = 1 := rfl
      have fin : ∀ (b : Bool) (c1 : GoC.Tape), good c1 (m + 32 - 2 * (j + 1)) → ∃ r, GsL1CurPostmark11.q0 nx (j : Int) id tw (1 + k) f (min 4000 (f + a)) lo (b, c1) = some r ∧ smP r.1 ∧ good r.2 m := by
        intro b c1 hc1
        simp only [GsL1CurPostmark11.q0, unp2, letK, iteK_if, wj, appK]
        cases b with
        | true =>
          rw [if_pos rfl, guardK_pos (by rw [z1]; unfold maxLen; omega)]
          exact hn _ ⟨_, _, by rw [show ((j + 1 : Nat) : Int) = (j : Int) + 1 by omega], by rw [ByteArray.size_append, z1]; omega, hc1⟩
        | false =>
          rw [if_neg (by simp), guardK_pos (by rw [z2]; unfold maxLen; omega)]
          exact hn _ ⟨_, _, by rw [show ((j + 1 : Nat) : Int) = (j : Int) + 1 by omega], by rw [ByteArray.size_append, z2]; omega, hc1⟩
      simp only [GsL1CurPostmark11.l0, unp8, letK, iteK_if]
      rw [if_pos (by simp; omega)]
      by_cases h0 : 0 < (j : Int)
      · obtain ⟨b, c1, eb, hc1⟩ := one_ok (n := 4) (m := m + 32 - 2 * (j + 1)) (good_less hgc (by omega))
        simp only [decide_eq_true h0, joinK, appK, if_true, eb, bind2_some, unp2]
        exact fin b c1 hc1
      · simp only [decide_eq_false h0, joinK, appK, Bool.false_eq_true, if_false, unp2]
        exact fin false c (good_less hgc (by omega))
    · rintro s nx ⟨lo, c, rfl, hlo, hgc⟩
      simp only [GsL1CurPostmark11.l0, unp8, letK, iteK_if, appK]
      rw [if_neg (by simp)]
      exact end11 id (1 + k) f (min 4000 (f + a)) tw lo _ hid (by omega) (by omega) (by omega) htw (by omega) (good_less hgc (by omega))
  exact ⟨r.1, r.2, hr, hs, hg⟩
end Go.Proofs.YtgimcnpkngpmiaaGreatDoor.Q11Draws

/- What the named laws of postmarks draw: the draws answer, within bounds. (Q11DrawsL) No condition but those of each theorem. -/
namespace Go.Proofs.YtgimcnpkngpmiaaGreatDoor.Q11DrawsL
set_option linter.unusedVariables false
set_option linter.unusedSimpArgs false
open Go.RowKit
open Go.Proofs.YtgimcnpkngpmiaaGreatDoor.GoP Go.Proofs.YtgimcnpkngpmiaaGreatDoor.PlainStamp Go.Proofs.YtgimcnpkngpmiaaGreatDoor.QBase Go.Proofs.YtgimcnpkngpmiaaGreatDoor.Q11Draws Go.Proofs.YtgimcnpkngpmiaaGreatDoor.QDraw Go.Proofs.YtgimcnpkngpmiaaGreatDoor.QUp Go.Proofs.YtgimcnpkngpmiaaGreatDoor.QAll Go.Proofs.YtgimcnpkngpmiaaGreatDoor.QByte Go.Proofs.YtgimcnpkngpmiaaGreatDoor.Q11Help Go.Proofs.YtgimcnpkngpmiaaGreatDoor.QLoop Go.Proofs.YtgimcnpkngpmiaaGreatDoor.PPostmark

abbrev Re11 := List Postmark × GoC.Tape
def smL (l : List Postmark) : Prop := l.length ≤ 30 ∧ ∀ x ∈ l, smP x
theorem more11 {fuel : Nat} (hf : 1048577 ≤ fuel) {m : Nat} (e : List Postmark × Int × GoC.Tape → Option Re11) (he : ∀ o n c, smL o → good c m → ∃ r, e (o, n, c) = some r ∧ smL r.1 ∧ good r.2 m) {c : GoC.Tape} (h : good c (m + 40)) :
    ∃ r, loopK GsL1CurPostmarks11.l1 fuel ([], 0, c) e = some r ∧ smL r.1 ∧ good r.2 m := by
  refine lp_ex (Q := fun r : Re11 => smL r.1 ∧ good r.2 m) (n := 13) (fun k (s : List Postmark × Int × GoC.Tape) => s.2.1 = (k : Int) ∧ s.1.length = k ∧ (∀ x ∈ s.1, smP x) ∧ good s.2.2 (m + 40 - 2 * k)) ?_ ?_ fuel 0 _ (by omega) (by omega) ⟨rfl, rfl, by simp, h⟩
  · rintro k ⟨o, n, c⟩ nx hk ⟨h1, h2, h3, h4⟩ hn
    dsimp only at h1 h2 h3 h4
    subst h1
    obtain ⟨x, c1, e1, hx0, hx, _, hg⟩ := pick_ok (n := 2) (m := m + 40 - 2 * (k + 1)) (good_less h4 (by omega))
    have w1 := wrap_in (x := 12 + x) (by omega) (by omega)
    have w2 := wrap_in (x := (k : Int) + 1) (by omega) (by omega)
    have w3 := wrap_in (x := 20 * (k : Int)) (by omega) (by omega)
    have w4 := wrap_in (x := 20 * (k : Int) + 10) (by omega) (by omega)
    simp only [GsL1CurPostmarks11.l1, unp3, e1, bind2_some, letK, iteK_if, w1, w2, w3, w4, appK]
    by_cases hc : (k : Int) < 12 + x
    · rw [if_pos (by simpa using hc), guardK_pos (by omega)]
      refine hn _ ⟨by dsimp only; omega, by simp [h2], ?_, hg⟩
      intro y hy
      dsimp only at hy
      rcases List.mem_append.1 hy with hy | hy
      · exact h3 y hy
      · rw [List.mem_singleton] at hy
        subst hy
        exact ⟨⟨by dsimp only; omega, by dsimp only; omega⟩, by show (4 : Nat) ≤ 20; omega, ⟨by dsimp only; omega, by dsimp only; omega⟩, ⟨by dsimp only; omega, by dsimp only; omega⟩, ⟨by dsimp only; omega, by dsimp only; omega⟩, by show (4 : Nat) ≤ 40; omega⟩
    · rw [if_neg (by simpa using hc)]
      exact he _ _ _ ⟨by omega, h3⟩ (good_less hg (by omega))
  · rintro ⟨o, n, c⟩ nx ⟨h1, h2, h3, h4⟩
    dsimp only at h1 h2 h3 h4
    subst h1
    obtain ⟨x, c1, e1, hx0, hx, _, hg⟩ := pick_ok (n := 2) (m := m) (good_less h4 (by omega))
    have w1 := wrap_in (x := 12 + x) (by omega) (by omega)
    simp only [GsL1CurPostmarks11.l1, unp3, e1, bind2_some, letK, iteK_if, w1, appK]
    rw [if_neg (by simp; omega)]
    exact he _ _ _ ⟨by omega, h3⟩ hg
theorem marks11_ok {fuel : Nat} (hf : 1048577 ≤ fuel) {t : GoC.Tape} {m : Nat} (h : good t (m + 500)) : ∃ l t', GsL1CurPostmarks11.P fuel t = some (l, t') ∧ smL l ∧ good t' m := by
  obtain ⟨p, t1, e1, hp0, hp, _, h1⟩ := pick_ok (n := 8) (m := m + 498) h
  simp only [GsL1CurPostmarks11.P, e1, bind2_some]
  obtain ⟨r, hr, hs, hg⟩ : ∃ r, loopK (GsL1CurPostmarks11.l0 fuel) fuel (([] : List Postmark), 0, p, t1) (GsL1CurPostmarks11.e0 t fuel p t1) = some r ∧ smL r.1 ∧ good r.2 m := by
    refine lp_ex (Q := fun r : Re11 => smL r.1 ∧ good r.2 m) (n := p.toNat) (fun k (s : List Postmark × Int × Int × GoC.Tape) => s.2.2.1 = p - (k : Int) ∧ (-10 * (k : Int) ≤ s.2.1 ∧ s.2.1 ≤ 10 * (k : Int)) ∧ s.1.length = k ∧ (∀ x ∈ s.1, smP x) ∧ good s.2.2.2 (m + 498 - 44 * k)) ?_ ?_ fuel 0 _ (by omega) (by omega) ⟨by simp, by simp, rfl, by simp, h1⟩
    · rintro k ⟨o, id, n, c⟩ nx hk ⟨h2, h3, h4, h5, h6⟩ hn
      dsimp only at h2 h3 h4 h5 h6
      obtain ⟨x, c1, e2, hx0, hx, _, g1⟩ := pick_ok (n := 3) (m := m + 498 - 44 * k - 2) (good_less h6 (by omega))
      obtain ⟨y, c2, e3, hy0, hy, _, g2⟩ := pick_ok (n := 150) (m := m + 498 - 44 * k - 4) (good_less g1 (by omega))
      have hyd : Int.tdiv y 149 = y / 149 := Int.tdiv_eq_ediv_of_nonneg hy0
      have hyb : 0 ≤ y / 149 ∧ y / 149 ≤ 1 := by omega
      have w1 := wrap_in (x := id + 1) (by omega) (by omega)
      have w2 := wrap_in (x := id + 1 + x) (by omega) (by omega)
      have w3 := wrap_in (x := y / 149) (by omega) (by omega)
      have w4 := wrap_in (x := id + 1 + x - y / 149) (by omega) (by omega)
      have w5 := wrap_in (x := n - 1) (by omega) (by omega)
      obtain ⟨q, c3, e4, hq, g3⟩ := mark11_ok hf (m := m + 498 - 44 * k - 44) (id + 1 + x - y / 149) (by omega) (good_less g2 (by omega))
      simp only [GsL1CurPostmarks11.l0, unp4, letK, iteK_if, e2, e3, hyd, w1, w2, w3, w4, w5, e4, bind2_some, unPostmark, appK]
      rw [if_pos (by simp; omega), guardK_pos (by omega)]
      refine hn _ ⟨by dsimp only; omega, by dsimp only; omega, by simp [h4], ?_, good_less g3 (by omega)⟩
      intro z hz
      dsimp only at hz
      rcases List.mem_append.1 hz with hz | hz
      · exact h5 z hz
      · rw [List.mem_singleton] at hz
        subst hz; exact hq
    · rintro ⟨o, id, n, c⟩ nx ⟨h2, h3, h4, h5, h6⟩
      dsimp only at h2 h3 h4 h5 h6
      simp only [GsL1CurPostmarks11.l0, unp4, letK, iteK_if, appK]
      rw [if_neg (by simp; omega)]
      obtain ⟨b, c1, e2, g1⟩ := one_ok (n := 24) (m := m + 40) (good_less h6 (by omega))
      simp only [GsL1CurPostmarks11.e0, unp4, e2, bind2_some, iteK_if]
      cases b with
      | true =>
        rw [if_pos rfl]
        refine more11 hf _ (fun o' n' c' ho hc' => ?_) g1
        exact ⟨(o', c'), rfl, ho, hc'⟩
      | false =>
        rw [if_neg (by simp)]
        exact ⟨(o, c1), rfl, ⟨by dsimp only; omega, h5⟩, good_less g1 (by omega)⟩
  exact ⟨r.1, r.2, hr, hs, hg⟩
end Go.Proofs.YtgimcnpkngpmiaaGreatDoor.Q11DrawsL

/- What the named laws of postmarks draw: the draws answer, within bounds. (Q11DrawsI) No condition but those of each theorem. -/
namespace Go.Proofs.YtgimcnpkngpmiaaGreatDoor.Q11DrawsI
set_option linter.unusedVariables false
set_option linter.unusedSimpArgs false
open Go.RowKit
open Go.Proofs.YtgimcnpkngpmiaaGreatDoor.GoP Go.Proofs.YtgimcnpkngpmiaaGreatDoor.PlainStamp Go.Proofs.YtgimcnpkngpmiaaGreatDoor.QBase Go.Proofs.YtgimcnpkngpmiaaGreatDoor.Q11DrawsL Go.Proofs.YtgimcnpkngpmiaaGreatDoor.Q11Draws Go.Proofs.YtgimcnpkngpmiaaGreatDoor.QDraw Go.Proofs.YtgimcnpkngpmiaaGreatDoor.QUp Go.Proofs.YtgimcnpkngpmiaaGreatDoor.QAll Go.Proofs.YtgimcnpkngpmiaaGreatDoor.QByte Go.Proofs.YtgimcnpkngpmiaaGreatDoor.Q11Help Go.Proofs.YtgimcnpkngpmiaaGreatDoor.QLoop Go.Proofs.YtgimcnpkngpmiaaGreatDoor.PPostmark

theorem id_ok {t : GoC.Tape} {m : Nat} (l : List Postmark) (hl : smL l) (h : good t (m + 4)) : ∃ x t', GsL1CurPostmarkId.P t l = some (x, t') ∧ good t' m := by
  simp only [GsL1CurPostmarkId.P, letK, joinK, appK, iteK_if]
  have low : ∀ c, good c (m + 2) → ∃ x t', (bind2 (GsL1CurAmong.P c [0, 1, 500]) fun (t_10 : Int) (t_10_tp : GoC.Tape) => some (t_10, t_10_tp)) = some (x, t') ∧ good t' m := by
    intro c hc
    obtain ⟨x, t2, e2, _, h2⟩ := among_ok (l := [0, 1, 500]) (m := m) hc (by simp)
    exact ⟨x, t2, by rw [e2]; rfl, h2⟩
  by_cases h0 : (l.length : Int) = 0
  · rw [if_pos (by simpa using h0)]
    simp only [unp2, if_true]
    exact low _ (good_less h (by omega))
  · rw [if_neg (by simpa using h0)]
    obtain ⟨b, t1, e1, h1⟩ := one_ok (n := 10) (m := m + 2) h
    simp only [e1, bind2_some, unp2]
    cases b with
    | true => rw [if_pos rfl]; exact low _ h1
    | false =>
      rw [if_neg (by simp)]
      have hl30 := hl.1
      obtain ⟨q, t2, e2, hq0, hq, _, h2⟩ := pick_ok (n := (l.length : Int)) (m := m) h1
      obtain ⟨x, hx, _⟩ := at_lt (l := l) (k := q.toNat) (by omega)
      have hi : idx l q = some x := by rw [show q = ((q.toNat : Nat) : Int) by omega, idx_nat, hx]
      exact ⟨x.id, t2, by simp only [e2, bind2_some, hi, Option.bind_some, unPostmark], h2⟩
theorem day_ok {t : GoC.Tape} {m : Nat} (l : List Postmark) (hl : smL l) (h : good t (m + 6)) : ∃ x t', GsL1CurDay11.P t l = some (x, t') ∧ good t' m := by
  simp only [GsL1CurDay11.P, letK, joinK, appK, iteK_if]
  have cut : ∀ (q : Int), q = 4 ∨ q = 5 → ((0 : Int) ≤ q ∧ q ≤ (([0, 150, 4000, (-1), 4001] : List Int).length : Int)) ∧ 0 < (List.take (Int.toNat q) ([0, 150, 4000, (-1), 4001] : List Int)).length := by
    rintro q (rfl | rfl) <;> decide
  by_cases h0 : (l.length : Int) = 0
  · rw [if_pos (by simpa using h0)]
    simp only [unp2, if_true]
    obtain ⟨y, t1, e1, hy0, hy, _, g1⟩ := pick_ok (n := 24) (m := m + 2) (good_less h (by omega))
    have hyd : Int.tdiv y 12 = y / 12 := Int.tdiv_eq_ediv_of_nonneg hy0
    have w1 := wrap_in (x := y / 12) (by omega) (by omega)
    have w2 := wrap_in (x := 4 + y / 12) (by omega) (by omega)
    obtain ⟨c1, c2⟩ := cut (4 + y / 12) (by omega)
    obtain ⟨x, t2, e2, _, g2⟩ := among_ok (l := List.take (Int.toNat (4 + y / 12)) [0, 150, 4000, (-1), 4001]) (m := m) g1 c2
    exact ⟨x, t2, by simp only [e1, bind2_some, hyd, w1, w2]; rw [guardK_pos c1, e2]; rfl, g2⟩
  · rw [if_neg (by simpa using h0)]
    obtain ⟨b, t0, e0, g0⟩ := one_ok (n := 5) (m := m + 4) h
    simp only [e0, bind2_some, unp2]
    cases b with
    | true =>
      rw [if_pos rfl]
      obtain ⟨y, t1, e1, hy0, hy, _, g1⟩ := pick_ok (n := 24) (m := m + 2) g0
      have hyd : Int.tdiv y 12 = y / 12 := Int.tdiv_eq_ediv_of_nonneg hy0
      have w1 := wrap_in (x := y / 12) (by omega) (by omega)
      have w2 := wrap_in (x := 4 + y / 12) (by omega) (by omega)
      obtain ⟨c1, c2⟩ := cut (4 + y / 12) (by omega)
      obtain ⟨x, t2, e2, _, g2⟩ := among_ok (l := List.take (Int.toNat (4 + y / 12)) [0, 150, 4000, (-1), 4001]) (m := m) g1 c2
      exact ⟨x, t2, by simp only [e1, bind2_some, hyd, w1, w2]; rw [guardK_pos c1, e2]; rfl, g2⟩
    | false =>
      rw [if_neg (by simp)]
      have hl30 := hl.1
      obtain ⟨q, t2, e2, hq0, hq, _, g2⟩ := pick_ok (n := (l.length : Int)) (m := m + 2) g0
      obtain ⟨x, hx, _⟩ := at_lt (l := l) (k := q.toNat) (by omega)
      have hi : idx l q = some x := by rw [show q = ((q.toNat : Nat) : Int) by omega, idx_nat, hx]
      obtain ⟨_, _, _, hxf, hxl, _⟩ := hl.2 x (List.mem_of_getElem? hx)
      obtain ⟨z, t3, e3, _, g3⟩ := among_ok (l := [x.first, IntKind.i64.wrap (x.first - 1), x.last, IntKind.i64.wrap (x.last + 1), IntKind.i64.wrap (x.first + 5)]) (m := m) g2 (by simp)
      exact ⟨_, t3, by simp only [e2, bind2_some, hi, Option.bind_some, unPostmark, e3, Go.Proofs.YtgimcnpkngpmiaaGreatDoor.Q11Help.most_eq, least_eq]; rfl, g3⟩
end Go.Proofs.YtgimcnpkngpmiaaGreatDoor.Q11DrawsI

/- The named law of uses: a use that reaches to a day has this day, towns that are told were used, and the gap is less than the days from the first to the last. (Q11DrawsU) No condition but those of each theorem. -/
namespace Go.Proofs.YtgimcnpkngpmiaaGreatDoor.Q11DrawsU
set_option linter.unusedVariables false
set_option linter.unusedSimpArgs false
open Go.RowKit
open Go.Proofs.YtgimcnpkngpmiaaGreatDoor.GoP Go.Proofs.YtgimcnpkngpmiaaGreatDoor.PlainStamp Go.Proofs.YtgimcnpkngpmiaaGreatDoor.QBase Go.Proofs.YtgimcnpkngpmiaaGreatDoor.Q11Mark Go.Proofs.YtgimcnpkngpmiaaGreatDoor.Q11DrawsI Go.Proofs.YtgimcnpkngpmiaaGreatDoor.Q11DrawsL Go.Proofs.YtgimcnpkngpmiaaGreatDoor.Q11Draws Go.Proofs.YtgimcnpkngpmiaaGreatDoor.QDraw Go.Proofs.YtgimcnpkngpmiaaGreatDoor.QUp Go.Proofs.YtgimcnpkngpmiaaGreatDoor.QAll Go.Proofs.YtgimcnpkngpmiaaGreatDoor.QByte Go.Proofs.YtgimcnpkngpmiaaGreatDoor.Q11Help Go.Proofs.YtgimcnpkngpmiaaGreatDoor.QLoop Go.Proofs.YtgimcnpkngpmiaaGreatDoor.PPostmark

theorem drawExtend_ok {tapes : List Int → GoC.Tape} (HE : GoC.Tells tapes) {fuel : Nat} (hf : 1048577 ≤ fuel) (code : List Int) : ∃ l a d, GsDrawExtendUse.P fuel tapes code = some (l, a, d) ∧ smL l := by
  obtain ⟨l, t1, e1, hl, h1⟩ := marks11_ok hf (m := 12) (good_of HE code (m := 512) (by omega))
  obtain ⟨a, t2, e2, h2⟩ := id_ok (m := 8) l hl h1
  obtain ⟨d, t3, e3, h3⟩ := day_ok (m := 2) l hl h2
  exact ⟨l, a, d, by simp only [GsDrawExtendUse.P, letK, e1, e2, e3, bind2_some], hl⟩
theorem drawTowns_ok {tapes : List Int → GoC.Tape} (HE : GoC.Tells tapes) {fuel : Nat} (hf : 1048577 ≤ fuel) (code : List Int) : ∃ l d, GsDrawTownsOn.P fuel tapes code = some (l, d) ∧ smL l := by
  obtain ⟨l, t1, e1, hl, h1⟩ := marks11_ok hf (m := 12) (good_of HE code (m := 512) (by omega))
  obtain ⟨d, t2, e2, h2⟩ := day_ok (m := 6) l hl h1
  exact ⟨l, d, by simp only [GsDrawTownsOn.P, letK, e1, e2, bind2_some], hl⟩
theorem drawGap_ok {tapes : List Int → GoC.Tape} (HE : GoC.Tells tapes) {fuel : Nat} (hf : 1048577 ≤ fuel) (code : List Int) : ∃ l town, GsDrawGapBetween.P fuel tapes code = some (l, town) ∧ smL l ∧ town.size ≤ 100 := by
  obtain ⟨l, t1, e1, hl, h1⟩ := marks11_ok hf (m := 10) (good_of HE code (m := 510) (by omega))
  obtain ⟨b, t2, e2, h2⟩ := one_ok (n := 10) (m := 8) h1
  simp only [GsDrawGapBetween.P, GsDrawLatestUse.P, letK, e1, e2, bind2_some, iteK_if]
  cases b with
  | true =>
    obtain ⟨x, t3, e3, hx, _⟩ := of_ok (l := [(⟨#[122, 117, 103]⟩ : ByteArray), (⟨#[]⟩ : ByteArray), (⟨#[66, 101, 114, 110]⟩ : ByteArray)]) (m := 2) (good_less h2 (by omega)) (by simp) (by simp)
    simp only [List.mem_cons, List.not_mem_nil, or_false] at hx
    rw [if_pos rfl, e3]
    exact ⟨l, x, rfl, hl, by rcases hx with rfl | rfl | rfl <;> decide⟩
  | false =>
    obtain ⟨x, t3, e3, hx, _⟩ := town_ok (m := 2) (good_less h2 (by omega))
    rw [if_neg (by simp), e3]
    exact ⟨l, x, rfl, hl, by omega⟩
theorem drawText_ok {tapes : List Int → GoC.Tape} (HE : GoC.Tells tapes) {fuel : Nat} (hf : 1048577 ≤ fuel) (code : List Int) : ∃ p, GsDrawPostmarkText.P fuel tapes code = some p ∧ smP p := by
  obtain ⟨i, t1, e1, hi, h1⟩ := among_ok (l := [1, 42, 999]) (m := 40) (good_of HE code (m := 42) (by omega)) (by simp)
  simp only [List.mem_cons, List.not_mem_nil, or_false] at hi
  obtain ⟨p, t2, e2, hp, _⟩ := mark11_ok hf (m := 0) i (by omega) h1
  refine ⟨p, ?_, hp⟩
  obtain ⟨a, b, c, d, e, g⟩ := p
  simp only [GsDrawPostmarkText.P, GsDrawIsPostmark.P, letK, e1, e2, bind2_some, unPostmark, Option.bind_some]
end Go.Proofs.YtgimcnpkngpmiaaGreatDoor.Q11DrawsU

/- Chapter 11: postmarks: the plain functions of the program and of the reference agree, and the laws answer true. (Q11Show) No condition but those of each theorem. -/
namespace Go.Proofs.YtgimcnpkngpmiaaGreatDoor.Q11Show
set_option linter.unusedVariables false
set_option linter.unusedSimpArgs false
open Go.RowKit
open Go.Proofs.YtgimcnpkngpmiaaGreatDoor.GoP Go.Proofs.YtgimcnpkngpmiaaGreatDoor.PlainStamp Go.Proofs.YtgimcnpkngpmiaaGreatDoor.QBase Go.Proofs.YtgimcnpkngpmiaaGreatDoor.Q11Mark Go.Proofs.YtgimcnpkngpmiaaGreatDoor.QUp Go.Proofs.YtgimcnpkngpmiaaGreatDoor.QAll Go.Proofs.YtgimcnpkngpmiaaGreatDoor.QByte Go.Proofs.YtgimcnpkngpmiaaGreatDoor.QWord Go.Proofs.YtgimcnpkngpmiaaGreatDoor.QLoop Go.Proofs.YtgimcnpkngpmiaaGreatDoor.PPostmark

def sh (t b : UInt8) : UInt8 := if b = 120 then 63 else t
def shL (p : Postmark) : List UInt8 := List.zipWith sh p.town.toList p.lost.toList
def shown (p : Postmark) : ByteArray := bs (shL p)
theorem shL_at {p : Postmark} {k : Nat} {t b : UInt8} (ht : p.town.toList[k]? = some t) (hb : p.lost.toList[k]? = some b) : (shL p)[k]? = some (sh t b) := by
  unfold shL; rw [List.getElem?_zipWith, ht, hb]
theorem shL_len {p : Postmark} (h : p.lost.size = p.town.size) : (shL p).length = p.town.size := by
  unfold shL; rw [List.length_zipWith, toList_size, toList_size]; omega
theorem shown_size {p : Postmark} (h : p.lost.size = p.town.size) : (shown p).size = p.town.size := by unfold shown; rw [bs_size, shL_len h]
theorem strK_toI (l : List UInt8) : Go.Proofs.YtgimcnpkngpmiaaGreatDoor.GoB.strK (toI l) = bs l := by
  unfold Go.Proofs.YtgimcnpkngpmiaaGreatDoor.GoB.strK toI bs
  rw [List.map_map]
  have : ((fun z : Int => UInt8.ofNat z.toNat) ∘ fun b : UInt8 => (b.toNat : Int)) = id := by
    funext b; simp
  rw [this, List.map_id]
theorem shown_impl {p : Postmark} (h : p.lost.size = p.town.size) (h10 : p.town.size ≤ 1000) : GiShownBy.P p = some (shown p) := by
  obtain ⟨q, hq⟩ : ∃ q, p = q := ⟨_, rfl⟩
  obtain ⟨a, b, c, d, e, g⟩ := p
  dsimp only at h h10
  simp only [GiShownBy.P, unPostmark, letK]
  rw [guardK_pos (by omega), List.length_map, toList_size]
  refine cnt_is _ (fun k s => s = toI ((shL ⟨a, b, c, d, e, g⟩).take k ++ b.toList.drop k)) ?_ ?_ _ (by simp [toI])
  · intro k s nx hk hI hn
    obtain ⟨t, ht, _⟩ := at_lt (l := b.toList) (k := k) (by rw [toList_size]; omega)
    obtain ⟨y, hy, hyi⟩ := at_lt (l := g.toList) (k := k) (by rw [toList_size]; omega)
    have hs := shL_at (p := ⟨a, b, c, d, e, g⟩) ht hy
    have hlen := shL_len (p := ⟨a, b, c, d, e, g⟩) h
    dsimp only at hlen
    obtain ⟨hk1, e1⟩ := List.getElem?_eq_some_iff.1 ht
    have hdrop : b.toList.drop k = t :: b.toList.drop (k + 1) := by rw [List.drop_eq_getElem_cons hk1, e1]
    rw [hdrop] at hI
    have hl1 : (toI ((shL ⟨a, b, c, d, e, g⟩).take k)).length = k := by unfold toI; rw [List.length_map, List.length_take]; omega
    have hI' : s = toI ((shL ⟨a, b, c, d, e, g⟩).take k) ++ ((t.toNat : Int) :: toI (b.toList.drop (k + 1))) := by rw [hI]; simp [toI]
    have e120 : ((y.toNat : Int) == 120) = (y == 120) := byte_eq y 120
    simp only [GiShownBy.l0, letK, hyi, Option.bind_some, iteK_if, e120]
    cases h120 : (y == 120) with
    | true =>
      have hat : idx s (k : Int) = some (t.toNat : Int) := by rw [idx_nat, hI', List.getElem?_append_right (by omega), hl1]; simp
      rw [if_pos rfl]
      simp only [hat, Option.bind_some, appK]
      refine hn _ ?_
      rw [hI', List.set_append_right _ _ (by omega), hl1, take_next hs]
      have : sh t y = 63 := by unfold sh; rw [if_pos (by simpa using h120)]
      rw [this]; simp [toI]
    | false =>
      rw [if_neg (by simp)]
      simp only [appK]
      refine hn _ ?_
      rw [hI, take_next hs]
      have : sh t y = t := by unfold sh; rw [if_neg (by simpa using h120)]
      rw [this]; simp
  · intro s hI
    have hlen := shL_len (p := ⟨a, b, c, d, e, g⟩) h
    dsimp only at hlen
    rw [List.take_of_length_le (by omega), List.drop_of_length_le (by rw [toList_size]; omega), List.append_nil] at hI
    simp only [GiShownBy.e0, letK, hI, strK_toI]; rfl
theorem shown_spec {p : Postmark} (h : p.lost.size = p.town.size) (h10 : p.town.size ≤ 10) (fuel : Nat) (hfu : 100 ≤ fuel) : GsL11Shown.P fuel p = some (shown p) := by
  obtain ⟨a, b, c, d, e, g⟩ := p
  dsimp only at h h10
  have hlen := shL_len (p := ⟨a, b, c, d, e, g⟩) h
  dsimp only at hlen
  simp only [GsL11Shown.P, unPostmark]
  refine lp_is (n := b.size) _ (fun k (s : ByteArray × Int) => s = (bs ((shL ⟨a, b, c, d, e, g⟩).take k), (k : Int))) ?_ ?_ fuel 0 _ (by omega) (by omega) rfl
  · rintro k s nx hk rfl hn
    obtain ⟨t, ht, _⟩ := at_lt (l := b.toList) (k := k) (by rw [toList_size]; omega)
    obtain ⟨y, hy, hyi⟩ := at_lt (l := g.toList) (k := k) (by rw [toList_size]; omega)
    have hs := shL_at (p := ⟨a, b, c, d, e, g⟩) ht hy
    have e120 : ((y.toNat : Int) == 120) = (y == 120) := byte_eq y 120
    have hw1 := wrap_in (x := (k : Int) + 1) (by omega) (by omega)
    have hsz : (bs ((shL ⟨a, b, c, d, e, g⟩).take k)).size ≤ 10 := by rw [bs_size, List.length_take]; omega
    simp only [GsL11Shown.l0, unp2, letK, hyi, Option.bind_some, iteK_if, e120, hw1, appK]
    rw [if_pos (by simp; omega)]
    cases h120 : (y == 120) with
    | true =>
      have hone : (⟨#[63]⟩ : ByteArray).size = 1 := rfl
      rw [if_pos rfl, guardK_pos (by rw [hone]; unfold maxLen; omega)]
      refine hn _ ?_
      have : sh t y = 63 := by unfold sh; rw [if_pos (by simpa using h120)]
      rw [take_next hs, this, ← bs_app]; rfl
    | false =>
      have hex : b.extract k (k + 1) = bs [t] := by
        have h1 : (bs b.toList).extract k (k + 1) = bs [t] := by
          rw [bs_cut, take_next ht, List.drop_left' (by rw [List.length_take, toList_size]; omega)]
        rw [bs_of] at h1; exact h1
      rw [if_neg (by simp), guardK_pos (by omega), show Int.toNat (k : Int) = k by omega, show Int.toNat ((k : Int) + 1) = k + 1 by omega, hex]
      have hone : (bs [t]).size = 1 := bs_size _
      rw [guardK_pos (by rw [hone]; unfold maxLen; omega), bs_app]
      refine hn _ ?_
      have : sh t y = t := by unfold sh; rw [if_neg (by simpa using h120)]
      rw [take_next hs, this]; rfl
  · rintro s nx rfl
    simp only [GsL11Shown.l0, unp2, letK, iteK_if, appK, GsL11Shown.e0]
    rw [if_neg (by simp), List.take_of_length_le (by omega)]; rfl
def shownRes (p : Postmark) : ByteArray × Bool := if okPm p = true then (shown p, true) else (⟨#[]⟩, false)
end Go.Proofs.YtgimcnpkngpmiaaGreatDoor.Q11Show

/- Plain facts on decimal numerals: what a row of digits is worth, and that a numeral read back is its number. No condition. -/
namespace Go.Proofs.YtgimcnpkngpmiaaGreatDoor.PlainNum

def step (a : Nat) (c : UInt8) : Nat := 10 * a + (c.toNat - 48)
def dv (l : List UInt8) : Nat := l.foldl step 0
def Digs (l : List UInt8) : Prop := ∀ c ∈ l, 48 ≤ c.toNat ∧ c.toNat ≤ 57

theorem dv_snoc (l : List UInt8) (c : UInt8) : dv (l ++ [c]) = 10 * dv l + (c.toNat - 48) := by
  unfold dv; rw [List.foldl_append]; rfl

theorem digit_toNat (i : Nat) (h : i < 10) : (UInt8.ofNat (48 + i)).toNat = 48 + i := by
  rw [UInt8.toNat_ofNat']; omega

theorem digs_dec (u : Nat) : Digs (Lib.decDigits u) := by
  induction u using Nat.strongRecOn with
  | _ u ih =>
    rw [Lib.decDigits]
    by_cases h : u < 10
    · rw [dif_pos h]
      intro c hc
      obtain rfl : c = UInt8.ofNat (48 + u) := by simpa using hc
      rw [digit_toNat u h]; omega
    · rw [dif_neg h]
      intro c hc
      rcases List.mem_append.1 hc with h1 | h1
      · exact ih (u / 10) (by omega) c h1
      · obtain rfl : c = UInt8.ofNat (48 + u % 10) := by simpa using h1
        rw [digit_toNat _ (by omega)]; omega

theorem dv_dec (u : Nat) : dv (Lib.decDigits u) = u := by
  induction u using Nat.strongRecOn with
  | _ u ih =>
    rw [Lib.decDigits]
    by_cases h : u < 10
    · rw [dif_pos h]
      show step 0 (UInt8.ofNat (48 + u)) = u
      unfold step; rw [digit_toNat u h]; omega
    · rw [dif_neg h, dv_snoc, ih (u / 10) (by omega), digit_toNat _ (by omega)]; omega

theorem nd_le (k : Nat) : ∀ u, u < 10 ^ (k + 1) → Lib.nDigits u ≤ k + 1 := by
  induction k with
  | zero => intro u h; rw [Lib.nDigits_small (by omega)]; omega
  | succ k ih =>
    intro u h
    by_cases h10 : u < 10
    · rw [Lib.nDigits_small h10]; omega
    · rw [Lib.nDigits_big h10]
      have := ih (u / 10) (by rw [Nat.pow_succ] at h; omega)
      omega

theorem len_dec (u : Nat) (h : u ≤ 999999) : 1 ≤ (Lib.decDigits u).length ∧ (Lib.decDigits u).length ≤ 6 := by
  rw [Lib.decDigits_length]
  exact ⟨Lib.nDigits_pos u, nd_le 5 u (by omega)⟩

theorem decFrom_dv (l : List UInt8) : ∀ a, Digs l → Lib.decFrom a l = some (l.foldl step a) := by
  induction l with
  | nil => intro a _; rfl
  | cons c r ih =>
    intro a h
    have hc := h c (by simp)
    have e : Lib.digitVal c = some (c.toNat - 48) := by unfold Lib.digitVal; rw [if_pos hc]
    rw [Lib.decFrom, e]
    show Lib.decFrom (a * 10 + (c.toNat - 48)) r = _
    rw [ih _ (fun x hx => h x (by simp [hx])), Nat.mul_comm a 10]
    rfl

theorem decNat_dec (u : Nat) (h : u ≤ 999999) : Lib.decNat (Lib.decDigits u) = some u := by
  have hl := (len_dec u h).1
  unfold Lib.decNat
  rw [if_neg (by intro e; rw [List.isEmpty_iff] at e; rw [e] at hl; simp at hl), decFrom_dv _ 0 (digs_dec u)]
  exact congrArg some (dv_dec u)

/-- l is the numeral of n -/
def Inv (l : List UInt8) (n : Int) : Prop := -999999 ≤ n ∧ n ≤ 999999 ∧ Lib.itoa n = l

theorem itoa_cases (n : Int) : (n < 0 ∧ Lib.itoa n = 45 :: Lib.decDigits n.natAbs) ∨ (0 ≤ n ∧ Lib.itoa n = Lib.decDigits n.natAbs) := by
  by_cases h : n < 0
  · left; refine ⟨h, ?_⟩; unfold Lib.itoa; rw [if_pos h]
  · right; refine ⟨by omega, ?_⟩; unfold Lib.itoa; rw [if_neg h]; congr 1; omega

theorem itoa_len (n : Int) (h1 : -999999 ≤ n) (h2 : n ≤ 999999) : 1 ≤ (Lib.itoa n).length ∧ (Lib.itoa n).length ≤ 7 := by
  have := len_dec n.natAbs (by omega)
  rcases itoa_cases n with ⟨_, e⟩ | ⟨_, e⟩
  · rw [e, List.length_cons]; omega
  · rw [e]; omega

theorem atoi_itoa (n : Int) (h1 : -999999 ≤ n) (h2 : n ≤ 999999) : Lib.atoiAll (Lib.itoa n) = .ok n := by
  rw [Lib.atoiAll_short _ (by have := itoa_len n h1 h2; omega)]
  have hd := decNat_dec n.natAbs (by omega)
  rcases itoa_cases n with ⟨hn, e⟩ | ⟨hn, e⟩
  · rw [e]
    show Lib.NumEnd.ofOption ((Lib.decNat (Lib.decDigits n.natAbs)).map fun (m : Nat) => -(m : Int)) = _
    rw [hd]
    show Lib.NumEnd.ok (-((n.natAbs : Nat) : Int)) = _
    congr 1; omega
  · rw [e]
    have hl := len_dec n.natAbs (by omega)
    have hg := digs_dec n.natAbs
    cases hx : Lib.decDigits n.natAbs with
    | nil => rw [hx] at hl; simp at hl
    | cons b r =>
      rw [hx] at hg hd
      have hb := hg b (by simp)
      have e1 : (b == 45) = false := by
        rw [beq_eq_false_iff_ne]; rintro rfl; have : (45 : UInt8).toNat = 45 := rfl; omega
      have e2 : (b == 43) = false := by
        rw [beq_eq_false_iff_ne]; rintro rfl; have : (43 : UInt8).toNat = 43 := rfl; omega
      unfold Lib.atoi
      simp only [e1, e2, Bool.false_eq_true, if_false, hd]
      show Lib.NumEnd.ok ((n.natAbs : Nat) : Int) = _
      congr 1; omega

theorem Inv.uniq {l : List UInt8} {n m : Int} (h : Inv l n) (k : Inv l m) : n = m := by
  have e1 := atoi_itoa n h.1 h.2.1
  have e2 := atoi_itoa m k.1 k.2.1
  rw [h.2.2] at e1
  rw [k.2.2] at e2
  rw [e1] at e2
  injection e2

/-- how a numeral's reading ends: the number and true; else 0 and false -/
def Rd (l : List UInt8) (v : Int) (b : Bool) : Prop := (b = true ∧ Inv l v) ∨ (b = false ∧ v = 0 ∧ ∀ n, ¬ Inv l n)

theorem Rd.uniq {l : List UInt8} {v v' : Int} {b b' : Bool} (h : Rd l v b) (k : Rd l v' b') : v = v' ∧ b = b' := by
  rcases h with ⟨rfl, h⟩ | ⟨rfl, rfl, h⟩ <;> rcases k with ⟨rfl, k⟩ | ⟨rfl, rfl, k⟩
  · exact ⟨h.uniq k, rfl⟩
  · exact absurd h (k _)
  · exact absurd k (h _)
  · exact ⟨rfl, rfl⟩

theorem Rd.no {l : List UInt8} (h : ∀ n, ¬ Inv l n) : Rd l 0 false := .inr ⟨rfl, rfl, h⟩
theorem Rd.yes {l : List UInt8} {n : Int} (h : Inv l n) : Rd l n true := .inl ⟨rfl, h⟩

end Go.Proofs.YtgimcnpkngpmiaaGreatDoor.PlainNum

/- Plain words on the text of a face, and on short decimal texts. No condition. -/
namespace Go.Proofs.YtgimcnpkngpmiaaGreatDoor.PlainFace
set_option linter.unusedVariables false
open Go.Proofs.YtgimcnpkngpmiaaGreatDoor.PlainNum

def dig (d : Int) : UInt8 := UInt8.ofNat (48 + d.toNat)
/-- the text of a face -/
def faceL (n : Int) : List UInt8 := Lib.itoa (n / 100) ++ [46] ++ Lib.itoa (n / 10 % 10) ++ Lib.itoa (n % 10)
def str (l : List UInt8) : ByteArray := ⟨l.toArray⟩
def faceRes (n : Int) : ByteArray × Bool := if 0 ≤ n ∧ n ≤ 9999 then (str (faceL n), true) else (⟨#[]⟩, false)
end Go.Proofs.YtgimcnpkngpmiaaGreatDoor.PlainFace

/- Decimal texts as plain functions: Itoa and l1Num, for short numbers. No condition. -/
namespace Go.Proofs.YtgimcnpkngpmiaaGreatDoor.QNum
set_option linter.unusedVariables false
set_option linter.unusedSimpArgs false
open Go.RowKit
open Go.Proofs.YtgimcnpkngpmiaaGreatDoor.GoP Go.Proofs.YtgimcnpkngpmiaaGreatDoor.QBase

def itoaB (n : Int) : ByteArray := ⟨(Lib.itoa n).toArray⟩
theorem itoa_eq {n : Int} (h1 : -999999 ≤ n) (h2 : n ≤ 999999) : GxStrconvItoa.P n = some (itoaB n) := by unfold GxStrconvItoa.P; rw [if_pos (by omega)]; rfl
theorem num_eq {n : Int} (h1 : -999999 ≤ n) (h2 : n ≤ 999999) : GsL1Num.P n = some (itoaB n) := by unfold GsL1Num.P; rw [if_pos (by omega)]; rfl
theorem itoaB_size {n : Int} (h1 : -999999 ≤ n) (h2 : n ≤ 999999) : (itoaB n).size ≤ 7 := by
  show (Lib.itoa n).toArray.size ≤ 7
  rw [List.size_toArray]; exact (PlainNum.itoa_len n h1 h2).2
end Go.Proofs.YtgimcnpkngpmiaaGreatDoor.QNum

/- Chapter 11: postmarks: the plain functions of the program and of the reference agree, and the laws answer true. (Q11Text) No condition but those of each theorem. -/
namespace Go.Proofs.YtgimcnpkngpmiaaGreatDoor.Q11Text
set_option linter.unusedVariables false
set_option linter.unusedSimpArgs false
open Go.RowKit
open Go.Proofs.YtgimcnpkngpmiaaGreatDoor.GoP Go.Proofs.YtgimcnpkngpmiaaGreatDoor.PlainStamp Go.Proofs.YtgimcnpkngpmiaaGreatDoor.QBase Go.Proofs.YtgimcnpkngpmiaaGreatDoor.QWord Go.Proofs.YtgimcnpkngpmiaaGreatDoor.Q11Show Go.Proofs.YtgimcnpkngpmiaaGreatDoor.Q11Mark Go.Proofs.YtgimcnpkngpmiaaGreatDoor.QNum Go.Proofs.YtgimcnpkngpmiaaGreatDoor.QLoop Go.Proofs.YtgimcnpkngpmiaaGreatDoor.PPostmark

theorem text_same (x : Postmark) (h : x.fits) (fuel : Nat) (hfu : 100 ≤ fuel) : GiPostmarkText.P x = GsPostmarkText.P fuel x ∧ ∃ a b, GsPostmarkText.P fuel x = some (a, b) := by
  have h3 := l11One_eq x h fuel hfu
  have h4 := isPostmark_eq x (fits_sz h).2
  have hof := fun hc => okPm_of (p := x) hc
  have hsz := fun hc => okPm_size (p := x) hc
  have s5 := fun hc : okPm x = true => shown_impl (hsz hc).1 (by have := hsz hc; omega)
  have s6 := fun hc : okPm x = true => shown_spec (hsz hc).1 (by have := hsz hc; omega) fuel hfu
  have s7 := fun hc : okPm x = true => shown_size (hsz hc).1
  generalize hsh : shown x = t at s5 s6 s7
  obtain ⟨a, b, c, d, e, g⟩ := x
  simp only [GiPostmarkText.P, GsPostmarkText.P, unPostmark, h3, h4, Option.bind_some, letK, iteK_if]
  cases hc : okPm ⟨a, b, c, d, e, g⟩ with
  | false => exact ⟨by simp, _, _, by simp; exact ⟨rfl, rfl⟩⟩
  | true =>
    obtain ⟨ha, hb, hcw, hd, he, hde, hw⟩ := hof hc
    have hsz2 := hsz hc
    have s5 := s5 hc
    have s6 := s6 hc
    have s7 := s7 hc
    dsimp only at ha hb hcw hd he hde hsz2 s7
    have s1 := itoaB_size (n := a) (by omega) (by omega)
    have s2 := itoaB_size (n := c) (by omega) (by omega)
    have s3 := itoaB_size (n := d) (by omega) (by omega)
    have s4 := itoaB_size (n := e) (by omega) (by omega)
    simp only [s5, s6, itoa_eq (n := a) (by omega) (by omega), itoa_eq (n := c) (by omega) (by omega), itoa_eq (n := d) (by omega) (by omega), itoa_eq (n := e) (by omega) (by omega), num_eq (n := a) (by omega) (by omega), num_eq (n := c) (by omega) (by omega), num_eq (n := d) (by omega) (by omega), num_eq (n := e) (by omega) (by omega), Option.bind_some]
    refine ⟨by first | rfl | trivial, ?_⟩
    have e1 : (⟨#[32]⟩ : ByteArray).size = 1 := rfl
    have e2 : (⟨#[32, 107]⟩ : ByteArray).size = 2 := rfl
    have e3 : (⟨#[112]⟩ : ByteArray).size = 1 := rfl
    have e4 : (⟨#[45]⟩ : ByteArray).size = 1 := rfl
    simp only [Bool.not_true, Bool.false_eq_true, if_false]
    rw [guardK_pos (by unfold maxLen; omega), guardK_pos (by simp only [ByteArray.size_append]; unfold maxLen; omega), guardK_pos (by simp only [ByteArray.size_append]; unfold maxLen; omega), guardK_pos (by simp only [ByteArray.size_append]; unfold maxLen; omega), guardK_pos (by simp only [ByteArray.size_append]; unfold maxLen; omega), guardK_pos (by simp only [ByteArray.size_append]; unfold maxLen; omega), guardK_pos (by simp only [ByteArray.size_append]; unfold maxLen; omega), guardK_pos (by simp only [ByteArray.size_append]; unfold maxLen; omega), guardK_pos (by simp only [ByteArray.size_append]; unfold maxLen; omega)]
    exact ⟨_, _, rfl⟩
end Go.Proofs.YtgimcnpkngpmiaaGreatDoor.Q11Text

/- The named law of uses: a use that reaches to a day has this day, towns that are told were used, and the gap is less than the days from the first to the last. (QL11FnUses) No condition but those of each theorem. -/
namespace Go.Proofs.YtgimcnpkngpmiaaGreatDoor.QL11FnUses
set_option linter.unusedVariables false
set_option linter.unusedSimpArgs false
open Go.RowKit
open Go.Proofs.YtgimcnpkngpmiaaGreatDoor.GoP Go.Proofs.YtgimcnpkngpmiaaGreatDoor.PlainStamp Go.Proofs.YtgimcnpkngpmiaaGreatDoor.QBase Go.Proofs.YtgimcnpkngpmiaaGreatDoor.Q11UFacts Go.Proofs.YtgimcnpkngpmiaaGreatDoor.Q11UHelp Go.Proofs.YtgimcnpkngpmiaaGreatDoor.Q11DrawsU Go.Proofs.YtgimcnpkngpmiaaGreatDoor.Q11Text Go.Proofs.YtgimcnpkngpmiaaGreatDoor.Q11Gap Go.Proofs.YtgimcnpkngpmiaaGreatDoor.Q11Towns Go.Proofs.YtgimcnpkngpmiaaGreatDoor.Q11Used Go.Proofs.YtgimcnpkngpmiaaGreatDoor.Q11Extend Go.Proofs.YtgimcnpkngpmiaaGreatDoor.Q11Marks Go.Proofs.YtgimcnpkngpmiaaGreatDoor.Q11Find Go.Proofs.YtgimcnpkngpmiaaGreatDoor.Q11DrawsL Go.Proofs.YtgimcnpkngpmiaaGreatDoor.Q11Draws Go.Proofs.YtgimcnpkngpmiaaGreatDoor.QFoldS Go.Proofs.YtgimcnpkngpmiaaGreatDoor.QTexts Go.Proofs.YtgimcnpkngpmiaaGreatDoor.QWord Go.Proofs.YtgimcnpkngpmiaaGreatDoor.QByte Go.Proofs.YtgimcnpkngpmiaaGreatDoor.QCount Go.Proofs.YtgimcnpkngpmiaaGreatDoor.QOrd Go.Proofs.YtgimcnpkngpmiaaGreatDoor.Q11List Go.Proofs.YtgimcnpkngpmiaaGreatDoor.Q11Mark Go.Proofs.YtgimcnpkngpmiaaGreatDoor.QAll Go.Proofs.YtgimcnpkngpmiaaGreatDoor.QUp Go.Proofs.YtgimcnpkngpmiaaGreatDoor.QLoop Go.Proofs.YtgimcnpkngpmiaaGreatDoor.PPostmark

theorem okPm_fits {x : Postmark} (h : okPm x = true) : x.fits := by
  obtain ⟨h1, _, h3, h4, h5, _, _⟩ := okPm_of h
  have hz := okPm_size h
  exact smP_fits ⟨by omega, by omega, by omega, by omega, by omega, by omega⟩
theorem smL_fits {l : List Postmark} (h : smL l) : ∀ s ∈ l, s.fits := fun s hs => smP_fits (h.2 s hs)
theorem tail_ok {tapes : List Int → GoC.Tape} (HE : GoC.Tells tapes) {fuel : Nat} (hf : 1048577 ≤ fuel) (code : List Int) : GlFnUses.q4 code fuel tapes () = some true := by
  obtain ⟨l, d, e1, hl⟩ := drawTowns_ok HE hf code
  obtain ⟨p, e2, hp⟩ := drawText_ok HE hf code
  have hfl := smL_fits hl
  have hl30 := hl.1
  have hpf := smP_fits hp
  have a1 := towns_impl l hfl d
  have a2 := towns_spec fuel (by omega) l hfl (by omega) d
  obtain ⟨a3, s, o, a4⟩ := text_same p hpf fuel (by omega)
  rw [a4] at a3
  obtain ⟨⟨ts, b1⟩, h1⟩ : ∃ z, townsRes l d = z := ⟨_, rfl⟩
  rw [h1] at a1 a2
  obtain ⟨x0, x1, x2, x3, x4, x5⟩ := p
  simp only [GlFnUses.q4, GlFnUses.q9, letK, e1, a1, a2, bind2_some, e2, Option.bind_some, unPostmark, a3, a4, rTexts_self, beq_self_eq_true, joinK, appK, iteK_if, if_true]
def lawStep (town : ByteArray) (s : Int × Int) (x : Postmark) : Int × Int := if ofT town x = true then flStep s x else s
theorem law_first {l : List Postmark} {town : ByteArray} {g : Int} (h : gapRes l town = (g, true)) : ∃ F L : Int, l.foldl (lawStep town) (4000, 0) = (F, L) ∧ g ≤ L - F ∧ 0 ≤ g ∧ (0 ≤ F ∧ F ≤ 4000) ∧ (0 ≤ L ∧ L ≤ 4000) := by
  obtain ⟨hc, hne, g0, g1, g2, g3, g4⟩ := gap_facts h
  have hM : ofTown l town = l.filter (ofT town) := by unfold ofTown; rw [if_pos hc]
  have hgood : ∀ x ∈ ofTown l town, goodD x := by
    intro x hx
    have h := okPm_of (ofTown_mem hx).2.1
    unfold goodD; omega
  have hfold : l.foldl (lawStep town) (4000, 0) = (ofTown l town).foldl flStep (4000, 0) := by
    rw [hM, List.foldl_filter]; rfl
  obtain ⟨⟨h1, h2⟩, ⟨h3, h4⟩, h5, h6⟩ := fl_key (ofTown l town) (4000, 0)
  obtain ⟨f1, ⟨u, hu, hu2⟩, f3, ⟨v, hv, hv2⟩⟩ := fl_facts hgood hne
  have a1 := h2 u hu
  have a2 := h4 v hv
  refine ⟨_, _, by rw [hfold], by omega, g0, ⟨?_, h1⟩, ⟨h3, ?_⟩⟩
  · rcases h5 with h5 | ⟨x, hx, h5⟩
    · dsimp only at h5; omega
    · have := hgood x hx; unfold goodD at this; omega
  · rcases h6 with h6 | ⟨x, hx, h6⟩
    · dsimp only at h6; omega
    · have := hgood x hx; unfold goodD at this; omega
theorem gap_part {tapes : List Int → GoC.Tape} (HE : GoC.Tells tapes) {fuel : Nat} (hf : 1048577 ≤ fuel) (code : List Int) (b1 : Bool) (l1 : List Postmark) (i1 i2 : Int) (l2 : List Postmark) (i3 : Int) (b2 : Bool) (l3 : List Postmark) (i4 : Int) (b3 b4 : Bool) :
    GlFnUses.q1 code fuel tapes b1 l1 i1 i2 l2 i3 b2 l3 i4 b3 b4 () = some true := by
  obtain ⟨l, town, e1, hl, hts⟩ := drawGap_ok HE hf code
  have hfl := smL_fits hl
  have hl30 := hl.1
  have a1 := gap_impl l hfl town fuel (by omega)
  have a2 := gap_spec fuel (by omega) l hfl (by omega) town (by omega)
  obtain ⟨⟨g, o⟩, h1⟩ : ∃ z, gapRes l town = z := ⟨_, rfl⟩
  rw [h1] at a1 a2
  have ht := tail_ok HE hf code
  simp only [GlFnUses.q1, e1, bind2_some, a1, a2, letK, bne_self_eq_false, beq_self_eq_true, Bool.not_true, joinK, appK, iteK_if, Bool.false_eq_true, if_false, GlFnUses.q3]
  cases o with
  | false => simp only [Bool.false_eq_true, if_false]; exact ht
  | true =>
    obtain ⟨F, L, hFL, hg1, hg0, hF, hL⟩ := law_first h1
    simp only [if_true]
    rw [fold_cnt (g := lawStep town) (J := fun _ => True)]
    · rw [hFL]
      have hw := wrap_in (x := L - F) (by omega) (by omega)
      simp only [GlFnUses.e1, unp2, letK, joinK, appK, iteK_if, hw, decide_eq_false (show ¬ g < 0 by omega), decide_eq_false (show ¬ L - F < g by omega), Bool.false_eq_true, if_false, GlFnUses.q8]
      exact ht
    · rintro k x ⟨s1, s2⟩ nx hx _
      refine ⟨?_, trivial⟩
      have ho : decide (x.town = town) = ofT town x := rfl
      simp only [GlFnUses.l1, GlFnUses.q5, GlFnUses.j6, GlFnUses.q7, unp2, letK, joinK, appK, iteK_if, idx_nat, hx, Option.bind_some, unPostmark, eq_list, ho, lawStep]
      cases ofT town x with
      | false => simp only [Bool.false_eq_true, if_false]
      | true =>
        simp only [if_true, flStep]
        by_cases c1 : x.first < s1
        · by_cases c2 : s2 < x.last
          · simp only [decide_eq_true c1, decide_eq_true c2, if_true]
            rw [show min s1 x.first = x.first by omega, show max s2 x.last = x.last by omega]
          · simp only [decide_eq_true c1, decide_eq_false c2, if_true, Bool.false_eq_true, if_false]
            rw [show min s1 x.first = x.first by omega, show max s2 x.last = s2 by omega]
        · by_cases c2 : s2 < x.last
          · simp only [decide_eq_false c1, decide_eq_true c2, if_true, Bool.false_eq_true, if_false]
            rw [show min s1 x.first = s1 by omega, show max s2 x.last = x.last by omega]
          · simp only [decide_eq_false c1, decide_eq_false c2, Bool.false_eq_true, if_false]
            rw [show min s1 x.first = s1 by omega, show max s2 x.last = s2 by omega]
    · trivial
theorem law_uses {tapes : List Int → GoC.Tape} (HE : GoC.Tells tapes) (code : List Int) {fuel : Nat} (hf : 1048577 ≤ fuel) : GlFnUses.P fuel tapes code = some true := by
  simp only [GlFnUses.P, rBig_eq, Option.bind_some, iteK_if]
  by_cases hb : (65536 : Int) < (code.length : Int)
  · rw [if_pos (by simpa using hb)]
  · rw [if_neg (by simpa using hb)]
    obtain ⟨l, id, day, e1, hl⟩ := drawExtend_ok HE hf code
    have hfl := smL_fits hl
    have hl30 := hl.1
    have a1 := ext_impl l hfl id day
    have a2 := ext_spec fuel (by omega) l hfl (by omega) id day
    obtain ⟨⟨out, n, ok⟩, h1⟩ : ∃ z, extR l id day = z := ⟨_, rfl⟩
    rw [h1] at a1 a2
    simp only [e1, bind3_some, a1, a2, letK, bne_self_eq_false, beq_self_eq_true, Bool.not_true, joinK, appK, iteK_if, Bool.false_eq_true, if_false, rMarks_self, Option.bind_some, GlFnUses.q0]
    cases ok with
    | false => simp only [Bool.false_eq_true, if_false]; exact gap_part HE hf code _ _ _ _ _ _ _ _ _ _ _
    | true =>
      obtain ⟨hco, hd, hn, hfc⟩ := ext_facts h1
      have hfo : ∀ s ∈ out, s.fits := fun s hs' => okPm_fits (pms_mem hco hs')
      have a3 := towns_impl out hfo day
      have a4 : townsRes out day = (sorted (towns day out), true) := by unfold townsRes; rw [hco, hd]; rfl
      rw [a4] at a3
      simp only [if_true, a3, bind2_some, Bool.not_true, Bool.false_eq_true, if_false]
      refine cnt_is true (fun _ _ => True) ?_ (fun s _ => ?_) () trivial
      · intro k s nx hk _ hnn
        obtain ⟨x, hx, hi⟩ := at_lt (l := l) (k := k) hk
        obtain ⟨y, hy, hox, hoy, hid⟩ := hfc k x hx
        have hyi : idx out (k : Int) = some y := by rw [idx_nat, hy]
        simp only [GlFnUses.l0, letK, joinK, appK, iteK_if, hi, Option.bind_some, unPostmark, GlFnUses.q2]
        by_cases hxi : x.id = id
        · obtain ⟨h3, h4⟩ := hid hxi
          have h5 := rHasText_yes (((sorted_facts (towns day out)).2.1 x.town).2 h3)
          obtain ⟨_, _, _, x1, x2, x3, _⟩ := okPm_of hox
          obtain ⟨_, _, _, y1, y2, y3, _⟩ := okPm_of hoy
          have w1 := wrap_in (x := y.last - y.first) (by omega) (by omega)
          have w2 := wrap_in (x := x.last - x.first) (by omega) (by omega)
          have w3 := wrap_in (x := x.last - x.first + n) (by omega) (by omega)
          have hb1 : (x.id == id) = true := by simpa using hxi
          have hb2 : (y.last - y.first != x.last - x.first + n) = false := by simpa using h4
          simp only [hb1, if_true, h5, Option.bind_some, Bool.not_true, Bool.false_eq_true, if_false, hyi, w1, w2, w3, hb2, unPostmark]
          exact hnn () trivial
        · have hb1 : (x.id == id) = false := by simpa using hxi
          simp only [hb1, Bool.false_eq_true, if_false]
          exact hnn () trivial
      · simp only [GlFnUses.e0]
        exact gap_part HE hf code _ _ _ _ _ _ _ _ _ _ _
end Go.Proofs.YtgimcnpkngpmiaaGreatDoor.QL11FnUses

