/- Texts on which the proofs of several laws stand, one behind the other (17 of 17). No condition of their own. -/
import Derived.Test.YtihibckijdfidaaGreatX12P16
import Derived.Test.YtihibckijdfidaaGreatX12P15
import Derived.Test.YtihibckijdfidaaGreatX12P1
import Derived.Test.YtihibckijdfidaaGreatX12P14
set_option linter.unusedVariables false
set_option linter.unusedSimpArgs false
namespace Go.Proofs.YtihibckijdfidaaGreat.QL12FnChanges
open Go.RowKit
open Go.Proofs.YtihibckijdfidaaGreat.GoP Go.Proofs.YtihibckijdfidaaGreat.PlainStamp Go.Proofs.YtihibckijdfidaaGreat.QBase Go.Proofs.YtihibckijdfidaaGreat.Q12Facts Go.Proofs.YtihibckijdfidaaGreat.Q12Draws Go.Proofs.YtihibckijdfidaaGreat.Q12Rank Go.Proofs.YtihibckijdfidaaGreat.Q12Least Go.Proofs.YtihibckijdfidaaGreat.Q12All Go.Proofs.YtihibckijdfidaaGreat.Q12Made Go.Proofs.YtihibckijdfidaaGreat.Q12Cover Go.Proofs.YtihibckijdfidaaGreat.Q12Cost Go.Proofs.YtihibckijdfidaaGreat.Q12Bits Go.Proofs.YtihibckijdfidaaGreat.QVInts Go.Proofs.YtihibckijdfidaaGreat.QDraw Go.Proofs.YtihibckijdfidaaGreat.Q8For Go.Proofs.YtihibckijdfidaaGreat.Q8List Go.Proofs.YtihibckijdfidaaGreat.Q8Rate Go.Proofs.YtihibckijdfidaaGreat.QUp Go.Proofs.YtihibckijdfidaaGreat.QLoop Go.Proofs.YtihibckijdfidaaGreat.PRate Go.Proofs.YtihibckijdfidaaGreat.PCover Go.Proofs.YtihibckijdfidaaGreat.PIntA4

def tdOk (c : Int) : Bool := decide (Int.tmod (IntKind.i64.wrap (Int.tdiv c 1)) 2 = if hb c 0 = true then 1 else 0) && decide (Int.tmod (IntKind.i64.wrap (Int.tdiv c 2)) 2 = if hb c 1 = true then 1 else 0) && decide (Int.tmod (IntKind.i64.wrap (Int.tdiv c 4)) 2 = if hb c 2 = true then 1 else 0) && decide (Int.tmod (IntKind.i64.wrap (Int.tdiv c 8)) 2 = if hb c 3 = true then 1 else 0)
theorem tdOk_yes : (List.range 16).all (fun n => tdOk (n : Int)) = true := by kernel_rfl
theorem td_eq {c : Int} (h : 0 ≤ c ∧ c ≤ 15) : Int.tmod (IntKind.i64.wrap (Int.tdiv c 1)) 2 = (if hb c 0 = true then 1 else 0) ∧ Int.tmod (IntKind.i64.wrap (Int.tdiv c 2)) 2 = (if hb c 1 = true then 1 else 0) ∧ Int.tmod (IntKind.i64.wrap (Int.tdiv c 4)) 2 = (if hb c 2 = true then 1 else 0) ∧ Int.tmod (IntKind.i64.wrap (Int.tdiv c 8)) 2 = (if hb c 3 = true then 1 else 0) := by
  have := ch16 tdOk_yes h
  unfold tdOk at this
  rw [Bool.and_eq_true, Bool.and_eq_true, Bool.and_eq_true] at this
  obtain ⟨⟨⟨h1, h2⟩, h3⟩, h4⟩ := this
  exact ⟨of_decide_eq_true h1, of_decide_eq_true h2, of_decide_eq_true h3, of_decide_eq_true h4⟩
theorem count_loop {fuel : Nat} (hf : 100 < fuel) {l : List Int} {k : Nat} {c : Int} (hk : idx l (k : Int) = some c) (hc : 0 ≤ c ∧ c ≤ 15) (fin : Int × Int → Option Bool) : loopK (GlFnChanges.l1 l k) fuel (0, 1) fin = fin (onesV c, 16) := by
  have round : ∀ (one n v : Int) nx, one ≤ 8 → 1 ≤ one → 0 ≤ n ∧ n ≤ 100 → 0 ≤ v ∧ v ≤ 1 → Int.tmod (IntKind.i64.wrap (Int.tdiv c one)) 2 = v → GlFnChanges.l1 l k (n, one) nx fin = nx (n + v, 2 * one) := by
    intro one n v nx h1 h2 h3 h4 h5
    simp only [GlFnChanges.l1, unp2, letK, iteK_if, decide_eq_true h1, if_true, hk, Option.bind_some, appK, h5]
    rw [guardK_pos (by omega), wrap_in (x := n + v) (by omega) (by omega), wrap_in (x := 2 * one) (by omega) (by omega)]
  obtain ⟨t0, t1, t2, t3⟩ := td_eq hc
  have hb01 : ∀ b : Bool, 0 ≤ (if b = true then (1 : Int) else 0) ∧ (if b = true then (1 : Int) else 0) ≤ 1 := by intro b; cases b <;> simp
  have q0 := hb01 (hb c 0)
  have q1 := hb01 (hb c 1)
  have q2 := hb01 (hb c 2)
  have q3 := hb01 (hb c 3)
  obtain ⟨f, rfl⟩ : ∃ f, fuel = f + 5 := ⟨fuel - 5, by omega⟩
  show GlFnChanges.l1 l k (0, 1) (fun s => loopK (GlFnChanges.l1 l k) (f + 4) s fin) fin = _
  rw [round 1 0 _ _ (by omega) (by omega) (by omega) q0 t0]
  show GlFnChanges.l1 l k (_, 2) (fun s => loopK (GlFnChanges.l1 l k) (f + 3) s fin) fin = _
  rw [round 2 _ _ _ (by omega) (by omega) (by omega) q1 t1]
  show GlFnChanges.l1 l k (_, 4) (fun s => loopK (GlFnChanges.l1 l k) (f + 2) s fin) fin = _
  rw [round 4 _ _ _ (by omega) (by omega) (by omega) q2 t2]
  show GlFnChanges.l1 l k (_, 8) (fun s => loopK (GlFnChanges.l1 l k) (f + 1) s fin) fin = _
  rw [round 8 _ _ _ (by omega) (by omega) (by omega) q3 t3]
  show GlFnChanges.l1 l k (_, 16) (fun s => loopK (GlFnChanges.l1 l k) f s fin) fin = _
  have hno : decide ((16 : Int) ≤ 8) = false := by decide
  simp only [GlFnChanges.l1, unp2, letK, iteK_if, hno, Bool.false_eq_true, if_false, appK, onesV, Int.zero_add]
theorem fewest_loop {fuel : Nat} (hf : 100 < fuel) {l : List Int} (hl : ∀ c ∈ l, 0 ≤ c ∧ c ≤ 15) {m : Int} (hm : ∀ c ∈ l, m ≤ onesV c) (fin : Unit → Option Bool) (h : fin () = some true) : cntK (GlFnChanges.l0 fuel l m) l.length 0 () fin = some true := by
  refine cnt_is _ (fun _ _ => True) ?_ (fun _ _ => h) _ trivial
  intro k s nx hk _ hn
  obtain ⟨c, hc, hci⟩ := at_lt (l := l) (k := k) hk
  have hmem := List.mem_of_getElem? hc
  have hlt : ¬ onesV c < m := by have := hm c hmem; omega
  simp only [GlFnChanges.l0]
  rw [count_loop hf hci (hl c hmem)]
  simp only [GlFnChanges.e1, unp2, letK, iteK_if, decide_eq_false hlt, Bool.false_eq_true, if_false, appK]
  exact hn _ trivial
theorem need_loop {l : List Int} {m : Int} (h : ∀ c ∈ l, bits .and IntKind.i64 c m = m) : cntK (GlFnChanges.l2 l m) l.length 0 () GlFnChanges.e2 = some true := by
  refine cnt_is _ (fun _ _ => True) ?_ (fun _ _ => rfl) _ trivial
  intro k s nx hk _ hn
  obtain ⟨c, hc, hci⟩ := at_lt (l := l) (k := k) hk
  simp only [GlFnChanges.l2, hci, Option.bind_some, letK, iteK_if, h c (List.mem_of_getElem? hc), bne_self_eq_false, Bool.false_eq_true, if_false, appK]
  exact hn _ trivial
theorem law_changes {fuel : Nat} {tapes : List Int → GoC.Tape} (ht : GoC.Tells tapes) (code : List Int) (hf : 1048577 ≤ fuel) : GlFnChanges.P fuel tapes code = some true := by
  simp only [GlFnChanges.P, GlVBig.P, Option.bind_some, letK, iteK_if]
  by_cases hb : (65536 : Int) < (code.length : Int)
  · rw [if_pos (by simpa using hb)]
  · rw [if_neg (by simpa using hb)]
    obtain ⟨rs, x, e, hr⟩ := drawLeast_ok ht code fuel hf
    have i1 := least_impl (fuel := fuel) rs x (by omega) (by omega)
    have i2 := least_spec (fuel := fuel) rs x (by omega) (by omega)
    have i3 := possible_impl rs x (by omega)
    have i4 := possible_spec (fuel := fuel) rs x (by omega) (by omega)
    have i5 := expl_impl rs x (by omega)
    have i6 := expl_spec (fuel := fuel) rs x (by omega) (by omega)
    have i7 := need_impl rs x (by omega)
    have i8 := need_spec (fuel := fuel) rs x (by omega) (by omega)
    have i9 := cheap_impl (fuel := fuel) rs x ⟨1, 1, 1, 1⟩ (by omega) (by omega)
    have i10 := fun c => makeCover_impl rs x c (by omega)
    have hrng := fun c hc => poss_range (rs := rs) (x := x) c hc
    have hvi := vInts_self (possV rs x)
    have hvn := vInts_self ([] : List Int)
    by_cases hok : okRs rs = true ∧ okC x = true
    · obtain ⟨h1, h2⟩ := hok
      have hz := zero_poss (rs := rs) h2
      have p1 : possRes rs x = (possV rs x, true) := by unfold possRes; rw [h1, h2]; rfl
      have p2 : explRes rs x = (x.paid == rateC rs x, true) := by unfold explRes; rw [h1, h2]; rfl
      rw [p1] at i3 i4
      rw [p2] at i5 i6
      by_cases h0 : possV rs x = []
      · have l1 : leastRes rs x = (0, ⟨0, 0, 0, 0, 0, 0, 0, 0, 0⟩, false) := by unfold leastRes; rw [if_neg (by simp [h0])]
        have l2 : needRes rs x = (0, false) := by unfold needRes; rw [if_neg (by simp [h0])]
        have l3 : (x.paid == rateC rs x) = false := by
          rw [h0] at hz
          simpa using hz
        rw [l1] at i1 i2
        rw [l2] at i7 i8
        rw [l3] at i5 i6
        rw [h0] at i3 i4
        clear i9 i10 hvi hz p1 p2 l1 l2 l3 hrng
        obtain ⟨x0, x1, x2, x3, x4, x5, x6, x7, x8⟩ := x
        simp [e, unCover, i1, i2, i3, i4, i5, i6, i7, i8, bind2, bind3, joinK, appK, iteK_if, letK, hvn, GlFnChanges.q0, GlFnChanges.q1, GlFnChanges.q2, GlFnChanges.q3, GlFnChanges.q5, cntK, GlFnChanges.e2]
      · obtain ⟨hbr, y, hy⟩ := made_best (rs := rs) (x := x) (s := ⟨1, 1, 1, 1⟩) h0
        have hmem := bestC_mem ⟨1, 1, 1, 1⟩ h0
        have hmade := made_is h1 h2 hy
        have l1 : leastRes rs x = (bestC ⟨1, 1, 1, 1⟩ (possV rs x), y, true) := by unfold leastRes; rw [if_pos ⟨h1, h2, h0⟩, hy]; rfl
        have l2 : needRes rs x = (neededV (possV rs x), true) := by unfold needRes; rw [if_pos ⟨h1, h2, h0⟩]
        have l3 : (x.paid == rateC rs x) = (bestC ⟨1, 1, 1, 1⟩ (possV rs x) == 0) := by
          rw [Bool.eq_iff_iff, beq_iff_eq, beq_iff_eq, ← hz]
          constructor
          · exact fun hm => best_zero hrng hm
          · intro hm; rw [hm] at hmem; exact hmem
        have l4 : cheapRes rs x ⟨1, 1, 1, 1⟩ = (bestC ⟨1, 1, 1, 1⟩ (possV rs x), onesV (bestC ⟨1, 1, 1, 1⟩ (possV rs x)), true) := by
          unfold cheapRes; rw [if_pos ⟨h1, h2, okOnes, h0⟩, cost_ones]
        have l5 : makeRes rs x (bestC ⟨1, 1, 1, 1⟩ (possV rs x)) = (y, true) := by
          unfold makeRes
          rw [h1, h2, show inB (bestC ⟨1, 1, 1, 1⟩ (possV rs x)) 0 15 = true by unfold inB; simpa using hbr, hy]; rfl
        have l6 : explRes rs y = (true, true) := by
          unfold explRes; rw [h1, hmade.1, hmade.2.1]; simp
        have i11 := expl_impl rs y (by omega)
        have i10 := i10 (bestC ⟨1, 1, 1, 1⟩ (possV rs x))
        have hlo := fewest_loop (fuel := fuel) (by omega) hrng (fun c hc => best_ones h0 hrng hc)
        have hnl := need_loop (fun c hc => and_need hrng hc)
        have hvh := vHas_yes hmem
        have hle := ones_range (bestC ⟨1, 1, 1, 1⟩ (possV rs x))
        have hpos : 0 < (possV rs x).length := List.length_pos_iff.2 h0
        rw [l1] at i1 i2
        rw [l2] at i7 i8
        rw [l3] at i5 i6
        rw [l4] at i9
        rw [l5] at i10
        rw [l6] at i11
        clear l1 l2 l3 l4 l5 l6 p1 p2 hz hmade hy hvn h0 hmem hrng
        generalize bestC ⟨1, 1, 1, 1⟩ (possV rs x) = b at *
        generalize neededV (possV rs x) = nd at *
        generalize possV rs x = l at *
        obtain ⟨x0, x1, x2, x3, x4, x5, x6, x7, x8⟩ := x
        obtain ⟨y0, y1, y2, y3, y4, y5, y6, y7, y8⟩ := y
        have h4 : ¬ 4 < onesV b := by omega
        have h5 : (0 : Int) < (l.length : Int) := by omega
        simp only [e, unCover, i1, i2, bind2_some, bind3_some, joinK, appK, letK, iteK_if, bne_self_eq_false, beq_self_eq_true, Bool.and_self, Bool.not_true, Bool.false_eq_true, if_false, if_true]
        simp only [GlFnChanges.q0, unCover, i3, i4, bind2_some, Option.bind_some, joinK, appK, letK, iteK_if, hvi, decide_eq_true h5, beq_self_eq_true, Bool.not_true, Bool.false_eq_true, if_false, if_true]
        simp only [GlFnChanges.q1, unCover, i5, i6, bind2_some, joinK, appK, letK, iteK_if, beq_self_eq_true, Bool.not_true, Bool.false_eq_true, if_false, if_true]
        simp only [GlFnChanges.q2, unCover, i9, i10, i11, hvh, bind2_some, bind3_some, Option.bind_some, joinK, appK, letK, iteK_if, bne_self_eq_false, beq_self_eq_true, Bool.and_self, Bool.not_true, decide_eq_false h4, Bool.false_eq_true, if_false, if_true]
        simp only [GlFnChanges.q4, letK, iteK_if, Bool.false_eq_true, if_false]
        refine hlo _ ?_
        simp only [GlFnChanges.e0, GlFnChanges.q3, GlFnChanges.q5, unCover, i7, i8, bind2_some, joinK, appK, letK, iteK_if, bne_self_eq_false, beq_self_eq_true, Bool.not_true, Bool.false_eq_true, if_false, if_true]
        exact hnl
    · have hno : (okRs rs && okC x) = false := by
        cases q1 : okRs rs with
        | false => rfl
        | true => cases q2 : okC x with
          | false => rfl
          | true => exact absurd ⟨q1, q2⟩ hok
      have p1 : possRes rs x = ([], false) := by unfold possRes; rw [hno]; rfl
      have p2 : explRes rs x = (false, false) := by unfold explRes; rw [hno]; rfl
      have l1 : leastRes rs x = (0, ⟨0, 0, 0, 0, 0, 0, 0, 0, 0⟩, false) := by unfold leastRes; rw [if_neg (fun h => hok ⟨h.1, h.2.1⟩)]
      have l2 : needRes rs x = (0, false) := by unfold needRes; rw [if_neg (fun h => hok ⟨h.1, h.2.1⟩)]
      rw [p1] at i3 i4
      rw [p2] at i5 i6
      rw [l1] at i1 i2
      rw [l2] at i7 i8
      clear i9 i10 hvi hrng p1 p2 l1 l2 hno hok
      obtain ⟨x0, x1, x2, x3, x4, x5, x6, x7, x8⟩ := x
      simp [e, unCover, i1, i2, i3, i4, i5, i6, i7, i8, bind2, bind3, joinK, appK, iteK_if, letK, hvn, GlFnChanges.q0, GlFnChanges.q1, GlFnChanges.q2, GlFnChanges.q3, GlFnChanges.q5, cntK, GlFnChanges.e2]
end Go.Proofs.YtihibckijdfidaaGreat.QL12FnChanges

