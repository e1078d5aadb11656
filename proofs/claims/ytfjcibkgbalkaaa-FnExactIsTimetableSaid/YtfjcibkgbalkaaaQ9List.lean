/- Chapter 9: mails and routes: the plain functions of the program and of the reference agree, and the laws answer true. (Q9List) No condition but those of each theorem. -/
import Derived.Test.YtfjcibkgbalkaaaQRiseV
import Derived.Test.YtfjcibkgbalkaaaQRiseL
import Derived.Test.YtfjcibkgbalkaaaQOrd
import Derived.Test.YtfjcibkgbalkaaaQ9Mail
import Derived.Test.YtfjcibkgbalkaaaQLoop
import Derived.Test.YtfjcibkgbalkaaaPMail
import Derived.Test.YtfjcibkgbalkaaaGoRMail
import Derived.Test.YtfjcibkgbalkaaaGiIsTimetable
import Derived.Test.YtfjcibkgbalkaaaGiCanBegin
import Derived.Test.YtfjcibkgbalkaaaGsL9Good
import Derived.Test.YtfjcibkgbalkaaaGsL9Asked
namespace Go.Proofs.Ytfjcibkgbalkaaa.Q9List
set_option linter.unusedVariables false
set_option linter.unusedSimpArgs false
open Go.RowKit
open Go.Proofs.Ytfjcibkgbalkaaa.GoP Go.Proofs.Ytfjcibkgbalkaaa.PlainStamp Go.Proofs.Ytfjcibkgbalkaaa.QBase Go.Proofs.Ytfjcibkgbalkaaa.QRiseV Go.Proofs.Ytfjcibkgbalkaaa.QRiseL Go.Proofs.Ytfjcibkgbalkaaa.QOrd Go.Proofs.Ytfjcibkgbalkaaa.Q9Mail Go.Proofs.Ytfjcibkgbalkaaa.QLoop Go.Proofs.Ytfjcibkgbalkaaa.PMail

def goodM (l : List Mail) : Bool := riseL 20 okM ltM l
theorem isTime_eq (l : List Mail) (hl : l.length ≤ 9223372036854775807) : GiIsTimetable.P l = some (goodM l) := by
  simp only [GiIsTimetable.P, letK, iteK_if]
  by_cases h12 : l.length ≤ 20
  · rw [if_neg (by simp; omega), rise_loopV (ok := okM) (lt := ltM) (no := false)]
    · unfold goodM riseL; cases riseTo okM ltM l l.length <;> simp [h12, GiIsTimetable.e0]
    · intro k nx s hs
      have hi : idx l (k : Int) = some s := by rw [idx_nat, hs]
      have hk : k < l.length := (List.getElem?_eq_some_iff.1 hs).1
      simp only [GiIsTimetable.l0, hi, Option.bind_some, unMail, isMail_eq, letK, joinK, appK, iteK_if]
      refine ⟨fun h => by simp [h], fun h => ⟨fun h0 => by subst h0; simp [h], fun h0 r hr hokr => ?_⟩⟩
      rw [idx_pred h0 (by omega) hr]
      have hk0 : (0 : Int) < (k : Int) := by omega
      have hk1 : ¬ k = 0 := by omega
      obtain ⟨c, hc, hcc⟩ := compare_eq hokr h
      have he : ∀ x : Mail, Mail.mk x.leave x.from_ x.to_ x.arrive = x := fun x => rfl
      simp only [Option.bind_some, he, hc, h, ltM]
      exact ⟨fun hlt => by
        have : ¬ 0 ≤ c := by rw [hcc]; have := of_decide_eq_true hlt; omega
        simp [hk0, hk1, this], fun hge => by
        have : 0 ≤ c := by rw [hcc]; have := of_decide_eq_false hge; omega
        simp [hk0, hk1, this]⟩
  · rw [if_pos (by simp; omega)]; unfold goodM riseL; simp [h12]
theorem l9Good_eq (l : List Mail) (hl : l.length ≤ 9223372036854775807) : GsL9Good.P l = some (goodM l) := by
  simp only [GsL9Good.P]
  rw [rise_loopV (ok := okM) (lt := ltM) (no := false)]
  · unfold goodM riseL; simp only [GsL9Good.e0, letK]
    by_cases h12 : l.length ≤ 20
    · have : (l.length : Int) ≤ 20 := by omega
      cases riseTo okM ltM l l.length <;> simp [h12, this]
    · have : ¬ (l.length : Int) ≤ 20 := by omega
      cases riseTo okM ltM l l.length <;> simp [h12, this]
  · intro k nx s hs
    have hi : idx l (k : Int) = some s := by rw [idx_nat, hs]
    have hk : k < l.length := (List.getElem?_eq_some_iff.1 hs).1
    simp only [GsL9Good.l0, hi, Option.bind_some, unMail, l9One_eq, letK, joinK, appK, iteK_if]
    refine ⟨fun h => by simp [h], fun h => ⟨fun h0 => by subst h0; simp [h], fun h0 r hr hokr => ?_⟩⟩
    rw [idx_pred h0 (by omega) hr]
    have hk0 : (0 : Int) < (k : Int) := by omega
    have hk1 : ¬ k = 0 := by omega
    have he : ∀ x : Mail, Mail.mk x.leave x.from_ x.to_ x.arrive = x := fun x => rfl
    simp only [Option.bind_some, he, code_eq hokr, code_eq h, h, ltM]
    exact ⟨fun hlt => by
      have : ¬ codeM s ≤ codeM r := by have := of_decide_eq_true hlt; omega
      simp [hk0, hk1, this], fun hge => by
      have : codeM s ≤ codeM r := by have := of_decide_eq_false hge; omega
      simp [hk0, hk1, this]⟩
def askM (l : List Mail) (o m : Int) : Bool := goodM l && inB o 0 9 && inB m 0 9999
theorem canBegin_eq (l : List Mail) (hl : l.length ≤ 9223372036854775807) (o m : Int) : GiCanBegin.P l o m = some (askM l o m) := by
  simp only [GiCanBegin.P, isTime_eq l hl, isOffice_eq, isMinute_eq, Option.bind_some, joinK, appK, iteK_if, askM]
  cases goodM l <;> cases inB o 0 9 <;> simp
theorem l9Asked_eq (l : List Mail) (hl : l.length ≤ 9223372036854775807) (o m : Int) : GsL9Asked.P l o m = some (askM l o m) := by
  simp only [GsL9Asked.P, l9Good_eq l hl, l9Office_eq, l9Minute_eq, Option.bind_some, joinK, appK, iteK_if, askM]
  cases goodM l <;> cases inB o 0 9 <;> simp
theorem m_ok {l : List Mail} (h : goodM l = true) {k : Nat} {x : Mail} (hx : l[k]? = some x) : okM x = true := riseL_ok h hx
theorem m_mem {l : List Mail} (h : goodM l = true) {x : Mail} (hx : x ∈ l) : okM x = true := riseL_mem h hx
theorem m_len {l : List Mail} (h : goodM l = true) : l.length ≤ 20 := riseL_len h
theorem m_leave {l : List Mail} (h : goodM l = true) {i j : Nat} {x y : Mail} (hij : i < j) (hx : l[i]? = some x) (hy : l[j]? = some y) : x.leave ≤ y.leave := by
  have := riseL_rel (fun a b => a.leave ≤ b.leave) (fun a b ha hb hlt => by
    have h1 := okM_of ha
    have h2 := okM_of hb
    have h3 := of_decide_eq_true hlt
    unfold codeM at h3
    omega) (fun a b c h1 h2 => Int.le_trans h1 h2) h hij hx hy
  exact this
theorem ask_of {l : List Mail} {o m : Int} (h : askM l o m = true) : goodM l = true ∧ (0 ≤ o ∧ o ≤ 9) ∧ (0 ≤ m ∧ m ≤ 9999) := by
  unfold askM at h
  simp only [Bool.and_eq_true] at h
  exact ⟨h.1.1, inB_of h.1.2, inB_of h.2⟩
end Go.Proofs.Ytfjcibkgbalkaaa.Q9List
