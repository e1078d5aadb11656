/- Texts on which the proofs of several laws stand, one behind the other (14 of 20). No condition of their own. -/
import Derived.Test.YtgbcdmlcmnaimaaX10P13
import Derived.Test.YtgbcdmlcmnaimaaX10P11
import Derived.Test.YtgbcdmlcmnaimaaX10P1
import Derived.Test.YtgbcdmlcmnaimaaX10P9
import Derived.Test.YtgbcdmlcmnaimaaX10P10
import Derived.Test.YtgbcdmlcmnaimaaChecked
import Derived.WalkKit
import Derived.WalkSpells
import Derived.WalkLawsBesides
import Derived.BigQuiet
import Derived.OwnWalk
import Derived.Deep.LoopGhost
import Derived.Deep.QuietTactic
import Derived.IntWalk
import Derived.Lib.QuietBelow
set_option linter.unusedVariables false
set_option linter.unusedSimpArgs false
namespace Go.Proofs.Ytgbcdmlcmnaimaa.Q10FaultOf
open Go.RowKit
open Go.Proofs.Ytgbcdmlcmnaimaa.GoP Go.Proofs.Ytgbcdmlcmnaimaa.PlainStamp Go.Proofs.Ytgbcdmlcmnaimaa.QBase Go.Proofs.Ytgbcdmlcmnaimaa.Q10Fault Go.Proofs.Ytgbcdmlcmnaimaa.Q10Cover Go.Proofs.Ytgbcdmlcmnaimaa.Q8For Go.Proofs.Ytgbcdmlcmnaimaa.Q8List Go.Proofs.Ytgbcdmlcmnaimaa.Q9List Go.Proofs.Ytgbcdmlcmnaimaa.QLoop Go.Proofs.Ytgbcdmlcmnaimaa.PCover Go.Proofs.Ytgbcdmlcmnaimaa.PRate Go.Proofs.Ytgbcdmlcmnaimaa.PMail

def askB (rs : List Rate) (ms : List Mail) : Bool := okRs rs && goodM ms
theorem can_eq (rs : List Rate) (ms : List Mail) (hr : rs.length ≤ 9223372036854775807) (hm : ms.length ≤ 9223372036854775807) : GiCanCheckCovers.P rs ms = some (askB rs ms) := by
  simp only [GiCanCheckCovers.P, areRates_eq rs hr, isTime_eq ms hm, Option.bind_some, letK, joinK, appK, iteK_if, askB]
  cases okRs rs <;> simp
theorem ask_of {rs : List Rate} {ms : List Mail} (h : askB rs ms = true) : okRs rs = true ∧ goodM ms = true := by
  simpa [askB] using h
def faultRes (rs : List Rate) (ms : List Mail) (x : Cover) : Int × Bool := if (askB rs ms && okC x) = true then (faultV rs ms x, true) else (0, false)
theorem faultOf_impl (rs : List Rate) (ms : List Mail) (x : Cover) (hr : rs.length ≤ 9223372036854775807) (hm : ms.length ≤ 9223372036854775807) : GiFaultOf.P rs ms x = some (faultRes rs ms x) := by
  have e1 := isCover_eq x
  have e2 := fun h1 h2 h3 => fault_impl (rs := rs) (ms := ms) (x := x) h1 h2 h3
  obtain ⟨a, b, c, d, e, f, g, h, i⟩ := x
  simp only [GiFaultOf.P, unCover, can_eq rs ms hr hm, e1, Option.bind_some, letK, joinK, appK, iteK_if, faultRes]
  cases ha : askB rs ms with
  | false => simp
  | true =>
    cases hc : okC ⟨a, b, c, d, e, f, g, h, i⟩ with
    | false => simp
    | true => simp [e2 (ask_of ha).1 (ask_of ha).2 hc]
theorem faultOf_spec {fuel : Nat} (rs : List Rate) (ms : List Mail) (x : Cover) (hr : rs.length ≤ 9223372036854775807) (hm : ms.length ≤ 9223372036854775807) (hf : 17 < fuel) : GsFaultOf.P fuel rs ms x = some (faultRes rs ms x) := by
  have e1 := l10One_eq x
  have e3 := l8Good_eq (fuel := fuel) rs hr hf
  have e4 := l9Good_eq ms hm
  have e2 := fun h1 h2 h3 => fault_spec (rs := rs) (ms := ms) (x := x) h1 h2 h3
  obtain ⟨a, b, c, d, e, f, g, h, i⟩ := x
  cases ha : okRs rs with
  | false => rw [ha] at e3; simp [GsFaultOf.P, unCover, e3, letK, joinK, appK, iteK_if, faultRes, askB, ha]
  | true =>
    rw [ha] at e3
    cases hb : goodM ms with
    | false => rw [hb] at e4; simp [GsFaultOf.P, unCover, e3, e4, letK, joinK, appK, iteK_if, faultRes, askB, ha, hb]
    | true =>
      rw [hb] at e4
      cases hc : okC ⟨a, b, c, d, e, f, g, h, i⟩ with
      | false => rw [hc] at e1; simp [GsFaultOf.P, unCover, e3, e4, e1, letK, joinK, appK, iteK_if, faultRes, askB, ha, hb, hc]
      | true => rw [hc] at e1; simp [GsFaultOf.P, unCover, e3, e4, e1, letK, joinK, appK, iteK_if, faultRes, askB, ha, hb, hc, e2 ha hb hc]
end Go.Proofs.Ytgbcdmlcmnaimaa.Q10FaultOf

namespace Go.Proofs.Ytgbcdmlcmnaimaa.GlVHas
open Go.RowKit
open Go.Proofs.Ytgbcdmlcmnaimaa.Rowed Go.Proofs.Ytgbcdmlcmnaimaa.Turn Go.Proofs.Ytgbcdmlcmnaimaa.Aid Go.Proofs.Ytgbcdmlcmnaimaa.GoP Go.Proofs.Ytgbcdmlcmnaimaa.GoM

def l0 (l : (List Int)) (x : Int) (k0 : Nat) (s : Unit) (nx0 bk0 : Unit → Option (Bool)) : Option (Bool) :=
 
 Option.bind (idx l (k0 : Int)) fun (yt_8 : Int) =>
 letK (yt_8 == x) fun (t_11 : Bool) =>
 iteK t_11
 (some true)
 (appK nx0 ())

def e0  (s : Unit) : Option (Bool) :=
 
 some false

def P (l : (List Int)) (x : Int) : Option (Bool) :=
 cntK (l0 l x) (l.length) 0 () (e0 )

set_option maxRecDepth 100000 in
set_option maxHeartbeats 2000000 in
theorem C (l : (List Int)) (x : Int) (A0 : Option Addr) (c0 : Nat)  (w : World) (M0 : Hid (Cells w 1 A0 l.length (HelpInt.iv l))) (N0 : Hid (l.length ≤ 9223372036854775807))  {r : Bool} (H : Hid (P l x = some r)) :
  Calls Try.prog 33 #[.slice A0 l.length c0, .int .i64 x] w (Gives (.bool r) w) := by
 have HB := Lib.hid (Below.refl w.heap.size w); unfold P at H; have N0o := N0.out
 go_enter Try.func33, Try.ntmps33
 go_wp2_with fail; go_loopg [5] (l.length) (fun m_ v5_ wr => ∃ (k0 : Nat) , k0 + m_ = l.length ∧ v5_ = .int .i64 (k0 : Int) ∧ Hid (cntK (l0 l x) m_ k0 () (e0 ) = some r) ∧ Hid (Below w.heap.size w wr))
 case atStart => exact ⟨0, by omega, rfl, H, HB⟩
 case round =>
  obtain ⟨k0, hkm0, rfl, H, a10⟩ := hrel; rename World => wr0
  cases gk with
  | zero =>
   obtain rfl : k0 = l.length := (by omega); have hc0 : decide (((l.length : Nat) : Int) < ((l.length : Nat) : Int)) = false := (by simp); replace H := cnt_zero H; unfold e0 at H; obtain rfl := ret_hid H; go_wp2_with fail; go_ret; exact ⟨rfl, a10.out⟩
  | succ m0 =>
   have hlt0 : k0 < l.length := (by omega); have hc0 : decide ((k0 : Int) < ((l.length : Nat) : Int)) = true := (by simp; omega); replace H := cnt_succ H; unfold l0 at H; replace H := idx_hid H; obtain ⟨nt_8, yt_8, et_8, lt_8, gt_8, H⟩ := H; obtain rfl : k0 = nt_8 := (by omega); clear et_8; obtain ⟨i10, g10, zt_8, At_8, c10, b10⟩ := HelpInt.Ints.at_ M0.out lt_8; obtain rfl := Option.some.inj (gt_8.out.symm.trans c10); subst At_8; have h10 := cell_lt b10; replace b10 := cell_below a10.out b10; clear c10; have f10 : (0 : Int) ≤ (k0 : Int) := (by omega); have e10 : (k0 : Int) < ((l.length : Nat) : Int) := (by omega); have j10 : ((k0 : Int)).toNat = k0 := (by omega); replace H := let_hid H; obtain ⟨t_11, d10, H⟩ := H
   cases t_11 with
   | false =>
    replace H := ite_f H; replace H := app_hid H; go_wp2_with fail
    go_roundg m0
    case measure => omega
    case rel => exact ⟨k0 + 1, by omega, by go_num, H, a10⟩
   | true =>
    replace H := ite_t H; obtain rfl := ret_hid H; go_wp2_with fail; go_ret; exact ⟨rfl, a10.out⟩
end Go.Proofs.Ytgbcdmlcmnaimaa.GlVHas

namespace Go.Proofs.Ytgbcdmlcmnaimaa.QVInts
open Go.RowKit
open Go.Proofs.Ytgbcdmlcmnaimaa.GoP Go.Proofs.Ytgbcdmlcmnaimaa.PlainStamp Go.Proofs.Ytgbcdmlcmnaimaa.QBase Go.Proofs.Ytgbcdmlcmnaimaa.QLoop

theorem vInts_self (l : List Int) : GlVInts.P l l = some true := by
  simp only [GlVInts.P, letK, iteK_if]
  rw [if_neg (by simp)]
  refine cnt_is true (fun _ _ => True) ?_ (fun s _ => rfl) () trivial
  rintro k ⟨⟩ nx hk _ hn
  obtain ⟨x, _, hi⟩ := at_lt (l := l) (k := k) hk
  simp only [GlVInts.l0, hi, Option.bind_some, letK, appK, iteK_if]
  rw [if_neg (by simp)]; exact hn () trivial
theorem vHas_yes {l : List Int} {x : Int} (h : x ∈ l) : GlVHas.P l x = some true := by
  obtain ⟨j, hj⟩ := List.getElem?_of_mem h
  have hjl := (List.getElem?_eq_some_iff.1 hj).1
  simp only [GlVHas.P]
  have key : ∀ m k, k + m = l.length → k ≤ j → cntK (GlVHas.l0 l x) m k () GlVHas.e0 = some true := by
    intro m
    induction m with
    | zero => intro k hk hkj; omega
    | succ m ih =>
      intro k hk hkj
      obtain ⟨y, hy, hi⟩ := at_lt (l := l) (k := k) (by omega)
      show GlVHas.l0 l x k () _ _ = _
      simp only [GlVHas.l0, hi, Option.bind_some, letK, appK, iteK_if]
      by_cases hc : y = x
      · rw [if_pos (by simpa using hc)]
      · rw [if_neg (by simpa using hc)]
        refine ih (k + 1) (by omega) ?_
        by_cases he : k = j
        · subst he; rw [hy] at hj; exact absurd (Option.some.inj hj) hc
        · omega
  exact key l.length 0 (by omega) (by omega)
theorem vHas_no {l : List Int} {x : Int} (h : ¬ x ∈ l) : GlVHas.P l x = some false := by
  simp only [GlVHas.P]
  refine cnt_is false (fun _ _ => True) ?_ (fun s _ => rfl) () trivial
  rintro k ⟨⟩ nx hk _ hn
  obtain ⟨y, hy, hi⟩ := at_lt (l := l) (k := k) hk
  simp only [GlVHas.l0, hi, Option.bind_some, letK, appK, iteK_if]
  rw [if_neg (by
    intro hc
    have : y = x := by simpa using hc
    rw [this] at hy; exact h (List.mem_of_getElem? hy))]
  exact hn () trivial
end Go.Proofs.Ytgbcdmlcmnaimaa.QVInts

