/- Texts on which the proofs of several laws stand, one behind the other (14 of 18). No condition of their own. -/
import Derived.Test.YtgimcnpkngpmiaaChecked
import Derived.Test.YtgimcnpkngpmiaaX11P1
import Derived.Test.YtgimcnpkngpmiaaX11P2
import Derived.Test.YtgimcnpkngpmiaaX11P4
import Derived.WalkKit
import Derived.WalkSpells
import Derived.WalkLawsBesides
import Derived.BigQuiet
import Derived.OwnWalk
import Derived.Deep.LoopGhost
import Derived.Deep.QuietTactic
import Derived.IntWalk
import Derived.Lib.QuietBelow
import Derived.Test.YtgimcnpkngpmiaaX11P6
import Derived.Test.YtgimcnpkngpmiaaX11P3
import Derived.Test.YtgimcnpkngpmiaaX11P5
/- loop.example/g01062/spec.LatestUse as a plain function, and the contract of the program's: where the plain one has an answer, the program has it. Conditions: slices read as lists. -/
namespace Go.Proofs.Ytgimcnpkngpmiaa.GsLatestUse
set_option linter.unusedVariables false
set_option linter.unusedSimpArgs false
open Go.RowKit
open Go.Proofs.Ytgimcnpkngpmiaa.Rowed Go.Proofs.Ytgimcnpkngpmiaa.Turn Go.Proofs.Ytgimcnpkngpmiaa.Aid Go.Proofs.Ytgimcnpkngpmiaa.GoP Go.Proofs.Ytgimcnpkngpmiaa.GoM

def l0 (list : (List Go.Proofs.Ytgimcnpkngpmiaa.PPostmark.Postmark)) (town : ByteArray) (k0 : Nat) (s : Int × Int) (nx0 bk0 : Int × Int → Option (Int × Int × Bool)) : Option (Int × Int × Bool) :=
  unp2 s fun best_7l0 most_8l0 =>
  Option.bind (idx list (k0 : Int)) fun (yt_23 : Go.Proofs.Ytgimcnpkngpmiaa.PPostmark.Postmark) =>
  unPostmark yt_23 fun (t_23_id : Int) (t_23_town : ByteArray) (t_23_kind_ : Int) (t_23_first : Int) (t_23_last : Int) (t_23_lost : ByteArray) =>
  letK (t_23_town.toList == town.toList) fun (t_27 : Bool) =>
  joinK (fun (t_36 : Bool) =>
  iteK t_36
  (Option.bind (idx list (k0 : Int)) fun (yt_39 : Go.Proofs.Ytgimcnpkngpmiaa.PPostmark.Postmark) =>
  unPostmark yt_39 fun (t_39_id : Int) (t_39_town : ByteArray) (t_39_kind_ : Int) (t_39_first : Int) (t_39_last : Int) (t_39_lost : ByteArray) =>
  Option.bind (idx list (k0 : Int)) fun (yt_45 : Go.Proofs.Ytgimcnpkngpmiaa.PPostmark.Postmark) =>
  unPostmark yt_45 fun (t_45_id : Int) (t_45_town : ByteArray) (t_45_kind_ : Int) (t_45_first : Int) (t_45_last : Int) (t_45_lost : ByteArray) =>
  appK nx0 (t_39_id, t_45_last))
  (appK nx0 (best_7l0, most_8l0))) fun jt_36 => iteK t_27 (Option.bind (idx list (k0 : Int)) fun (yt_31 : Go.Proofs.Ytgimcnpkngpmiaa.PPostmark.Postmark) =>
  unPostmark yt_31 fun (t_31_id : Int) (t_31_town : ByteArray) (t_31_kind_ : Int) (t_31_first : Int) (t_31_last : Int) (t_31_lost : ByteArray) =>
  letK (decide (most_8l0 < t_31_last)) fun (t_35 : Bool) =>
  appK jt_36 t_35) (appK jt_36 false)

def e0  (s : Int × Int) : Option (Int × Int × Bool) :=
  unp2 s fun best_7l0 most_8l0 =>
  letK (best_7l0 == 0) fun (t_53 : Bool) =>
  iteK t_53
  (some (0, 0, false))
  (some (best_7l0, most_8l0, true))

def P (fuel : Nat) (list : (List Go.Proofs.Ytgimcnpkngpmiaa.PPostmark.Postmark)) (town : ByteArray) : Option (Int × Int × Bool) :=
  Option.bind (Go.Proofs.Ytgimcnpkngpmiaa.GsL11Good.P fuel list) fun (t_4 : Bool) =>
  letK (!t_4) fun (t_5 : Bool) =>
  joinK (fun (t_10 : Bool) =>
  iteK t_10
  (some (0, 0, false))
  (cntK (l0 list town) (list.length) 0 (0, (-1)) (e0 ))) fun jt_10 => iteK t_5 (appK jt_10 true) (Option.bind (Go.Proofs.Ytgimcnpkngpmiaa.GsL2Word.P town) fun (t_8 : Bool) =>
  letK (!t_8) fun (t_9 : Bool) =>
  appK jt_10 t_9)

set_option maxRecDepth 100000 in
set_option maxHeartbeats 2000000 in
theorem C (fuel : Nat) (list : (List Go.Proofs.Ytgimcnpkngpmiaa.PPostmark.Postmark)) (town : ByteArray) (A0 : Option Addr) (c0 : Nat)  (w : World) (M0 : Hid (Cells w 6 A0 list.length (Go.Proofs.Ytgimcnpkngpmiaa.PPostmark.flat list))) (N0 : Hid (list.length ≤ 9223372036854775807))  {r0 : Int} {r1 : Int} {r2 : Bool} (H : Hid (P fuel list town = some (r0, r1, r2))) :
    Calls Try.prog 27 #[.slice A0 list.length c0, .string town] w (Gives (.tuple #[.int .i64 r0, .int .i64 r1, .bool r2]) w) := by
  have HB := Lib.hid (Below.refl w.heap.size w)
  unfold P at H
  have N0o := N0.out
  go_enter Try.func27, Try.ntmps27
  replace H := bind_hid H
  obtain ⟨t_4, qt_4, H⟩ := H
  go_wp2_with fail
  go_at_call 45
  refine (Go.Proofs.Ytgimcnpkngpmiaa.GsL11Good.C fuel (list) A0 c0 _   (Lib.hid (Cells.below M0.out HB.out)) N0 qt_4).mono ?_
  rintro e_t_4 wt_4 ⟨rfl, bt_4⟩
  have HBwt_4 := Lib.hid (Below.step HB.out bt_4)
  clear bt_4
  cases t_4 with
  | false =>
    replace H := let_hid H
    obtain ⟨t_5, ht_5, H⟩ := H
    obtain rfl : t_5 = true := ht_5.symm
    replace H := join_hid H
    replace H := ite_t H
    replace H := app_hid H
    replace H := ite_t H
    cases ret_hid H
    go_wp2_with fail
    go_ret3
    exact ⟨rfl, HBwt_4.out⟩
  | true =>
    replace H := let_hid H
    obtain ⟨t_5, ht_5, H⟩ := H
    obtain rfl : t_5 = false := ht_5.symm
    replace H := join_hid H
    replace H := ite_f H
    replace H := bind_hid H
    obtain ⟨t_8, qt_8, H⟩ := H
    go_wp2_with fail
    go_at_call 56
    refine (Go.Proofs.Ytgimcnpkngpmiaa.GsL2Word.C (town)  _    qt_8).mono ?_
    rintro e_t_8 wt_8 ⟨rfl, bt_8⟩
    have HBwt_8 := Lib.hid (Below.step HBwt_4.out bt_8)
    clear bt_8
    cases t_8 with
    | false =>
      replace H := let_hid H
      obtain ⟨t_9, ht_9, H⟩ := H
      obtain rfl : t_9 = true := ht_9.symm
      replace H := app_hid H
      replace H := ite_t H
      cases ret_hid H
      go_wp2_with fail
      go_ret3
      exact ⟨rfl, HBwt_8.out⟩
    | true =>
      replace H := let_hid H
      obtain ⟨t_9, ht_9, H⟩ := H
      obtain rfl : t_9 = false := ht_9.symm
      replace H := app_hid H
      replace H := ite_f H
      go_wp2_with fail
      go_loopg [9, 7, 8] (list.length) (fun m_ v9_ v7_ v8_ wr => ∃ (k0 : Nat) (best_7l0 : Int) (most_8l0 : Int), k0 + m_ = list.length ∧ v9_ = .int .i64 (k0 : Int) ∧ v7_ = .int .i64 best_7l0 ∧ v8_ = .int .i64 most_8l0 ∧ Hid (cntK (l0 list town) m_ k0 (best_7l0, most_8l0) (e0 ) = some (r0, r1, r2)) ∧ Hid (Below w.heap.size w wr))
      case atStart => exact ⟨0, _, _, by omega, rfl, rfl, rfl, H, HBwt_8⟩
      case round =>
        obtain ⟨k0, best_7l0, most_8l0, hkm0, rfl, rfl, rfl, H, HBwr0⟩ := hrel
        rename World => wr0
        cases gk with
        | zero =>
          obtain rfl : k0 = list.length := by omega
          have hc0 : decide (((list.length : Nat) : Int) < ((list.length : Nat) : Int)) = false := by simp
          replace H := cnt_zero H
          unfold e0 at H
          replace H := unp2_hid H
          replace H := let_hid H
          obtain ⟨t_53, ht_53, H⟩ := H
          cases t_53 with
          | false =>
            replace H := ite_f H
            cases ret_hid H
            go_wp2_with fail
            go_ret3
            exact ⟨rfl, HBwr0.out⟩
          | true =>
            replace H := ite_t H
            cases ret_hid H
            go_wp2_with fail
            go_ret3
            exact ⟨rfl, HBwr0.out⟩
        | succ m0 =>
          have hlt0 : k0 < list.length := by omega
          have hc0 : decide ((k0 : Int) < ((list.length : Nat) : Int)) = true := by simp; omega
          replace H := cnt_succ H
          unfold l0 at H
          replace H := unp2_hid H
          replace H := idx_hid H
          obtain ⟨nt_23, yt_23, et_23, lt_23, gt_23, H⟩ := H
          obtain rfl : k0 = nt_23 := by omega
          clear et_23
          obtain ⟨t_23_id, t_23_town, t_23_kind_, t_23_first, t_23_last, t_23_lost⟩ := yt_23
          replace H := unPostmark_hid H
          obtain ⟨ab_t_23, ao_t_23, zt_23, At_23, z_t_23, ct_23_0, ct_23_1, ct_23_2, ct_23_3, ct_23_4, ct_23_5⟩ := Go.Proofs.Ytgimcnpkngpmiaa.OPostmark.at_ M0.out lt_23
          obtain rfl := Option.some.inj (gt_23.out.symm.trans z_t_23)
          subst At_23
          have ltt_23 := cell_lt ct_23_0
          replace ct_23_0 := cell_below HBwr0.out ct_23_0
          replace ct_23_1 := cell_below HBwr0.out ct_23_1
          replace ct_23_2 := cell_below HBwr0.out ct_23_2
          replace ct_23_3 := cell_below HBwr0.out ct_23_3
          replace ct_23_4 := cell_below HBwr0.out ct_23_4
          replace ct_23_5 := cell_below HBwr0.out ct_23_5
          clear z_t_23
          have b0t_23 : (0 : Int) ≤ (k0 : Int) := by omega
          have b1t_23 : (k0 : Int) < ((list.length : Nat) : Int) := by omega
          have b2t_23 : ((k0 : Int)).toNat = k0 := by omega
          replace H := let_hid H
          obtain ⟨t_27, ht_27, H⟩ := H
          replace H := join_hid H
          cases t_27 with
          | false =>
            replace H := ite_f H
            replace H := app_hid H
            replace H := ite_f H
            replace H := app_hid H
            go_wp2_with fail
            go_roundg m0
            case measure => omega
            case rel => exact ⟨k0 + 1, _, _, by omega, by go_num, rfl, rfl, H, HBwr0⟩
          | true =>
            replace H := ite_t H
            replace H := idx_hid H
            obtain ⟨nt_31, yt_31, et_31, lt_31, gt_31, H⟩ := H
            obtain rfl : k0 = nt_31 := by omega
            clear et_31
            obtain rfl := Option.some.inj (gt_23.out.symm.trans gt_31.out)
            clear gt_31 lt_31
            replace H := unPostmark_hid H
            replace H := let_hid H
            obtain ⟨t_35, ht_35, H⟩ := H
            replace H := app_hid H
            cases t_35 with
            | false =>
              replace H := ite_f H
              replace H := app_hid H
              go_wp2_with fail
              go_roundg m0
              case measure => omega
              case rel => exact ⟨k0 + 1, _, _, by omega, by go_num, rfl, rfl, H, HBwr0⟩
            | true =>
              replace H := ite_t H
              replace H := idx_hid H
              obtain ⟨nt_39, yt_39, et_39, lt_39, gt_39, H⟩ := H
              obtain rfl : k0 = nt_39 := by omega
              clear et_39
              obtain rfl := Option.some.inj (gt_23.out.symm.trans gt_39.out)
              clear gt_39 lt_39
              replace H := unPostmark_hid H
              replace H := idx_hid H
              obtain ⟨nt_45, yt_45, et_45, lt_45, gt_45, H⟩ := H
              obtain rfl : k0 = nt_45 := by omega
              clear et_45
              obtain rfl := Option.some.inj (gt_23.out.symm.trans gt_45.out)
              clear gt_45 lt_45
              replace H := unPostmark_hid H
              replace H := app_hid H
              go_wp2_with fail
              go_roundg m0
              case measure => omega
              case rel => exact ⟨k0 + 1, _, _, by omega, by go_num, rfl, rfl, H, HBwr0⟩
end Go.Proofs.Ytgimcnpkngpmiaa.GsLatestUse

/- More words for plain functions: tuples of five to eight. No condition. -/
namespace Go.Proofs.Ytgimcnpkngpmiaa.GoP
set_option linter.unusedVariables false
open Go.RowKit
def unp5 {α β γ δ ε ρ : Type} (s : α × β × γ × δ × ε) (f : α → β → γ → δ → ε → Option ρ) : Option ρ := f s.1 s.2.1 s.2.2.1 s.2.2.2.1 s.2.2.2.2
def bind5 {α β γ δ ε ρ : Type} (x : Option (α × β × γ × δ × ε)) (f : α → β → γ → δ → ε → Option ρ) : Option ρ := match x with | none => none | some (x0, x1, x2, x3, x4) => f x0 x1 x2 x3 x4
def unp6 {α β γ δ ε ζ ρ : Type} (s : α × β × γ × δ × ε × ζ) (f : α → β → γ → δ → ε → ζ → Option ρ) : Option ρ := f s.1 s.2.1 s.2.2.1 s.2.2.2.1 s.2.2.2.2.1 s.2.2.2.2.2
def bind6 {α β γ δ ε ζ ρ : Type} (x : Option (α × β × γ × δ × ε × ζ)) (f : α → β → γ → δ → ε → ζ → Option ρ) : Option ρ := match x with | none => none | some (x0, x1, x2, x3, x4, x5) => f x0 x1 x2 x3 x4 x5
def unp7 {α β γ δ ε ζ η ρ : Type} (s : α × β × γ × δ × ε × ζ × η) (f : α → β → γ → δ → ε → ζ → η → Option ρ) : Option ρ := f s.1 s.2.1 s.2.2.1 s.2.2.2.1 s.2.2.2.2.1 s.2.2.2.2.2.1 s.2.2.2.2.2.2
theorem unp7_hid {α β γ δ ε ζ η ρ : Type} {x0 : α} {x1 : β} {x2 : γ} {x3 : δ} {x4 : ε} {x5 : ζ} {x6 : η} {f : α → β → γ → δ → ε → ζ → η → Option ρ} {r : ρ} (H : Hid (unp7 (x0, x1, x2, x3, x4, x5, x6) f = some r)) : Hid (f x0 x1 x2 x3 x4 x5 x6 = some r) := H
def bind7 {α β γ δ ε ζ η ρ : Type} (x : Option (α × β × γ × δ × ε × ζ × η)) (f : α → β → γ → δ → ε → ζ → η → Option ρ) : Option ρ := match x with | none => none | some (x0, x1, x2, x3, x4, x5, x6) => f x0 x1 x2 x3 x4 x5 x6
def unp8 {α β γ δ ε ζ η θ ρ : Type} (s : α × β × γ × δ × ε × ζ × η × θ) (f : α → β → γ → δ → ε → ζ → η → θ → Option ρ) : Option ρ := f s.1 s.2.1 s.2.2.1 s.2.2.2.1 s.2.2.2.2.1 s.2.2.2.2.2.1 s.2.2.2.2.2.2.1 s.2.2.2.2.2.2.2
def bind8 {α β γ δ ε ζ η θ ρ : Type} (x : Option (α × β × γ × δ × ε × ζ × η × θ)) (f : α → β → γ → δ → ε → ζ → η → θ → Option ρ) : Option ρ := match x with | none => none | some (x0, x1, x2, x3, x4, x5, x6, x7) => f x0 x1 x2 x3 x4 x5 x6 x7
def unp9 {t0 t1 t2 t3 t4 t5 t6 t7 t8 ρ : Type} (s : t0 × t1 × t2 × t3 × t4 × t5 × t6 × t7 × t8) (f : t0 → t1 → t2 → t3 → t4 → t5 → t6 → t7 → t8 → Option ρ) : Option ρ := f s.1 s.2.1 s.2.2.1 s.2.2.2.1 s.2.2.2.2.1 s.2.2.2.2.2.1 s.2.2.2.2.2.2.1 s.2.2.2.2.2.2.2.1 s.2.2.2.2.2.2.2.2
def bind9 {t0 t1 t2 t3 t4 t5 t6 t7 t8 ρ : Type} (x : Option (t0 × t1 × t2 × t3 × t4 × t5 × t6 × t7 × t8)) (f : t0 → t1 → t2 → t3 → t4 → t5 → t6 → t7 → t8 → Option ρ) : Option ρ := match x with | none => none | some (x0, x1, x2, x3, x4, x5, x6, x7, x8) => f x0 x1 x2 x3 x4 x5 x6 x7 x8
def unp10 {t0 t1 t2 t3 t4 t5 t6 t7 t8 t9 ρ : Type} (s : t0 × t1 × t2 × t3 × t4 × t5 × t6 × t7 × t8 × t9) (f : t0 → t1 → t2 → t3 → t4 → t5 → t6 → t7 → t8 → t9 → Option ρ) : Option ρ := f s.1 s.2.1 s.2.2.1 s.2.2.2.1 s.2.2.2.2.1 s.2.2.2.2.2.1 s.2.2.2.2.2.2.1 s.2.2.2.2.2.2.2.1 s.2.2.2.2.2.2.2.2.1 s.2.2.2.2.2.2.2.2.2
def bind10 {t0 t1 t2 t3 t4 t5 t6 t7 t8 t9 ρ : Type} (x : Option (t0 × t1 × t2 × t3 × t4 × t5 × t6 × t7 × t8 × t9)) (f : t0 → t1 → t2 → t3 → t4 → t5 → t6 → t7 → t8 → t9 → Option ρ) : Option ρ := match x with | none => none | some (x0, x1, x2, x3, x4, x5, x6, x7, x8, x9) => f x0 x1 x2 x3 x4 x5 x6 x7 x8 x9
def unp11 {t0 t1 t2 t3 t4 t5 t6 t7 t8 t9 t10 ρ : Type} (s : t0 × t1 × t2 × t3 × t4 × t5 × t6 × t7 × t8 × t9 × t10) (f : t0 → t1 → t2 → t3 → t4 → t5 → t6 → t7 → t8 → t9 → t10 → Option ρ) : Option ρ := f s.1 s.2.1 s.2.2.1 s.2.2.2.1 s.2.2.2.2.1 s.2.2.2.2.2.1 s.2.2.2.2.2.2.1 s.2.2.2.2.2.2.2.1 s.2.2.2.2.2.2.2.2.1 s.2.2.2.2.2.2.2.2.2.1 s.2.2.2.2.2.2.2.2.2.2
def bind11 {t0 t1 t2 t3 t4 t5 t6 t7 t8 t9 t10 ρ : Type} (x : Option (t0 × t1 × t2 × t3 × t4 × t5 × t6 × t7 × t8 × t9 × t10)) (f : t0 → t1 → t2 → t3 → t4 → t5 → t6 → t7 → t8 → t9 → t10 → Option ρ) : Option ρ := match x with | none => none | some (x0, x1, x2, x3, x4, x5, x6, x7, x8, x9, x10) => f x0 x1 x2 x3 x4 x5 x6 x7 x8 x9 x10
def unp12 {t0 t1 t2 t3 t4 t5 t6 t7 t8 t9 t10 t11 ρ : Type} (s : t0 × t1 × t2 × t3 × t4 × t5 × t6 × t7 × t8 × t9 × t10 × t11) (f : t0 → t1 → t2 → t3 → t4 → t5 → t6 → t7 → t8 → t9 → t10 → t11 → Option ρ) : Option ρ := f s.1 s.2.1 s.2.2.1 s.2.2.2.1 s.2.2.2.2.1 s.2.2.2.2.2.1 s.2.2.2.2.2.2.1 s.2.2.2.2.2.2.2.1 s.2.2.2.2.2.2.2.2.1 s.2.2.2.2.2.2.2.2.2.1 s.2.2.2.2.2.2.2.2.2.2.1 s.2.2.2.2.2.2.2.2.2.2.2
def bind12 {t0 t1 t2 t3 t4 t5 t6 t7 t8 t9 t10 t11 ρ : Type} (x : Option (t0 × t1 × t2 × t3 × t4 × t5 × t6 × t7 × t8 × t9 × t10 × t11)) (f : t0 → t1 → t2 → t3 → t4 → t5 → t6 → t7 → t8 → t9 → t10 → t11 → Option ρ) : Option ρ := match x with | none => none | some (x0, x1, x2, x3, x4, x5, x6, x7, x8, x9, x10, x11) => f x0 x1 x2 x3 x4 x5 x6 x7 x8 x9 x10 x11
end Go.Proofs.Ytgimcnpkngpmiaa.GoP

/- cmp.isNaN[int] as a plain function, and the contract of the program's: where the plain one has an answer, the program has it. Conditions: slices read as lists. -/
namespace Go.Proofs.Ytgimcnpkngpmiaa.GxCmpIsNaNInt
set_option linter.unusedVariables false
set_option linter.unusedSimpArgs false
open Go.RowKit
open Go.Proofs.Ytgimcnpkngpmiaa.Rowed Go.Proofs.Ytgimcnpkngpmiaa.Turn Go.Proofs.Ytgimcnpkngpmiaa.Aid Go.Proofs.Ytgimcnpkngpmiaa.GoP Go.Proofs.Ytgimcnpkngpmiaa.GoM

def P (x : Int) : Option (Bool) :=
  some false

set_option maxRecDepth 100000 in
set_option maxHeartbeats 2000000 in
theorem C (x : Int)   (w : World)   {r : Bool} (H : Hid (P x = some r)) :
    Calls Try.prog 81 #[.int .i64 x] w (Gives (.bool r) w) := by
  have HB := Lib.hid (Below.refl w.heap.size w)
  unfold P at H
  go_enter Try.func81, Try.ntmps81
  obtain rfl := ret_hid H
  go_wp2_with fail
  go_ret
  exact ⟨rfl, HB.out⟩

set_option maxRecDepth 100000 in
set_option maxHeartbeats 2000000 in
theorem C0 (x : Int)   (w : World)   {r : Bool} (H : Hid (P x = some r)) :
    Calls Try.prog 81 #[.int .i64 x] w (fun e w'' => e = .returned (.bool r) ∧ w'' = w) := by
  have HB := Lib.hid (Below.refl w.heap.size w)
  unfold P at H
  go_enter Try.func81, Try.ntmps81
  obtain rfl := ret_hid H
  go_wp2_with fail
  go_ret
  exact ⟨rfl, rfl⟩
end Go.Proofs.Ytgimcnpkngpmiaa.GxCmpIsNaNInt

/- cmp.Compare[int] as a plain function, and the contract of the program's: where the plain one has an answer, the program has it. Conditions: slices read as lists. -/
namespace Go.Proofs.Ytgimcnpkngpmiaa.GxCmpCompareInt
set_option linter.unusedVariables false
set_option linter.unusedSimpArgs false
open Go.RowKit
open Go.Proofs.Ytgimcnpkngpmiaa.Rowed Go.Proofs.Ytgimcnpkngpmiaa.Turn Go.Proofs.Ytgimcnpkngpmiaa.Aid Go.Proofs.Ytgimcnpkngpmiaa.GoP Go.Proofs.Ytgimcnpkngpmiaa.GoM

def P (x : Int) (y : Int) : Option (Int) :=
  Option.bind (Go.Proofs.Ytgimcnpkngpmiaa.GxCmpIsNaNInt.P x) fun (t_2 : Bool) =>
  Option.bind (Go.Proofs.Ytgimcnpkngpmiaa.GxCmpIsNaNInt.P y) fun (t_5 : Bool) =>
  iteK t_2
  (iteK t_5
  (some 0)
  (some (-1)))
  (iteK t_5
  (some 1)
  (letK (decide (x < y)) fun (t_15 : Bool) =>
  iteK t_15
  (some (-1))
  (letK (decide (y < x)) fun (t_19 : Bool) =>
  iteK t_19
  (some 1)
  (some 0))))

set_option maxRecDepth 100000 in
set_option maxHeartbeats 2000000 in
theorem C (x : Int) (y : Int)   (w : World)   {r : Int} (H : Hid (P x y = some r)) :
    Calls Try.prog 60 #[.int .i64 x, .int .i64 y] w (Gives (.int .i64 r) w) := by
  have HB := Lib.hid (Below.refl w.heap.size w)
  unfold P at H
  go_enter Try.func60, Try.ntmps60
  replace H := bind_hid H
  obtain ⟨t_2, qt_2, H⟩ := H
  go_wp2_with fail
  go_at_call 81
  refine (Go.Proofs.Ytgimcnpkngpmiaa.GxCmpIsNaNInt.C (x)  _    qt_2).mono ?_
  rintro e_t_2 wt_2 ⟨rfl, bt_2⟩
  have HBwt_2 := Lib.hid (Below.step HB.out bt_2)
  clear bt_2
  replace H := bind_hid H
  obtain ⟨t_5, qt_5, H⟩ := H
  go_wp2_with fail
  go_at_call 81
  refine (Go.Proofs.Ytgimcnpkngpmiaa.GxCmpIsNaNInt.C (y)  _    qt_5).mono ?_
  rintro e_t_5 wt_5 ⟨rfl, bt_5⟩
  have HBwt_5 := Lib.hid (Below.step HBwt_2.out bt_5)
  clear bt_5
  cases t_2 with
  | false =>
    replace H := ite_f H
    cases t_5 with
    | false =>
      replace H := ite_f H
      replace H := let_hid H
      obtain ⟨t_15, ht_15, H⟩ := H
      cases t_15 with
      | false =>
        replace H := ite_f H
        replace H := let_hid H
        obtain ⟨t_19, ht_19, H⟩ := H
        cases t_19 with
        | false =>
          replace H := ite_f H
          obtain rfl := ret_hid H
          go_wp2_with fail
          go_ret
          exact ⟨rfl, HBwt_5.out⟩
        | true =>
          replace H := ite_t H
          obtain rfl := ret_hid H
          go_wp2_with fail
          go_ret
          exact ⟨rfl, HBwt_5.out⟩
      | true =>
        replace H := ite_t H
        obtain rfl := ret_hid H
        go_wp2_with fail
        go_ret
        exact ⟨rfl, HBwt_5.out⟩
    | true =>
      replace H := ite_t H
      obtain rfl := ret_hid H
      go_wp2_with fail
      go_ret
      exact ⟨rfl, HBwt_5.out⟩
  | true =>
    replace H := ite_t H
    cases t_5 with
    | false =>
      replace H := ite_f H
      obtain rfl := ret_hid H
      go_wp2_with fail
      go_ret
      exact ⟨rfl, HBwt_5.out⟩
    | true =>
      replace H := ite_t H
      obtain rfl := ret_hid H
      go_wp2_with fail
      go_ret
      exact ⟨rfl, HBwt_5.out⟩
end Go.Proofs.Ytgimcnpkngpmiaa.GxCmpCompareInt

/- loop.example/g01062/impl.LatestUse$1 as a plain function, and the contract of the program's: where the plain one has an answer, the program has it. Conditions: slices read as lists. -/
namespace Go.Proofs.Ytgimcnpkngpmiaa.GiLatestUse1
set_option linter.unusedVariables false
set_option linter.unusedSimpArgs false
open Go.RowKit
open Go.Proofs.Ytgimcnpkngpmiaa.Rowed Go.Proofs.Ytgimcnpkngpmiaa.Turn Go.Proofs.Ytgimcnpkngpmiaa.Aid Go.Proofs.Ytgimcnpkngpmiaa.GoP Go.Proofs.Ytgimcnpkngpmiaa.GoM

def P (p : Go.Proofs.Ytgimcnpkngpmiaa.PPostmark.Postmark) (q : Go.Proofs.Ytgimcnpkngpmiaa.PPostmark.Postmark) : Option (Int) :=
  unPostmark p fun (p_id : Int) (p_town : ByteArray) (p_kind_ : Int) (p_first : Int) (p_last : Int) (p_lost : ByteArray) =>
  unPostmark q fun (q_id : Int) (q_town : ByteArray) (q_kind_ : Int) (q_first : Int) (q_last : Int) (q_lost : ByteArray) =>
  Option.bind (Go.Proofs.Ytgimcnpkngpmiaa.GxCmpCompareInt.P p_last q_last) fun (t_7 : Int) =>
  some t_7

set_option maxRecDepth 100000 in
set_option maxHeartbeats 2000000 in
theorem C (p : Go.Proofs.Ytgimcnpkngpmiaa.PPostmark.Postmark) (q : Go.Proofs.Ytgimcnpkngpmiaa.PPostmark.Postmark)   (w : World)   {r : Int} (H : Hid (P p q = some r)) :
    Calls Try.prog 59 #[p.val, q.val] w (Gives (.int .i64 r) w) := by
  have HB := Lib.hid (Below.refl w.heap.size w)
  unfold P at H
  obtain ⟨p_id, p_town, p_kind_, p_first, p_last, p_lost⟩ := p
  replace H := unPostmark_hid H
  obtain ⟨q_id, q_town, q_kind_, q_first, q_last, q_lost⟩ := q
  replace H := unPostmark_hid H
  unfold Go.Proofs.Ytgimcnpkngpmiaa.PPostmark.Postmark.val
  go_enter Try.func59, Try.ntmps59
  obtain ⟨w_p_0, hw_p_0⟩ : ∃ x, w.alloc (.cells #[.int .i64 p_id, .string p_town, .int .i64 p_kind_, .int .i64 p_first, .int .i64 p_last, .string p_lost] 26) = x := ⟨_, rfl⟩
  have bw_p_0 : Below w.heap.size w w_p_0 := by rw [← hw_p_0]; exact (Below.refl _ _).alloc (Nat.le_refl _) _
  have HBw_p_0 := Lib.hid (Below.step HB.out bw_p_0)
  clear bw_p_0
  have kp_0_0 : w_p_0.cell? ⟨w.heap.size, 0, none⟩ = some (.int .i64 p_id) := by rw [← hw_p_0]; exact box_new _ _ _ 0 _ rfl
  have kp_0_1 : w_p_0.cell? ⟨w.heap.size, 1, none⟩ = some (.string p_town) := by rw [← hw_p_0]; exact box_new _ _ _ 1 _ rfl
  have kp_0_2 : w_p_0.cell? ⟨w.heap.size, 2, none⟩ = some (.int .i64 p_kind_) := by rw [← hw_p_0]; exact box_new _ _ _ 2 _ rfl
  have kp_0_3 : w_p_0.cell? ⟨w.heap.size, 3, none⟩ = some (.int .i64 p_first) := by rw [← hw_p_0]; exact box_new _ _ _ 3 _ rfl
  have kp_0_4 : w_p_0.cell? ⟨w.heap.size, 4, none⟩ = some (.int .i64 p_last) := by rw [← hw_p_0]; exact box_new _ _ _ 4 _ rfl
  have kp_0_5 : w_p_0.cell? ⟨w.heap.size, 5, none⟩ = some (.string p_lost) := by rw [← hw_p_0]; exact box_new _ _ _ 5 _ rfl
  obtain ⟨w_q_1, hw_q_1⟩ : ∃ x, w_p_0.alloc (.cells #[.int .i64 q_id, .string q_town, .int .i64 q_kind_, .int .i64 q_first, .int .i64 q_last, .string q_lost] 26) = x := ⟨_, rfl⟩
  have bw_q_1 : Below w_p_0.heap.size w_p_0 w_q_1 := by rw [← hw_q_1]; exact (Below.refl _ _).alloc (Nat.le_refl _) _
  have HBw_q_1 := Lib.hid (Below.step HBw_p_0.out bw_q_1)
  have kp_0_0__313 := cell_below bw_q_1 kp_0_0
  have kp_0_1__314 := cell_below bw_q_1 kp_0_1
  have kp_0_2__315 := cell_below bw_q_1 kp_0_2
  have kp_0_3__316 := cell_below bw_q_1 kp_0_3
  have kp_0_4__317 := cell_below bw_q_1 kp_0_4
  have kp_0_5__318 := cell_below bw_q_1 kp_0_5
  clear bw_q_1
  have kq_1_0 : w_q_1.cell? ⟨w_p_0.heap.size, 0, none⟩ = some (.int .i64 q_id) := by rw [← hw_q_1]; exact box_new _ _ _ 0 _ rfl
  have kq_1_1 : w_q_1.cell? ⟨w_p_0.heap.size, 1, none⟩ = some (.string q_town) := by rw [← hw_q_1]; exact box_new _ _ _ 1 _ rfl
  have kq_1_2 : w_q_1.cell? ⟨w_p_0.heap.size, 2, none⟩ = some (.int .i64 q_kind_) := by rw [← hw_q_1]; exact box_new _ _ _ 2 _ rfl
  have kq_1_3 : w_q_1.cell? ⟨w_p_0.heap.size, 3, none⟩ = some (.int .i64 q_first) := by rw [← hw_q_1]; exact box_new _ _ _ 3 _ rfl
  have kq_1_4 : w_q_1.cell? ⟨w_p_0.heap.size, 4, none⟩ = some (.int .i64 q_last) := by rw [← hw_q_1]; exact box_new _ _ _ 4 _ rfl
  have kq_1_5 : w_q_1.cell? ⟨w_p_0.heap.size, 5, none⟩ = some (.string q_lost) := by rw [← hw_q_1]; exact box_new _ _ _ 5 _ rfl
  replace H := bind_hid H
  obtain ⟨t_7, qt_7, H⟩ := H
  go_wp2_with fail
  clear kp_0_0 kp_0_1 kp_0_2 kp_0_3 kp_0_4 kp_0_5
  go_at_call 60
  refine (Go.Proofs.Ytgimcnpkngpmiaa.GxCmpCompareInt.C (p_last) (q_last)  _    qt_7).mono ?_
  rintro e_t_7 wt_7 ⟨rfl, bt_7⟩
  have HBwt_7 := Lib.hid (Below.step HBw_q_1.out bt_7)
  replace kp_0_0__313 := cell_below bt_7 kp_0_0__313
  replace kp_0_1__314 := cell_below bt_7 kp_0_1__314
  replace kp_0_2__315 := cell_below bt_7 kp_0_2__315
  replace kp_0_3__316 := cell_below bt_7 kp_0_3__316
  replace kp_0_4__317 := cell_below bt_7 kp_0_4__317
  replace kp_0_5__318 := cell_below bt_7 kp_0_5__318
  replace kq_1_0 := cell_below bt_7 kq_1_0
  replace kq_1_1 := cell_below bt_7 kq_1_1
  replace kq_1_2 := cell_below bt_7 kq_1_2
  replace kq_1_3 := cell_below bt_7 kq_1_3
  replace kq_1_4 := cell_below bt_7 kq_1_4
  replace kq_1_5 := cell_below bt_7 kq_1_5
  clear bt_7
  obtain rfl := ret_hid H
  go_wp2_with fail
  go_ret
  exact ⟨rfl, HBwt_7.out⟩
end Go.Proofs.Ytgimcnpkngpmiaa.GiLatestUse1

/- slices.MaxFunc[[]loop.example/g01062/impl.Postmark,loop.example/g01062/impl.Postmark] as a plain function, and the contract of the program's: where the plain one has an answer, the program has it. Conditions: slices read as lists. -/
namespace Go.Proofs.Ytgimcnpkngpmiaa.GxSlicesMaxFuncLoopExampleG01062ImplPostmarkLoopExampleG01062ImplPostmarkiLatestUse1
set_option linter.unusedVariables false
set_option linter.unusedSimpArgs false
open Go.RowKit
open Go.Proofs.Ytgimcnpkngpmiaa.Rowed Go.Proofs.Ytgimcnpkngpmiaa.Turn Go.Proofs.Ytgimcnpkngpmiaa.Aid Go.Proofs.Ytgimcnpkngpmiaa.GoP Go.Proofs.Ytgimcnpkngpmiaa.GoM

def l0 (x : (List Go.Proofs.Ytgimcnpkngpmiaa.PPostmark.Postmark)) (s : Int × Int × ByteArray × Int × Int × Int × ByteArray) (nx0 bk0 : Int × Int × ByteArray × Int × Int × Int × ByteArray → Option (Go.Proofs.Ytgimcnpkngpmiaa.PPostmark.Postmark)) : Option (Go.Proofs.Ytgimcnpkngpmiaa.PPostmark.Postmark) :=
  unp7 s fun i_6l0 m_9_c0l0 m_9_c1l0 m_9_c2l0 m_9_c3l0 m_9_c4l0 m_9_c5l0 =>
  letK (decide (i_6l0 < (x.length : Int))) fun (t_15 : Bool) =>
  iteK t_15
  (Option.bind (idx x i_6l0) fun (yt_19 : Go.Proofs.Ytgimcnpkngpmiaa.PPostmark.Postmark) =>
  unPostmark yt_19 fun (t_19_id : Int) (t_19_town : ByteArray) (t_19_kind_ : Int) (t_19_first : Int) (t_19_last : Int) (t_19_lost : ByteArray) =>
  Option.bind (Go.Proofs.Ytgimcnpkngpmiaa.GiLatestUse1.P (Go.Proofs.Ytgimcnpkngpmiaa.PPostmark.Postmark.mk t_19_id t_19_town t_19_kind_ t_19_first t_19_last t_19_lost) (Go.Proofs.Ytgimcnpkngpmiaa.PPostmark.Postmark.mk m_9_c0l0 m_9_c1l0 m_9_c2l0 m_9_c3l0 m_9_c4l0 m_9_c5l0)) fun (t_22 : Int) =>
  letK (decide (0 < t_22)) fun (t_23 : Bool) =>
  iteK t_23
  (Option.bind (idx x i_6l0) fun (yt_26 : Go.Proofs.Ytgimcnpkngpmiaa.PPostmark.Postmark) =>
  unPostmark yt_26 fun (t_26_id : Int) (t_26_town : ByteArray) (t_26_kind_ : Int) (t_26_first : Int) (t_26_last : Int) (t_26_lost : ByteArray) =>
  letK (IntKind.i64.wrap (i_6l0 + 1)) fun (t_30 : Int) =>
  appK nx0 (t_30, t_26_id, t_26_town, t_26_kind_, t_26_first, t_26_last, t_26_lost))
  (letK (IntKind.i64.wrap (i_6l0 + 1)) fun (t_30 : Int) =>
  appK nx0 (t_30, m_9_c0l0, m_9_c1l0, m_9_c2l0, m_9_c3l0, m_9_c4l0, m_9_c5l0)))
  (appK bk0 (i_6l0, m_9_c0l0, m_9_c1l0, m_9_c2l0, m_9_c3l0, m_9_c4l0, m_9_c5l0))

def e0  (s : Int × Int × ByteArray × Int × Int × Int × ByteArray) : Option (Go.Proofs.Ytgimcnpkngpmiaa.PPostmark.Postmark) :=
  unp7 s fun i_6l0 m_9_c0l0 m_9_c1l0 m_9_c2l0 m_9_c3l0 m_9_c4l0 m_9_c5l0 =>
  some (Go.Proofs.Ytgimcnpkngpmiaa.PPostmark.Postmark.mk m_9_c0l0 m_9_c1l0 m_9_c2l0 m_9_c3l0 m_9_c4l0 m_9_c5l0)

def j0 (x : (List Go.Proofs.Ytgimcnpkngpmiaa.PPostmark.Postmark)) (fuel : Nat) (s : Unit) : Option (Go.Proofs.Ytgimcnpkngpmiaa.PPostmark.Postmark) :=
  Option.bind (idx x 0) fun (yt_7 : Go.Proofs.Ytgimcnpkngpmiaa.PPostmark.Postmark) =>
  unPostmark yt_7 fun (t_7_id : Int) (t_7_town : ByteArray) (t_7_kind_ : Int) (t_7_first : Int) (t_7_last : Int) (t_7_lost : ByteArray) =>
  loopK (l0 x) fuel (1, t_7_id, t_7_town, t_7_kind_, t_7_first, t_7_last, t_7_lost) (e0 )

def P (fuel : Nat) (x : (List Go.Proofs.Ytgimcnpkngpmiaa.PPostmark.Postmark)) : Option (Go.Proofs.Ytgimcnpkngpmiaa.PPostmark.Postmark) :=
  letK (decide ((x.length : Int) < 1)) fun (t_3 : Bool) =>
  iteK t_3
  (none)
  (j0 x fuel ())

set_option maxRecDepth 100000 in
set_option maxHeartbeats 2000000 in
theorem C (fuel : Nat) (x : (List Go.Proofs.Ytgimcnpkngpmiaa.PPostmark.Postmark)) (A0 : Option Addr) (c0 : Nat)  (w : World) (M0 : Hid (Cells w 6 A0 x.length (Go.Proofs.Ytgimcnpkngpmiaa.PPostmark.flat x))) (N0 : Hid (x.length ≤ 9223372036854775807))  {r : Go.Proofs.Ytgimcnpkngpmiaa.PPostmark.Postmark} (H : Hid (P fuel x = some r)) :
    Calls Try.prog 58 #[.slice A0 x.length c0, .func (.func 59) #[] #[]] w (Gives ((Go.Proofs.Ytgimcnpkngpmiaa.PPostmark.Postmark.val r)) w) := by
  have HB := Lib.hid (Below.refl w.heap.size w)
  unfold P at H
  have N0o := N0.out
  go_enter Try.func58, Try.ntmps58
  obtain ⟨w_t_0, hw_t_0⟩ : ∃ x, w.alloc (.cells #[.int .i64 0, .string (⟨#[]⟩ : ByteArray), .int .i64 0, .int .i64 0, .int .i64 0, .string (⟨#[]⟩ : ByteArray)] 26) = x := ⟨_, rfl⟩
  have bw_t_0 : Below w.heap.size w w_t_0 := by rw [← hw_t_0]; exact (Below.refl _ _).alloc (Nat.le_refl _) _
  have HBw_t_0 := Lib.hid (Below.step HB.out bw_t_0)
  clear bw_t_0
  have kt_0_0 : w_t_0.cell? ⟨w.heap.size, 0, none⟩ = some (.int .i64 0) := by rw [← hw_t_0]; exact box_new _ _ _ 0 _ rfl
  have kt_0_1 : w_t_0.cell? ⟨w.heap.size, 1, none⟩ = some (.string (⟨#[]⟩ : ByteArray)) := by rw [← hw_t_0]; exact box_new _ _ _ 1 _ rfl
  have kt_0_2 : w_t_0.cell? ⟨w.heap.size, 2, none⟩ = some (.int .i64 0) := by rw [← hw_t_0]; exact box_new _ _ _ 2 _ rfl
  have kt_0_3 : w_t_0.cell? ⟨w.heap.size, 3, none⟩ = some (.int .i64 0) := by rw [← hw_t_0]; exact box_new _ _ _ 3 _ rfl
  have kt_0_4 : w_t_0.cell? ⟨w.heap.size, 4, none⟩ = some (.int .i64 0) := by rw [← hw_t_0]; exact box_new _ _ _ 4 _ rfl
  have kt_0_5 : w_t_0.cell? ⟨w.heap.size, 5, none⟩ = some (.string (⟨#[]⟩ : ByteArray)) := by rw [← hw_t_0]; exact box_new _ _ _ 5 _ rfl
  have Ot_0 : Hid (w_t_0.ownsRow w.heap.size 26 6 (.slice (some ⟨w.heap.size, 0, none⟩) 1 1) 1 [.int .i64 0, .string (⟨#[]⟩ : ByteArray), .int .i64 0, .int .i64 0, .int .i64 0, .string (⟨#[]⟩ : ByteArray)]) := Lib.hid (by rw [← hw_t_0]; exact own_laid (n := 1) HB.out.size rfl rfl (by unfold maxLen; omega))
  replace H := let_hid H
  obtain ⟨t_3, ht_3, H⟩ := H
  cases t_3 with
  | false =>
    have nht_3 : ¬ (x.length < 1) := by have := of_decide_eq_false ht_3; omega
    replace H := ite_f H
    unfold j0 at H
    replace H := idx_hid H
    obtain ⟨nt_7, yt_7, et_7, lt_7, gt_7, H⟩ := H
    obtain rfl : 0 = nt_7 := by omega
    clear et_7
    obtain ⟨t_7_id, t_7_town, t_7_kind_, t_7_first, t_7_last, t_7_lost⟩ := yt_7
    replace H := unPostmark_hid H
    obtain ⟨ab_t_7, ao_t_7, zt_7, At_7, z_t_7, ct_7_0, ct_7_1, ct_7_2, ct_7_3, ct_7_4, ct_7_5⟩ := Go.Proofs.Ytgimcnpkngpmiaa.OPostmark.at_ M0.out lt_7
    obtain rfl := Option.some.inj (gt_7.out.symm.trans z_t_7)
    subst At_7
    have ltt_7 := cell_lt ct_7_0
    replace ct_7_0 := cell_below HBw_t_0.out ct_7_0
    replace ct_7_1 := cell_below HBw_t_0.out ct_7_1
    replace ct_7_2 := cell_below HBw_t_0.out ct_7_2
    replace ct_7_3 := cell_below HBw_t_0.out ct_7_3
    replace ct_7_4 := cell_below HBw_t_0.out ct_7_4
    replace ct_7_5 := cell_below HBw_t_0.out ct_7_5
    clear z_t_7
    have b1t_7 : (0 : Int) < ((x.length : Nat) : Int) := by omega
    have b3t_7 : 0 < x.length := by omega
    try simp only [Nat.zero_mul, Nat.add_zero, Nat.zero_add, Nat.reduceMul] at ct_7_0 ct_7_1 ct_7_2 ct_7_3 ct_7_4 ct_7_5
    obtain ⟨w_m_9, hw_m_9⟩ : ∃ x, w_t_0.alloc (.cells #[.int .i64 t_7_id, .string t_7_town, .int .i64 t_7_kind_, .int .i64 t_7_first, .int .i64 t_7_last, .string t_7_lost] 26) = x := ⟨_, rfl⟩
    have bw_m_9 : Below w_t_0.heap.size w_t_0 w_m_9 := by rw [← hw_m_9]; exact (Below.refl _ _).alloc (Nat.le_refl _) _
    have Dm_9_t_0 := Lib.hid (apart_box kt_0_0)
    have HBw_m_9 := Lib.hid (Below.step HBw_t_0.out bw_m_9)
    have kt_0_0__319 := cell_below bw_m_9 kt_0_0
    have kt_0_1__320 := cell_below bw_m_9 kt_0_1
    have kt_0_2__321 := cell_below bw_m_9 kt_0_2
    have kt_0_3__322 := cell_below bw_m_9 kt_0_3
    have kt_0_4__323 := cell_below bw_m_9 kt_0_4
    have kt_0_5__324 := cell_below bw_m_9 kt_0_5
    have ct_7_0__325 := cell_below bw_m_9 ct_7_0
    have ct_7_1__326 := cell_below bw_m_9 ct_7_1
    have ct_7_2__327 := cell_below bw_m_9 ct_7_2
    have ct_7_3__328 := cell_below bw_m_9 ct_7_3
    have ct_7_4__329 := cell_below bw_m_9 ct_7_4
    have ct_7_5__330 := cell_below bw_m_9 ct_7_5
    replace Ot_0 := Lib.hid (own_below Ot_0.out bw_m_9)
    clear bw_m_9
    have km_9_0 : w_m_9.cell? ⟨w_t_0.heap.size, 0, none⟩ = some (.int .i64 t_7_id) := by rw [← hw_m_9]; exact box_new _ _ _ 0 _ rfl
    have km_9_1 : w_m_9.cell? ⟨w_t_0.heap.size, 1, none⟩ = some (.string t_7_town) := by rw [← hw_m_9]; exact box_new _ _ _ 1 _ rfl
    have km_9_2 : w_m_9.cell? ⟨w_t_0.heap.size, 2, none⟩ = some (.int .i64 t_7_kind_) := by rw [← hw_m_9]; exact box_new _ _ _ 2 _ rfl
    have km_9_3 : w_m_9.cell? ⟨w_t_0.heap.size, 3, none⟩ = some (.int .i64 t_7_first) := by rw [← hw_m_9]; exact box_new _ _ _ 3 _ rfl
    have km_9_4 : w_m_9.cell? ⟨w_t_0.heap.size, 4, none⟩ = some (.int .i64 t_7_last) := by rw [← hw_m_9]; exact box_new _ _ _ 4 _ rfl
    have km_9_5 : w_m_9.cell? ⟨w_t_0.heap.size, 5, none⟩ = some (.string t_7_lost) := by rw [← hw_m_9]; exact box_new _ _ _ 5 _ rfl
    have Om_9 : Hid (w_m_9.ownsRow w.heap.size 26 6 (.slice (some ⟨w_t_0.heap.size, 0, none⟩) 1 1) 1 [.int .i64 t_7_id, .string t_7_town, .int .i64 t_7_kind_, .int .i64 t_7_first, .int .i64 t_7_last, .string t_7_lost]) := Lib.hid (by rw [← hw_m_9]; exact own_laid (n := 1) HBw_t_0.out.size rfl rfl (by unfold maxLen; omega))
    go_wp2_with fail
    clear kt_0_0 kt_0_1 kt_0_2 kt_0_3 kt_0_4 kt_0_5 ct_7_0 ct_7_1 ct_7_2 ct_7_3 ct_7_4 ct_7_5
    go_loopg [6] (fuel) (fun m_ v6_ wr => ∃ (i_6l0 : Int) (m_9_c0l0 : Int) (m_9_c1l0 : ByteArray) (m_9_c2l0 : Int) (m_9_c3l0 : Int) (m_9_c4l0 : Int) (m_9_c5l0 : ByteArray), v6_ = .int .i64 i_6l0 ∧ Hid (loopK (l0 x) m_ (i_6l0, m_9_c0l0, m_9_c1l0, m_9_c2l0, m_9_c3l0, m_9_c4l0, m_9_c5l0) (e0 ) = some r) ∧ Hid (Below w.heap.size w wr) ∧ wr.cell? ⟨w.heap.size, 0, none⟩ = some (.int .i64 0) ∧ wr.cell? ⟨w.heap.size, 1, none⟩ = some (.string (⟨#[]⟩ : ByteArray)) ∧ wr.cell? ⟨w.heap.size, 2, none⟩ = some (.int .i64 0) ∧ wr.cell? ⟨w.heap.size, 3, none⟩ = some (.int .i64 0) ∧ wr.cell? ⟨w.heap.size, 4, none⟩ = some (.int .i64 0) ∧ wr.cell? ⟨w.heap.size, 5, none⟩ = some (.string (⟨#[]⟩ : ByteArray)) ∧ wr.cell? ⟨w_t_0.heap.size, 0, none⟩ = some (.int .i64 m_9_c0l0) ∧ wr.cell? ⟨w_t_0.heap.size, 1, none⟩ = some (.string m_9_c1l0) ∧ wr.cell? ⟨w_t_0.heap.size, 2, none⟩ = some (.int .i64 m_9_c2l0) ∧ wr.cell? ⟨w_t_0.heap.size, 3, none⟩ = some (.int .i64 m_9_c3l0) ∧ wr.cell? ⟨w_t_0.heap.size, 4, none⟩ = some (.int .i64 m_9_c4l0) ∧ wr.cell? ⟨w_t_0.heap.size, 5, none⟩ = some (.string m_9_c5l0) ∧ Hid (wr.ownsRow w.heap.size 26 6 (.slice (some ⟨w.heap.size, 0, none⟩) 1 1) 1 [.int .i64 0, .string (⟨#[]⟩ : ByteArray), .int .i64 0, .int .i64 0, .int .i64 0, .string (⟨#[]⟩ : ByteArray)]) ∧ Hid (wr.ownsRow w.heap.size 26 6 (.slice (some ⟨w_t_0.heap.size, 0, none⟩) 1 1) 1 [.int .i64 m_9_c0l0, .string m_9_c1l0, .int .i64 m_9_c2l0, .int .i64 m_9_c3l0, .int .i64 m_9_c4l0, .string m_9_c5l0]))
    case atStart => exact ⟨_, _, _, _, _, _, _, rfl, H, HBw_m_9, kt_0_0__319, kt_0_1__320, kt_0_2__321, kt_0_3__322, kt_0_4__323, kt_0_5__324, km_9_0, km_9_1, km_9_2, km_9_3, km_9_4, km_9_5, Ot_0, Om_9⟩
    case round =>
      obtain ⟨i_6l0, m_9_c0l0, m_9_c1l0, m_9_c2l0, m_9_c3l0, m_9_c4l0, m_9_c5l0, rfl, H, HBwr0, kt_0_0__319, kt_0_1__320, kt_0_2__321, kt_0_3__322, kt_0_4__323, kt_0_5__324, km_9_0, km_9_1, km_9_2, km_9_3, km_9_4, km_9_5, Ot_0, Om_9⟩ := hrel
      rename World => wr0
      cases gk with
      | zero => exact (loop_zero H).elim
      | succ m0 =>
        replace H := loop_succ H
        unfold l0 at H
        replace H := unp7_hid H
        replace H := let_hid H
        obtain ⟨t_15, ht_15, H⟩ := H
        cases t_15 with
        | false =>
          replace H := ite_f H
          replace H := app_hid H
          unfold e0 at H
          replace H := unp7_hid H
          obtain ⟨wb33_33, hwb33_33⟩ : ∃ x, ((((((wr0).setCell ⟨w.heap.size, 0, none⟩ (.int .i64 m_9_c0l0)).setCell ⟨w.heap.size, 1, none⟩ (.string m_9_c1l0)).setCell ⟨w.heap.size, 2, none⟩ (.int .i64 m_9_c2l0)).setCell ⟨w.heap.size, 3, none⟩ (.int .i64 m_9_c3l0)).setCell ⟨w.heap.size, 4, none⟩ (.int .i64 m_9_c4l0)).setCell ⟨w.heap.size, 5, none⟩ (.string m_9_c5l0) = x := ⟨_, rfl⟩
          have z0b33_33 := Ot_0.out.frozenAt 0
          have z1b33_33 := Ot_0.out.frozenAt 1
          have z2b33_33 := Ot_0.out.frozenAt 2
          have z3b33_33 := Ot_0.out.frozenAt 3
          have z4b33_33 := Ot_0.out.frozenAt 4
          have z5b33_33 := Ot_0.out.frozenAt 5
          have Sb33_33 := Lib.hid (own_stores [(0, .int .i64 m_9_c0l0), (1, .string m_9_c1l0), (2, .int .i64 m_9_c2l0), (3, .int .i64 m_9_c3l0), (4, .int .i64 m_9_c4l0), (5, .string m_9_c5l0)] Ot_0.out)
          have Pb33_33 : Hid (wb33_33.ownsRow w.heap.size 26 6 (.slice (some ⟨w.heap.size, 0, none⟩) 1 1) 1 [.int .i64 m_9_c0l0, .string m_9_c1l0, .int .i64 m_9_c2l0, .int .i64 m_9_c3l0, .int .i64 m_9_c4l0, .string m_9_c5l0]) := Lib.hid (by rw [← hwb33_33]; exact Sb33_33.out.1)
          have Gb33_33 : Hid (wr0.grownBy wb33_33 (Value.slice (some ⟨w.heap.size, 0, none⟩) 1 1).ownBlock) := Lib.hid (by rw [← hwb33_33]; exact Sb33_33.out.2)
          have HBwb33_33 := Lib.hid (HBwr0.out.grown Gb33_33.out HBwr0.out.size (fun q hq => (Ot_0.out.lt q hq).1))
          clear Sb33_33
          have km_9_0__331 := cell_other km_9_0 Gb33_33.out (Apart.symm Dm_9_t_0.out)
          have km_9_1__332 := cell_other km_9_1 Gb33_33.out (Apart.symm Dm_9_t_0.out)
          have km_9_2__333 := cell_other km_9_2 Gb33_33.out (Apart.symm Dm_9_t_0.out)
          have km_9_3__334 := cell_other km_9_3 Gb33_33.out (Apart.symm Dm_9_t_0.out)
          have km_9_4__335 := cell_other km_9_4 Gb33_33.out (Apart.symm Dm_9_t_0.out)
          have km_9_5__336 := cell_other km_9_5 Gb33_33.out (Apart.symm Dm_9_t_0.out)
          replace Om_9 := Lib.hid (own_other Om_9.out Gb33_33.out (Apart.symm Dm_9_t_0.out))
          clear Ot_0 Gb33_33
          have kt_0_0__337 : wb33_33.cell? ⟨w.heap.size, 0, none⟩ = some (.int .i64 m_9_c0l0) := Pb33_33.out.cells rfl 0 _ rfl
          have kt_0_1__338 : wb33_33.cell? ⟨w.heap.size, 1, none⟩ = some (.string m_9_c1l0) := Pb33_33.out.cells rfl 1 _ rfl
          have kt_0_2__339 : wb33_33.cell? ⟨w.heap.size, 2, none⟩ = some (.int .i64 m_9_c2l0) := Pb33_33.out.cells rfl 2 _ rfl
          have kt_0_3__340 : wb33_33.cell? ⟨w.heap.size, 3, none⟩ = some (.int .i64 m_9_c3l0) := Pb33_33.out.cells rfl 3 _ rfl
          have kt_0_4__341 : wb33_33.cell? ⟨w.heap.size, 4, none⟩ = some (.int .i64 m_9_c4l0) := Pb33_33.out.cells rfl 4 _ rfl
          have kt_0_5__342 : wb33_33.cell? ⟨w.heap.size, 5, none⟩ = some (.string m_9_c5l0) := Pb33_33.out.cells rfl 5 _ rfl
          cases ret_hid H
          go_wp2_with fail
          (try simp only [Exit.inBlock, Exit.then])
          refine bodyPost_ret (v := .agg #[.int .i64 m_9_c0l0, .string m_9_c1l0, .int .i64 m_9_c2l0, .int .i64 m_9_c3l0, .int .i64 m_9_c4l0, .string m_9_c5l0]) ?hr_ ?hd_ ?_
          case hd_ => rfl
          case hr_ => simp [results, Try.results58, kt_0_0__337, kt_0_1__338, kt_0_2__339, kt_0_3__340, kt_0_4__341, kt_0_5__342, go_sem]
          exact ⟨rfl, HBwb33_33.out⟩
        | true =>
          replace H := ite_t H
          go_wp2_with fail
          have Hkt_0_0__319 := Lib.hid kt_0_0__319
          replace kt_0_0__319 := cell_regrown kt_0_0__319
          have Hkt_0_1__320 := Lib.hid kt_0_1__320
          replace kt_0_1__320 := cell_regrown kt_0_1__320
          have Hkt_0_2__321 := Lib.hid kt_0_2__321
          replace kt_0_2__321 := cell_regrown kt_0_2__321
          have Hkt_0_3__322 := Lib.hid kt_0_3__322
          replace kt_0_3__322 := cell_regrown kt_0_3__322
          have Hkt_0_4__323 := Lib.hid kt_0_4__323
          replace kt_0_4__323 := cell_regrown kt_0_4__323
          have Hkt_0_5__324 := Lib.hid kt_0_5__324
          replace kt_0_5__324 := cell_regrown kt_0_5__324
          have Hkm_9_0 := Lib.hid km_9_0
          replace km_9_0 := cell_regrown km_9_0
          have Hkm_9_1 := Lib.hid km_9_1
          replace km_9_1 := cell_regrown km_9_1
          have Hkm_9_2 := Lib.hid km_9_2
          replace km_9_2 := cell_regrown km_9_2
          have Hkm_9_3 := Lib.hid km_9_3
          replace km_9_3 := cell_regrown km_9_3
          have Hkm_9_4 := Lib.hid km_9_4
          replace km_9_4 := cell_regrown km_9_4
          have Hkm_9_5 := Lib.hid km_9_5
          replace km_9_5 := cell_regrown km_9_5
          replace H := idx_hid H
          obtain ⟨nt_19, yt_19, et_19, lt_19, gt_19, H⟩ := H
          subst et_19
          have nc_343 : nt_19 < x.length := by have := of_decide_eq_true ht_15; omega
          obtain ⟨t_19_id, t_19_town, t_19_kind_, t_19_first, t_19_last, t_19_lost⟩ := yt_19
          replace H := unPostmark_hid H
          obtain ⟨ab_t_19, ao_t_19, zt_19, At_19, z_t_19, ct_19_0, ct_19_1, ct_19_2, ct_19_3, ct_19_4, ct_19_5⟩ := Go.Proofs.Ytgimcnpkngpmiaa.OPostmark.at_ M0.out lt_19
          obtain rfl := Option.some.inj (gt_19.out.symm.trans z_t_19)
          simp only [Option.some.injEq, Addr.mk.injEq] at At_19
          obtain ⟨rfl, rfl, _⟩ := At_19
          have ltt_19 := cell_lt ct_19_0
          replace ct_19_0 := cell_below HBwr0.out ct_19_0
          replace ct_19_1 := cell_below HBwr0.out ct_19_1
          replace ct_19_2 := cell_below HBwr0.out ct_19_2
          replace ct_19_3 := cell_below HBwr0.out ct_19_3
          replace ct_19_4 := cell_below HBwr0.out ct_19_4
          replace ct_19_5 := cell_below HBwr0.out ct_19_5
          clear z_t_19
          have b0t_19 : (0 : Int) ≤ (nt_19 : Int) := by omega
          have b1t_19 : (nt_19 : Int) < ((x.length : Nat) : Int) := by omega
          have b2t_19 : ((nt_19 : Int)).toNat = nt_19 := by omega
          have Hct_19_0 := Lib.hid ct_19_0
          replace ct_19_0 := cell_regrown ct_19_0
          have Hct_19_1 := Lib.hid ct_19_1
          replace ct_19_1 := cell_regrown ct_19_1
          have Hct_19_2 := Lib.hid ct_19_2
          replace ct_19_2 := cell_regrown ct_19_2
          have Hct_19_3 := Lib.hid ct_19_3
          replace ct_19_3 := cell_regrown ct_19_3
          have Hct_19_4 := Lib.hid ct_19_4
          replace ct_19_4 := cell_regrown ct_19_4
          have Hct_19_5 := Lib.hid ct_19_5
          replace ct_19_5 := cell_regrown ct_19_5
          replace H := bind_hid H
          obtain ⟨t_22, qt_22, H⟩ := H
          have nt_22 : ∀ d os, Calls Try.prog 59 #[.agg #[.int .i64 t_19_id, .string t_19_town, .int .i64 t_19_kind_, .int .i64 t_19_first, .int .i64 t_19_last, .string t_19_lost], .agg #[.int .i64 m_9_c0l0, .string m_9_c1l0, .int .i64 m_9_c2l0, .int .i64 m_9_c3l0, .int .i64 m_9_c4l0, .string m_9_c5l0]] (Go.Sort.grow (redrawn wr0 d) os) fun e w'' => e = .returned (.int .i64 t_22) ∧ ∃ p : Regrown, w'' = Go.Sort.grow (redrawn wr0 p.d) p.os := fun d os => Calls.regrown_of (Go.Proofs.Ytgimcnpkngpmiaa.GiLatestUse1.C ((Go.Proofs.Ytgimcnpkngpmiaa.PPostmark.Postmark.mk t_19_id t_19_town t_19_kind_ t_19_first t_19_last t_19_lost)) ((Go.Proofs.Ytgimcnpkngpmiaa.PPostmark.Postmark.mk m_9_c0l0 m_9_c1l0 m_9_c2l0 m_9_c3l0 m_9_c4l0 m_9_c5l0))  _    qt_22)
          replace H := let_hid H
          obtain ⟨t_23, ht_23, H⟩ := H
          refine wp_region_quiet_below (by kernel_rfl) (by kernel_rfl) ?_
          repeat (go_big_quiet_step (first | (go_at_call 59; exact nt_22 _ _)))
          refine wpQuiet_nil ?_
          intro Y7 hY7
          replace hY7 := below_class hY7
          clear nt_22
          replace kt_0_0__319 := Hkt_0_0__319.out
          clear Hkt_0_0__319
          replace kt_0_1__320 := Hkt_0_1__320.out
          clear Hkt_0_1__320
          replace kt_0_2__321 := Hkt_0_2__321.out
          clear Hkt_0_2__321
          replace kt_0_3__322 := Hkt_0_3__322.out
          clear Hkt_0_3__322
          replace kt_0_4__323 := Hkt_0_4__323.out
          clear Hkt_0_4__323
          replace kt_0_5__324 := Hkt_0_5__324.out
          clear Hkt_0_5__324
          replace km_9_0 := Hkm_9_0.out
          clear Hkm_9_0
          replace km_9_1 := Hkm_9_1.out
          clear Hkm_9_1
          replace km_9_2 := Hkm_9_2.out
          clear Hkm_9_2
          replace km_9_3 := Hkm_9_3.out
          clear Hkm_9_3
          replace km_9_4 := Hkm_9_4.out
          clear Hkm_9_4
          replace km_9_5 := Hkm_9_5.out
          clear Hkm_9_5
          replace ct_19_0 := Hct_19_0.out
          clear Hct_19_0
          replace ct_19_1 := Hct_19_1.out
          clear Hct_19_1
          replace ct_19_2 := Hct_19_2.out
          clear Hct_19_2
          replace ct_19_3 := Hct_19_3.out
          clear Hct_19_3
          replace ct_19_4 := Hct_19_4.out
          clear Hct_19_4
          replace ct_19_5 := Hct_19_5.out
          clear Hct_19_5
          have HBY7 := Lib.hid (Below.step HBwr0.out hY7)
          replace kt_0_0__319 := cell_below hY7 kt_0_0__319
          replace kt_0_1__320 := cell_below hY7 kt_0_1__320
          replace kt_0_2__321 := cell_below hY7 kt_0_2__321
          replace kt_0_3__322 := cell_below hY7 kt_0_3__322
          replace kt_0_4__323 := cell_below hY7 kt_0_4__323
          replace kt_0_5__324 := cell_below hY7 kt_0_5__324
          replace km_9_0 := cell_below hY7 km_9_0
          replace km_9_1 := cell_below hY7 km_9_1
          replace km_9_2 := cell_below hY7 km_9_2
          replace km_9_3 := cell_below hY7 km_9_3
          replace km_9_4 := cell_below hY7 km_9_4
          replace km_9_5 := cell_below hY7 km_9_5
          replace ct_19_0 := cell_below hY7 ct_19_0
          replace ct_19_1 := cell_below hY7 ct_19_1
          replace ct_19_2 := cell_below hY7 ct_19_2
          replace ct_19_3 := cell_below hY7 ct_19_3
          replace ct_19_4 := cell_below hY7 ct_19_4
          replace ct_19_5 := cell_below hY7 ct_19_5
          replace Ot_0 := Lib.hid (own_below Ot_0.out hY7)
          replace Om_9 := Lib.hid (own_below Om_9.out hY7)
          clear hY7
          cases t_23 with
          | false =>
            replace H := ite_f H
            replace H := let_hid H
            obtain ⟨t_30, ht_30, H⟩ := H
            replace H := app_hid H
            go_wp2_with fail
            go_roundg m0
            case measure => omega
            case rel => exact ⟨_, _, _, _, _, _, _, rfl, H, HBY7, kt_0_0__319, kt_0_1__320, kt_0_2__321, kt_0_3__322, kt_0_4__323, kt_0_5__324, km_9_0, km_9_1, km_9_2, km_9_3, km_9_4, km_9_5, Ot_0, Om_9⟩
          | true =>
            replace H := ite_t H
            replace H := idx_hid H
            obtain ⟨nt_26, yt_26, et_26, lt_26, gt_26, H⟩ := H
            obtain rfl : nt_19 = nt_26 := by omega
            clear et_26
            obtain rfl := Option.some.inj (gt_19.out.symm.trans gt_26.out)
            clear gt_26 lt_26
            replace H := unPostmark_hid H
            obtain ⟨wb28_28, hwb28_28⟩ : ∃ x, ((((((Y7).setCell ⟨w_t_0.heap.size, 0, none⟩ (.int .i64 t_19_id)).setCell ⟨w_t_0.heap.size, 1, none⟩ (.string t_19_town)).setCell ⟨w_t_0.heap.size, 2, none⟩ (.int .i64 t_19_kind_)).setCell ⟨w_t_0.heap.size, 3, none⟩ (.int .i64 t_19_first)).setCell ⟨w_t_0.heap.size, 4, none⟩ (.int .i64 t_19_last)).setCell ⟨w_t_0.heap.size, 5, none⟩ (.string t_19_lost) = x := ⟨_, rfl⟩
            have z0b28_28 := Om_9.out.frozenAt 0
            have z1b28_28 := Om_9.out.frozenAt 1
            have z2b28_28 := Om_9.out.frozenAt 2
            have z3b28_28 := Om_9.out.frozenAt 3
            have z4b28_28 := Om_9.out.frozenAt 4
            have z5b28_28 := Om_9.out.frozenAt 5
            have Sb28_28 := Lib.hid (own_stores [(0, .int .i64 t_19_id), (1, .string t_19_town), (2, .int .i64 t_19_kind_), (3, .int .i64 t_19_first), (4, .int .i64 t_19_last), (5, .string t_19_lost)] Om_9.out)
            have Pb28_28 : Hid (wb28_28.ownsRow w.heap.size 26 6 (.slice (some ⟨w_t_0.heap.size, 0, none⟩) 1 1) 1 [.int .i64 t_19_id, .string t_19_town, .int .i64 t_19_kind_, .int .i64 t_19_first, .int .i64 t_19_last, .string t_19_lost]) := Lib.hid (by rw [← hwb28_28]; exact Sb28_28.out.1)
            have Gb28_28 : Hid (Y7.grownBy wb28_28 (Value.slice (some ⟨w_t_0.heap.size, 0, none⟩) 1 1).ownBlock) := Lib.hid (by rw [← hwb28_28]; exact Sb28_28.out.2)
            have HBwb28_28 := Lib.hid (HBY7.out.grown Gb28_28.out HBY7.out.size (fun q hq => (Om_9.out.lt q hq).1))
            clear Sb28_28
            have kt_0_0__344 := cell_other kt_0_0__319 Gb28_28.out Dm_9_t_0.out
            have kt_0_1__345 := cell_other kt_0_1__320 Gb28_28.out Dm_9_t_0.out
            have kt_0_2__346 := cell_other kt_0_2__321 Gb28_28.out Dm_9_t_0.out
            have kt_0_3__347 := cell_other kt_0_3__322 Gb28_28.out Dm_9_t_0.out
            have kt_0_4__348 := cell_other kt_0_4__323 Gb28_28.out Dm_9_t_0.out
            have kt_0_5__349 := cell_other kt_0_5__324 Gb28_28.out Dm_9_t_0.out
            have ct_19_0__350 := cell_other ct_19_0 Gb28_28.out (apart_old Om_9.out ltt_19)
            have ct_19_1__351 := cell_other ct_19_1 Gb28_28.out (apart_old Om_9.out ltt_19)
            have ct_19_2__352 := cell_other ct_19_2 Gb28_28.out (apart_old Om_9.out ltt_19)
            have ct_19_3__353 := cell_other ct_19_3 Gb28_28.out (apart_old Om_9.out ltt_19)
            have ct_19_4__354 := cell_other ct_19_4 Gb28_28.out (apart_old Om_9.out ltt_19)
            have ct_19_5__355 := cell_other ct_19_5 Gb28_28.out (apart_old Om_9.out ltt_19)
            replace Ot_0 := Lib.hid (own_other Ot_0.out Gb28_28.out Dm_9_t_0.out)
            clear Om_9 Gb28_28
            have km_9_0__356 : wb28_28.cell? ⟨w_t_0.heap.size, 0, none⟩ = some (.int .i64 t_19_id) := Pb28_28.out.cells rfl 0 _ rfl
            have km_9_1__357 : wb28_28.cell? ⟨w_t_0.heap.size, 1, none⟩ = some (.string t_19_town) := Pb28_28.out.cells rfl 1 _ rfl
            have km_9_2__358 : wb28_28.cell? ⟨w_t_0.heap.size, 2, none⟩ = some (.int .i64 t_19_kind_) := Pb28_28.out.cells rfl 2 _ rfl
            have km_9_3__359 : wb28_28.cell? ⟨w_t_0.heap.size, 3, none⟩ = some (.int .i64 t_19_first) := Pb28_28.out.cells rfl 3 _ rfl
            have km_9_4__360 : wb28_28.cell? ⟨w_t_0.heap.size, 4, none⟩ = some (.int .i64 t_19_last) := Pb28_28.out.cells rfl 4 _ rfl
            have km_9_5__361 : wb28_28.cell? ⟨w_t_0.heap.size, 5, none⟩ = some (.string t_19_lost) := Pb28_28.out.cells rfl 5 _ rfl
            replace H := let_hid H
            obtain ⟨t_30, ht_30, H⟩ := H
            replace H := app_hid H
            go_wp2_with fail
            clear z0b28_28 z1b28_28 z2b28_28 z3b28_28 z4b28_28 z5b28_28 kt_0_0__319 kt_0_1__320 kt_0_2__321 kt_0_3__322 kt_0_4__323 kt_0_5__324 ct_19_0 ct_19_1 ct_19_2 ct_19_3 ct_19_4 ct_19_5 km_9_0 km_9_1 km_9_2 km_9_3 km_9_4 km_9_5
            go_roundg m0
            case measure => omega
            case rel => exact ⟨_, _, _, _, _, _, _, rfl, H, HBwb28_28, kt_0_0__344, kt_0_1__345, kt_0_2__346, kt_0_3__347, kt_0_4__348, kt_0_5__349, km_9_0__356, km_9_1__357, km_9_2__358, km_9_3__359, km_9_4__360, km_9_5__361, Ot_0, Pb28_28⟩
  | true =>
    have nht_3 : x.length < 1 := by have := of_decide_eq_true ht_3; omega
    replace H := ite_t H
    exact (none_hid H).elim
end Go.Proofs.Ytgimcnpkngpmiaa.GxSlicesMaxFuncLoopExampleG01062ImplPostmarkLoopExampleG01062ImplPostmarkiLatestUse1

/- loop.example/g01062/impl.LatestUse as a plain function, and the contract of the program's: where the plain one has an answer, the program has it. Conditions: slices read as lists. -/
namespace Go.Proofs.Ytgimcnpkngpmiaa.GiLatestUse
set_option linter.unusedVariables false
set_option linter.unusedSimpArgs false
open Go.RowKit
open Go.Proofs.Ytgimcnpkngpmiaa.Rowed Go.Proofs.Ytgimcnpkngpmiaa.Turn Go.Proofs.Ytgimcnpkngpmiaa.Aid Go.Proofs.Ytgimcnpkngpmiaa.GoP Go.Proofs.Ytgimcnpkngpmiaa.GoM

def P (fuel : Nat) (list : (List Go.Proofs.Ytgimcnpkngpmiaa.PPostmark.Postmark)) (town : ByteArray) : Option (Int × Int × Bool) :=
  Option.bind (Go.Proofs.Ytgimcnpkngpmiaa.GiMarksOf.P fuel list town) fun (t_5 : (List Go.Proofs.Ytgimcnpkngpmiaa.PPostmark.Postmark)) =>
  letK ((t_5.length : Int) == 0) fun (t_9 : Bool) =>
  iteK t_9
  (some (0, 0, false))
  (Option.bind (Go.Proofs.Ytgimcnpkngpmiaa.GxSlicesMaxFuncLoopExampleG01062ImplPostmarkLoopExampleG01062ImplPostmarkiLatestUse1.P fuel t_5) fun (t_14 : Go.Proofs.Ytgimcnpkngpmiaa.PPostmark.Postmark) =>
  unPostmark t_14 fun (t_14_id : Int) (t_14_town : ByteArray) (t_14_kind_ : Int) (t_14_first : Int) (t_14_last : Int) (t_14_lost : ByteArray) =>
  some (t_14_id, t_14_last, true))

set_option maxRecDepth 100000 in
set_option maxHeartbeats 2000000 in
theorem C (fuel : Nat) (list : (List Go.Proofs.Ytgimcnpkngpmiaa.PPostmark.Postmark)) (town : ByteArray) (A0 : Option Addr) (c0 : Nat)  (w : World) (M0 : Hid (Cells w 6 A0 list.length (Go.Proofs.Ytgimcnpkngpmiaa.PPostmark.flat list))) (N0 : Hid (list.length ≤ 9223372036854775807)) (Q0 : Hid (Room A0 list.length c0))  {r0 : Int} {r1 : Int} {r2 : Bool} (H : Hid (P fuel list town = some (r0, r1, r2))) :
    Calls Try.prog 28 #[.slice A0 list.length c0, .string town] w (Gives (.tuple #[.int .i64 r0, .int .i64 r1, .bool r2]) w) := by
  have HB := Lib.hid (Below.refl w.heap.size w)
  unfold P at H
  have N0o := N0.out
  go_enter Try.func28, Try.ntmps28
  replace H := bind_hid H
  obtain ⟨t_5, qt_5, H⟩ := H
  go_wp2_with fail
  go_at_call 57
  refine (Go.Proofs.Ytgimcnpkngpmiaa.GiMarksOf.C fuel (list) (town) A0 c0 _   (Lib.hid (Cells.below M0.out HB.out)) N0 Q0 qt_5).mono ?_
  rintro e_t_5 wt_5 ⟨At_5, ct_5, rfl, ot_5, bt_5⟩
  have Ot_5 := Lib.hid (own_lower ot_5 HB.out.size)
  clear ot_5
  have HBwt_5 := Lib.hid (Below.step HB.out bt_5)
  clear bt_5
  replace H := let_hid H
  obtain ⟨t_9, ht_9, H⟩ := H
  cases t_9 with
  | false =>
    have nht_9 : ¬ (t_5.length = 0) := by have := ne_of_beq_false ht_9; omega
    replace H := ite_f H
    replace H := bind_hid H
    obtain ⟨t_14, qt_14, H⟩ := H
    obtain ⟨t_14_id, t_14_town, t_14_kind_, t_14_first, t_14_last, t_14_lost⟩ := t_14
    replace H := unPostmark_hid H
    go_wp2_with fail
    go_at_call 58
    refine (Go.Proofs.Ytgimcnpkngpmiaa.GxSlicesMaxFuncLoopExampleG01062ImplPostmarkLoopExampleG01062ImplPostmarkiLatestUse1.C fuel (t_5) At_5 ct_5 _   (Lib.hid (own_cells Ot_5.out)) (Lib.hid (own_max Ot_5.out)) qt_14).mono ?_
    rintro e_t_14 wt_14 ⟨rfl, bt_14⟩
    unfold Go.Proofs.Ytgimcnpkngpmiaa.PPostmark.Postmark.val
    have HBwt_14 := Lib.hid (Below.step HBwt_5.out bt_14)
    replace Ot_5 := Lib.hid (own_below Ot_5.out bt_14)
    clear bt_14
    obtain ⟨w_latest_15, hw_latest_15⟩ : ∃ x, wt_14.alloc (.cells #[.int .i64 t_14_id, .string t_14_town, .int .i64 t_14_kind_, .int .i64 t_14_first, .int .i64 t_14_last, .string t_14_lost] 26) = x := ⟨_, rfl⟩
    have bw_latest_15 : Below wt_14.heap.size wt_14 w_latest_15 := by rw [← hw_latest_15]; exact (Below.refl _ _).alloc (Nat.le_refl _) _
    have Dlatest_15_t_5 := Lib.hid (apart_fresh Ot_5.out)
    have HBw_latest_15 := Lib.hid (Below.step HBwt_14.out bw_latest_15)
    replace Ot_5 := Lib.hid (own_below Ot_5.out bw_latest_15)
    clear bw_latest_15
    have klatest_15_0 : w_latest_15.cell? ⟨wt_14.heap.size, 0, none⟩ = some (.int .i64 t_14_id) := by rw [← hw_latest_15]; exact box_new _ _ _ 0 _ rfl
    have klatest_15_1 : w_latest_15.cell? ⟨wt_14.heap.size, 1, none⟩ = some (.string t_14_town) := by rw [← hw_latest_15]; exact box_new _ _ _ 1 _ rfl
    have klatest_15_2 : w_latest_15.cell? ⟨wt_14.heap.size, 2, none⟩ = some (.int .i64 t_14_kind_) := by rw [← hw_latest_15]; exact box_new _ _ _ 2 _ rfl
    have klatest_15_3 : w_latest_15.cell? ⟨wt_14.heap.size, 3, none⟩ = some (.int .i64 t_14_first) := by rw [← hw_latest_15]; exact box_new _ _ _ 3 _ rfl
    have klatest_15_4 : w_latest_15.cell? ⟨wt_14.heap.size, 4, none⟩ = some (.int .i64 t_14_last) := by rw [← hw_latest_15]; exact box_new _ _ _ 4 _ rfl
    have klatest_15_5 : w_latest_15.cell? ⟨wt_14.heap.size, 5, none⟩ = some (.string t_14_lost) := by rw [← hw_latest_15]; exact box_new _ _ _ 5 _ rfl
    go_wp2_with fail
    have Hklatest_15_0 := Lib.hid klatest_15_0
    replace klatest_15_0 := cell_regrown klatest_15_0
    have Hklatest_15_1 := Lib.hid klatest_15_1
    replace klatest_15_1 := cell_regrown klatest_15_1
    have Hklatest_15_2 := Lib.hid klatest_15_2
    replace klatest_15_2 := cell_regrown klatest_15_2
    have Hklatest_15_3 := Lib.hid klatest_15_3
    replace klatest_15_3 := cell_regrown klatest_15_3
    have Hklatest_15_4 := Lib.hid klatest_15_4
    replace klatest_15_4 := cell_regrown klatest_15_4
    have Hklatest_15_5 := Lib.hid klatest_15_5
    replace klatest_15_5 := cell_regrown klatest_15_5
    refine wp_region_quiet_below (by kernel_rfl) (by kernel_rfl) ?_
    repeat (go_big_quiet_step (fail))
    refine wpQuiet_nil ?_
    intro Y5 hY5
    replace hY5 := below_class hY5
    replace klatest_15_0 := Hklatest_15_0.out
    clear Hklatest_15_0
    replace klatest_15_1 := Hklatest_15_1.out
    clear Hklatest_15_1
    replace klatest_15_2 := Hklatest_15_2.out
    clear Hklatest_15_2
    replace klatest_15_3 := Hklatest_15_3.out
    clear Hklatest_15_3
    replace klatest_15_4 := Hklatest_15_4.out
    clear Hklatest_15_4
    replace klatest_15_5 := Hklatest_15_5.out
    clear Hklatest_15_5
    have HBY5 := Lib.hid (Below.step HBw_latest_15.out hY5)
    replace klatest_15_0 := cell_below hY5 klatest_15_0
    replace klatest_15_1 := cell_below hY5 klatest_15_1
    replace klatest_15_2 := cell_below hY5 klatest_15_2
    replace klatest_15_3 := cell_below hY5 klatest_15_3
    replace klatest_15_4 := cell_below hY5 klatest_15_4
    replace klatest_15_5 := cell_below hY5 klatest_15_5
    replace Ot_5 := Lib.hid (own_below Ot_5.out hY5)
    clear hY5
    cases ret_hid H
    go_wp2_with fail
    go_ret3
    exact ⟨rfl, HBY5.out⟩
  | true =>
    have Hht_9 : Hid (t_5.length = 0) := Lib.hid (by have := eq_of_beq ht_9; omega)
    have nht_9 : (t_5.length == 0) = true := beq_iff_eq.2 Hht_9.out
    replace H := ite_t H
    cases ret_hid H
    go_wp2_with fail
    go_ret3
    exact ⟨rfl, HBwt_5.out⟩
end Go.Proofs.Ytgimcnpkngpmiaa.GiLatestUse

/- loop.example/g01062/laws.FnExactLatestUse as a plain function, and the contract of the program's: where the plain one has an answer, the program has it. Conditions: slices read as lists. -/
namespace Go.Proofs.Ytgimcnpkngpmiaa.GlFnExactLatestUse
set_option linter.unusedVariables false
set_option linter.unusedSimpArgs false
open Go.RowKit
open Go.Proofs.Ytgimcnpkngpmiaa.Rowed Go.Proofs.Ytgimcnpkngpmiaa.Turn Go.Proofs.Ytgimcnpkngpmiaa.Aid Go.Proofs.Ytgimcnpkngpmiaa.GoP Go.Proofs.Ytgimcnpkngpmiaa.GoM

def P (fuel : Nat) (aList : (List Go.Proofs.Ytgimcnpkngpmiaa.PPostmark.Postmark)) (aTown : ByteArray) : Option (Bool) :=
  letK (decide (1048576 < (aTown.size : Int))) fun (t_3 : Bool) =>
  iteK t_3
  (some true)
  (Option.bind (Go.Proofs.Ytgimcnpkngpmiaa.GlSzPostmarkS.P aList 1048576) fun (t_8 : Int) =>
  letK (decide (t_8 < 0)) fun (t_11 : Bool) =>
  iteK t_11
  (some true)
  (Option.bind (Go.Proofs.Ytgimcnpkngpmiaa.GlToPostmarkS.P aList) fun (t_14 : (List Go.Proofs.Ytgimcnpkngpmiaa.PPostmark.Postmark)) =>
  bind3 (Go.Proofs.Ytgimcnpkngpmiaa.GsLatestUse.P fuel t_14 aTown) fun (t_16a : Int) (t_16b : Int) (t_16c : Bool) =>
  Option.bind (Go.Proofs.Ytgimcnpkngpmiaa.GlToPostmarkS.P aList) fun (t_25 : (List Go.Proofs.Ytgimcnpkngpmiaa.PPostmark.Postmark)) =>
  bind3 (Go.Proofs.Ytgimcnpkngpmiaa.GiLatestUse.P fuel t_25 aTown) fun (t_29a : Int) (t_29b : Int) (t_29c : Bool) =>
  letK (t_29a != t_16a) fun (t_39 : Bool) =>
  joinK (fun (t_44 : Bool) =>
  joinK (fun (t_49 : Bool) =>
  iteK t_49
  (some false)
  (Option.bind (Go.Proofs.Ytgimcnpkngpmiaa.GlToPostmarkS.P aList) fun (t_53 : (List Go.Proofs.Ytgimcnpkngpmiaa.PPostmark.Postmark)) =>
  Option.bind (Go.Proofs.Ytgimcnpkngpmiaa.GlEqPostmarkS.P t_25 t_53) fun (t_54 : Bool) =>
  letK (!t_54) fun (t_55 : Bool) =>
  iteK t_55
  (some false)
  (some true))) fun jt_49 => iteK t_44 (appK jt_49 true) (letK (!(t_29c == t_16c)) fun (t_48 : Bool) =>
  appK jt_49 t_48)) fun jt_44 => iteK t_39 (appK jt_44 true) (letK (t_29b != t_16b) fun (t_43 : Bool) =>
  appK jt_44 t_43)))

set_option maxRecDepth 100000 in
set_option maxHeartbeats 2000000 in
theorem C (fuel : Nat) (aList : (List Go.Proofs.Ytgimcnpkngpmiaa.PPostmark.Postmark)) (aTown : ByteArray) (A0 : Option Addr) (c0 : Nat)  (w : World) (M0 : Hid (Cells w 6 A0 aList.length (Go.Proofs.Ytgimcnpkngpmiaa.PPostmark.flat aList))) (N0 : Hid (aList.length ≤ 9223372036854775807))  {r : Bool} (H : Hid (P fuel aList aTown = some r)) :
    Calls Try.prog 7 #[.slice A0 aList.length c0, .string aTown] w (Gives (.bool r) w) := by
  have HB := Lib.hid (Below.refl w.heap.size w)
  unfold P at H
  have N0o := N0.out
  go_enter Try.func7, Try.ntmps7
  replace H := let_hid H
  obtain ⟨t_3, ht_3, H⟩ := H
  cases t_3 with
  | false =>
    have nht_3 : ¬ (1048576 < aTown.size) := by have := of_decide_eq_false ht_3; omega
    replace H := ite_f H
    replace H := bind_hid H
    obtain ⟨t_8, qt_8, H⟩ := H
    go_wp2_with fail
    go_at_call 16
    refine (Go.Proofs.Ytgimcnpkngpmiaa.GlSzPostmarkS.C (aList) (1048576) A0 c0 _   (Lib.hid (Cells.below M0.out HB.out)) N0 qt_8).mono ?_
    rintro e_t_8 wt_8 ⟨rfl, bt_8⟩
    have HBwt_8 := Lib.hid (Below.step HB.out bt_8)
    clear bt_8
    replace H := let_hid H
    obtain ⟨t_11, ht_11, H⟩ := H
    cases t_11 with
    | false =>
      replace H := ite_f H
      replace H := bind_hid H
      obtain ⟨t_14, qt_14, H⟩ := H
      go_wp2_with fail
      go_at_call 18
      refine (Go.Proofs.Ytgimcnpkngpmiaa.GlToPostmarkS.C (aList) A0 c0 _   (Lib.hid (Cells.below M0.out HBwt_8.out)) N0 qt_14).mono ?_
      rintro e_t_14 wt_14 ⟨At_14, ct_14, rfl, ot_14, bt_14⟩
      have Ot_14 := Lib.hid (own_lower ot_14 HBwt_8.out.size)
      clear ot_14
      have HBwt_14 := Lib.hid (Below.step HBwt_8.out bt_14)
      clear bt_14
      replace H := bind3_hid H
      obtain ⟨t_16a, t_16b, t_16c, qt_16, H⟩ := H
      go_wp2_with fail
      go_at_call 27
      refine (Go.Proofs.Ytgimcnpkngpmiaa.GsLatestUse.C fuel (t_14) (aTown) At_14 ct_14 _   (Lib.hid (own_cells Ot_14.out)) (Lib.hid (own_max Ot_14.out)) qt_16).mono ?_
      rintro e_t_16 wt_16 ⟨rfl, bt_16⟩
      have HBwt_16 := Lib.hid (Below.step HBwt_14.out bt_16)
      replace Ot_14 := Lib.hid (own_below Ot_14.out bt_16)
      clear bt_16
      replace H := bind_hid H
      obtain ⟨t_25, qt_25, H⟩ := H
      go_wp2_with fail
      go_at_call 18
      refine (Go.Proofs.Ytgimcnpkngpmiaa.GlToPostmarkS.C (aList) A0 c0 _   (Lib.hid (Cells.below M0.out HBwt_16.out)) N0 qt_25).mono ?_
      rintro e_t_25 wt_25 ⟨At_25, ct_25, rfl, ot_25, bt_25⟩
      have Dt_25_t_14 := Lib.hid (apart_call ot_25 Ot_14.out)
      have Ot_25 := Lib.hid (own_lower ot_25 HBwt_16.out.size)
      clear ot_25
      have HBwt_25 := Lib.hid (Below.step HBwt_16.out bt_25)
      replace Ot_14 := Lib.hid (own_below Ot_14.out bt_25)
      clear bt_25
      replace H := bind3_hid H
      obtain ⟨t_29a, t_29b, t_29c, qt_29, H⟩ := H
      go_wp2_with fail
      go_at_call 28
      refine (Go.Proofs.Ytgimcnpkngpmiaa.GiLatestUse.C fuel (t_25) (aTown) At_25 ct_25 _   (Lib.hid (own_cells Ot_25.out)) (Lib.hid (own_max Ot_25.out)) (Lib.hid (own_room Ot_25.out)) qt_29).mono ?_
      rintro e_t_29 wt_29 ⟨rfl, bt_29⟩
      have HBwt_29 := Lib.hid (Below.step HBwt_25.out bt_29)
      replace Ot_14 := Lib.hid (own_below Ot_14.out bt_29)
      replace Ot_25 := Lib.hid (own_below Ot_25.out bt_29)
      clear bt_29
      replace H := let_hid H
      obtain ⟨t_39, ht_39, H⟩ := H
      replace H := join_hid H
      cases t_39 with
      | false =>
        replace H := ite_f H
        replace H := let_hid H
        obtain ⟨t_43, ht_43, H⟩ := H
        replace H := app_hid H
        replace H := join_hid H
        cases t_43 with
        | false =>
          replace H := ite_f H
          replace H := let_hid H
          obtain ⟨t_48, ht_48, H⟩ := H
          replace H := app_hid H
          cases t_48 with
          | false =>
            replace H := ite_f H
            replace H := bind_hid H
            obtain ⟨t_53, qt_53, H⟩ := H
            go_wp2_with fail
            go_at_call 18
            refine (Go.Proofs.Ytgimcnpkngpmiaa.GlToPostmarkS.C (aList) A0 c0 _   (Lib.hid (Cells.below M0.out HBwt_29.out)) N0 qt_53).mono ?_
            rintro e_t_53 wt_53 ⟨At_53, ct_53, rfl, ot_53, bt_53⟩
            have Dt_53_t_14 := Lib.hid (apart_call ot_53 Ot_14.out)
            have Dt_53_t_25 := Lib.hid (apart_call ot_53 Ot_25.out)
            have Ot_53 := Lib.hid (own_lower ot_53 HBwt_29.out.size)
            clear ot_53
            have HBwt_53 := Lib.hid (Below.step HBwt_29.out bt_53)
            replace Ot_14 := Lib.hid (own_below Ot_14.out bt_53)
            replace Ot_25 := Lib.hid (own_below Ot_25.out bt_53)
            clear bt_53
            replace H := bind_hid H
            obtain ⟨t_54, qt_54, H⟩ := H
            go_wp2_with fail
            go_at_call 20
            refine (Go.Proofs.Ytgimcnpkngpmiaa.GlEqPostmarkS.C (t_25) (t_53) At_25 ct_25 At_53 ct_53 _   (Lib.hid (own_cells Ot_25.out)) (Lib.hid (own_max Ot_25.out)) (Lib.hid (own_cells Ot_53.out)) (Lib.hid (own_max Ot_53.out)) qt_54).mono ?_
            rintro e_t_54 wt_54 ⟨rfl, bt_54⟩
            have HBwt_54 := Lib.hid (Below.step HBwt_53.out bt_54)
            replace Ot_14 := Lib.hid (own_below Ot_14.out bt_54)
            replace Ot_25 := Lib.hid (own_below Ot_25.out bt_54)
            replace Ot_53 := Lib.hid (own_below Ot_53.out bt_54)
            clear bt_54
            cases t_54 with
            | false =>
              replace H := let_hid H
              obtain ⟨t_55, ht_55, H⟩ := H
              obtain rfl : t_55 = true := ht_55.symm
              replace H := ite_t H
              obtain rfl := ret_hid H
              go_wp2_with fail
              go_ret
              exact ⟨rfl, HBwt_54.out⟩
            | true =>
              replace H := let_hid H
              obtain ⟨t_55, ht_55, H⟩ := H
              obtain rfl : t_55 = false := ht_55.symm
              replace H := ite_f H
              obtain rfl := ret_hid H
              go_wp2_with fail
              go_ret
              exact ⟨rfl, HBwt_54.out⟩
          | true =>
            replace H := ite_t H
            obtain rfl := ret_hid H
            go_wp2_with fail
            go_ret
            exact ⟨rfl, HBwt_29.out⟩
        | true =>
          replace H := ite_t H
          replace H := app_hid H
          replace H := ite_t H
          obtain rfl := ret_hid H
          go_wp2_with fail
          go_ret
          exact ⟨rfl, HBwt_29.out⟩
      | true =>
        replace H := ite_t H
        replace H := app_hid H
        replace H := join_hid H
        replace H := ite_t H
        replace H := app_hid H
        replace H := ite_t H
        obtain rfl := ret_hid H
        go_wp2_with fail
        go_ret
        exact ⟨rfl, HBwt_29.out⟩
    | true =>
      replace H := ite_t H
      obtain rfl := ret_hid H
      go_wp2_with fail
      go_ret
      exact ⟨rfl, HBwt_8.out⟩
  | true =>
    have nht_3 : 1048576 < aTown.size := by have := of_decide_eq_true ht_3; omega
    replace H := ite_t H
    obtain rfl := ret_hid H
    go_wp2_with fail
    go_ret
    exact ⟨rfl, HB.out⟩
end Go.Proofs.Ytgimcnpkngpmiaa.GlFnExactLatestUse

/- Chapter 11: postmarks: the plain functions of the program and of the reference agree, and the laws answer true. (Q11Latest) No condition but those of each theorem. -/
namespace Go.Proofs.Ytgimcnpkngpmiaa.Q11Latest
set_option linter.unusedVariables false
set_option linter.unusedSimpArgs false
open Go.RowKit
open Go.Proofs.Ytgimcnpkngpmiaa.GoP Go.Proofs.Ytgimcnpkngpmiaa.PlainStamp Go.Proofs.Ytgimcnpkngpmiaa.QBase Go.Proofs.Ytgimcnpkngpmiaa.QWord Go.Proofs.Ytgimcnpkngpmiaa.Q11Marks Go.Proofs.Ytgimcnpkngpmiaa.Q11Extend Go.Proofs.Ytgimcnpkngpmiaa.Q11Find Go.Proofs.Ytgimcnpkngpmiaa.QCount Go.Proofs.Ytgimcnpkngpmiaa.QOrd Go.Proofs.Ytgimcnpkngpmiaa.Q11List Go.Proofs.Ytgimcnpkngpmiaa.Q11Mark Go.Proofs.Ytgimcnpkngpmiaa.QUp Go.Proofs.Ytgimcnpkngpmiaa.QAll Go.Proofs.Ytgimcnpkngpmiaa.QLoop Go.Proofs.Ytgimcnpkngpmiaa.PPostmark

def latStep (m x : Postmark) : Postmark := if m.last < x.last then x else m
def latOf (f : List Postmark) : Option Postmark := match f with | [] => none | a :: r => some (r.foldl latStep a)
theorem latOf_snoc (f : List Postmark) (x : Postmark) : latOf (f ++ [x]) = some (match latOf f with | none => x | some m => latStep m x) := by
  cases f with
  | nil => rfl
  | cons a r => simp [latOf]
theorem latOf_none {f : List Postmark} : latOf f = none ↔ f = [] := by cases f <;> simp [latOf]
theorem compare_eq (x y : Int) : GxCmpCompareInt.P x y = some (if x < y then -1 else if y < x then 1 else 0) := by
  simp only [GxCmpCompareInt.P, GxCmpIsNaNInt.P, Option.bind_some, letK, iteK_if]
  by_cases h1 : x < y
  · simp [h1]
  · by_cases h2 : y < x <;> simp [h1, h2]
theorem max_eq {l : List Postmark} (h12 : l.length ≤ 12) (fuel : Nat) (hfu : 100 ≤ fuel) {m0 : Postmark} (hb : latOf l = some m0) :
    GxSlicesMaxFuncLoopExampleG01062ImplPostmarkLoopExampleG01062ImplPostmarkiLatestUse1.P fuel l = some m0 := by
  have hpos : 0 < l.length := by
    cases l with
    | nil => simp [latOf] at hb
    | cons a r => simp
  obtain ⟨a, ha, hai⟩ := at_lt (l := l) (k := 0) hpos
  have hai' : idx l 0 = some a := hai
  simp only [GxSlicesMaxFuncLoopExampleG01062ImplPostmarkLoopExampleG01062ImplPostmarkiLatestUse1.P, letK, iteK_if]
  rw [if_neg (by simp; omega)]
  simp only [GxSlicesMaxFuncLoopExampleG01062ImplPostmarkLoopExampleG01062ImplPostmarkiLatestUse1.j0, hai', Option.bind_some, unPostmark]
  refine lp_is (n := l.length) _ (fun k (s : Int × Int × ByteArray × Int × Int × Int × ByteArray) => ∃ m : Postmark, s = ((k : Int), m.id, m.town, m.kind_, m.first, m.last, m.lost) ∧ latOf (l.take k) = some m) ?_ ?_ fuel 1 _ (by omega) (by omega) ?_
  · rintro k s nx hk ⟨m, rfl, hm⟩ hn
    obtain ⟨x, hx, hxi⟩ := at_lt (l := l) (k := k) hk
    have hw := wrap_in (x := (k : Int) + 1) (by omega) (by omega)
    have hs := latOf_snoc (l.take k) x
    rw [hm, ← take_next hx] at hs
    simp only [GxSlicesMaxFuncLoopExampleG01062ImplPostmarkLoopExampleG01062ImplPostmarkiLatestUse1.l0, unp7, letK, iteK_if, hxi, Option.bind_some, unPostmark, GiLatestUse1.P, compare_eq, hw, appK]
    rw [if_pos (by simp; omega)]
    by_cases h : m.last < x.last
    · have h2 : ¬ x.last < m.last := by omega
      rw [if_neg h2, if_pos h, if_pos (by simp)]
      exact hn _ ⟨x, rfl, by rw [hs]; simp [latStep, h]⟩
    · rw [if_neg (by by_cases h3 : x.last < m.last <;> simp [h, h3])]
      exact hn _ ⟨m, rfl, by rw [hs]; simp [latStep, h]⟩
  · rintro s nx ⟨m, rfl, hm⟩
    rw [List.take_of_length_le (Nat.le_refl _), hb] at hm
    obtain rfl := Option.some.inj hm
    simp only [GxSlicesMaxFuncLoopExampleG01062ImplPostmarkLoopExampleG01062ImplPostmarkiLatestUse1.l0, unp7, letK, iteK_if, appK, GxSlicesMaxFuncLoopExampleG01062ImplPostmarkLoopExampleG01062ImplPostmarkiLatestUse1.e0]
    rw [if_neg (by simp)]
  · refine ⟨a, rfl, ?_⟩
    rw [take_next (k := 0) ha]; rfl
def latRes (l : List Postmark) (town : ByteArray) : Int × Int × Bool := match latOf (ofTown l town) with | none => (0, 0, false) | some m => (m.id, m.last, true)
theorem latest_impl (l : List Postmark) (hf : ∀ s ∈ l, s.fits) (town : ByteArray) (fuel : Nat) (hfu : 100 ≤ fuel) : GiLatestUse.P fuel l town = some (latRes l town) := by
  have hlen := ofTown_len l town
  simp only [GiLatestUse.P, marksOf_eq l hf town fuel hfu, Option.bind_some, letK, iteK_if, latRes]
  cases hb : latOf (ofTown l town) with
  | none => rw [latOf_none.1 hb]; simp
  | some m =>
    have hpos : ¬ ((ofTown l town).length : Int) = 0 := by
      intro h0
      have : ofTown l town = [] := List.eq_nil_of_length_eq_zero (by omega)
      rw [this] at hb; simp [latOf] at hb
    rw [if_neg (by simpa using hpos), max_eq hlen fuel hfu hb]
    rfl
theorem latest_spec (fuel : Nat) (hfu : 100 ≤ fuel) (l : List Postmark) (hf : ∀ s ∈ l, s.fits) (hl : l.length ≤ 9223372036854775807) (town : ByteArray) (hz : town.size ≤ 9223372036854775807) : GsLatestUse.P fuel l town = some (latRes l town) := by
  simp only [GsLatestUse.P, l11Good_eq fuel hfu l hf hl, l2Word_eq town hz, Option.bind_some, letK, joinK, appK, iteK_if]
  cases hc : okPms l with
  | false => simp [latRes, ofTown, hc, latOf]
  | true =>
    cases hw : wordB town with
    | false => simp [latRes, ofTown_word hw, latOf]
    | true =>
      simp only [Bool.not_true, Bool.false_eq_true, if_false, latRes, ofTown, hc, if_true]
      refine cnt_is _ (fun k s => (latOf ((l.take k).filter (ofT town)) = none ∧ s = (0, -1)) ∨ ∃ m : Postmark, s = (m.id, m.last) ∧ okPm m = true ∧ latOf ((l.take k).filter (ofT town)) = some m) ?_ ?_ (0, -1) (Or.inl ⟨rfl, rfl⟩)
      · rintro k ⟨b0, m0⟩ nx hk hI hn
        obtain ⟨x, hx, hxi⟩ := at_lt (l := l) (k := k) hk
        have hox := pms_mem hc (List.mem_of_getElem? hx)
        have hxl := okPm_of hox
        simp only [GsLatestUse.l0, unp2, letK, joinK, appK, iteK_if, hxi, Option.bind_some, unPostmark, eq_list]
        have ho : decide (x.town = town) = ofT town x := rfl
        rw [ho]
        cases ht : ofT town x with
        | false =>
          have hf1 : (l.take (k + 1)).filter (ofT town) = (l.take k).filter (ofT town) := by rw [take_next hx, List.filter_append]; simp [List.filter, ht]
          simp only [Bool.false_eq_true, if_false]
          exact hn _ (by rw [hf1]; exact hI)
        | true =>
          have hf1 : (l.take (k + 1)).filter (ofT town) = (l.take k).filter (ofT town) ++ [x] := by rw [take_next hx, List.filter_append]; simp [List.filter, ht]
          have hs := latOf_snoc ((l.take k).filter (ofT town)) x
          rw [← hf1] at hs
          simp only [if_true]
          rcases hI with ⟨h1, h2⟩ | ⟨m, h1, hom, h3⟩
          · simp only [Prod.mk.injEq] at h2
            obtain ⟨rfl, rfl⟩ := h2
            rw [if_pos (by simp; omega)]
            exact hn _ (Or.inr ⟨x, rfl, hox, by rw [hs, h1]⟩)
          · simp only [Prod.mk.injEq] at h1
            obtain ⟨rfl, rfl⟩ := h1
            rw [h3] at hs
            by_cases h5 : m.last < x.last
            · rw [if_pos (by simpa using h5)]
              exact hn _ (Or.inr ⟨x, rfl, hox, by rw [hs]; simp [latStep, h5]⟩)
            · rw [if_neg (by simpa using h5)]
              exact hn _ (Or.inr ⟨m, rfl, hom, by rw [hs]; simp [latStep, h5]⟩)
      · rintro ⟨b0, m0⟩ hI
        rw [List.take_of_length_le (Nat.le_refl _)] at hI
        simp only [GsLatestUse.e0, unp2, letK, iteK_if]
        rcases hI with ⟨h1, h2⟩ | ⟨m, h1, hom, h3⟩
        · simp only [Prod.mk.injEq] at h2
          obtain ⟨rfl, rfl⟩ := h2
          rw [h1]; rfl
        · simp only [Prod.mk.injEq] at h1
          obtain ⟨rfl, rfl⟩ := h1
          have := (okPm_of hom).1
          have hne : ¬ m.id = 0 := by omega
          rw [h3, if_neg (by simpa using hne)]
end Go.Proofs.Ytgimcnpkngpmiaa.Q11Latest

/- Chapter 11: postmarks: the plain functions of the program and of the reference agree, and the laws answer true. (QL11Latest) No condition but those of each theorem. -/
namespace Go.Proofs.Ytgimcnpkngpmiaa.QL11Latest
set_option linter.unusedVariables false
set_option linter.unusedSimpArgs false
open Go.RowKit
open Go.Proofs.Ytgimcnpkngpmiaa.GoP Go.Proofs.Ytgimcnpkngpmiaa.PlainStamp Go.Proofs.Ytgimcnpkngpmiaa.QBase Go.Proofs.Ytgimcnpkngpmiaa.Q11Latest Go.Proofs.Ytgimcnpkngpmiaa.QLoop Go.Proofs.Ytgimcnpkngpmiaa.PPostmark Go.Proofs.Ytgimcnpkngpmiaa.QHPostmarkE

theorem law_latest (fuel : Nat) (hfu : 100 ≤ fuel) (l : List Postmark) (town : ByteArray) (hf : ∀ s ∈ l, s.fits) (hl : l.length ≤ 9223372036854775807) : GlFnExactLatestUse.P fuel l town = some true := by
  obtain ⟨v, hv, hn⟩ := szS l hf hl
  simp only [GlFnExactLatestUse.P, hv, Option.bind_some, letK, iteK_if]
  by_cases hb0 : (1048576 : Int) < (town.size : Int)
  · rw [if_pos (by simpa using hb0)]
  · rw [if_neg (by simpa using hb0)]
    by_cases hb : v < 0
    · rw [if_pos (by simp; omega)]
    · rw [if_neg (by simp; omega)]
      have hz : town.size ≤ 9223372036854775807 := by omega
      obtain ⟨⟨a, b, c⟩, hr⟩ : ∃ z, z = latRes l town := ⟨_, rfl⟩
      simp [toS l (hn (by omega)), latest_spec fuel hfu l hf hl town hz, latest_impl l hf town fuel hfu, ← hr, bind3, joinK, appK, iteK_if, eqS]
end Go.Proofs.Ytgimcnpkngpmiaa.QL11Latest

