/- Texts on which the proofs of several laws stand, one behind the other (7 of 14). No condition of their own. -/
import Derived.Test.YtgimcnpkngpmiaaDoorChecked
import Derived.Test.YtgimcnpkngpmiaaDoorX12P1
import Derived.Test.YtgimcnpkngpmiaaDoorX12P2
import Derived.Test.YtgimcnpkngpmiaaDoorX12P3
import Derived.Test.YtgimcnpkngpmiaaDoorX12P6
import Derived.WalkKit
import Derived.WalkSpells
import Derived.WalkLawsBesides
import Derived.BigQuiet
import Derived.OwnWalk
import Derived.Deep.LoopGhost
import Derived.Deep.QuietTactic
import Derived.IntWalk
import Derived.Lib.QuietBelow
import Derived.StillTailTactics
import Derived.Laws.StructEq
import Derived.ChangeKeysEq
import Derived.Test.YtgimcnpkngpmiaaDoorX12P5
import Derived.Lib.Replace
import Derived.Lib.IndexBytes
/- loop.example/g01062/spec.l11Good as a plain function, and the contract of the program's: where the plain one has an answer, the program has it. Conditions: slices read as lists. -/
namespace Go.Proofs.YtgimcnpkngpmiaaDoor.GsL11Good
set_option linter.unusedVariables false
set_option linter.unusedSimpArgs false
open Go.RowKit
open Go.Proofs.YtgimcnpkngpmiaaDoor.Rowed Go.Proofs.YtgimcnpkngpmiaaDoor.Turn Go.Proofs.YtgimcnpkngpmiaaDoor.Aid Go.Proofs.YtgimcnpkngpmiaaDoor.GoP Go.Proofs.YtgimcnpkngpmiaaDoor.GoM

def l0 (list : (List Go.Proofs.YtgimcnpkngpmiaaDoor.PPostmark.Postmark)) (fuel : Nat) (k0 : Nat) (s : Unit) (nx0 bk0 : Unit → Option (Bool)) : Option (Bool) :=
  
  Option.bind (idx list (k0 : Int)) fun (yt_8 : Go.Proofs.YtgimcnpkngpmiaaDoor.PPostmark.Postmark) =>
  unPostmark yt_8 fun (t_8_id : Int) (t_8_town : ByteArray) (t_8_kind_ : Int) (t_8_first : Int) (t_8_last : Int) (t_8_lost : ByteArray) =>
  Option.bind (Go.Proofs.YtgimcnpkngpmiaaDoor.GsL11One.P fuel (Go.Proofs.YtgimcnpkngpmiaaDoor.PPostmark.Postmark.mk t_8_id t_8_town t_8_kind_ t_8_first t_8_last t_8_lost)) fun (t_10 : Bool) =>
  letK (!t_10) fun (t_11 : Bool) =>
  joinK (fun (t_29 : Bool) =>
  iteK t_29
  (some false)
  (appK nx0 ())) fun jt_29 => iteK t_11 (appK jt_29 true) (letK (decide (0 < (k0 : Int))) fun (t_14 : Bool) =>
  joinK (fun (t_28 : Bool) =>
  appK jt_29 t_28) fun jt_28 => iteK t_14 (letK (IntKind.i64.wrap ((k0 : Int) - 1)) fun (t_18 : Int) =>
  Option.bind (idx list t_18) fun (yt_19 : Go.Proofs.YtgimcnpkngpmiaaDoor.PPostmark.Postmark) =>
  unPostmark yt_19 fun (t_19_id : Int) (t_19_town : ByteArray) (t_19_kind_ : Int) (t_19_first : Int) (t_19_last : Int) (t_19_lost : ByteArray) =>
  Option.bind (idx list (k0 : Int)) fun (yt_24 : Go.Proofs.YtgimcnpkngpmiaaDoor.PPostmark.Postmark) =>
  unPostmark yt_24 fun (t_24_id : Int) (t_24_town : ByteArray) (t_24_kind_ : Int) (t_24_first : Int) (t_24_last : Int) (t_24_lost : ByteArray) =>
  letK (decide (t_24_id ≤ t_19_id)) fun (t_27 : Bool) =>
  appK jt_28 t_27) (appK jt_28 false))

def e0 (list : (List Go.Proofs.YtgimcnpkngpmiaaDoor.PPostmark.Postmark)) (s : Unit) : Option (Bool) :=
  
  letK (decide ((list.length : Int) ≤ 12)) fun (t_36 : Bool) =>
  some t_36

def P (fuel : Nat) (list : (List Go.Proofs.YtgimcnpkngpmiaaDoor.PPostmark.Postmark)) : Option (Bool) :=
  cntK (l0 list fuel) (list.length) 0 () (e0 list)

set_option maxRecDepth 100000 in
set_option maxHeartbeats 2000000 in
theorem C (fuel : Nat) (list : (List Go.Proofs.YtgimcnpkngpmiaaDoor.PPostmark.Postmark)) (A0 : Option Addr) (c0 : Nat)  (w : World) (M0 : Hid (Cells w 6 A0 list.length (Go.Proofs.YtgimcnpkngpmiaaDoor.PPostmark.flat list))) (N0 : Hid (list.length ≤ 9223372036854775807))  {r : Bool} (H : Hid (P fuel list = some r)) :
    Calls Tryd.prog 40 #[.slice A0 list.length c0] w (Gives (.bool r) w) := by
  have HB := Lib.hid (Below.refl w.heap.size w)
  unfold P at H
  have N0o := N0.out
  go_enter Tryd.func40, Tryd.ntmps40
  go_wp2_with fail
  go_loopg [3] (list.length) (fun m_ v3_ wr => ∃ (k0 : Nat) , k0 + m_ = list.length ∧ v3_ = .int .i64 (k0 : Int) ∧ Hid (cntK (l0 list fuel) m_ k0 () (e0 list) = some r) ∧ Hid (Below w.heap.size w wr))
  case atStart => exact ⟨0, by omega, rfl, H, HB⟩
  case round =>
    obtain ⟨k0, hkm0, rfl, H, HBwr0⟩ := hrel
    rename World => wr0
    cases gk with
    | zero =>
      obtain rfl : k0 = list.length := by omega
      have hc0 : decide (((list.length : Nat) : Int) < ((list.length : Nat) : Int)) = false := by simp
      replace H := cnt_zero H
      unfold e0 at H
      replace H := let_hid H
      obtain ⟨t_36, ht_36, H⟩ := H
      obtain rfl := ret_hid H
      go_wp2_with fail
      go_ret
      exact ⟨rfl, HBwr0.out⟩
    | succ m0 =>
      have hlt0 : k0 < list.length := by omega
      have hc0 : decide ((k0 : Int) < ((list.length : Nat) : Int)) = true := by simp; omega
      replace H := cnt_succ H
      unfold l0 at H
      go_wp2_with fail
      replace H := idx_hid H
      obtain ⟨nt_8, yt_8, et_8, lt_8, gt_8, H⟩ := H
      obtain rfl : k0 = nt_8 := by omega
      clear et_8
      obtain ⟨t_8_id, t_8_town, t_8_kind_, t_8_first, t_8_last, t_8_lost⟩ := yt_8
      replace H := unPostmark_hid H
      obtain ⟨ab_t_8, ao_t_8, zt_8, At_8, z_t_8, ct_8_0, ct_8_1, ct_8_2, ct_8_3, ct_8_4, ct_8_5⟩ := Go.Proofs.YtgimcnpkngpmiaaDoor.OPostmark.at_ M0.out lt_8
      obtain rfl := Option.some.inj (gt_8.out.symm.trans z_t_8)
      subst At_8
      have ltt_8 := cell_lt ct_8_0
      replace ct_8_0 := cell_below HBwr0.out ct_8_0
      replace ct_8_1 := cell_below HBwr0.out ct_8_1
      replace ct_8_2 := cell_below HBwr0.out ct_8_2
      replace ct_8_3 := cell_below HBwr0.out ct_8_3
      replace ct_8_4 := cell_below HBwr0.out ct_8_4
      replace ct_8_5 := cell_below HBwr0.out ct_8_5
      clear z_t_8
      have b0t_8 : (0 : Int) ≤ (k0 : Int) := by omega
      have b1t_8 : (k0 : Int) < ((list.length : Nat) : Int) := by omega
      have b2t_8 : ((k0 : Int)).toNat = k0 := by omega
      have Hct_8_0 := Lib.hid ct_8_0
      replace ct_8_0 := cell_regrown ct_8_0
      have Hct_8_1 := Lib.hid ct_8_1
      replace ct_8_1 := cell_regrown ct_8_1
      have Hct_8_2 := Lib.hid ct_8_2
      replace ct_8_2 := cell_regrown ct_8_2
      have Hct_8_3 := Lib.hid ct_8_3
      replace ct_8_3 := cell_regrown ct_8_3
      have Hct_8_4 := Lib.hid ct_8_4
      replace ct_8_4 := cell_regrown ct_8_4
      have Hct_8_5 := Lib.hid ct_8_5
      replace ct_8_5 := cell_regrown ct_8_5
      replace H := bind_hid H
      obtain ⟨t_10, qt_10, H⟩ := H
      have nt_10 : ∀ d os, Calls Tryd.prog 56 #[.agg #[.int .i64 t_8_id, .string t_8_town, .int .i64 t_8_kind_, .int .i64 t_8_first, .int .i64 t_8_last, .string t_8_lost]] (Go.Sort.grow (redrawn wr0 d) os) fun e w'' => e = .returned (.bool t_10) ∧ ∃ p : Regrown, w'' = Go.Sort.grow (redrawn wr0 p.d) p.os := fun d os => Calls.regrown_of (Go.Proofs.YtgimcnpkngpmiaaDoor.GsL11One.C fuel ((Go.Proofs.YtgimcnpkngpmiaaDoor.PPostmark.Postmark.mk t_8_id t_8_town t_8_kind_ t_8_first t_8_last t_8_lost))  _    qt_10)
      cases t_10 with
      | false =>
        replace H := let_hid H
        obtain ⟨t_11, ht_11, H⟩ := H
        obtain rfl : t_11 = true := ht_11.symm
        replace H := join_hid H
        replace H := ite_t H
        replace H := app_hid H
        refine wp_region_quiet_below (by kernel_rfl) (by kernel_rfl) ?_
        repeat (go_big_quiet_step (first | (go_at_call 56; exact nt_10 _ _)))
        refine wpQuiet_nil ?_
        intro Y4 hY4
        replace hY4 := below_class hY4
        clear nt_10
        replace ct_8_0 := Hct_8_0.out
        clear Hct_8_0
        replace ct_8_1 := Hct_8_1.out
        clear Hct_8_1
        replace ct_8_2 := Hct_8_2.out
        clear Hct_8_2
        replace ct_8_3 := Hct_8_3.out
        clear Hct_8_3
        replace ct_8_4 := Hct_8_4.out
        clear Hct_8_4
        replace ct_8_5 := Hct_8_5.out
        clear Hct_8_5
        have HBY4 := Lib.hid (Below.step HBwr0.out hY4)
        replace ct_8_0 := cell_below hY4 ct_8_0
        replace ct_8_1 := cell_below hY4 ct_8_1
        replace ct_8_2 := cell_below hY4 ct_8_2
        replace ct_8_3 := cell_below hY4 ct_8_3
        replace ct_8_4 := cell_below hY4 ct_8_4
        replace ct_8_5 := cell_below hY4 ct_8_5
        clear hY4
        replace H := ite_t H
        obtain rfl := ret_hid H
        go_wp2_with fail
        go_ret
        exact ⟨rfl, HBY4.out⟩
      | true =>
        replace H := let_hid H
        obtain ⟨t_11, ht_11, H⟩ := H
        obtain rfl : t_11 = false := ht_11.symm
        replace H := join_hid H
        replace H := ite_f H
        replace H := let_hid H
        obtain ⟨t_14, ht_14, H⟩ := H
        replace H := join_hid H
        cases t_14 with
        | false =>
          have nht_14 : ¬ (0 < k0) := by have := of_decide_eq_false ht_14; omega
          replace H := ite_f H
          replace H := app_hid H
          replace H := app_hid H
          refine wp_region_quiet_below (by kernel_rfl) (by kernel_rfl) ?_
          repeat (go_big_quiet_step (first | (go_at_call 56; exact nt_10 _ _)))
          refine wpQuiet_nil ?_
          intro Y4 hY4
          replace hY4 := below_class hY4
          clear nt_10
          replace ct_8_0 := Hct_8_0.out
          clear Hct_8_0
          replace ct_8_1 := Hct_8_1.out
          clear Hct_8_1
          replace ct_8_2 := Hct_8_2.out
          clear Hct_8_2
          replace ct_8_3 := Hct_8_3.out
          clear Hct_8_3
          replace ct_8_4 := Hct_8_4.out
          clear Hct_8_4
          replace ct_8_5 := Hct_8_5.out
          clear Hct_8_5
          have HBY4 := Lib.hid (Below.step HBwr0.out hY4)
          replace ct_8_0 := cell_below hY4 ct_8_0
          replace ct_8_1 := cell_below hY4 ct_8_1
          replace ct_8_2 := cell_below hY4 ct_8_2
          replace ct_8_3 := cell_below hY4 ct_8_3
          replace ct_8_4 := cell_below hY4 ct_8_4
          replace ct_8_5 := cell_below hY4 ct_8_5
          clear hY4
          replace H := ite_f H
          replace H := app_hid H
          go_wp2_with fail
          go_roundg m0
          case measure => omega
          case rel => exact ⟨k0 + 1, by omega, by go_num, H, HBY4⟩
        | true =>
          have nht_14 : 0 < k0 := by have := of_decide_eq_true ht_14; omega
          replace H := ite_t H
          replace H := let_hid H
          obtain ⟨t_18, ht_18, H⟩ := H
          replace H := idx_hid H
          obtain ⟨nt_19, yt_19, et_19, lt_19, gt_19, H⟩ := H
          subst et_19
          obtain ⟨t_19_id, t_19_town, t_19_kind_, t_19_first, t_19_last, t_19_lost⟩ := yt_19
          replace H := unPostmark_hid H
          obtain ⟨ab_t_19, ao_t_19, zt_19, At_19, z_t_19, ct_19_0, ct_19_1, ct_19_2, ct_19_3, ct_19_4, ct_19_5⟩ := Go.Proofs.YtgimcnpkngpmiaaDoor.OPostmark.at_ M0.out lt_19
          obtain rfl := Option.some.inj (gt_19.out.symm.trans z_t_19)
          simp only [Option.some.injEq, Addr.mk.injEq] at At_19
          obtain ⟨rfl, rfl, _⟩ := At_19
          have ltt_19 := cell_lt ct_19_0
          replace ct_19_0 := cell_below HBwr0.out ct_19_0
          replace ct_19_1 := cell_below HBwr0.out ct_19_1
          replace ct_19_2 := cell_below HBwr0.out ct_19_2
          replace ct_19_3 := cell_below HBwr0.out ct_19_3
          replace ct_19_4 := cell_below HBwr0.out ct_19_4
          replace ct_19_5 := cell_below HBwr0.out ct_19_5
          clear z_t_19
          have b0t_19 : (0 : Int) ≤ (nt_19 : Int) := by omega
          have b1t_19 : (nt_19 : Int) < ((list.length : Nat) : Int) := by omega
          have b2t_19 : ((nt_19 : Int)).toNat = nt_19 := by omega
          have Hct_19_0 := Lib.hid ct_19_0
          replace ct_19_0 := cell_regrown ct_19_0
          have Hct_19_1 := Lib.hid ct_19_1
          replace ct_19_1 := cell_regrown ct_19_1
          have Hct_19_2 := Lib.hid ct_19_2
          replace ct_19_2 := cell_regrown ct_19_2
          have Hct_19_3 := Lib.hid ct_19_3
          replace ct_19_3 := cell_regrown ct_19_3
          have Hct_19_4 := Lib.hid ct_19_4
          replace ct_19_4 := cell_regrown ct_19_4
          have Hct_19_5 := Lib.hid ct_19_5
          replace ct_19_5 := cell_regrown ct_19_5
          replace H := idx_hid H
          obtain ⟨nt_24, yt_24, et_24, lt_24, gt_24, H⟩ := H
          obtain rfl : k0 = nt_24 := by omega
          clear et_24
          obtain rfl := Option.some.inj (gt_8.out.symm.trans gt_24.out)
          clear gt_24 lt_24
          replace H := unPostmark_hid H
          replace H := let_hid H
          obtain ⟨t_27, ht_27, H⟩ := H
          replace H := app_hid H
          replace H := app_hid H
          refine wp_region_quiet_below (by kernel_rfl) (by kernel_rfl) ?_
          repeat (go_big_quiet_step (first | (go_at_call 56; exact nt_10 _ _)))
          refine wpQuiet_nil ?_
          intro Y4 hY4
          replace hY4 := below_class hY4
          clear nt_10
          replace ct_8_0 := Hct_8_0.out
          clear Hct_8_0
          replace ct_8_1 := Hct_8_1.out
          clear Hct_8_1
          replace ct_8_2 := Hct_8_2.out
          clear Hct_8_2
          replace ct_8_3 := Hct_8_3.out
          clear Hct_8_3
          replace ct_8_4 := Hct_8_4.out
          clear Hct_8_4
          replace ct_8_5 := Hct_8_5.out
          clear Hct_8_5
          replace ct_19_0 := Hct_19_0.out
          clear Hct_19_0
          replace ct_19_1 := Hct_19_1.out
          clear Hct_19_1
          replace ct_19_2 := Hct_19_2.out
          clear Hct_19_2
          replace ct_19_3 := Hct_19_3.out
          clear Hct_19_3
          replace ct_19_4 := Hct_19_4.out
          clear Hct_19_4
          replace ct_19_5 := Hct_19_5.out
          clear Hct_19_5
          have HBY4 := Lib.hid (Below.step HBwr0.out hY4)
          replace ct_8_0 := cell_below hY4 ct_8_0
          replace ct_8_1 := cell_below hY4 ct_8_1
          replace ct_8_2 := cell_below hY4 ct_8_2
          replace ct_8_3 := cell_below hY4 ct_8_3
          replace ct_8_4 := cell_below hY4 ct_8_4
          replace ct_8_5 := cell_below hY4 ct_8_5
          replace ct_19_0 := cell_below hY4 ct_19_0
          replace ct_19_1 := cell_below hY4 ct_19_1
          replace ct_19_2 := cell_below hY4 ct_19_2
          replace ct_19_3 := cell_below hY4 ct_19_3
          replace ct_19_4 := cell_below hY4 ct_19_4
          replace ct_19_5 := cell_below hY4 ct_19_5
          clear hY4
          cases t_27 with
          | false =>
            replace H := ite_f H
            replace H := app_hid H
            go_wp2_with fail
            go_roundg m0
            case measure => omega
            case rel => exact ⟨k0 + 1, by omega, by go_num, H, HBY4⟩
          | true =>
            replace H := ite_t H
            obtain rfl := ret_hid H
            go_wp2_with fail
            go_ret
            exact ⟨rfl, HBY4.out⟩
end Go.Proofs.YtgimcnpkngpmiaaDoor.GsL11Good

/- loop.example/g01062/spec.LoseLetter as a plain function, and the contract of the program's: where the plain one has an answer, the program has it. Conditions: slices read as lists. -/
namespace Go.Proofs.YtgimcnpkngpmiaaDoor.GsLoseLetter
set_option linter.unusedVariables false
set_option linter.unusedSimpArgs false
open Go.RowKit
open Go.Proofs.YtgimcnpkngpmiaaDoor.Rowed Go.Proofs.YtgimcnpkngpmiaaDoor.Turn Go.Proofs.YtgimcnpkngpmiaaDoor.Aid Go.Proofs.YtgimcnpkngpmiaaDoor.GoP Go.Proofs.YtgimcnpkngpmiaaDoor.GoM

def P (fuel : Nat) (list : (List Go.Proofs.YtgimcnpkngpmiaaDoor.PPostmark.Postmark)) (id : Int) (place : Int) : Option ((List Go.Proofs.YtgimcnpkngpmiaaDoor.PPostmark.Postmark) × Bool) :=
  Option.bind (Go.Proofs.YtgimcnpkngpmiaaDoor.GsL11Find.P list id) fun (t_4 : Int) =>
  Option.bind (Go.Proofs.YtgimcnpkngpmiaaDoor.GsL11Good.P fuel list) fun (t_7 : Bool) =>
  letK (!t_7) fun (t_8 : Bool) =>
  joinK (fun (t_12 : Bool) =>
  joinK (fun (t_24 : Bool) =>
  joinK (fun (t_34 : Bool) =>
  iteK t_34
  (some (([] : List Go.Proofs.YtgimcnpkngpmiaaDoor.PPostmark.Postmark), false))
  (guardK (([] : List Go.Proofs.YtgimcnpkngpmiaaDoor.PPostmark.Postmark).length + list.length ≤ 1099511627776) <|
  letK (([] : List Go.Proofs.YtgimcnpkngpmiaaDoor.PPostmark.Postmark) ++ list) fun (t_40 : (List Go.Proofs.YtgimcnpkngpmiaaDoor.PPostmark.Postmark)) =>
  Option.bind (idx t_40 t_4) fun (yt_44 : Go.Proofs.YtgimcnpkngpmiaaDoor.PPostmark.Postmark) =>
  unPostmark yt_44 fun (t_44_id : Int) (t_44_town : ByteArray) (t_44_kind_ : Int) (t_44_first : Int) (t_44_last : Int) (t_44_lost : ByteArray) =>
  guardK ((0 : Int) ≤ place ∧ (place : Int) ≤ (t_44_lost.size : Int)) <|
  letK (ByteArray.extract t_44_lost 0 (Int.toNat place)) fun (t_51 : ByteArray) =>
  guardK (t_51.size + (⟨#[120]⟩ : ByteArray).size ≤ maxLen) <|
  letK (t_51 ++ (⟨#[120]⟩ : ByteArray)) fun (t_52 : ByteArray) =>
  letK (IntKind.i64.wrap (place + 1)) fun (t_56 : Int) =>
  guardK ((0 : Int) ≤ t_56 ∧ (t_56 : Int) ≤ (t_44_lost.size : Int)) <|
  letK (ByteArray.extract t_44_lost (Int.toNat t_56) t_44_lost.size) fun (t_57 : ByteArray) =>
  guardK (t_52.size + t_57.size ≤ maxLen) <|
  letK (t_52 ++ t_57) fun (t_58 : ByteArray) =>
  Option.bind (idx t_40 t_4) fun (yt_64 : Go.Proofs.YtgimcnpkngpmiaaDoor.PPostmark.Postmark) =>
  unPostmark yt_64 fun (t_64_id : Int) (t_64_town : ByteArray) (t_64_kind_ : Int) (t_64_first : Int) (t_64_last : Int) (t_64_lost : ByteArray) =>
  letK (t_40.set (t_4).toNat (Go.Proofs.YtgimcnpkngpmiaaDoor.PPostmark.Postmark.mk t_44_id t_44_town t_44_kind_ t_44_first t_44_last t_58)) fun (l65_65 : (List Go.Proofs.YtgimcnpkngpmiaaDoor.PPostmark.Postmark)) =>
  Option.bind (Go.Proofs.YtgimcnpkngpmiaaDoor.GsL11Good.P fuel l65_65) fun (t_67 : Bool) =>
  letK (!t_67) fun (t_68 : Bool) =>
  iteK t_68
  (some (([] : List Go.Proofs.YtgimcnpkngpmiaaDoor.PPostmark.Postmark), false))
  (some (l65_65, true)))) fun jt_34 => iteK t_24 (appK jt_34 true) (Option.bind (idx list t_4) fun (yt_28 : Go.Proofs.YtgimcnpkngpmiaaDoor.PPostmark.Postmark) =>
  unPostmark yt_28 fun (t_28_id : Int) (t_28_town : ByteArray) (t_28_kind_ : Int) (t_28_first : Int) (t_28_last : Int) (t_28_lost : ByteArray) =>
  Option.bind (idx t_28_lost.toList place) fun (yt_32 : UInt8) =>
  letK ((yt_32.toNat : Int)) fun (t_32 : Int) =>
  letK (t_32 == 120) fun (t_33 : Bool) =>
  appK jt_34 t_33)) fun jt_24 => iteK t_12 (appK jt_24 true) (Option.bind (idx list t_4) fun (yt_17 : Go.Proofs.YtgimcnpkngpmiaaDoor.PPostmark.Postmark) =>
  unPostmark yt_17 fun (t_17_id : Int) (t_17_town : ByteArray) (t_17_kind_ : Int) (t_17_first : Int) (t_17_last : Int) (t_17_lost : ByteArray) =>
  letK (IntKind.i64.wrap ((t_17_lost.size : Int) - 1)) fun (t_21 : Int) =>
  Option.bind (Go.Proofs.YtgimcnpkngpmiaaDoor.GsL1In.P place 0 t_21) fun (t_22 : Bool) =>
  letK (!t_22) fun (t_23 : Bool) =>
  appK jt_24 t_23)) fun jt_12 => iteK t_8 (appK jt_12 true) (letK (decide (t_4 < 0)) fun (t_11 : Bool) =>
  appK jt_12 t_11)

set_option maxRecDepth 100000 in
set_option maxHeartbeats 2000000 in
theorem C (fuel : Nat) (list : (List Go.Proofs.YtgimcnpkngpmiaaDoor.PPostmark.Postmark)) (id : Int) (place : Int) (A0 : Option Addr) (c0 : Nat)  (w : World) (M0 : Hid (Cells w 6 A0 list.length (Go.Proofs.YtgimcnpkngpmiaaDoor.PPostmark.flat list))) (N0 : Hid (list.length ≤ 9223372036854775807)) (Q0 : Hid (Room A0 list.length c0))  {r0 : (List Go.Proofs.YtgimcnpkngpmiaaDoor.PPostmark.Postmark)} {r1 : Bool} (H : Hid (P fuel list id place = some (r0, r1))) :
    Calls Tryd.prog 22 #[.slice A0 list.length c0, .int .i64 id, .int .i64 place] w (fun e w' => ∃ A_r0 c_r0, e = .returned (.tuple #[.slice A_r0 r0.length c_r0, .bool r1]) ∧ w'.ownsRow w.heap.size 39 6 (.slice A_r0 r0.length c_r0) r0.length (Go.Proofs.YtgimcnpkngpmiaaDoor.PPostmark.flat r0) ∧ Below w.heap.size w w') := by
  have HB := Lib.hid (Below.refl w.heap.size w)
  unfold P at H
  have N0o := N0.out
  obtain ⟨i0_39, hi_39, hz0_39, hz1_39, hz2_39⟩ := Aid.info_parts (P := Tryd.prog) (T := 39) (z := .agg #[.int .i64 0, .string ByteArray.empty, .int .i64 0, .int .i64 0, .int .i64 0, .string ByteArray.empty]) (s := 6) (b := 64) (by kernel_rfl)
  go_enter Tryd.func22, Tryd.ntmps22
  replace H := bind_hid H
  obtain ⟨t_4, qt_4, H⟩ := H
  go_wp2_with fail
  go_at_call 66
  refine (Go.Proofs.YtgimcnpkngpmiaaDoor.GsL11Find.C (list) (id) A0 c0 _   (Lib.hid (Cells.below M0.out HB.out)) N0 qt_4).mono ?_
  rintro e_t_4 wt_4 ⟨rfl, bt_4⟩
  have HBwt_4 := Lib.hid (Below.step HB.out bt_4)
  clear bt_4
  replace H := bind_hid H
  obtain ⟨t_7, qt_7, H⟩ := H
  go_wp2_with fail
  go_at_call 40
  refine (Go.Proofs.YtgimcnpkngpmiaaDoor.GsL11Good.C fuel (list) A0 c0 _   (Lib.hid (Cells.below M0.out HBwt_4.out)) N0 qt_7).mono ?_
  rintro e_t_7 wt_7 ⟨rfl, bt_7⟩
  have HBwt_7 := Lib.hid (Below.step HBwt_4.out bt_7)
  clear bt_7
  cases t_7 with
  | false =>
    replace H := let_hid H
    obtain ⟨t_8, ht_8, H⟩ := H
    obtain rfl : t_8 = true := ht_8.symm
    replace H := join_hid H
    replace H := ite_t H
    replace H := app_hid H
    replace H := join_hid H
    replace H := ite_t H
    replace H := app_hid H
    replace H := join_hid H
    replace H := ite_t H
    replace H := app_hid H
    replace H := ite_t H
    obtain ⟨w_t_35, hw_t_35⟩ : ∃ x, wt_7.alloc (.cells #[] 39) = x := ⟨_, rfl⟩
    have bw_t_35 : Below wt_7.heap.size wt_7 w_t_35 := by rw [← hw_t_35]; exact (Below.refl _ _).alloc (Nat.le_refl _) _
    have Ot_35 : Hid (w_t_35.ownsRow w.heap.size 39 6 (.slice (some ⟨wt_7.heap.size, 0, none⟩) 0 0) 0 []) := Lib.hid (by rw [← hw_t_35]; exact own_empty HBwt_7.out.size)
    have HBw_t_35 := Lib.hid (Below.step HBwt_7.out bw_t_35)
    clear bw_t_35
    cases ret_hid H
    go_wp2_with fail
    go_ret2
    exact ⟨(some ⟨wt_7.heap.size, 0, none⟩), 0, rfl, Ot_35.out, HBw_t_35.out⟩
  | true =>
    replace H := let_hid H
    obtain ⟨t_8, ht_8, H⟩ := H
    obtain rfl : t_8 = false := ht_8.symm
    replace H := join_hid H
    replace H := ite_f H
    replace H := let_hid H
    obtain ⟨t_11, ht_11, H⟩ := H
    replace H := app_hid H
    replace H := join_hid H
    cases t_11 with
    | false =>
      replace H := ite_f H
      replace H := idx_hid H
      obtain ⟨nt_17, yt_17, et_17, lt_17, gt_17, H⟩ := H
      subst et_17
      have nc_353 : ¬ (nt_17 < 0) := by have := of_decide_eq_false ht_11; omega
      obtain ⟨t_17_id, t_17_town, t_17_kind_, t_17_first, t_17_last, t_17_lost⟩ := yt_17
      replace H := unPostmark_hid H
      obtain ⟨ab_t_17, ao_t_17, zt_17, At_17, z_t_17, ct_17_0, ct_17_1, ct_17_2, ct_17_3, ct_17_4, ct_17_5⟩ := Go.Proofs.YtgimcnpkngpmiaaDoor.OPostmark.at_ M0.out lt_17
      obtain rfl := Option.some.inj (gt_17.out.symm.trans z_t_17)
      subst At_17
      have ltt_17 := cell_lt ct_17_0
      replace ct_17_0 := cell_below HBwt_7.out ct_17_0
      replace ct_17_1 := cell_below HBwt_7.out ct_17_1
      replace ct_17_2 := cell_below HBwt_7.out ct_17_2
      replace ct_17_3 := cell_below HBwt_7.out ct_17_3
      replace ct_17_4 := cell_below HBwt_7.out ct_17_4
      replace ct_17_5 := cell_below HBwt_7.out ct_17_5
      clear z_t_17
      have b0t_17 : (0 : Int) ≤ (nt_17 : Int) := by omega
      have b1t_17 : (nt_17 : Int) < ((list.length : Nat) : Int) := by omega
      have b2t_17 : ((nt_17 : Int)).toNat = nt_17 := by omega
      replace H := let_hid H
      obtain ⟨t_21, ht_21, H⟩ := H
      replace H := bind_hid H
      obtain ⟨t_22, qt_22, H⟩ := H
      go_wp2_with fail
      go_at_call 67
      refine (Go.Proofs.YtgimcnpkngpmiaaDoor.GsL1In.C (place) (0) (t_21)  _    qt_22).mono ?_
      rintro e_t_22 wt_22 ⟨rfl, bt_22⟩
      have HBwt_22 := Lib.hid (Below.step HBwt_7.out bt_22)
      replace ct_17_0 := cell_below bt_22 ct_17_0
      replace ct_17_1 := cell_below bt_22 ct_17_1
      replace ct_17_2 := cell_below bt_22 ct_17_2
      replace ct_17_3 := cell_below bt_22 ct_17_3
      replace ct_17_4 := cell_below bt_22 ct_17_4
      replace ct_17_5 := cell_below bt_22 ct_17_5
      clear bt_22
      cases t_22 with
      | false =>
        replace H := let_hid H
        obtain ⟨t_23, ht_23, H⟩ := H
        obtain rfl : t_23 = true := ht_23.symm
        replace H := app_hid H
        replace H := join_hid H
        replace H := ite_t H
        replace H := app_hid H
        replace H := ite_t H
        obtain ⟨w_t_35, hw_t_35⟩ : ∃ x, wt_22.alloc (.cells #[] 39) = x := ⟨_, rfl⟩
        have bw_t_35 : Below wt_22.heap.size wt_22 w_t_35 := by rw [← hw_t_35]; exact (Below.refl _ _).alloc (Nat.le_refl _) _
        have Ot_35 : Hid (w_t_35.ownsRow w.heap.size 39 6 (.slice (some ⟨wt_22.heap.size, 0, none⟩) 0 0) 0 []) := Lib.hid (by rw [← hw_t_35]; exact own_empty HBwt_22.out.size)
        have HBw_t_35 := Lib.hid (Below.step HBwt_22.out bw_t_35)
        have ct_17_0__354 := cell_below bw_t_35 ct_17_0
        have ct_17_1__355 := cell_below bw_t_35 ct_17_1
        have ct_17_2__356 := cell_below bw_t_35 ct_17_2
        have ct_17_3__357 := cell_below bw_t_35 ct_17_3
        have ct_17_4__358 := cell_below bw_t_35 ct_17_4
        have ct_17_5__359 := cell_below bw_t_35 ct_17_5
        clear bw_t_35
        cases ret_hid H
        go_wp2_with fail
        go_ret2
        exact ⟨(some ⟨wt_22.heap.size, 0, none⟩), 0, rfl, Ot_35.out, HBw_t_35.out⟩
      | true =>
        replace H := let_hid H
        obtain ⟨t_23, ht_23, H⟩ := H
        obtain rfl : t_23 = false := ht_23.symm
        replace H := app_hid H
        replace H := join_hid H
        replace H := ite_f H
        replace H := idx_hid H
        obtain ⟨nt_28, yt_28, et_28, lt_28, gt_28, H⟩ := H
        obtain rfl : nt_17 = nt_28 := by omega
        clear et_28
        obtain rfl := Option.some.inj (gt_17.out.symm.trans gt_28.out)
        clear gt_28 lt_28
        replace H := unPostmark_hid H
        replace H := idx_hid H
        obtain ⟨nt_32, yt_32, et_32, lt_32, gt_32, H⟩ := H
        subst et_32
        have rt_32 := byte_rule lt_32 gt_32.out
        have b0t_32 : (0 : Int) ≤ (nt_32 : Int) := by omega
        have b1t_32 : (nt_32 : Int) < (t_17_lost.size : Int) := by have := size_list t_17_lost; omega
        have b2t_32 : ((nt_32 : Int)).toNat = nt_32 := by omega
        have b3t_32 : nt_32 < t_17_lost.size := by have := size_list t_17_lost; omega
        replace H := let_hid H
        obtain ⟨t_32, ht_32, H⟩ := H
        replace H := let_hid H
        obtain ⟨t_33, ht_33, H⟩ := H
        replace H := app_hid H
        cases t_33 with
        | false =>
          replace H := ite_f H
          obtain ⟨w_t_38, hw_t_38⟩ : ∃ x, wt_22.alloc (.cells #[] 39) = x := ⟨_, rfl⟩
          have bw_t_38 : Below wt_22.heap.size wt_22 w_t_38 := by rw [← hw_t_38]; exact (Below.refl _ _).alloc (Nat.le_refl _) _
          have Ot_38 : Hid (w_t_38.ownsRow w.heap.size 39 6 (.slice (some ⟨wt_22.heap.size, 0, none⟩) 0 0) 0 []) := Lib.hid (by rw [← hw_t_38]; exact own_empty HBwt_22.out.size)
          have HBw_t_38 := Lib.hid (Below.step HBwt_22.out bw_t_38)
          have ct_17_0__360 := cell_below bw_t_38 ct_17_0
          have ct_17_1__361 := cell_below bw_t_38 ct_17_1
          have ct_17_2__362 := cell_below bw_t_38 ct_17_2
          have ct_17_3__363 := cell_below bw_t_38 ct_17_3
          have ct_17_4__364 := cell_below bw_t_38 ct_17_4
          have ct_17_5__365 := cell_below bw_t_38 ct_17_5
          clear bw_t_38
          replace H := guard_hid H
          obtain ⟨hlt_40, H⟩ := H
          replace H := let_hid H
          obtain ⟨t_40, ht_40, H⟩ := H
          have hht_40 := Lib.hid ht_40
          clear ht_40
          have hst_40 := HBw_t_38.out.size
          have Ct_40 := Lib.hid ((Cells.below M0.out HBw_t_38.out))
          go_wp2_with (at_builtin; refine append_spread rfl _ _ 27 rfl w.heap.size 39 i0_39 (.agg #[.int .i64 0, .string ByteArray.empty, .int .i64 0, .int .i64 0, .int .i64 0, .string ByteArray.empty]) 6 64 Tryd.underlying27 hi_39 hz0_39 hz1_39 hz2_39 rfl (by decide) (some ⟨wt_22.heap.size, 0, none⟩) 0 0 _ rfl Ot_38.out (some ⟨ab_t_17, ao_t_17, none⟩) list.length c0 (Go.Proofs.YtgimcnpkngpmiaaDoor.PPostmark.flat list) rfl Q0.out Ct_40.out (fun u hu => by obtain ⟨y_, _, hy_⟩ := List.mem_flatMap.1 hu; simp only [Go.Proofs.YtgimcnpkngpmiaaDoor.PPostmark.Postmark.cells, List.mem_cons, List.not_mem_nil, or_false] at hy_; rcases hy_ with rfl | rfl | rfl | rfl | rfl | rfl <;> rfl) (by unfold maxLen; simp only [List.length_nil] at hlt_40; omega) (by simp only [List.length_nil] at hlt_40; omega) hst_40 ?_; intro vt_40 wt_40 ot_40 gt_40 yt_40; obtain ⟨At_40, ct_40, rfl, pt_40⟩ := own_pushS (f := Go.Proofs.YtgimcnpkngpmiaaDoor.PPostmark.flat) hht_40.out (by simp [Go.Proofs.YtgimcnpkngpmiaaDoor.PPostmark.flat]) rfl ot_40; have Pt_40 := Lib.hid pt_40; have Yt_40 := Lib.hid yt_40; have Gt_40 := Lib.hid gt_40; clear ot_40 gt_40 pt_40 yt_40; refine stop_in ?_)
          refine stop_out ?_
          clear Ct_40
          have HBwt_40 := Lib.hid (HBw_t_38.out.grown Gt_40.out hst_40 (fun q hq => (Ot_38.out.lt q hq).1))
          clear hst_40
          replace ct_17_0__360 := cell_other ct_17_0__360 Gt_40.out (apart_old Ot_38.out ltt_17)
          replace ct_17_1__361 := cell_other ct_17_1__361 Gt_40.out (apart_old Ot_38.out ltt_17)
          replace ct_17_2__362 := cell_other ct_17_2__362 Gt_40.out (apart_old Ot_38.out ltt_17)
          replace ct_17_3__363 := cell_other ct_17_3__363 Gt_40.out (apart_old Ot_38.out ltt_17)
          replace ct_17_4__364 := cell_other ct_17_4__364 Gt_40.out (apart_old Ot_38.out ltt_17)
          replace ct_17_5__365 := cell_other ct_17_5__365 Gt_40.out (apart_old Ot_38.out ltt_17)
          clear ct_17_0 ct_17_1 ct_17_2 ct_17_3 ct_17_4 ct_17_5
          clear Ot_38 Yt_40 Gt_40
          replace H := idx_hid H
          obtain ⟨nt_44, yt_44, et_44, lt_44, gt_44, H⟩ := H
          obtain rfl : nt_17 = nt_44 := by omega
          clear et_44
          obtain ⟨t_44_id, t_44_town, t_44_kind_, t_44_first, t_44_last, t_44_lost⟩ := yt_44
          replace H := unPostmark_hid H
          obtain ⟨qt_44, Qt_44⟩ := own_some Pt_40.out (by omega)
          subst Qt_44
          obtain ⟨ab_t_44, ao_t_44, zt_44, At_44, z_t_44, ct_44_0, ct_44_1, ct_44_2, ct_44_3, ct_44_4, ct_44_5⟩ := Go.Proofs.YtgimcnpkngpmiaaDoor.OPostmark.at_ (own_cells Pt_40.out) (k := nt_17) (by omega)
          obtain rfl := Option.some.inj (gt_44.out.symm.trans z_t_44)
          simp only [Option.some.injEq, Addr.mk.injEq] at At_44
          obtain ⟨rfl, rfl, _⟩ := At_44
          clear z_t_44
          simp only [Nat.zero_add] at ct_44_0 ct_44_1 ct_44_2 ct_44_3 ct_44_4 ct_44_5
          have b0t_44 : (0 : Int) ≤ (nt_17 : Int) := by omega
          have b1t_44 : (nt_17 : Int) < ((t_40.length : Nat) : Int) := by omega
          have b2t_44 : ((nt_17 : Int)).toNat = nt_17 := by omega
          obtain ⟨w_p_46, hw_p_46⟩ : ∃ x, wt_40.alloc (.cells #[.int .i64 t_44_id, .string t_44_town, .int .i64 t_44_kind_, .int .i64 t_44_first, .int .i64 t_44_last, .string t_44_lost] 39) = x := ⟨_, rfl⟩
          have bw_p_46 : Below wt_40.heap.size wt_40 w_p_46 := by rw [← hw_p_46]; exact (Below.refl _ _).alloc (Nat.le_refl _) _
          have Dp_46_t_40 := Lib.hid (apart_fresh Pt_40.out)
          have HBw_p_46 := Lib.hid (Below.step HBwt_40.out bw_p_46)
          have ct_17_0__366 := cell_below bw_p_46 ct_17_0__360
          have ct_17_1__367 := cell_below bw_p_46 ct_17_1__361
          have ct_17_2__368 := cell_below bw_p_46 ct_17_2__362
          have ct_17_3__369 := cell_below bw_p_46 ct_17_3__363
          have ct_17_4__370 := cell_below bw_p_46 ct_17_4__364
          have ct_17_5__371 := cell_below bw_p_46 ct_17_5__365
          have ct_44_0__372 := cell_below bw_p_46 ct_44_0
          have ct_44_1__373 := cell_below bw_p_46 ct_44_1
          have ct_44_2__374 := cell_below bw_p_46 ct_44_2
          have ct_44_3__375 := cell_below bw_p_46 ct_44_3
          have ct_44_4__376 := cell_below bw_p_46 ct_44_4
          have ct_44_5__377 := cell_below bw_p_46 ct_44_5
          replace Pt_40 := Lib.hid (own_below Pt_40.out bw_p_46)
          clear bw_p_46
          have kp_46_0 : w_p_46.cell? ⟨wt_40.heap.size, 0, none⟩ = some (.int .i64 t_44_id) := by rw [← hw_p_46]; exact box_new _ _ _ 0 _ rfl
          have kp_46_1 : w_p_46.cell? ⟨wt_40.heap.size, 1, none⟩ = some (.string t_44_town) := by rw [← hw_p_46]; exact box_new _ _ _ 1 _ rfl
          have kp_46_2 : w_p_46.cell? ⟨wt_40.heap.size, 2, none⟩ = some (.int .i64 t_44_kind_) := by rw [← hw_p_46]; exact box_new _ _ _ 2 _ rfl
          have kp_46_3 : w_p_46.cell? ⟨wt_40.heap.size, 3, none⟩ = some (.int .i64 t_44_first) := by rw [← hw_p_46]; exact box_new _ _ _ 3 _ rfl
          have kp_46_4 : w_p_46.cell? ⟨wt_40.heap.size, 4, none⟩ = some (.int .i64 t_44_last) := by rw [← hw_p_46]; exact box_new _ _ _ 4 _ rfl
          have kp_46_5 : w_p_46.cell? ⟨wt_40.heap.size, 5, none⟩ = some (.string t_44_lost) := by rw [← hw_p_46]; exact box_new _ _ _ 5 _ rfl
          have Op_46 : Hid (w_p_46.ownsRow w.heap.size 39 6 (.slice (some ⟨wt_40.heap.size, 0, none⟩) 1 1) 1 [.int .i64 t_44_id, .string t_44_town, .int .i64 t_44_kind_, .int .i64 t_44_first, .int .i64 t_44_last, .string t_44_lost]) := Lib.hid (by rw [← hw_p_46]; exact own_laid (n := 1) HBwt_40.out.size rfl rfl (by unfold maxLen; omega))
          go_wp2_with fail
          clear ct_17_0__360 ct_17_1__361 ct_17_2__362 ct_17_3__363 ct_17_4__364 ct_17_5__365 ct_44_0 ct_44_1 ct_44_2 ct_44_3 ct_44_4 ct_44_5
          obtain ⟨Z6, hZ6⟩ : ∃ x, w_p_46.drew = x := ⟨_, rfl⟩
          have bd6 : Below w_p_46.heap.size w_p_46 Z6 := by rw [← hZ6]; exact (Below.refl _ _).drew
          have HBZ6 := Lib.hid (Below.step HBw_p_46.out bd6)
          replace ct_17_0__366 := cell_below bd6 ct_17_0__366
          replace ct_17_1__367 := cell_below bd6 ct_17_1__367
          replace ct_17_2__368 := cell_below bd6 ct_17_2__368
          replace ct_17_3__369 := cell_below bd6 ct_17_3__369
          replace ct_17_4__370 := cell_below bd6 ct_17_4__370
          replace ct_17_5__371 := cell_below bd6 ct_17_5__371
          replace ct_44_0__372 := cell_below bd6 ct_44_0__372
          replace ct_44_1__373 := cell_below bd6 ct_44_1__373
          replace ct_44_2__374 := cell_below bd6 ct_44_2__374
          replace ct_44_3__375 := cell_below bd6 ct_44_3__375
          replace ct_44_4__376 := cell_below bd6 ct_44_4__376
          replace ct_44_5__377 := cell_below bd6 ct_44_5__377
          replace kp_46_0 := cell_below bd6 kp_46_0
          replace kp_46_1 := cell_below bd6 kp_46_1
          replace kp_46_2 := cell_below bd6 kp_46_2
          replace kp_46_3 := cell_below bd6 kp_46_3
          replace kp_46_4 := cell_below bd6 kp_46_4
          replace kp_46_5 := cell_below bd6 kp_46_5
          replace Pt_40 := Lib.hid (own_below Pt_40.out bd6)
          replace Op_46 := Lib.hid (own_below Op_46.out bd6)
          clear bd6
          replace H := guard_hid H
          obtain ⟨hl_t_51, H⟩ := H
          replace H := let_hid H
          obtain ⟨t_51, ht_51, H⟩ := H
          have ct_51 := slice_to (P := Tryd.prog) (t := 9) (k := .i64) Tryd.underlying9 ht_51 hl_t_51
          clear hl_t_51
          have hht_51 := Lib.hid ht_51
          clear ht_51
          replace H := guard_hid H
          obtain ⟨hl_t_52, H⟩ := H
          replace H := let_hid H
          obtain ⟨t_52, ht_52, H⟩ := H
          have ct_52 := cat_rule (P := Tryd.prog) ht_52 hl_t_52
          clear hl_t_52
          have hht_52 := Lib.hid ht_52
          clear ht_52
          replace H := let_hid H
          obtain ⟨t_56, ht_56, H⟩ := H
          replace H := guard_hid H
          obtain ⟨hl_t_57, H⟩ := H
          replace H := let_hid H
          obtain ⟨t_57, ht_57, H⟩ := H
          have ct_57 := slice_from (P := Tryd.prog) (t := 9) (k := .i64) Tryd.underlying9 ht_57 hl_t_57
          clear hl_t_57
          have hht_57 := Lib.hid ht_57
          clear ht_57
          replace H := guard_hid H
          obtain ⟨hl_t_58, H⟩ := H
          replace H := let_hid H
          obtain ⟨t_58, ht_58, H⟩ := H
          have ct_58 := cat_rule (P := Tryd.prog) ht_58 hl_t_58
          clear hl_t_58
          have hht_58 := Lib.hid ht_58
          clear ht_58
          refine wp_region_still_tail 12 (by kernel_rfl) (by kernel_rfl) ?_
          simp only [List.take_succ_cons, List.take_zero, List.drop_succ_cons, List.drop_zero]
          change wpStill _ _ w_p_46.drew _ _ _
          rw [hZ6]
          repeat still_step
          refine wpStill_nil ?_
          change wpList _ _ _ _ _ w_p_46.drew
          rw [hZ6]
          clear hZ6
          obtain ⟨wb60_60, hwb60_60⟩ : ∃ x, (Z6).setCell ⟨wt_40.heap.size, 5, none⟩ (.string t_58) = x := ⟨_, rfl⟩
          have z0b60_60 := Op_46.out.frozenAt 5
          have Sb60_60 := Lib.hid (own_stores [(5, .string t_58)] Op_46.out)
          have Pb60_60 : Hid (wb60_60.ownsRow w.heap.size 39 6 (.slice (some ⟨wt_40.heap.size, 0, none⟩) 1 1) 1 [.int .i64 t_44_id, .string t_44_town, .int .i64 t_44_kind_, .int .i64 t_44_first, .int .i64 t_44_last, .string t_58]) := Lib.hid (by rw [← hwb60_60]; exact Sb60_60.out.1)
          have Gb60_60 : Hid (Z6.grownBy wb60_60 (Value.slice (some ⟨wt_40.heap.size, 0, none⟩) 1 1).ownBlock) := Lib.hid (by rw [← hwb60_60]; exact Sb60_60.out.2)
          have HBwb60_60 := Lib.hid (HBZ6.out.grown Gb60_60.out HBZ6.out.size (fun q hq => (Op_46.out.lt q hq).1))
          clear Sb60_60
          have ct_17_0__378 := cell_other ct_17_0__366 Gb60_60.out (apart_old Op_46.out ltt_17)
          have ct_17_1__379 := cell_other ct_17_1__367 Gb60_60.out (apart_old Op_46.out ltt_17)
          have ct_17_2__380 := cell_other ct_17_2__368 Gb60_60.out (apart_old Op_46.out ltt_17)
          have ct_17_3__381 := cell_other ct_17_3__369 Gb60_60.out (apart_old Op_46.out ltt_17)
          have ct_17_4__382 := cell_other ct_17_4__370 Gb60_60.out (apart_old Op_46.out ltt_17)
          have ct_17_5__383 := cell_other ct_17_5__371 Gb60_60.out (apart_old Op_46.out ltt_17)
          have ct_44_0__384 := cell_other ct_44_0__372 Gb60_60.out Dp_46_t_40.out
          have ct_44_1__385 := cell_other ct_44_1__373 Gb60_60.out Dp_46_t_40.out
          have ct_44_2__386 := cell_other ct_44_2__374 Gb60_60.out Dp_46_t_40.out
          have ct_44_3__387 := cell_other ct_44_3__375 Gb60_60.out Dp_46_t_40.out
          have ct_44_4__388 := cell_other ct_44_4__376 Gb60_60.out Dp_46_t_40.out
          have ct_44_5__389 := cell_other ct_44_5__377 Gb60_60.out Dp_46_t_40.out
          replace Pt_40 := Lib.hid (own_other Pt_40.out Gb60_60.out Dp_46_t_40.out)
          clear Op_46 Gb60_60
          have kp_46_0__390 : wb60_60.cell? ⟨wt_40.heap.size, 0, none⟩ = some (.int .i64 t_44_id) := Pb60_60.out.cells rfl 0 _ rfl
          have kp_46_1__391 : wb60_60.cell? ⟨wt_40.heap.size, 1, none⟩ = some (.string t_44_town) := Pb60_60.out.cells rfl 1 _ rfl
          have kp_46_2__392 : wb60_60.cell? ⟨wt_40.heap.size, 2, none⟩ = some (.int .i64 t_44_kind_) := Pb60_60.out.cells rfl 2 _ rfl
          have kp_46_3__393 : wb60_60.cell? ⟨wt_40.heap.size, 3, none⟩ = some (.int .i64 t_44_first) := Pb60_60.out.cells rfl 3 _ rfl
          have kp_46_4__394 : wb60_60.cell? ⟨wt_40.heap.size, 4, none⟩ = some (.int .i64 t_44_last) := Pb60_60.out.cells rfl 4 _ rfl
          have kp_46_5__395 : wb60_60.cell? ⟨wt_40.heap.size, 5, none⟩ = some (.string t_58) := Pb60_60.out.cells rfl 5 _ rfl
          replace H := idx_hid H
          obtain ⟨nt_64, yt_64, et_64, lt_64, gt_64, H⟩ := H
          obtain rfl : nt_17 = nt_64 := by omega
          clear et_64
          obtain rfl := Option.some.inj (gt_44.out.symm.trans gt_64.out)
          clear gt_64 lt_64
          replace H := unPostmark_hid H
          replace H := let_hid H
          obtain ⟨l65_65, hl65_65, H⟩ := H
          try simp only [Int.toNat_natCast] at hl65_65
          obtain ⟨wl65_65, hwl65_65⟩ : ∃ x, ((((((wb60_60).setCell ⟨qt_44, nt_17 * 6, none⟩ (.int .i64 t_44_id)).setCell ⟨qt_44, nt_17 * 6 + 1, none⟩ (.string t_44_town)).setCell ⟨qt_44, nt_17 * 6 + 2, none⟩ (.int .i64 t_44_kind_)).setCell ⟨qt_44, nt_17 * 6 + 3, none⟩ (.int .i64 t_44_first)).setCell ⟨qt_44, nt_17 * 6 + 4, none⟩ (.int .i64 t_44_last)).setCell ⟨qt_44, nt_17 * 6 + 5, none⟩ (.string t_58) = x := ⟨_, rfl⟩
          have z0l65_65 := Pt_40.out.frozenAt (nt_17 * 6)
          have z1l65_65 := Pt_40.out.frozenAt (nt_17 * 6 + 1)
          have z2l65_65 := Pt_40.out.frozenAt (nt_17 * 6 + 2)
          have z3l65_65 := Pt_40.out.frozenAt (nt_17 * 6 + 3)
          have z4l65_65 := Pt_40.out.frozenAt (nt_17 * 6 + 4)
          have z5l65_65 := Pt_40.out.frozenAt (nt_17 * 6 + 5)
          have Sl65_65 := Lib.hid (own_stores [(nt_17 * 6, .int .i64 t_44_id), (nt_17 * 6 + 1, .string t_44_town), (nt_17 * 6 + 2, .int .i64 t_44_kind_), (nt_17 * 6 + 3, .int .i64 t_44_first), (nt_17 * 6 + 4, .int .i64 t_44_last), (nt_17 * 6 + 5, .string t_58)] Pt_40.out)
          have nl65_65 : Hid (l65_65.length = t_40.length) := Lib.hid (by rw [← hl65_65, List.length_set])
          have Pl65_65 : Hid (wl65_65.ownsRow w.heap.size 39 6 (.slice (some ⟨qt_44, 0, none⟩) t_40.length ct_40) t_40.length (Go.Proofs.YtgimcnpkngpmiaaDoor.PPostmark.flat l65_65)) := Lib.hid (by have es_ := set_self gt_44.out; have e0_ := flat_set Go.Proofs.YtgimcnpkngpmiaaDoor.PPostmark.Postmark.cells 6 (fun _ => rfl) t_40 (nt_17) 0 (Go.Proofs.YtgimcnpkngpmiaaDoor.PPostmark.Postmark.mk t_44_id t_44_town t_44_kind_ t_44_first t_44_last t_44_lost) (Go.Proofs.YtgimcnpkngpmiaaDoor.PPostmark.Postmark.mk t_44_id t_44_town t_44_kind_ t_44_first t_44_last t_44_lost) (.int .i64 t_44_id) lt_44 (by decide) rfl; have e1_ := flat_set Go.Proofs.YtgimcnpkngpmiaaDoor.PPostmark.Postmark.cells 6 (fun _ => rfl) t_40 (nt_17) 1 (Go.Proofs.YtgimcnpkngpmiaaDoor.PPostmark.Postmark.mk t_44_id t_44_town t_44_kind_ t_44_first t_44_last t_44_lost) (Go.Proofs.YtgimcnpkngpmiaaDoor.PPostmark.Postmark.mk t_44_id t_44_town t_44_kind_ t_44_first t_44_last t_44_lost) (.string t_44_town) lt_44 (by decide) rfl; have e2_ := flat_set Go.Proofs.YtgimcnpkngpmiaaDoor.PPostmark.Postmark.cells 6 (fun _ => rfl) t_40 (nt_17) 2 (Go.Proofs.YtgimcnpkngpmiaaDoor.PPostmark.Postmark.mk t_44_id t_44_town t_44_kind_ t_44_first t_44_last t_44_lost) (Go.Proofs.YtgimcnpkngpmiaaDoor.PPostmark.Postmark.mk t_44_id t_44_town t_44_kind_ t_44_first t_44_last t_44_lost) (.int .i64 t_44_kind_) lt_44 (by decide) rfl; have e3_ := flat_set Go.Proofs.YtgimcnpkngpmiaaDoor.PPostmark.Postmark.cells 6 (fun _ => rfl) t_40 (nt_17) 3 (Go.Proofs.YtgimcnpkngpmiaaDoor.PPostmark.Postmark.mk t_44_id t_44_town t_44_kind_ t_44_first t_44_last t_44_lost) (Go.Proofs.YtgimcnpkngpmiaaDoor.PPostmark.Postmark.mk t_44_id t_44_town t_44_kind_ t_44_first t_44_last t_44_lost) (.int .i64 t_44_first) lt_44 (by decide) rfl; have e4_ := flat_set Go.Proofs.YtgimcnpkngpmiaaDoor.PPostmark.Postmark.cells 6 (fun _ => rfl) t_40 (nt_17) 4 (Go.Proofs.YtgimcnpkngpmiaaDoor.PPostmark.Postmark.mk t_44_id t_44_town t_44_kind_ t_44_first t_44_last t_44_lost) (Go.Proofs.YtgimcnpkngpmiaaDoor.PPostmark.Postmark.mk t_44_id t_44_town t_44_kind_ t_44_first t_44_last t_44_lost) (.int .i64 t_44_last) lt_44 (by decide) rfl; have e5_ := flat_set Go.Proofs.YtgimcnpkngpmiaaDoor.PPostmark.Postmark.cells 6 (fun _ => rfl) t_40 (nt_17) 5 (Go.Proofs.YtgimcnpkngpmiaaDoor.PPostmark.Postmark.mk t_44_id t_44_town t_44_kind_ t_44_first t_44_last t_44_lost) (Go.Proofs.YtgimcnpkngpmiaaDoor.PPostmark.Postmark.mk t_44_id t_44_town t_44_kind_ t_44_first t_44_last t_58) (.string t_58) lt_44 (by decide) rfl; rw [es_] at e0_; have e_ : ([(nt_17 * 6, .int .i64 t_44_id), (nt_17 * 6 + 1, .string t_44_town), (nt_17 * 6 + 2, .int .i64 t_44_kind_), (nt_17 * 6 + 3, .int .i64 t_44_first), (nt_17 * 6 + 4, .int .i64 t_44_last), (nt_17 * 6 + 5, .string t_58)] : List (Nat × Value)).foldl (fun xs p => xs.set p.1 p.2) (Go.Proofs.YtgimcnpkngpmiaaDoor.PPostmark.flat t_40) = (Go.Proofs.YtgimcnpkngpmiaaDoor.PPostmark.flat l65_65) := (by rw [← hl65_65]; show _ = List.flatMap Go.Proofs.YtgimcnpkngpmiaaDoor.PPostmark.Postmark.cells _; first | (rw [← e5_, ← e4_, ← e3_, ← e2_, ← e1_, ← e0_]; first | done | rfl) | (rw [← e5_, ← e4_, ← e3_, ← e2_, ← e1_, es_, ← e0_]; first | done | rfl)); rw [← hwl65_65, ← e_]; exact Sl65_65.out.1)
          have Gl65_65 : Hid (wb60_60.grownBy wl65_65 (Value.slice (some ⟨qt_44, 0, none⟩) t_40.length ct_40).ownBlock) := Lib.hid (by rw [← hwl65_65]; exact Sl65_65.out.2)
          have HBwl65_65 := Lib.hid (HBwb60_60.out.grown Gl65_65.out HBwb60_60.out.size (fun q hq => (Pt_40.out.lt q hq).1))
          have hhl65_65 := Lib.hid hl65_65
          clear hl65_65 Sl65_65
          have ct_17_0__396 := cell_other ct_17_0__378 Gl65_65.out (apart_old Pt_40.out ltt_17)
          have ct_17_1__397 := cell_other ct_17_1__379 Gl65_65.out (apart_old Pt_40.out ltt_17)
          have ct_17_2__398 := cell_other ct_17_2__380 Gl65_65.out (apart_old Pt_40.out ltt_17)
          have ct_17_3__399 := cell_other ct_17_3__381 Gl65_65.out (apart_old Pt_40.out ltt_17)
          have ct_17_4__400 := cell_other ct_17_4__382 Gl65_65.out (apart_old Pt_40.out ltt_17)
          have ct_17_5__401 := cell_other ct_17_5__383 Gl65_65.out (apart_old Pt_40.out ltt_17)
          have kp_46_0__402 := cell_other kp_46_0__390 Gl65_65.out (Apart.symm Dp_46_t_40.out)
          have kp_46_1__403 := cell_other kp_46_1__391 Gl65_65.out (Apart.symm Dp_46_t_40.out)
          have kp_46_2__404 := cell_other kp_46_2__392 Gl65_65.out (Apart.symm Dp_46_t_40.out)
          have kp_46_3__405 := cell_other kp_46_3__393 Gl65_65.out (Apart.symm Dp_46_t_40.out)
          have kp_46_4__406 := cell_other kp_46_4__394 Gl65_65.out (Apart.symm Dp_46_t_40.out)
          have kp_46_5__407 := cell_other kp_46_5__395 Gl65_65.out (Apart.symm Dp_46_t_40.out)
          replace Pb60_60 := Lib.hid (own_other Pb60_60.out Gl65_65.out (Apart.symm Dp_46_t_40.out))
          clear Pt_40 Gl65_65
          replace H := bind_hid H
          obtain ⟨t_67, qt_67, H⟩ := H
          go_wp2_with fail
          clear z0b60_60 ct_17_0__366 ct_17_1__367 ct_17_2__368 ct_17_3__369 ct_17_4__370 ct_17_5__371 ct_44_0__372 ct_44_1__373 ct_44_2__374 ct_44_3__375 ct_44_4__376 ct_44_5__377 kp_46_0 kp_46_1 kp_46_2 kp_46_3 kp_46_4 kp_46_5 z0l65_65 z1l65_65 z2l65_65 z3l65_65 z4l65_65 z5l65_65 ct_17_0__378 ct_17_1__379 ct_17_2__380 ct_17_3__381 ct_17_4__382 ct_17_5__383 ct_44_0__384 ct_44_1__385 ct_44_2__386 ct_44_3__387 ct_44_4__388 ct_44_5__389 kp_46_0__390 kp_46_1__391 kp_46_2__392 kp_46_3__393 kp_46_4__394 kp_46_5__395
          have hc_ := nl65_65.out
          have hv_ : (Value.slice (some ⟨qt_44, 0, none⟩) t_40.length ct_40 : Value) = Value.slice (some ⟨qt_44, 0, none⟩) l65_65.length ct_40 := by rw [hc_]
          try rw [hv_]
          replace Pl65_65 := Lib.hid (own_len hc_ Pl65_65.out)
          clear hc_ hv_
          go_wp2_with fail
          go_at_call 40
          refine (Go.Proofs.YtgimcnpkngpmiaaDoor.GsL11Good.C fuel (l65_65) (some ⟨qt_44, 0, none⟩) ct_40 _   (Lib.hid (own_cells Pl65_65.out)) (Lib.hid (own_max Pl65_65.out)) qt_67).mono ?_
          rintro e_t_67 wt_67 ⟨rfl, bt_67⟩
          have HBwt_67 := Lib.hid (Below.step HBwl65_65.out bt_67)
          replace ct_17_0__396 := cell_below bt_67 ct_17_0__396
          replace ct_17_1__397 := cell_below bt_67 ct_17_1__397
          replace ct_17_2__398 := cell_below bt_67 ct_17_2__398
          replace ct_17_3__399 := cell_below bt_67 ct_17_3__399
          replace ct_17_4__400 := cell_below bt_67 ct_17_4__400
          replace ct_17_5__401 := cell_below bt_67 ct_17_5__401
          replace kp_46_0__402 := cell_below bt_67 kp_46_0__402
          replace kp_46_1__403 := cell_below bt_67 kp_46_1__403
          replace kp_46_2__404 := cell_below bt_67 kp_46_2__404
          replace kp_46_3__405 := cell_below bt_67 kp_46_3__405
          replace kp_46_4__406 := cell_below bt_67 kp_46_4__406
          replace kp_46_5__407 := cell_below bt_67 kp_46_5__407
          replace Pl65_65 := Lib.hid (own_below Pl65_65.out bt_67)
          replace Pb60_60 := Lib.hid (own_below Pb60_60.out bt_67)
          clear bt_67
          cases t_67 with
          | false =>
            replace H := let_hid H
            obtain ⟨t_68, ht_68, H⟩ := H
            obtain rfl : t_68 = true := ht_68.symm
            replace H := ite_t H
            obtain ⟨w_t_69, hw_t_69⟩ : ∃ x, wt_67.alloc (.cells #[] 39) = x := ⟨_, rfl⟩
            have bw_t_69 : Below wt_67.heap.size wt_67 w_t_69 := by rw [← hw_t_69]; exact (Below.refl _ _).alloc (Nat.le_refl _) _
            have Ot_69 : Hid (w_t_69.ownsRow w.heap.size 39 6 (.slice (some ⟨wt_67.heap.size, 0, none⟩) 0 0) 0 []) := Lib.hid (by rw [← hw_t_69]; exact own_empty HBwt_67.out.size)
            have Dt_69_t_40 := Lib.hid (apart_fresh Pl65_65.out)
            have Dt_69_p_46 := Lib.hid (apart_box kp_46_0__402)
            have HBw_t_69 := Lib.hid (Below.step HBwt_67.out bw_t_69)
            have ct_17_0__408 := cell_below bw_t_69 ct_17_0__396
            have ct_17_1__409 := cell_below bw_t_69 ct_17_1__397
            have ct_17_2__410 := cell_below bw_t_69 ct_17_2__398
            have ct_17_3__411 := cell_below bw_t_69 ct_17_3__399
            have ct_17_4__412 := cell_below bw_t_69 ct_17_4__400
            have ct_17_5__413 := cell_below bw_t_69 ct_17_5__401
            have kp_46_0__414 := cell_below bw_t_69 kp_46_0__402
            have kp_46_1__415 := cell_below bw_t_69 kp_46_1__403
            have kp_46_2__416 := cell_below bw_t_69 kp_46_2__404
            have kp_46_3__417 := cell_below bw_t_69 kp_46_3__405
            have kp_46_4__418 := cell_below bw_t_69 kp_46_4__406
            have kp_46_5__419 := cell_below bw_t_69 kp_46_5__407
            replace Pl65_65 := Lib.hid (own_below Pl65_65.out bw_t_69)
            replace Pb60_60 := Lib.hid (own_below Pb60_60.out bw_t_69)
            clear bw_t_69
            cases ret_hid H
            go_wp2_with fail
            go_ret2
            exact ⟨(some ⟨wt_67.heap.size, 0, none⟩), 0, rfl, Ot_69.out, HBw_t_69.out⟩
          | true =>
            replace H := let_hid H
            obtain ⟨t_68, ht_68, H⟩ := H
            obtain rfl : t_68 = false := ht_68.symm
            replace H := ite_f H
            cases ret_hid H
            go_wp2_with fail
            go_ret2
            exact ⟨(some ⟨qt_44, 0, none⟩), ct_40, rfl, Pl65_65.out, HBwt_67.out⟩
        | true =>
          replace H := ite_t H
          obtain ⟨w_t_35, hw_t_35⟩ : ∃ x, wt_22.alloc (.cells #[] 39) = x := ⟨_, rfl⟩
          have bw_t_35 : Below wt_22.heap.size wt_22 w_t_35 := by rw [← hw_t_35]; exact (Below.refl _ _).alloc (Nat.le_refl _) _
          have Ot_35 : Hid (w_t_35.ownsRow w.heap.size 39 6 (.slice (some ⟨wt_22.heap.size, 0, none⟩) 0 0) 0 []) := Lib.hid (by rw [← hw_t_35]; exact own_empty HBwt_22.out.size)
          have HBw_t_35 := Lib.hid (Below.step HBwt_22.out bw_t_35)
          have ct_17_0__420 := cell_below bw_t_35 ct_17_0
          have ct_17_1__421 := cell_below bw_t_35 ct_17_1
          have ct_17_2__422 := cell_below bw_t_35 ct_17_2
          have ct_17_3__423 := cell_below bw_t_35 ct_17_3
          have ct_17_4__424 := cell_below bw_t_35 ct_17_4
          have ct_17_5__425 := cell_below bw_t_35 ct_17_5
          clear bw_t_35
          cases ret_hid H
          go_wp2_with fail
          go_ret2
          exact ⟨(some ⟨wt_22.heap.size, 0, none⟩), 0, rfl, Ot_35.out, HBw_t_35.out⟩
    | true =>
      replace H := ite_t H
      replace H := app_hid H
      replace H := join_hid H
      replace H := ite_t H
      replace H := app_hid H
      replace H := ite_t H
      obtain ⟨w_t_35, hw_t_35⟩ : ∃ x, wt_7.alloc (.cells #[] 39) = x := ⟨_, rfl⟩
      have bw_t_35 : Below wt_7.heap.size wt_7 w_t_35 := by rw [← hw_t_35]; exact (Below.refl _ _).alloc (Nat.le_refl _) _
      have Ot_35 : Hid (w_t_35.ownsRow w.heap.size 39 6 (.slice (some ⟨wt_7.heap.size, 0, none⟩) 0 0) 0 []) := Lib.hid (by rw [← hw_t_35]; exact own_empty HBwt_7.out.size)
      have HBw_t_35 := Lib.hid (Below.step HBwt_7.out bw_t_35)
      clear bw_t_35
      cases ret_hid H
      go_wp2_with fail
      go_ret2
      exact ⟨(some ⟨wt_7.heap.size, 0, none⟩), 0, rfl, Ot_35.out, HBw_t_35.out⟩
end Go.Proofs.YtgimcnpkngpmiaaDoor.GsLoseLetter

/- loop.example/g01062/laws.rMarks as a plain function, and the contract of the program's: where the plain one has an answer, the program has it. Conditions: slices read as lists. -/
namespace Go.Proofs.YtgimcnpkngpmiaaDoor.GlRMarks
set_option linter.unusedVariables false
set_option linter.unusedSimpArgs false
open Go.RowKit
open Go.Proofs.YtgimcnpkngpmiaaDoor.Rowed Go.Proofs.YtgimcnpkngpmiaaDoor.Turn Go.Proofs.YtgimcnpkngpmiaaDoor.Aid Go.Proofs.YtgimcnpkngpmiaaDoor.GoP Go.Proofs.YtgimcnpkngpmiaaDoor.GoM

def l0 (a : (List Go.Proofs.YtgimcnpkngpmiaaDoor.PPostmark.Postmark)) (b : (List Go.Proofs.YtgimcnpkngpmiaaDoor.PPostmark.Postmark)) (k0 : Nat) (s : Unit) (nx0 bk0 : Unit → Option (Bool)) : Option (Bool) :=
  
  Option.bind (idx a (k0 : Int)) fun (yt_14 : Go.Proofs.YtgimcnpkngpmiaaDoor.PPostmark.Postmark) =>
  unPostmark yt_14 fun (t_14_id : Int) (t_14_town : ByteArray) (t_14_kind_ : Int) (t_14_first : Int) (t_14_last : Int) (t_14_lost : ByteArray) =>
  Option.bind (idx b (k0 : Int)) fun (yt_18 : Go.Proofs.YtgimcnpkngpmiaaDoor.PPostmark.Postmark) =>
  unPostmark yt_18 fun (t_18_id : Int) (t_18_town : ByteArray) (t_18_kind_ : Int) (t_18_first : Int) (t_18_last : Int) (t_18_lost : ByteArray) =>
  letK (!(t_14_id == t_18_id && t_14_town.toList == t_18_town.toList && t_14_kind_ == t_18_kind_ && t_14_first == t_18_first && t_14_last == t_18_last && t_14_lost.toList == t_18_lost.toList)) fun (t_20 : Bool) =>
  iteK t_20
  (some false)
  (appK nx0 ())

def e0  (s : Unit) : Option (Bool) :=
  
  some true

def P (a : (List Go.Proofs.YtgimcnpkngpmiaaDoor.PPostmark.Postmark)) (b : (List Go.Proofs.YtgimcnpkngpmiaaDoor.PPostmark.Postmark)) : Option (Bool) :=
  letK ((a.length : Int) != (b.length : Int)) fun (t_5 : Bool) =>
  iteK t_5
  (some false)
  (cntK (l0 a b) (a.length) 0 () (e0 ))

set_option maxRecDepth 100000
theorem eqr_39 (x0 : Int) (x1 : ByteArray) (x2 : Int) (x3 : Int) (x4 : Int) (x5 : ByteArray) (y0 : Int) (y1 : ByteArray) (y2 : Int) (y3 : Int) (y4 : Int) (y5 : ByteArray) : ∀ W, (Op.equalIn 10000 39 (.agg #[Value.int IntKind.i64 x0, Value.string x1, Value.int IntKind.i64 x2, Value.int IntKind.i64 x3, Value.int IntKind.i64 x4, Value.string x5]) (.agg #[Value.int IntKind.i64 y0, Value.string y1, Value.int IntKind.i64 y2, Value.int IntKind.i64 y3, Value.int IntKind.i64 y4, Value.string y5])).run Tryd.prog W = .ok (x0 == y0 && x1.toList == y1.toList && x2 == y2 && x3 == y3 && x4 == y4 && x5.toList == y5.toList) W := by
  intro W
  rw [run_equalIn_agg W _ _ _ _ (by kernel_rfl) (by kernel_rfl)]
  obtain ⟨f, hf⟩ : ∃ f, (Tryd.prog.fieldsOf 39).toList = f := ⟨_, rfl⟩
  have : (Tryd.prog.fieldsOf 39).toList.map (fun f => (f.name, f.type, f.offset)) = [("Id", 3, 0), ("Town", 9, 1), ("Kind", 3, 2), ("First", 3, 3), ("Last", 3, 4), ("Lost", 9, 5)] := by kernel_rfl
  rw [hf] at this ⊢
  match f, this with
  | [f0, f1, f2, f3, f4, f5], h =>
    simp only [List.map_cons, List.map_nil, List.cons.injEq, Prod.mk.injEq, and_true] at h
    obtain ⟨⟨a0, b0, d0⟩, ⟨a1, b1, d1⟩, ⟨a2, b2, d2⟩, ⟨a3, b3, d3⟩, ⟨a4, b4, d4⟩, a5, b5, d5⟩ := h
    simp only [Op.eqFields, a0, b0, d0, a1, b1, d1, a2, b2, d2, a3, b3, d3, a4, b4, d4, a5, b5, d5]
    have p0 : ∀ (w : World) (x0 : Int) (x1 : ByteArray) (x2 : Int) (x3 : Int) (x4 : Int) (x5 : ByteArray), (part 3 #[Value.int IntKind.i64 x0, Value.string x1, Value.int IntKind.i64 x2, Value.int IntKind.i64 x3, Value.int IntKind.i64 x4, Value.string x5] 0).run Tryd.prog w = .ok (Value.int IntKind.i64 x0) w := fun w x0 x1 x2 x3 x4 x5 => run_part_plain w (by kernel_rfl) rfl
    have p1 : ∀ (w : World) (x0 : Int) (x1 : ByteArray) (x2 : Int) (x3 : Int) (x4 : Int) (x5 : ByteArray), (part 9 #[Value.int IntKind.i64 x0, Value.string x1, Value.int IntKind.i64 x2, Value.int IntKind.i64 x3, Value.int IntKind.i64 x4, Value.string x5] 1).run Tryd.prog w = .ok (Value.string x1) w := fun w x0 x1 x2 x3 x4 x5 => run_part_plain w (by kernel_rfl) rfl
    have p2 : ∀ (w : World) (x0 : Int) (x1 : ByteArray) (x2 : Int) (x3 : Int) (x4 : Int) (x5 : ByteArray), (part 3 #[Value.int IntKind.i64 x0, Value.string x1, Value.int IntKind.i64 x2, Value.int IntKind.i64 x3, Value.int IntKind.i64 x4, Value.string x5] 2).run Tryd.prog w = .ok (Value.int IntKind.i64 x2) w := fun w x0 x1 x2 x3 x4 x5 => run_part_plain w (by kernel_rfl) rfl
    have p3 : ∀ (w : World) (x0 : Int) (x1 : ByteArray) (x2 : Int) (x3 : Int) (x4 : Int) (x5 : ByteArray), (part 3 #[Value.int IntKind.i64 x0, Value.string x1, Value.int IntKind.i64 x2, Value.int IntKind.i64 x3, Value.int IntKind.i64 x4, Value.string x5] 3).run Tryd.prog w = .ok (Value.int IntKind.i64 x3) w := fun w x0 x1 x2 x3 x4 x5 => run_part_plain w (by kernel_rfl) rfl
    have p4 : ∀ (w : World) (x0 : Int) (x1 : ByteArray) (x2 : Int) (x3 : Int) (x4 : Int) (x5 : ByteArray), (part 3 #[Value.int IntKind.i64 x0, Value.string x1, Value.int IntKind.i64 x2, Value.int IntKind.i64 x3, Value.int IntKind.i64 x4, Value.string x5] 4).run Tryd.prog w = .ok (Value.int IntKind.i64 x4) w := fun w x0 x1 x2 x3 x4 x5 => run_part_plain w (by kernel_rfl) rfl
    have p5 : ∀ (w : World) (x0 : Int) (x1 : ByteArray) (x2 : Int) (x3 : Int) (x4 : Int) (x5 : ByteArray), (part 9 #[Value.int IntKind.i64 x0, Value.string x1, Value.int IntKind.i64 x2, Value.int IntKind.i64 x3, Value.int IntKind.i64 x4, Value.string x5] 5).run Tryd.prog w = .ok (Value.string x5) w := fun w x0 x1 x2 x3 x4 x5 => run_part_plain w (by kernel_rfl) rfl
    have e1 : ∀ (w : World) (x y : Int), (Op.equalIn 9999 3 (.int .i64 x) (.int .i64 y)).run Tryd.prog w = .ok (x == y) w := fun w x y => run_equalIn_int w 9998 3 .i64 .i64 x y Tryd.underlying3
    have e2 : ∀ (w : World) (x y : ByteArray), (Op.equalIn 9999 9 (.string x) (.string y)).run Tryd.prog w = .ok (x.toList == y.toList) w := fun w x y => run_equalIn_string w 9998 9 x y Tryd.underlying9
    rw [if_pos (by decide)]; rw [if_pos (by decide)]; rw [if_pos (by decide)]; rw [if_pos (by decide)]; rw [if_pos (by decide)]; rw [if_pos (by decide)]
    simp only [Sem.run_bind, p0, p1, p2, p3, p4, p5, e1, e2, Result.andThen_ok, Sem.run_ite, Sem.run_pure]
    cases x0 == y0 <;> cases x1.toList == y1.toList <;> cases x2 == y2 <;> cases x3 == y3 <;> cases x4 == y4 <;> cases x5.toList == y5.toList <;> rfl
theorem eqla_39 (x0 : Int) (x1 : ByteArray) (x2 : Int) (x3 : Int) (x4 : Int) (x5 : ByteArray) (y0 : Int) (y1 : ByteArray) (y2 : Int) (y3 : Int) (y4 : Int) (y5 : ByteArray) : ∀ W, (binOp .eql 39 (.agg #[Value.int IntKind.i64 x0, Value.string x1, Value.int IntKind.i64 x2, Value.int IntKind.i64 x3, Value.int IntKind.i64 x4, Value.string x5]) (.agg #[Value.int IntKind.i64 y0, Value.string y1, Value.int IntKind.i64 y2, Value.int IntKind.i64 y3, Value.int IntKind.i64 y4, Value.string y5])).run Tryd.prog W = .ok (.bool (x0 == y0 && x1.toList == y1.toList && x2 == y2 && x3 == y3 && x4 == y4 && x5.toList == y5.toList)) W := by
  intro W
  rw [run_eql_struct, eqr_39]; rfl
theorem neqa_39 (x0 : Int) (x1 : ByteArray) (x2 : Int) (x3 : Int) (x4 : Int) (x5 : ByteArray) (y0 : Int) (y1 : ByteArray) (y2 : Int) (y3 : Int) (y4 : Int) (y5 : ByteArray) : ∀ W, (binOp .neq 39 (.agg #[Value.int IntKind.i64 x0, Value.string x1, Value.int IntKind.i64 x2, Value.int IntKind.i64 x3, Value.int IntKind.i64 x4, Value.string x5]) (.agg #[Value.int IntKind.i64 y0, Value.string y1, Value.int IntKind.i64 y2, Value.int IntKind.i64 y3, Value.int IntKind.i64 y4, Value.string y5])).run Tryd.prog W = .ok (.bool (!(x0 == y0 && x1.toList == y1.toList && x2 == y2 && x3 == y3 && x4 == y4 && x5.toList == y5.toList))) W := by
  intro W
  rw [run_neq_struct, eqr_39]; rfl

set_option maxRecDepth 100000 in
set_option maxHeartbeats 2000000 in
theorem C (a : (List Go.Proofs.YtgimcnpkngpmiaaDoor.PPostmark.Postmark)) (b : (List Go.Proofs.YtgimcnpkngpmiaaDoor.PPostmark.Postmark)) (A0 : Option Addr) (c0 : Nat) (A1 : Option Addr) (c1 : Nat)  (w : World) (M0 : Hid (Cells w 6 A0 a.length (Go.Proofs.YtgimcnpkngpmiaaDoor.PPostmark.flat a))) (N0 : Hid (a.length ≤ 9223372036854775807)) (M1 : Hid (Cells w 6 A1 b.length (Go.Proofs.YtgimcnpkngpmiaaDoor.PPostmark.flat b))) (N1 : Hid (b.length ≤ 9223372036854775807))  {r : Bool} (H : Hid (P a b = some r)) :
    Calls Tryd.prog 23 #[.slice A0 a.length c0, .slice A1 b.length c1] w (Gives (.bool r) w) := by
  have HB := Lib.hid (Below.refl w.heap.size w)
  unfold P at H
  have N0o := N0.out
  have N1o := N1.out
  go_enter Tryd.func23, Tryd.ntmps23
  replace H := let_hid H
  obtain ⟨t_5, ht_5, H⟩ := H
  cases t_5 with
  | false =>
    have Hht_5 : Hid (a.length = b.length) := Lib.hid (by have := bne_eq_false_iff_eq.1 ht_5; omega)
    have nht_5 : (a.length == b.length) = true := beq_iff_eq.2 Hht_5.out
    replace H := ite_f H
    go_wp2_with fail
    go_loopg [5] (a.length) (fun m_ v5_ wr => ∃ (k0 : Nat) , k0 + m_ = a.length ∧ v5_ = .int .i64 (k0 : Int) ∧ Hid (cntK (l0 a b) m_ k0 () (e0 ) = some r) ∧ Hid (Below w.heap.size w wr))
    case atStart => exact ⟨0, by omega, rfl, H, HB⟩
    case round =>
      obtain ⟨k0, hkm0, rfl, H, HBwr0⟩ := hrel
      rename World => wr0
      cases gk with
      | zero =>
        obtain rfl : k0 = a.length := by omega
        have hc0 : decide (((a.length : Nat) : Int) < ((a.length : Nat) : Int)) = false := by simp
        replace H := cnt_zero H
        unfold e0 at H
        obtain rfl := ret_hid H
        go_wp2_with fail
        go_ret
        exact ⟨rfl, HBwr0.out⟩
      | succ m0 =>
        have hlt0 : k0 < a.length := by omega
        have hc0 : decide ((k0 : Int) < ((a.length : Nat) : Int)) = true := by simp; omega
        replace H := cnt_succ H
        unfold l0 at H
        go_wp2_with fail
        replace H := idx_hid H
        obtain ⟨nt_14, yt_14, et_14, lt_14, gt_14, H⟩ := H
        obtain rfl : k0 = nt_14 := by omega
        clear et_14
        obtain ⟨t_14_id, t_14_town, t_14_kind_, t_14_first, t_14_last, t_14_lost⟩ := yt_14
        replace H := unPostmark_hid H
        obtain ⟨ab_t_14, ao_t_14, zt_14, At_14, z_t_14, ct_14_0, ct_14_1, ct_14_2, ct_14_3, ct_14_4, ct_14_5⟩ := Go.Proofs.YtgimcnpkngpmiaaDoor.OPostmark.at_ M0.out lt_14
        obtain rfl := Option.some.inj (gt_14.out.symm.trans z_t_14)
        subst At_14
        have ltt_14 := cell_lt ct_14_0
        replace ct_14_0 := cell_below HBwr0.out ct_14_0
        replace ct_14_1 := cell_below HBwr0.out ct_14_1
        replace ct_14_2 := cell_below HBwr0.out ct_14_2
        replace ct_14_3 := cell_below HBwr0.out ct_14_3
        replace ct_14_4 := cell_below HBwr0.out ct_14_4
        replace ct_14_5 := cell_below HBwr0.out ct_14_5
        clear z_t_14
        have b0t_14 : (0 : Int) ≤ (k0 : Int) := by omega
        have b1t_14 : (k0 : Int) < ((a.length : Nat) : Int) := by omega
        have b2t_14 : ((k0 : Int)).toNat = k0 := by omega
        have Hct_14_0 := Lib.hid ct_14_0
        replace ct_14_0 := cell_regrown ct_14_0
        have Hct_14_1 := Lib.hid ct_14_1
        replace ct_14_1 := cell_regrown ct_14_1
        have Hct_14_2 := Lib.hid ct_14_2
        replace ct_14_2 := cell_regrown ct_14_2
        have Hct_14_3 := Lib.hid ct_14_3
        replace ct_14_3 := cell_regrown ct_14_3
        have Hct_14_4 := Lib.hid ct_14_4
        replace ct_14_4 := cell_regrown ct_14_4
        have Hct_14_5 := Lib.hid ct_14_5
        replace ct_14_5 := cell_regrown ct_14_5
        replace H := idx_hid H
        obtain ⟨nt_18, yt_18, et_18, lt_18, gt_18, H⟩ := H
        obtain rfl : k0 = nt_18 := by omega
        clear et_18
        obtain ⟨t_18_id, t_18_town, t_18_kind_, t_18_first, t_18_last, t_18_lost⟩ := yt_18
        replace H := unPostmark_hid H
        obtain ⟨ab_t_18, ao_t_18, zt_18, At_18, z_t_18, ct_18_0, ct_18_1, ct_18_2, ct_18_3, ct_18_4, ct_18_5⟩ := Go.Proofs.YtgimcnpkngpmiaaDoor.OPostmark.at_ M1.out lt_18
        obtain rfl := Option.some.inj (gt_18.out.symm.trans z_t_18)
        subst At_18
        have ltt_18 := cell_lt ct_18_0
        replace ct_18_0 := cell_below HBwr0.out ct_18_0
        replace ct_18_1 := cell_below HBwr0.out ct_18_1
        replace ct_18_2 := cell_below HBwr0.out ct_18_2
        replace ct_18_3 := cell_below HBwr0.out ct_18_3
        replace ct_18_4 := cell_below HBwr0.out ct_18_4
        replace ct_18_5 := cell_below HBwr0.out ct_18_5
        clear z_t_18
        have b0t_18 : (0 : Int) ≤ (k0 : Int) := by omega
        have b1t_18 : (k0 : Int) < ((b.length : Nat) : Int) := by omega
        have b2t_18 : ((k0 : Int)).toNat = k0 := by omega
        have Hct_18_0 := Lib.hid ct_18_0
        replace ct_18_0 := cell_regrown ct_18_0
        have Hct_18_1 := Lib.hid ct_18_1
        replace ct_18_1 := cell_regrown ct_18_1
        have Hct_18_2 := Lib.hid ct_18_2
        replace ct_18_2 := cell_regrown ct_18_2
        have Hct_18_3 := Lib.hid ct_18_3
        replace ct_18_3 := cell_regrown ct_18_3
        have Hct_18_4 := Lib.hid ct_18_4
        replace ct_18_4 := cell_regrown ct_18_4
        have Hct_18_5 := Lib.hid ct_18_5
        replace ct_18_5 := cell_regrown ct_18_5
        replace H := let_hid H
        obtain ⟨t_20, ht_20, H⟩ := H
        have ct_20 : ∀ W, (binOp .neq 39 (.agg #[.int .i64 t_14_id, .string t_14_town, .int .i64 t_14_kind_, .int .i64 t_14_first, .int .i64 t_14_last, .string t_14_lost]) (.agg #[.int .i64 t_18_id, .string t_18_town, .int .i64 t_18_kind_, .int .i64 t_18_first, .int .i64 t_18_last, .string t_18_lost])).run Tryd.prog W = .ok (.bool t_20) W := fun W => by rw [neqa_39, ht_20]
        refine wp_region_quiet_below (by kernel_rfl) (by kernel_rfl) ?_
        repeat (go_big_quiet_step (fail))
        refine wpQuiet_nil ?_
        intro Y6 hY6
        replace hY6 := below_class hY6
        replace ct_14_0 := Hct_14_0.out
        clear Hct_14_0
        replace ct_14_1 := Hct_14_1.out
        clear Hct_14_1
        replace ct_14_2 := Hct_14_2.out
        clear Hct_14_2
        replace ct_14_3 := Hct_14_3.out
        clear Hct_14_3
        replace ct_14_4 := Hct_14_4.out
        clear Hct_14_4
        replace ct_14_5 := Hct_14_5.out
        clear Hct_14_5
        replace ct_18_0 := Hct_18_0.out
        clear Hct_18_0
        replace ct_18_1 := Hct_18_1.out
        clear Hct_18_1
        replace ct_18_2 := Hct_18_2.out
        clear Hct_18_2
        replace ct_18_3 := Hct_18_3.out
        clear Hct_18_3
        replace ct_18_4 := Hct_18_4.out
        clear Hct_18_4
        replace ct_18_5 := Hct_18_5.out
        clear Hct_18_5
        have HBY6 := Lib.hid (Below.step HBwr0.out hY6)
        replace ct_14_0 := cell_below hY6 ct_14_0
        replace ct_14_1 := cell_below hY6 ct_14_1
        replace ct_14_2 := cell_below hY6 ct_14_2
        replace ct_14_3 := cell_below hY6 ct_14_3
        replace ct_14_4 := cell_below hY6 ct_14_4
        replace ct_14_5 := cell_below hY6 ct_14_5
        replace ct_18_0 := cell_below hY6 ct_18_0
        replace ct_18_1 := cell_below hY6 ct_18_1
        replace ct_18_2 := cell_below hY6 ct_18_2
        replace ct_18_3 := cell_below hY6 ct_18_3
        replace ct_18_4 := cell_below hY6 ct_18_4
        replace ct_18_5 := cell_below hY6 ct_18_5
        clear hY6
        cases t_20 with
        | false =>
          replace H := ite_f H
          replace H := app_hid H
          go_wp2_with fail
          go_roundg m0
          case measure => omega
          case rel => exact ⟨k0 + 1, by omega, by go_num, H, HBY6⟩
        | true =>
          replace H := ite_t H
          obtain rfl := ret_hid H
          go_wp2_with fail
          go_ret
          exact ⟨rfl, HBY6.out⟩
  | true =>
    have nht_5 : ¬ (a.length = b.length) := by have := bne_iff_ne.1 ht_5; omega
    replace H := ite_t H
    obtain rfl := ret_hid H
    go_wp2_with fail
    go_ret
    exact ⟨rfl, HB.out⟩
end Go.Proofs.YtgimcnpkngpmiaaDoor.GlRMarks

/- loop.example/g01062/impl.shownBy as a plain function, and the contract of the program's: where the plain one has an answer, the program has it. Conditions: slices read as lists. -/
namespace Go.Proofs.YtgimcnpkngpmiaaDoor.GiLoShownBy
set_option linter.unusedVariables false
set_option linter.unusedSimpArgs false
open Go.RowKit
open Go.Proofs.YtgimcnpkngpmiaaDoor.Rowed Go.Proofs.YtgimcnpkngpmiaaDoor.Turn Go.Proofs.YtgimcnpkngpmiaaDoor.Aid Go.Proofs.YtgimcnpkngpmiaaDoor.GoP Go.Proofs.YtgimcnpkngpmiaaDoor.GoM Go.Proofs.YtgimcnpkngpmiaaDoor.GoB

def l0 (p_lost : ByteArray) (k0 : Nat) (s : (List Int)) (nx0 bk0 : (List Int) → Option (ByteArray)) : Option (ByteArray) :=
  letK s fun shown_3l0 =>
  Option.bind (idx p_lost.toList (k0 : Int)) fun (yt_15 : UInt8) =>
  letK ((yt_15.toNat : Int)) fun (t_15 : Int) =>
  letK (t_15 == 120) fun (t_16 : Bool) =>
  iteK t_16
  (Option.bind (idx shown_3l0 (k0 : Int)) fun (yt_19 : Int) =>
  letK (shown_3l0.set k0 63) fun (l20_20 : (List Int)) =>
  appK nx0 (l20_20))
  (appK nx0 (shown_3l0))

def e0  (s : (List Int)) : Option (ByteArray) :=
  letK s fun shown_3l0 =>
  letK (Go.Proofs.YtgimcnpkngpmiaaDoor.GoB.strK shown_3l0) fun (t_24 : ByteArray) =>
  some t_24

def P (p : Go.Proofs.YtgimcnpkngpmiaaDoor.PPostmark.Postmark) : Option (ByteArray) :=
  unPostmark p fun (p_id : Int) (p_town : ByteArray) (p_kind_ : Int) (p_first : Int) (p_last : Int) (p_lost : ByteArray) =>
  guardK (p_town.size ≤ 1099511627776) <|
  letK (p_town.toList.map (fun b_ => (b_.toNat : Int))) fun (t_4 : (List Int)) =>
  cntK (l0 p_lost) (t_4.length) 0 (t_4) (e0 )

set_option maxRecDepth 100000 in
set_option maxHeartbeats 2000000 in
theorem C (p : Go.Proofs.YtgimcnpkngpmiaaDoor.PPostmark.Postmark)   (w : World)   {r : ByteArray} (H : Hid (P p = some r)) :
    Calls Tryd.prog 53 #[p.val] w (Gives (.string r) w) := by
  have HB := Lib.hid (Below.refl w.heap.size w)
  unfold P at H
  obtain ⟨p_id, p_town, p_kind_, p_first, p_last, p_lost⟩ := p
  replace H := unPostmark_hid H
  unfold Go.Proofs.YtgimcnpkngpmiaaDoor.PPostmark.Postmark.val
  go_enter Tryd.func53, Tryd.ntmps53
  obtain ⟨w_p_0, hw_p_0⟩ : ∃ x, w.alloc (.cells #[.int .i64 p_id, .string p_town, .int .i64 p_kind_, .int .i64 p_first, .int .i64 p_last, .string p_lost] 39) = x := ⟨_, rfl⟩
  have bw_p_0 : Below w.heap.size w w_p_0 := by rw [← hw_p_0]; exact (Below.refl _ _).alloc (Nat.le_refl _) _
  have HBw_p_0 := Lib.hid (Below.step HB.out bw_p_0)
  clear bw_p_0
  have kp_0_0 : w_p_0.cell? ⟨w.heap.size, 0, none⟩ = some (.int .i64 p_id) := by rw [← hw_p_0]; exact box_new _ _ _ 0 _ rfl
  have kp_0_1 : w_p_0.cell? ⟨w.heap.size, 1, none⟩ = some (.string p_town) := by rw [← hw_p_0]; exact box_new _ _ _ 1 _ rfl
  have kp_0_2 : w_p_0.cell? ⟨w.heap.size, 2, none⟩ = some (.int .i64 p_kind_) := by rw [← hw_p_0]; exact box_new _ _ _ 2 _ rfl
  have kp_0_3 : w_p_0.cell? ⟨w.heap.size, 3, none⟩ = some (.int .i64 p_first) := by rw [← hw_p_0]; exact box_new _ _ _ 3 _ rfl
  have kp_0_4 : w_p_0.cell? ⟨w.heap.size, 4, none⟩ = some (.int .i64 p_last) := by rw [← hw_p_0]; exact box_new _ _ _ 4 _ rfl
  have kp_0_5 : w_p_0.cell? ⟨w.heap.size, 5, none⟩ = some (.string p_lost) := by rw [← hw_p_0]; exact box_new _ _ _ 5 _ rfl
  replace H := guard_hid H
  obtain ⟨hnt_4, H⟩ := H
  replace H := let_hid H
  obtain ⟨t_4, ht_4, H⟩ := H
  have Dt_4_p_0 := Lib.hid (apart_box kp_0_0)
  obtain ⟨wt_4, ct_4, rt_4, ot_4, bt_4⟩ := Go.Proofs.YtgimcnpkngpmiaaDoor.GoB.conv_new (P := Tryd.prog) (w.heap.size) w_p_0 9 42 5 p_town Tryd.underlying9 Tryd.underlying42 Tryd.underlying5 HBw_p_0.out.size (by omega) ht_4
  have Ot_4 := Lib.hid ot_4
  clear ot_4
  have hht_4 := Lib.hid ht_4
  clear ht_4
  have HBwt_4 := Lib.hid (Below.step HBw_p_0.out bt_4)
  have kp_0_0__426 := cell_below bt_4 kp_0_0
  have kp_0_1__427 := cell_below bt_4 kp_0_1
  have kp_0_2__428 := cell_below bt_4 kp_0_2
  have kp_0_3__429 := cell_below bt_4 kp_0_3
  have kp_0_4__430 := cell_below bt_4 kp_0_4
  have kp_0_5__431 := cell_below bt_4 kp_0_5
  clear bt_4
  go_wp2_with fail
  clear kp_0_0 kp_0_1 kp_0_2 kp_0_3 kp_0_4 kp_0_5 rt_4
  have hb_0 : t_4.length ≤ 9223372036854775807 := own_max Ot_4.out
  go_wp2_with fail
  go_loopg [10] (t_4.length) (fun m_ v10_ wr => ∃ (k0 : Nat) (shown_3l0 : (List Int)), k0 + m_ = t_4.length ∧ v10_ = .int .i64 (k0 : Int) ∧ Hid (cntK (l0 p_lost) m_ k0 (shown_3l0) (e0 ) = some r) ∧ Hid (Below w.heap.size w wr) ∧ wr.cell? ⟨w.heap.size, 0, none⟩ = some (.int .i64 p_id) ∧ wr.cell? ⟨w.heap.size, 1, none⟩ = some (.string p_town) ∧ wr.cell? ⟨w.heap.size, 2, none⟩ = some (.int .i64 p_kind_) ∧ wr.cell? ⟨w.heap.size, 3, none⟩ = some (.int .i64 p_first) ∧ wr.cell? ⟨w.heap.size, 4, none⟩ = some (.int .i64 p_last) ∧ wr.cell? ⟨w.heap.size, 5, none⟩ = some (.string p_lost) ∧ Hid (Go.Proofs.YtgimcnpkngpmiaaDoor.GoB.ownsB wr w.heap.size 5 1 (.slice (some ⟨w_p_0.heap.size, 0, none⟩) t_4.length ct_4) t_4.length (Go.Proofs.YtgimcnpkngpmiaaDoor.GoB.u8s shown_3l0)) ∧ Hid (shown_3l0.length = t_4.length) ∧ Hid (Apart (some ⟨w_p_0.heap.size, 0, none⟩) (some ⟨w.heap.size, 0, none⟩)))
  case atStart => exact ⟨0, _, by omega, rfl, H, HBwt_4, kp_0_0__426, kp_0_1__427, kp_0_2__428, kp_0_3__429, kp_0_4__430, kp_0_5__431, Ot_4, Lib.hid (rfl), Lib.hid Dt_4_p_0.out⟩
  case round =>
    obtain ⟨k0, shown_3l0, hkm0, rfl, H, HBwr0, kp_0_0__426, kp_0_1__427, kp_0_2__428, kp_0_3__429, kp_0_4__430, kp_0_5__431, Oshown_3l0, hnshown_3l0, Dshown_3l0_p_0⟩ := hrel
    rename World => wr0
    cases gk with
    | zero =>
      obtain rfl : k0 = t_4.length := by omega
      have hc0 : decide (((t_4.length : Nat) : Int) < ((t_4.length : Nat) : Int)) = false := by simp
      replace H := cnt_zero H
      unfold e0 at H
      replace H := let_hid H
      obtain ⟨_, rfl, H⟩ := H
      replace H := let_hid H
      obtain ⟨t_24, ht_24, H⟩ := H
      have rt_24 := Go.Proofs.YtgimcnpkngpmiaaDoor.GoB.conv_back (P := Tryd.prog) Tryd.underlying42 Tryd.underlying5 Tryd.underlying9 Oshown_3l0.out ht_24
      have hht_24 := Lib.hid ht_24
      clear ht_24
      obtain rfl := ret_hid H
      go_wp2_with fail
      go_ret
      exact ⟨rfl, HBwr0.out⟩
    | succ m0 =>
      have hlt0 : k0 < t_4.length := by omega
      have hc0 : decide ((k0 : Int) < ((t_4.length : Nat) : Int)) = true := by simp; omega
      replace H := cnt_succ H
      unfold l0 at H
      replace H := let_hid H
      obtain ⟨_, rfl, H⟩ := H
      replace H := idx_hid H
      obtain ⟨nt_15, yt_15, et_15, lt_15, gt_15, H⟩ := H
      obtain rfl : k0 = nt_15 := by omega
      clear et_15
      have rt_15 := byte_rule lt_15 gt_15.out
      have b0t_15 : (0 : Int) ≤ (k0 : Int) := by omega
      have b1t_15 : (k0 : Int) < (p_lost.size : Int) := by have := size_list p_lost; omega
      have b2t_15 : ((k0 : Int)).toNat = k0 := by omega
      have b3t_15 : k0 < p_lost.size := by have := size_list p_lost; omega
      replace H := let_hid H
      obtain ⟨t_15, ht_15, H⟩ := H
      replace H := let_hid H
      obtain ⟨t_16, ht_16, H⟩ := H
      cases t_16 with
      | false =>
        replace H := ite_f H
        replace H := app_hid H
        go_wp2_with fail
        go_roundg m0
        case measure => omega
        case rel => exact ⟨k0 + 1, _, by omega, by go_num, H, HBwr0, kp_0_0__426, kp_0_1__427, kp_0_2__428, kp_0_3__429, kp_0_4__430, kp_0_5__431, Oshown_3l0, Lib.hid (hnshown_3l0.out), Lib.hid Dshown_3l0_p_0.out⟩
      | true =>
        replace H := ite_t H
        replace H := idx_hid H
        obtain ⟨nt_19, yt_19, et_19, lt_19, gt_19, H⟩ := H
        obtain rfl : k0 = nt_19 := by omega
        clear et_19
        have hqt_19 := hnshown_3l0.out
        obtain ⟨ab_t_19, ao_t_19, zt_19, At_19, z_t_19, ct_19_0⟩ := Go.Proofs.YtgimcnpkngpmiaaDoor.GoB.u8_at (own_cells Oshown_3l0.out) (k := k0) (by omega)
        obtain rfl := Option.some.inj (gt_19.out.symm.trans z_t_19)
        simp only [Option.some.injEq, Addr.mk.injEq] at At_19
        obtain ⟨rfl, rfl, _⟩ := At_19
        clear z_t_19
        simp only [Nat.zero_add] at ct_19_0
        have b0t_19 : (0 : Int) ≤ (k0 : Int) := by omega
        have b1t_19 : (k0 : Int) < ((t_4.length : Nat) : Int) := by omega
        have b2t_19 : ((k0 : Int)).toNat = k0 := by omega
        clear hqt_19
        replace H := let_hid H
        obtain ⟨l20_20, hl20_20, H⟩ := H
        try simp only [Int.toNat_natCast] at hl20_20
        obtain ⟨wl20_20, hwl20_20⟩ : ∃ x, (wr0).setCell ⟨w_p_0.heap.size, k0, none⟩ (.int .u8 63) = x := ⟨_, rfl⟩
        have z0l20_20 := Oshown_3l0.out.frozenAt (k0) (by have hz_ := lt_19; have hy_ := hnshown_3l0.out; omega)
        have Sl20_20 := Lib.hid (own_stores [(k0, .int .u8 63)] Oshown_3l0.out)
        have nl20_20 : Hid (l20_20.length = t_4.length) := Lib.hid (by rw [← hl20_20, List.length_set]; exact hnshown_3l0.out)
        have Pl20_20 : Hid (Go.Proofs.YtgimcnpkngpmiaaDoor.GoB.ownsB wl20_20 w.heap.size 5 1 (.slice (some ⟨w_p_0.heap.size, 0, none⟩) t_4.length ct_4) t_4.length (Go.Proofs.YtgimcnpkngpmiaaDoor.GoB.u8s l20_20)) := Lib.hid (by have e_ : ([(k0, .int .u8 63)] : List (Nat × Value)).foldl (fun xs p => xs.set p.1 p.2) (Go.Proofs.YtgimcnpkngpmiaaDoor.GoB.u8s shown_3l0) = (Go.Proofs.YtgimcnpkngpmiaaDoor.GoB.u8s l20_20) := (by rw [← hl20_20]; first | done | simp [Go.Proofs.YtgimcnpkngpmiaaDoor.GoB.u8s, List.map_set]); rw [← hwl20_20, ← e_]; exact Sl20_20.out.1)
        have Gl20_20 : Hid (wr0.grownBy wl20_20 (Value.slice (some ⟨w_p_0.heap.size, 0, none⟩) t_4.length ct_4).ownBlock) := Lib.hid (by rw [← hwl20_20]; exact Sl20_20.out.2)
        have HBwl20_20 := Lib.hid (HBwr0.out.grown Gl20_20.out HBwr0.out.size (fun q hq => (Oshown_3l0.out.lt q hq).1))
        have hhl20_20 := Lib.hid hl20_20
        clear hl20_20 Sl20_20
        have kp_0_0__432 := cell_other kp_0_0__426 Gl20_20.out Dshown_3l0_p_0.out
        have kp_0_1__433 := cell_other kp_0_1__427 Gl20_20.out Dshown_3l0_p_0.out
        have kp_0_2__434 := cell_other kp_0_2__428 Gl20_20.out Dshown_3l0_p_0.out
        have kp_0_3__435 := cell_other kp_0_3__429 Gl20_20.out Dshown_3l0_p_0.out
        have kp_0_4__436 := cell_other kp_0_4__430 Gl20_20.out Dshown_3l0_p_0.out
        have kp_0_5__437 := cell_other kp_0_5__431 Gl20_20.out Dshown_3l0_p_0.out
        clear Oshown_3l0 Gl20_20
        replace H := app_hid H
        go_wp2_with fail
        clear z0l20_20 kp_0_0__426 kp_0_1__427 kp_0_2__428 kp_0_3__429 kp_0_4__430 kp_0_5__431 ct_19_0
        go_roundg m0
        case measure => omega
        case rel => exact ⟨k0 + 1, _, by omega, by go_num, H, HBwl20_20, kp_0_0__432, kp_0_1__433, kp_0_2__434, kp_0_3__435, kp_0_4__436, kp_0_5__437, Pl20_20, Lib.hid (nl20_20.out), Lib.hid Dshown_3l0_p_0.out⟩
end Go.Proofs.YtgimcnpkngpmiaaDoor.GiLoShownBy

/- loop.example/g01062/impl.ShownBy as a plain function, and the contract of the program's: where the plain one has an answer, the program has it. Conditions: slices read as lists. -/
namespace Go.Proofs.YtgimcnpkngpmiaaDoor.GiShownBy
set_option linter.unusedVariables false
set_option linter.unusedSimpArgs false
open Go.RowKit
open Go.Proofs.YtgimcnpkngpmiaaDoor.Rowed Go.Proofs.YtgimcnpkngpmiaaDoor.Turn Go.Proofs.YtgimcnpkngpmiaaDoor.Aid Go.Proofs.YtgimcnpkngpmiaaDoor.GoP Go.Proofs.YtgimcnpkngpmiaaDoor.GoM

def P (p : Go.Proofs.YtgimcnpkngpmiaaDoor.PPostmark.Postmark) : Option (ByteArray × Bool) :=
  unPostmark p fun (p_id : Int) (p_town : ByteArray) (p_kind_ : Int) (p_first : Int) (p_last : Int) (p_lost : ByteArray) =>
  Option.bind (Go.Proofs.YtgimcnpkngpmiaaDoor.GiIsPostmark.P (Go.Proofs.YtgimcnpkngpmiaaDoor.PPostmark.Postmark.mk p_id p_town p_kind_ p_first p_last p_lost)) fun (t_4 : Bool) =>
  letK (!t_4) fun (t_5 : Bool) =>
  iteK t_5
  (some ((⟨#[]⟩ : ByteArray), false))
  (Option.bind (Go.Proofs.YtgimcnpkngpmiaaDoor.GiLoShownBy.P (Go.Proofs.YtgimcnpkngpmiaaDoor.PPostmark.Postmark.mk p_id p_town p_kind_ p_first p_last p_lost)) fun (t_9 : ByteArray) =>
  some (t_9, true))

set_option maxRecDepth 100000 in
set_option maxHeartbeats 2000000 in
theorem C (p : Go.Proofs.YtgimcnpkngpmiaaDoor.PPostmark.Postmark)   (w : World)   {r0 : ByteArray} {r1 : Bool} (H : Hid (P p = some (r0, r1))) :
    Calls Tryd.prog 24 #[p.val] w (Gives (.tuple #[.string r0, .bool r1]) w) := by
  have HB := Lib.hid (Below.refl w.heap.size w)
  unfold P at H
  obtain ⟨p_id, p_town, p_kind_, p_first, p_last, p_lost⟩ := p
  replace H := unPostmark_hid H
  unfold Go.Proofs.YtgimcnpkngpmiaaDoor.PPostmark.Postmark.val
  go_enter Tryd.func24, Tryd.ntmps24
  obtain ⟨w_p_0, hw_p_0⟩ : ∃ x, w.alloc (.cells #[.int .i64 p_id, .string p_town, .int .i64 p_kind_, .int .i64 p_first, .int .i64 p_last, .string p_lost] 39) = x := ⟨_, rfl⟩
  have bw_p_0 : Below w.heap.size w w_p_0 := by rw [← hw_p_0]; exact (Below.refl _ _).alloc (Nat.le_refl _) _
  have HBw_p_0 := Lib.hid (Below.step HB.out bw_p_0)
  clear bw_p_0
  have kp_0_0 : w_p_0.cell? ⟨w.heap.size, 0, none⟩ = some (.int .i64 p_id) := by rw [← hw_p_0]; exact box_new _ _ _ 0 _ rfl
  have kp_0_1 : w_p_0.cell? ⟨w.heap.size, 1, none⟩ = some (.string p_town) := by rw [← hw_p_0]; exact box_new _ _ _ 1 _ rfl
  have kp_0_2 : w_p_0.cell? ⟨w.heap.size, 2, none⟩ = some (.int .i64 p_kind_) := by rw [← hw_p_0]; exact box_new _ _ _ 2 _ rfl
  have kp_0_3 : w_p_0.cell? ⟨w.heap.size, 3, none⟩ = some (.int .i64 p_first) := by rw [← hw_p_0]; exact box_new _ _ _ 3 _ rfl
  have kp_0_4 : w_p_0.cell? ⟨w.heap.size, 4, none⟩ = some (.int .i64 p_last) := by rw [← hw_p_0]; exact box_new _ _ _ 4 _ rfl
  have kp_0_5 : w_p_0.cell? ⟨w.heap.size, 5, none⟩ = some (.string p_lost) := by rw [← hw_p_0]; exact box_new _ _ _ 5 _ rfl
  replace H := bind_hid H
  obtain ⟨t_4, qt_4, H⟩ := H
  go_wp2_with fail
  go_at_call 36
  refine (Go.Proofs.YtgimcnpkngpmiaaDoor.GiIsPostmark.C ((Go.Proofs.YtgimcnpkngpmiaaDoor.PPostmark.Postmark.mk p_id p_town p_kind_ p_first p_last p_lost))  _    qt_4).mono ?_
  rintro e_t_4 wt_4 ⟨rfl, bt_4⟩
  have HBwt_4 := Lib.hid (Below.step HBw_p_0.out bt_4)
  replace kp_0_0 := cell_below bt_4 kp_0_0
  replace kp_0_1 := cell_below bt_4 kp_0_1
  replace kp_0_2 := cell_below bt_4 kp_0_2
  replace kp_0_3 := cell_below bt_4 kp_0_3
  replace kp_0_4 := cell_below bt_4 kp_0_4
  replace kp_0_5 := cell_below bt_4 kp_0_5
  clear bt_4
  cases t_4 with
  | false =>
    replace H := let_hid H
    obtain ⟨t_5, ht_5, H⟩ := H
    obtain rfl : t_5 = true := ht_5.symm
    replace H := ite_t H
    cases ret_hid H
    go_wp2_with fail
    go_ret2
    exact ⟨rfl, HBwt_4.out⟩
  | true =>
    replace H := let_hid H
    obtain ⟨t_5, ht_5, H⟩ := H
    obtain rfl : t_5 = false := ht_5.symm
    replace H := ite_f H
    replace H := bind_hid H
    obtain ⟨t_9, qt_9, H⟩ := H
    go_wp2_with fail
    go_at_call 53
    refine (Go.Proofs.YtgimcnpkngpmiaaDoor.GiLoShownBy.C ((Go.Proofs.YtgimcnpkngpmiaaDoor.PPostmark.Postmark.mk p_id p_town p_kind_ p_first p_last p_lost))  _    qt_9).mono ?_
    rintro e_t_9 wt_9 ⟨rfl, bt_9⟩
    have HBwt_9 := Lib.hid (Below.step HBwt_4.out bt_9)
    replace kp_0_0 := cell_below bt_9 kp_0_0
    replace kp_0_1 := cell_below bt_9 kp_0_1
    replace kp_0_2 := cell_below bt_9 kp_0_2
    replace kp_0_3 := cell_below bt_9 kp_0_3
    replace kp_0_4 := cell_below bt_9 kp_0_4
    replace kp_0_5 := cell_below bt_9 kp_0_5
    clear bt_9
    cases ret_hid H
    go_wp2_with fail
    go_ret2
    exact ⟨rfl, HBwt_9.out⟩
end Go.Proofs.YtgimcnpkngpmiaaDoor.GiShownBy

/- strings.ReplaceAll of one sign by another as a plain function; the contract of the program's. No condition. -/
namespace Go.Proofs.YtgimcnpkngpmiaaDoor.GxStringsReplaceAll
set_option linter.unusedVariables false
open Go.RowKit
open Go.Proofs.YtgimcnpkngpmiaaDoor.Turn
def putB (c d b : UInt8) : UInt8 := if b = c then d else b
theorem rep_map (c d : UInt8) : ∀ s : List UInt8, Lib.replaceK [c] [d] (s.count c) s = s.map (putB c d) := by
  intro s
  induction s with
  | nil => rfl
  | cons b l ih =>
    by_cases hb : b = c
    · subst hb
      have hi : Lib.index (b :: l) [b] = (0 : Nat) := by unfold Lib.index; simp
      rw [List.count_cons_self, Lib.replaceK_hit _ _ _ _ 0 hi]
      simp only [List.take_zero, List.nil_append, List.singleton_append, Nat.zero_add, List.length_singleton, List.drop_succ_cons, List.drop_zero, List.map_cons]
      rw [ih]; simp [putB]
    · rw [List.count_cons_of_ne (fun h => hb h), List.map_cons]
      have hp : putB c d b = b := by simp [putB, hb]
      rw [hp, ← ih]
      cases hk : l.count c with
      | zero => rfl
      | succ k =>
        obtain ⟨i, hi⟩ := Lib.index_of_count (s := l) (old := [c]) (by rw [Lib.count_one]; omega)
        have hi2 : Lib.index (b :: l) [c] = (i + 1 : Nat) := by
          unfold Lib.index
          have hne : ¬ c = b := fun h => hb h.symm
          rw [if_neg (by simp [hne]), hi, if_neg (by simp)]; rfl
        rw [Lib.replaceK_hit _ _ _ _ _ hi2, Lib.replaceK_hit _ _ _ _ _ hi]
        simp
theorem replaceAll_map {c d : UInt8} (h : c ≠ d) (s : List UInt8) : Lib.replaceAll s [c] [d] = s.map (putB c d) := by
  unfold Lib.replaceAll Lib.replace Lib.replaceNum
  rw [if_neg (by simp [h]), if_pos (Or.inl (by omega)), Lib.count_one, rep_map]
def P (s old new : ByteArray) : Option ByteArray := match old.data.toList, new.data.toList with
  | [c], [d] => if c ≠ d ∧ s.size < 4294967281 then some ⟨(s.data.toList.map (putB c d)).toArray⟩ else none
  | _, _ => none
theorem C (s old new : ByteArray) (w : World) (HT : Hid (Go.Proofs.YtgimcnpkngpmiaaDoor.TabM.Tab w)) {r : ByteArray} (H : Hid (P s old new = some r)) : Calls Tryd.prog 81 #[.string s, .string old, .string new] w (Gives (.string r) w) := by
  have h : P s old new = some r := H
  unfold P at h
  split at h
  · rename_i c d hc hd
    by_cases hp : c ≠ d ∧ s.size < 4294967281
    · rw [if_pos hp] at h
      obtain rfl := Option.some.inj h
      obtain ⟨m, hm⟩ := HT.out
      have h1 : old.size = 1 := by have : old.data.toList.length = 1 := by rw [hc]; rfl
                                   exact this
      have h2 : new.size = 1 := by have : new.data.toList.length = 1 := by rw [hd]; rfl
                                   exact this
      have hcb : Lib.countB s old ≤ s.size := by
        have e1 : Lib.countB s old = Lib.count s.data.toList old.data.toList := rfl
        have e2 : s.data.toList.length = s.size := rfl
        rw [e1, hc, Lib.count_one, ← e2]
        exact List.count_le_length
      refine (Tryd.strings_ReplaceAll s old new m w hp.2 hm (by omega) (by rw [h2]; omega)).mono ?_
      rintro e w' ⟨rfl, hb⟩
      rw [hc, hd, replaceAll_map hp.1]
      exact ⟨rfl, hb⟩
    · rw [if_neg hp] at h; simp at h
  · simp at h
end Go.Proofs.YtgimcnpkngpmiaaDoor.GxStringsReplaceAll

/- loop.example/g01062/impl.isReading as a plain function, and the contract of the program's: where the plain one has an answer, the program has it. Conditions: slices read as lists. -/
namespace Go.Proofs.YtgimcnpkngpmiaaDoor.GiIsReading
set_option linter.unusedVariables false
set_option linter.unusedSimpArgs false
open Go.RowKit
open Go.Proofs.YtgimcnpkngpmiaaDoor.Rowed Go.Proofs.YtgimcnpkngpmiaaDoor.Turn Go.Proofs.YtgimcnpkngpmiaaDoor.Aid Go.Proofs.YtgimcnpkngpmiaaDoor.GoP Go.Proofs.YtgimcnpkngpmiaaDoor.GoM Go.Proofs.YtgimcnpkngpmiaaDoor.TabM

def P (s_0 : ByteArray) : Option (Bool) :=
  Option.bind (Go.Proofs.YtgimcnpkngpmiaaDoor.GxStringsReplaceAll.P s_0 (⟨#[63]⟩ : ByteArray) (⟨#[97]⟩ : ByteArray)) fun (t_2 : ByteArray) =>
  Option.bind (Go.Proofs.YtgimcnpkngpmiaaDoor.GiIsWord.P t_2) fun (t_3 : Bool) =>
  some t_3

set_option maxRecDepth 100000 in
set_option maxHeartbeats 2000000 in
theorem C (s_0 : ByteArray)   (w : World) (HT : Hid (Tab w))   {r : Bool} (H : Hid (P s_0 = some r)) :
    Calls Tryd.prog 46 #[.string s_0] w (Gives (.bool r) w) := by
  have HB := Lib.hid (Below.refl w.heap.size w)
  unfold P at H
  go_enter Tryd.func46, Tryd.ntmps46
  replace H := bind_hid H
  obtain ⟨t_2, qt_2, H⟩ := H
  go_wp2_with fail
  go_at_call 81
  refine (Go.Proofs.YtgimcnpkngpmiaaDoor.GxStringsReplaceAll.C (s_0) ((⟨#[63]⟩ : ByteArray)) ((⟨#[97]⟩ : ByteArray))  _ (tab_below HB.out HT)   qt_2).mono ?_
  rintro e_t_2 wt_2 ⟨rfl, bt_2⟩
  have HBwt_2 := Lib.hid (Below.step HB.out bt_2)
  clear bt_2
  replace H := bind_hid H
  obtain ⟨t_3, qt_3, H⟩ := H
  go_wp2_with fail
  go_at_call 78
  refine (Go.Proofs.YtgimcnpkngpmiaaDoor.GiIsWord.C (t_2)  _    qt_3).mono ?_
  rintro e_t_3 wt_3 ⟨rfl, bt_3⟩
  have HBwt_3 := Lib.hid (Below.step HBwt_2.out bt_3)
  clear bt_3
  obtain rfl := ret_hid H
  go_wp2_with fail
  go_ret
  exact ⟨rfl, HBwt_3.out⟩
end Go.Proofs.YtgimcnpkngpmiaaDoor.GiIsReading

/- loop.example/g01062/impl.wasUsedOn as a plain function, and the contract of the program's: where the plain one has an answer, the program has it. Conditions: slices read as lists. -/
namespace Go.Proofs.YtgimcnpkngpmiaaDoor.GiWasUsedOn
set_option linter.unusedVariables false
set_option linter.unusedSimpArgs false
open Go.RowKit
open Go.Proofs.YtgimcnpkngpmiaaDoor.Rowed Go.Proofs.YtgimcnpkngpmiaaDoor.Turn Go.Proofs.YtgimcnpkngpmiaaDoor.Aid Go.Proofs.YtgimcnpkngpmiaaDoor.GoP Go.Proofs.YtgimcnpkngpmiaaDoor.GoM

def P (p : Go.Proofs.YtgimcnpkngpmiaaDoor.PPostmark.Postmark) (day : Int) : Option (Bool) :=
  unPostmark p fun (p_id : Int) (p_town : ByteArray) (p_kind_ : Int) (p_first : Int) (p_last : Int) (p_lost : ByteArray) =>
  Option.bind (Go.Proofs.YtgimcnpkngpmiaaDoor.GiWithin.P day p_first p_last) fun (t_7 : Bool) =>
  some t_7

set_option maxRecDepth 100000 in
set_option maxHeartbeats 2000000 in
theorem C (p : Go.Proofs.YtgimcnpkngpmiaaDoor.PPostmark.Postmark) (day : Int)   (w : World)   {r : Bool} (H : Hid (P p day = some r)) :
    Calls Tryd.prog 51 #[p.val, .int .i64 day] w (Gives (.bool r) w) := by
  have HB := Lib.hid (Below.refl w.heap.size w)
  unfold P at H
  obtain ⟨p_id, p_town, p_kind_, p_first, p_last, p_lost⟩ := p
  replace H := unPostmark_hid H
  unfold Go.Proofs.YtgimcnpkngpmiaaDoor.PPostmark.Postmark.val
  go_enter Tryd.func51, Tryd.ntmps51
  obtain ⟨w_p_0, hw_p_0⟩ : ∃ x, w.alloc (.cells #[.int .i64 p_id, .string p_town, .int .i64 p_kind_, .int .i64 p_first, .int .i64 p_last, .string p_lost] 39) = x := ⟨_, rfl⟩
  have bw_p_0 : Below w.heap.size w w_p_0 := by rw [← hw_p_0]; exact (Below.refl _ _).alloc (Nat.le_refl _) _
  have HBw_p_0 := Lib.hid (Below.step HB.out bw_p_0)
  clear bw_p_0
  have kp_0_0 : w_p_0.cell? ⟨w.heap.size, 0, none⟩ = some (.int .i64 p_id) := by rw [← hw_p_0]; exact box_new _ _ _ 0 _ rfl
  have kp_0_1 : w_p_0.cell? ⟨w.heap.size, 1, none⟩ = some (.string p_town) := by rw [← hw_p_0]; exact box_new _ _ _ 1 _ rfl
  have kp_0_2 : w_p_0.cell? ⟨w.heap.size, 2, none⟩ = some (.int .i64 p_kind_) := by rw [← hw_p_0]; exact box_new _ _ _ 2 _ rfl
  have kp_0_3 : w_p_0.cell? ⟨w.heap.size, 3, none⟩ = some (.int .i64 p_first) := by rw [← hw_p_0]; exact box_new _ _ _ 3 _ rfl
  have kp_0_4 : w_p_0.cell? ⟨w.heap.size, 4, none⟩ = some (.int .i64 p_last) := by rw [← hw_p_0]; exact box_new _ _ _ 4 _ rfl
  have kp_0_5 : w_p_0.cell? ⟨w.heap.size, 5, none⟩ = some (.string p_lost) := by rw [← hw_p_0]; exact box_new _ _ _ 5 _ rfl
  replace H := bind_hid H
  obtain ⟨t_7, qt_7, H⟩ := H
  go_wp2_with fail
  go_at_call 64
  refine (Go.Proofs.YtgimcnpkngpmiaaDoor.GiWithin.C (day) (p_first) (p_last)  _    qt_7).mono ?_
  rintro e_t_7 wt_7 ⟨rfl, bt_7⟩
  have HBwt_7 := Lib.hid (Below.step HBw_p_0.out bt_7)
  replace kp_0_0 := cell_below bt_7 kp_0_0
  replace kp_0_1 := cell_below bt_7 kp_0_1
  replace kp_0_2 := cell_below bt_7 kp_0_2
  replace kp_0_3 := cell_below bt_7 kp_0_3
  replace kp_0_4 := cell_below bt_7 kp_0_4
  replace kp_0_5 := cell_below bt_7 kp_0_5
  clear bt_7
  obtain rfl := ret_hid H
  go_wp2_with fail
  go_ret
  exact ⟨rfl, HBwt_7.out⟩
end Go.Proofs.YtgimcnpkngpmiaaDoor.GiWasUsedOn

/- loop.example/g01062/impl.readsAs as a plain function, and the contract of the program's: where the plain one has an answer, the program has it. Conditions: slices read as lists. -/
namespace Go.Proofs.YtgimcnpkngpmiaaDoor.GiReadsAs
set_option linter.unusedVariables false
set_option linter.unusedSimpArgs false
open Go.RowKit
open Go.Proofs.YtgimcnpkngpmiaaDoor.Rowed Go.Proofs.YtgimcnpkngpmiaaDoor.Turn Go.Proofs.YtgimcnpkngpmiaaDoor.Aid Go.Proofs.YtgimcnpkngpmiaaDoor.GoP Go.Proofs.YtgimcnpkngpmiaaDoor.GoM

def l0 (a : ByteArray) (b : ByteArray) (k0 : Nat) (s : Unit) (nx0 bk0 : Unit → Option (Bool)) : Option (Bool) :=
  
  Option.bind (idx a.toList (k0 : Int)) fun (yt_15 : UInt8) =>
  letK ((yt_15.toNat : Int)) fun (t_15 : Int) =>
  Option.bind (idx b.toList (k0 : Int)) fun (yt_18 : UInt8) =>
  letK ((yt_18.toNat : Int)) fun (t_18 : Int) =>
  letK (t_15 != t_18) fun (t_19 : Bool) =>
  joinK (fun (t_25 : Bool) =>
  joinK (fun (t_31 : Bool) =>
  iteK t_31
  (some false)
  (appK nx0 ())) fun jt_31 => iteK t_25 (Option.bind (idx b.toList (k0 : Int)) fun (yt_29 : UInt8) =>
  letK ((yt_29.toNat : Int)) fun (t_29 : Int) =>
  letK (t_29 != 63) fun (t_30 : Bool) =>
  appK jt_31 t_30) (appK jt_31 false)) fun jt_25 => iteK t_19 (Option.bind (idx a.toList (k0 : Int)) fun (yt_23 : UInt8) =>
  letK ((yt_23.toNat : Int)) fun (t_23 : Int) =>
  letK (t_23 != 63) fun (t_24 : Bool) =>
  appK jt_25 t_24) (appK jt_25 false)

def e0  (s : Unit) : Option (Bool) :=
  
  some true

def P (a : ByteArray) (b : ByteArray) : Option (Bool) :=
  letK ((a.size : Int) != (b.size : Int)) fun (t_5 : Bool) =>
  iteK t_5
  (some false)
  (guardK (a.size ≤ 9223372036854775807) <|
  cntK (l0 a b) (a.size) 0 () (e0 ))

set_option maxRecDepth 100000 in
set_option maxHeartbeats 2000000 in
theorem C (a : ByteArray) (b : ByteArray)   (w : World)   {r : Bool} (H : Hid (P a b = some r)) :
    Calls Tryd.prog 52 #[.string a, .string b] w (Gives (.bool r) w) := by
  have HB := Lib.hid (Below.refl w.heap.size w)
  unfold P at H
  go_enter Tryd.func52, Tryd.ntmps52
  replace H := let_hid H
  obtain ⟨t_5, ht_5, H⟩ := H
  cases t_5 with
  | false =>
    have Hht_5 : Hid (a.size = b.size) := Lib.hid (by have := bne_eq_false_iff_eq.1 ht_5; omega)
    have nht_5 : (a.size == b.size) = true := beq_iff_eq.2 Hht_5.out
    replace H := ite_f H
    replace H := guard_hid H
    obtain ⟨hg0, H⟩ := H
    go_wp2_with fail
    go_loopg [13] (a.size) (fun m_ v13_ wr => ∃ (k0 : Nat) , k0 + m_ = a.size ∧ v13_ = .int .i64 (k0 : Int) ∧ Hid (cntK (l0 a b) m_ k0 () (e0 ) = some r) ∧ Hid (Below w.heap.size w wr))
    case atStart => exact ⟨0, by omega, rfl, H, HB⟩
    case round =>
      obtain ⟨k0, hkm0, rfl, H, HBwr0⟩ := hrel
      rename World => wr0
      cases gk with
      | zero =>
        obtain rfl : k0 = a.size := by omega
        have hc0 : decide (((a.size : Nat) : Int) < ((a.size : Nat) : Int)) = false := by simp
        replace H := cnt_zero H
        unfold e0 at H
        obtain rfl := ret_hid H
        go_wp2_with fail
        go_ret
        exact ⟨rfl, HBwr0.out⟩
      | succ m0 =>
        have hlt0 : k0 < a.size := by omega
        have hc0 : decide ((k0 : Int) < ((a.size : Nat) : Int)) = true := by simp; omega
        replace H := cnt_succ H
        unfold l0 at H
        go_wp2_with fail
        replace H := idx_hid H
        obtain ⟨nt_15, yt_15, et_15, lt_15, gt_15, H⟩ := H
        obtain rfl : k0 = nt_15 := by omega
        clear et_15
        have rt_15 := byte_rule lt_15 gt_15.out
        have b0t_15 : (0 : Int) ≤ (k0 : Int) := by omega
        have b1t_15 : (k0 : Int) < (a.size : Int) := by have := size_list a; omega
        have b2t_15 : ((k0 : Int)).toNat = k0 := by omega
        have b3t_15 : k0 < a.size := by have := size_list a; omega
        replace H := let_hid H
        obtain ⟨t_15, ht_15, H⟩ := H
        replace H := idx_hid H
        obtain ⟨nt_18, yt_18, et_18, lt_18, gt_18, H⟩ := H
        obtain rfl : k0 = nt_18 := by omega
        clear et_18
        have rt_18 := byte_rule lt_18 gt_18.out
        have b0t_18 : (0 : Int) ≤ (k0 : Int) := by omega
        have b1t_18 : (k0 : Int) < (b.size : Int) := by have := size_list b; omega
        have b2t_18 : ((k0 : Int)).toNat = k0 := by omega
        have b3t_18 : k0 < b.size := by have := size_list b; omega
        replace H := let_hid H
        obtain ⟨t_18, ht_18, H⟩ := H
        replace H := let_hid H
        obtain ⟨t_19, ht_19, H⟩ := H
        replace H := join_hid H
        cases t_19 with
        | false =>
          replace H := ite_f H
          replace H := app_hid H
          replace H := join_hid H
          replace H := ite_f H
          replace H := app_hid H
          refine wp_region_quiet_below (by kernel_rfl) (by kernel_rfl) ?_
          repeat (go_big_quiet_step (fail))
          refine wpQuiet_nil ?_
          intro Y6 hY6
          replace hY6 := below_class hY6
          have HBY6 := Lib.hid (Below.step HBwr0.out hY6)
          clear hY6
          replace H := ite_f H
          replace H := app_hid H
          go_wp2_with fail
          go_roundg m0
          case measure => omega
          case rel => exact ⟨k0 + 1, by omega, by go_num, H, HBY6⟩
        | true =>
          replace H := ite_t H
          replace H := idx_hid H
          obtain ⟨nt_23, yt_23, et_23, lt_23, gt_23, H⟩ := H
          obtain rfl : k0 = nt_23 := by omega
          clear et_23
          obtain rfl := Option.some.inj (gt_15.out.symm.trans gt_23.out)
          clear gt_23 lt_23
          replace H := let_hid H
          obtain ⟨t_23, ht_23, H⟩ := H
          obtain rfl := ht_15.symm.trans ht_23
          replace H := let_hid H
          obtain ⟨t_24, ht_24, H⟩ := H
          replace H := app_hid H
          replace H := join_hid H
          cases t_24 with
          | false =>
            replace H := ite_f H
            replace H := app_hid H
            refine wp_region_quiet_below (by kernel_rfl) (by kernel_rfl) ?_
            repeat (go_big_quiet_step (fail))
            refine wpQuiet_nil ?_
            intro Y6 hY6
            replace hY6 := below_class hY6
            have HBY6 := Lib.hid (Below.step HBwr0.out hY6)
            clear hY6
            replace H := ite_f H
            replace H := app_hid H
            go_wp2_with fail
            go_roundg m0
            case measure => omega
            case rel => exact ⟨k0 + 1, by omega, by go_num, H, HBY6⟩
          | true =>
            replace H := ite_t H
            replace H := idx_hid H
            obtain ⟨nt_29, yt_29, et_29, lt_29, gt_29, H⟩ := H
            obtain rfl : k0 = nt_29 := by omega
            clear et_29
            obtain rfl := Option.some.inj (gt_18.out.symm.trans gt_29.out)
            clear gt_29 lt_29
            replace H := let_hid H
            obtain ⟨t_29, ht_29, H⟩ := H
            obtain rfl := ht_18.symm.trans ht_29
            replace H := let_hid H
            obtain ⟨t_30, ht_30, H⟩ := H
            replace H := app_hid H
            refine wp_region_quiet_below (by kernel_rfl) (by kernel_rfl) ?_
            repeat (go_big_quiet_step (fail))
            refine wpQuiet_nil ?_
            intro Y6 hY6
            replace hY6 := below_class hY6
            have HBY6 := Lib.hid (Below.step HBwr0.out hY6)
            clear hY6
            cases t_30 with
            | false =>
              replace H := ite_f H
              replace H := app_hid H
              go_wp2_with fail
              go_roundg m0
              case measure => omega
              case rel => exact ⟨k0 + 1, by omega, by go_num, H, HBY6⟩
            | true =>
              replace H := ite_t H
              obtain rfl := ret_hid H
              go_wp2_with fail
              go_ret
              exact ⟨rfl, HBY6.out⟩
  | true =>
    have nht_5 : ¬ (a.size = b.size) := by have := bne_iff_ne.1 ht_5; omega
    replace H := ite_t H
    obtain rfl := ret_hid H
    go_wp2_with fail
    go_ret
    exact ⟨rfl, HB.out⟩
end Go.Proofs.YtgimcnpkngpmiaaDoor.GiReadsAs

