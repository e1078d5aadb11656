/- Texts on which the proofs of several laws stand, one behind the other (6 of 9). No condition of their own. -/
import Derived.Test.YtgimcnpkngpmiaaDoorChecked
import Derived.Test.YtgimcnpkngpmiaaDoorX11P2
import Derived.Test.YtgimcnpkngpmiaaDoorX11P1
import Derived.Lib.Hide
import Derived.WalkKit
import Derived.Test.YtgimcnpkngpmiaaDoorX11P3
import Derived.WalkSpells
import Derived.WalkLawsBesides
import Derived.BigQuiet
import Derived.OwnWalk
import Derived.Deep.LoopGhost
import Derived.Deep.QuietTactic
import Derived.IntWalk
import Derived.Lib.QuietBelow
import Derived.Test.YtgimcnpkngpmiaaDoorX11P4
import Derived.Lib.Replace
import Derived.Lib.IndexBytes
/- The library's variable internal/bytealg.MaxLen holds some number: handed on like a table. No condition. -/
namespace Go.Proofs.YtgimcnpkngpmiaaDoor.TabM
set_option linter.unusedVariables false
open Go.RowKit
open Go.Proofs.YtgimcnpkngpmiaaDoor.Rowed Go.Proofs.YtgimcnpkngpmiaaDoor.Turn
abbrev Tab (w : World) : Prop := ∃ m : Int, w.cell? ⟨0, 0, none⟩ = some (.int .i64 m)
theorem tab_below {W W' : World} (h : Below W.heap.size W W') (ht : Hid (Tab W)) : Hid (Tab W') := Lib.hid (let ⟨m, hm⟩ := ht.out; ⟨m, cell_below h hm⟩)
theorem of_shaped {w : World} (h : w.ShapedOpen Tryd.prog) : Hid (Tab w) := Lib.hid (Tryd.laysM155.s1_3 w h)
end Go.Proofs.YtgimcnpkngpmiaaDoor.TabM

/- loop.example/g01062/spec.l11Good as a plain function, and the contract of the program's: where the plain one has an answer, the program has it. Conditions: slices read as lists. -/
namespace Go.Proofs.YtgimcnpkngpmiaaDoor.GsL11Good
set_option linter.unusedVariables false
set_option linter.unusedSimpArgs false
open Go.RowKit
open Go.Proofs.YtgimcnpkngpmiaaDoor.Rowed Go.Proofs.YtgimcnpkngpmiaaDoor.Turn Go.Proofs.YtgimcnpkngpmiaaDoor.Aid Go.Proofs.YtgimcnpkngpmiaaDoor.GoP Go.Proofs.YtgimcnpkngpmiaaDoor.GoM

def l0 (list : (List Go.Proofs.YtgimcnpkngpmiaaDoor.PPostmark.Postmark)) (fuel : Nat) (k0 : Nat) (s : Unit) (nx0 bk0 : Unit → Option (Bool)) : Option (Bool) :=
  
  Option.bind (idx list (k0 : Int)) fun (yt_8 : Go.Proofs.YtgimcnpkngpmiaaDoor.PPostmark.Postmark) =>
  unPostmark yt_8 fun (t_8_id : Int) (t_8_town : ByteArray) (t_8_kind_ : Int) (t_8_first : Int) (t_8_last : Int) (t_8_lost : ByteArray) =>
  Option.bind (Go.Proofs.YtgimcnpkngpmiaaDoor.GsL11One.P fuel (Go.Proofs.YtgimcnpkngpmiaaDoor.PPostmark.Postmark.mk t_8_id t_8_town t_8_kind_ t_8_first t_8_last t_8_lost)) fun (t_10 : Bool) =>
  letK (!t_10) fun (t_11 : Bool) =>
  joinK (fun (t_29 : Bool) =>
  iteK t_29
  (some false)
  (appK nx0 ())) fun jt_29 => iteK t_11 (appK jt_29 true) (letK (decide (0 < (k0 : Int))) fun (t_14 : Bool) =>
  joinK (fun (t_28 : Bool) =>
  appK jt_29 t_28) fun jt_28 => iteK t_14 (letK (IntKind.i64.wrap ((k0 : Int) - 1)) fun (t_18 : Int) =>
  Option.bind (idx list t_18) fun (yt_19 : Go.Proofs.YtgimcnpkngpmiaaDoor.PPostmark.Postmark) =>
  unPostmark yt_19 fun (t_19_id : Int) (t_19_town : ByteArray) (t_19_kind_ : Int) (t_19_first : Int) (t_19_last : Int) (t_19_lost : ByteArray) =>
  Option.bind (idx list (k0 : Int)) fun (yt_24 : Go.Proofs.YtgimcnpkngpmiaaDoor.PPostmark.Postmark) =>
  unPostmark yt_24 fun (t_24_id : Int) (t_24_town : ByteArray) (t_24_kind_ : Int) (t_24_first : Int) (t_24_last : Int) (t_24_lost : ByteArray) =>
  letK (decide (t_24_id ≤ t_19_id)) fun (t_27 : Bool) =>
  appK jt_28 t_27) (appK jt_28 false))

def e0 (list : (List Go.Proofs.YtgimcnpkngpmiaaDoor.PPostmark.Postmark)) (s : Unit) : Option (Bool) :=
  
  letK (decide ((list.length : Int) ≤ 12)) fun (t_36 : Bool) =>
  some t_36

def P (fuel : Nat) (list : (List Go.Proofs.YtgimcnpkngpmiaaDoor.PPostmark.Postmark)) : Option (Bool) :=
  cntK (l0 list fuel) (list.length) 0 () (e0 list)

set_option maxRecDepth 100000 in
set_option maxHeartbeats 2000000 in
theorem C (fuel : Nat) (list : (List Go.Proofs.YtgimcnpkngpmiaaDoor.PPostmark.Postmark)) (A0 : Option Addr) (c0 : Nat)  (w : World) (M0 : Hid (Cells w 6 A0 list.length (Go.Proofs.YtgimcnpkngpmiaaDoor.PPostmark.flat list))) (N0 : Hid (list.length ≤ 9223372036854775807))  {r : Bool} (H : Hid (P fuel list = some r)) :
    Calls Tryd.prog 40 #[.slice A0 list.length c0] w (Gives (.bool r) w) := by
  have HB := Lib.hid (Below.refl w.heap.size w)
  unfold P at H
  have N0o := N0.out
  go_enter Tryd.func40, Tryd.ntmps40
  go_wp2_with fail
  go_loopg [3] (list.length) (fun m_ v3_ wr => ∃ (k0 : Nat) , k0 + m_ = list.length ∧ v3_ = .int .i64 (k0 : Int) ∧ Hid (cntK (l0 list fuel) m_ k0 () (e0 list) = some r) ∧ Hid (Below w.heap.size w wr))
  case atStart => exact ⟨0, by omega, rfl, H, HB⟩
  case round =>
    obtain ⟨k0, hkm0, rfl, H, HBwr0⟩ := hrel
    rename World => wr0
    cases gk with
    | zero =>
      obtain rfl : k0 = list.length := by omega
      have hc0 : decide (((list.length : Nat) : Int) < ((list.length : Nat) : Int)) = false := by simp
      replace H := cnt_zero H
      unfold e0 at H
      replace H := let_hid H
      obtain ⟨t_36, ht_36, H⟩ := H
      obtain rfl := ret_hid H
      go_wp2_with fail
      go_ret
      exact ⟨rfl, HBwr0.out⟩
    | succ m0 =>
      have hlt0 : k0 < list.length := by omega
      have hc0 : decide ((k0 : Int) < ((list.length : Nat) : Int)) = true := by simp; omega
      replace H := cnt_succ H
      unfold l0 at H
      go_wp2_with fail
      replace H := idx_hid H
      obtain ⟨nt_8, yt_8, et_8, lt_8, gt_8, H⟩ := H
      obtain rfl : k0 = nt_8 := by omega
      clear et_8
      obtain ⟨t_8_id, t_8_town, t_8_kind_, t_8_first, t_8_last, t_8_lost⟩ := yt_8
      replace H := unPostmark_hid H
      obtain ⟨ab_t_8, ao_t_8, zt_8, At_8, z_t_8, ct_8_0, ct_8_1, ct_8_2, ct_8_3, ct_8_4, ct_8_5⟩ := Go.Proofs.YtgimcnpkngpmiaaDoor.OPostmark.at_ M0.out lt_8
      obtain rfl := Option.some.inj (gt_8.out.symm.trans z_t_8)
      subst At_8
      have ltt_8 := cell_lt ct_8_0
      replace ct_8_0 := cell_below HBwr0.out ct_8_0
      replace ct_8_1 := cell_below HBwr0.out ct_8_1
      replace ct_8_2 := cell_below HBwr0.out ct_8_2
      replace ct_8_3 := cell_below HBwr0.out ct_8_3
      replace ct_8_4 := cell_below HBwr0.out ct_8_4
      replace ct_8_5 := cell_below HBwr0.out ct_8_5
      clear z_t_8
      have b0t_8 : (0 : Int) ≤ (k0 : Int) := by omega
      have b1t_8 : (k0 : Int) < ((list.length : Nat) : Int) := by omega
      have b2t_8 : ((k0 : Int)).toNat = k0 := by omega
      have Hct_8_0 := Lib.hid ct_8_0
      replace ct_8_0 := cell_regrown ct_8_0
      have Hct_8_1 := Lib.hid ct_8_1
      replace ct_8_1 := cell_regrown ct_8_1
      have Hct_8_2 := Lib.hid ct_8_2
      replace ct_8_2 := cell_regrown ct_8_2
      have Hct_8_3 := Lib.hid ct_8_3
      replace ct_8_3 := cell_regrown ct_8_3
      have Hct_8_4 := Lib.hid ct_8_4
      replace ct_8_4 := cell_regrown ct_8_4
      have Hct_8_5 := Lib.hid ct_8_5
      replace ct_8_5 := cell_regrown ct_8_5
      replace H := bind_hid H
      obtain ⟨t_10, qt_10, H⟩ := H
      have nt_10 : ∀ d os, Calls Tryd.prog 56 #[.agg #[.int .i64 t_8_id, .string t_8_town, .int .i64 t_8_kind_, .int .i64 t_8_first, .int .i64 t_8_last, .string t_8_lost]] (Go.Sort.grow (redrawn wr0 d) os) fun e w'' => e = .returned (.bool t_10) ∧ ∃ p : Regrown, w'' = Go.Sort.grow (redrawn wr0 p.d) p.os := fun d os => Calls.regrown_of (Go.Proofs.YtgimcnpkngpmiaaDoor.GsL11One.C fuel ((Go.Proofs.YtgimcnpkngpmiaaDoor.PPostmark.Postmark.mk t_8_id t_8_town t_8_kind_ t_8_first t_8_last t_8_lost))  _    qt_10)
      cases t_10 with
      | false =>
        replace H := let_hid H
        obtain ⟨t_11, ht_11, H⟩ := H
        obtain rfl : t_11 = true := ht_11.symm
        replace H := join_hid H
        replace H := ite_t H
        replace H := app_hid H
        refine wp_region_quiet_below (by kernel_rfl) (by kernel_rfl) ?_
        repeat (go_big_quiet_step (first | (go_at_call 56; exact nt_10 _ _)))
        refine wpQuiet_nil ?_
        intro Y4 hY4
        replace hY4 := below_class hY4
        clear nt_10
        replace ct_8_0 := Hct_8_0.out
        clear Hct_8_0
        replace ct_8_1 := Hct_8_1.out
        clear Hct_8_1
        replace ct_8_2 := Hct_8_2.out
        clear Hct_8_2
        replace ct_8_3 := Hct_8_3.out
        clear Hct_8_3
        replace ct_8_4 := Hct_8_4.out
        clear Hct_8_4
        replace ct_8_5 := Hct_8_5.out
        clear Hct_8_5
        have HBY4 := Lib.hid (Below.step HBwr0.out hY4)
        replace ct_8_0 := cell_below hY4 ct_8_0
        replace ct_8_1 := cell_below hY4 ct_8_1
        replace ct_8_2 := cell_below hY4 ct_8_2
        replace ct_8_3 := cell_below hY4 ct_8_3
        replace ct_8_4 := cell_below hY4 ct_8_4
        replace ct_8_5 := cell_below hY4 ct_8_5
        clear hY4
        replace H := ite_t H
        obtain rfl := ret_hid H
        go_wp2_with fail
        go_ret
        exact ⟨rfl, HBY4.out⟩
      | true =>
        replace H := let_hid H
        obtain ⟨t_11, ht_11, H⟩ := H
        obtain rfl : t_11 = false := ht_11.symm
        replace H := join_hid H
        replace H := ite_f H
        replace H := let_hid H
        obtain ⟨t_14, ht_14, H⟩ := H
        replace H := join_hid H
        cases t_14 with
        | false =>
          have nht_14 : ¬ (0 < k0) := by have := of_decide_eq_false ht_14; omega
          replace H := ite_f H
          replace H := app_hid H
          replace H := app_hid H
          refine wp_region_quiet_below (by kernel_rfl) (by kernel_rfl) ?_
          repeat (go_big_quiet_step (first | (go_at_call 56; exact nt_10 _ _)))
          refine wpQuiet_nil ?_
          intro Y4 hY4
          replace hY4 := below_class hY4
          clear nt_10
          replace ct_8_0 := Hct_8_0.out
          clear Hct_8_0
          replace ct_8_1 := Hct_8_1.out
          clear Hct_8_1
          replace ct_8_2 := Hct_8_2.out
          clear Hct_8_2
          replace ct_8_3 := Hct_8_3.out
          clear Hct_8_3
          replace ct_8_4 := Hct_8_4.out
          clear Hct_8_4
          replace ct_8_5 := Hct_8_5.out
          clear Hct_8_5
          have HBY4 := Lib.hid (Below.step HBwr0.out hY4)
          replace ct_8_0 := cell_below hY4 ct_8_0
          replace ct_8_1 := cell_below hY4 ct_8_1
          replace ct_8_2 := cell_below hY4 ct_8_2
          replace ct_8_3 := cell_below hY4 ct_8_3
          replace ct_8_4 := cell_below hY4 ct_8_4
          replace ct_8_5 := cell_below hY4 ct_8_5
          clear hY4
          replace H := ite_f H
          replace H := app_hid H
          go_wp2_with fail
          go_roundg m0
          case measure => omega
          case rel => exact ⟨k0 + 1, by omega, by go_num, H, HBY4⟩
        | true =>
          have nht_14 : 0 < k0 := by have := of_decide_eq_true ht_14; omega
          replace H := ite_t H
          replace H := let_hid H
          obtain ⟨t_18, ht_18, H⟩ := H
          replace H := idx_hid H
          obtain ⟨nt_19, yt_19, et_19, lt_19, gt_19, H⟩ := H
          subst et_19
          obtain ⟨t_19_id, t_19_town, t_19_kind_, t_19_first, t_19_last, t_19_lost⟩ := yt_19
          replace H := unPostmark_hid H
          obtain ⟨ab_t_19, ao_t_19, zt_19, At_19, z_t_19, ct_19_0, ct_19_1, ct_19_2, ct_19_3, ct_19_4, ct_19_5⟩ := Go.Proofs.YtgimcnpkngpmiaaDoor.OPostmark.at_ M0.out lt_19
          obtain rfl := Option.some.inj (gt_19.out.symm.trans z_t_19)
          simp only [Option.some.injEq, Addr.mk.injEq] at At_19
          obtain ⟨rfl, rfl, _⟩ := At_19
          have ltt_19 := cell_lt ct_19_0
          replace ct_19_0 := cell_below HBwr0.out ct_19_0
          replace ct_19_1 := cell_below HBwr0.out ct_19_1
          replace ct_19_2 := cell_below HBwr0.out ct_19_2
          replace ct_19_3 := cell_below HBwr0.out ct_19_3
          replace ct_19_4 := cell_below HBwr0.out ct_19_4
          replace ct_19_5 := cell_below HBwr0.out ct_19_5
          clear z_t_19
          have b0t_19 : (0 : Int) ≤ (nt_19 : Int) := by omega
          have b1t_19 : (nt_19 : Int) < ((list.length : Nat) : Int) := by omega
          have b2t_19 : ((nt_19 : Int)).toNat = nt_19 := by omega
          have Hct_19_0 := Lib.hid ct_19_0
          replace ct_19_0 := cell_regrown ct_19_0
          have Hct_19_1 := Lib.hid ct_19_1
          replace ct_19_1 := cell_regrown ct_19_1
          have Hct_19_2 := Lib.hid ct_19_2
          replace ct_19_2 := cell_regrown ct_19_2
          have Hct_19_3 := Lib.hid ct_19_3
          replace ct_19_3 := cell_regrown ct_19_3
          have Hct_19_4 := Lib.hid ct_19_4
          replace ct_19_4 := cell_regrown ct_19_4
          have Hct_19_5 := Lib.hid ct_19_5
          replace ct_19_5 := cell_regrown ct_19_5
          replace H := idx_hid H
          obtain ⟨nt_24, yt_24, et_24, lt_24, gt_24, H⟩ := H
          obtain rfl : k0 = nt_24 := by omega
          clear et_24
          obtain rfl := Option.some.inj (gt_8.out.symm.trans gt_24.out)
          clear gt_24 lt_24
          replace H := unPostmark_hid H
          replace H := let_hid H
          obtain ⟨t_27, ht_27, H⟩ := H
          replace H := app_hid H
          replace H := app_hid H
          refine wp_region_quiet_below (by kernel_rfl) (by kernel_rfl) ?_
          repeat (go_big_quiet_step (first | (go_at_call 56; exact nt_10 _ _)))
          refine wpQuiet_nil ?_
          intro Y4 hY4
          replace hY4 := below_class hY4
          clear nt_10
          replace ct_8_0 := Hct_8_0.out
          clear Hct_8_0
          replace ct_8_1 := Hct_8_1.out
          clear Hct_8_1
          replace ct_8_2 := Hct_8_2.out
          clear Hct_8_2
          replace ct_8_3 := Hct_8_3.out
          clear Hct_8_3
          replace ct_8_4 := Hct_8_4.out
          clear Hct_8_4
          replace ct_8_5 := Hct_8_5.out
          clear Hct_8_5
          replace ct_19_0 := Hct_19_0.out
          clear Hct_19_0
          replace ct_19_1 := Hct_19_1.out
          clear Hct_19_1
          replace ct_19_2 := Hct_19_2.out
          clear Hct_19_2
          replace ct_19_3 := Hct_19_3.out
          clear Hct_19_3
          replace ct_19_4 := Hct_19_4.out
          clear Hct_19_4
          replace ct_19_5 := Hct_19_5.out
          clear Hct_19_5
          have HBY4 := Lib.hid (Below.step HBwr0.out hY4)
          replace ct_8_0 := cell_below hY4 ct_8_0
          replace ct_8_1 := cell_below hY4 ct_8_1
          replace ct_8_2 := cell_below hY4 ct_8_2
          replace ct_8_3 := cell_below hY4 ct_8_3
          replace ct_8_4 := cell_below hY4 ct_8_4
          replace ct_8_5 := cell_below hY4 ct_8_5
          replace ct_19_0 := cell_below hY4 ct_19_0
          replace ct_19_1 := cell_below hY4 ct_19_1
          replace ct_19_2 := cell_below hY4 ct_19_2
          replace ct_19_3 := cell_below hY4 ct_19_3
          replace ct_19_4 := cell_below hY4 ct_19_4
          replace ct_19_5 := cell_below hY4 ct_19_5
          clear hY4
          cases t_27 with
          | false =>
            replace H := ite_f H
            replace H := app_hid H
            go_wp2_with fail
            go_roundg m0
            case measure => omega
            case rel => exact ⟨k0 + 1, by omega, by go_num, H, HBY4⟩
          | true =>
            replace H := ite_t H
            obtain rfl := ret_hid H
            go_wp2_with fail
            go_ret
            exact ⟨rfl, HBY4.out⟩
end Go.Proofs.YtgimcnpkngpmiaaDoor.GsL11Good

/- loop.example/g01062/spec.l11Reading as a plain function, and the contract of the program's: where the plain one has an answer, the program has it. Conditions: slices read as lists. -/
namespace Go.Proofs.YtgimcnpkngpmiaaDoor.GsL11Reading
set_option linter.unusedVariables false
set_option linter.unusedSimpArgs false
open Go.RowKit
open Go.Proofs.YtgimcnpkngpmiaaDoor.Rowed Go.Proofs.YtgimcnpkngpmiaaDoor.Turn Go.Proofs.YtgimcnpkngpmiaaDoor.Aid Go.Proofs.YtgimcnpkngpmiaaDoor.GoP Go.Proofs.YtgimcnpkngpmiaaDoor.GoM

def l0 (s_0 : ByteArray) (s : Int) (nx0 bk0 : Int → Option (Bool)) : Option (Bool) :=
  letK s fun i_3l0 =>
  letK (decide (i_3l0 < (s_0.size : Int))) fun (t_5 : Bool) =>
  joinK (fun (t_9 : Bool) =>
  iteK t_9
  (Option.bind (idx s_0.toList i_3l0) fun (yt_12 : UInt8) =>
  letK ((yt_12.toNat : Int)) fun (t_12 : Int) =>
  letK (t_12 != 63) fun (t_13 : Bool) =>
  joinK (fun (t_25 : Bool) =>
  iteK t_25
  (some false)
  (letK (IntKind.i64.wrap (i_3l0 + 1)) fun (t_28 : Int) =>
  appK nx0 (t_28))) fun jt_25 => iteK t_13 (Option.bind (idx s_0.toList i_3l0) fun (yt_17 : UInt8) =>
  letK ((yt_17.toNat : Int)) fun (t_17 : Int) =>
  letK (decide (t_17 < 97)) fun (t_18 : Bool) =>
  joinK (fun (t_24 : Bool) =>
  appK jt_25 t_24) fun jt_24 => iteK t_18 (appK jt_24 true) (Option.bind (idx s_0.toList i_3l0) fun (yt_22 : UInt8) =>
  letK ((yt_22.toNat : Int)) fun (t_22 : Int) =>
  letK (decide (122 < t_22)) fun (t_23 : Bool) =>
  appK jt_24 t_23)) (appK jt_25 false))
  (appK bk0 (i_3l0))) fun jt_9 => iteK t_5 (letK (decide (i_3l0 ≤ 10)) fun (t_8 : Bool) =>
  appK jt_9 t_8) (appK jt_9 false)

def e0 (s_0 : ByteArray) (s : Int) : Option (Bool) :=
  letK s fun i_3l0 =>
  Option.bind (Go.Proofs.YtgimcnpkngpmiaaDoor.GsL1In.P (s_0.size : Int) 1 10) fun (t_32 : Bool) =>
  some t_32

def P (fuel : Nat) (s_0 : ByteArray) : Option (Bool) :=
  loopK (l0 s_0) fuel (0) (e0 s_0)

set_option maxRecDepth 100000 in
set_option maxHeartbeats 2000000 in
theorem C (fuel : Nat) (s_0 : ByteArray)   (w : World)   {r : Bool} (H : Hid (P fuel s_0 = some r)) :
    Calls Tryd.prog 41 #[.string s_0] w (Gives (.bool r) w) := by
  have HB := Lib.hid (Below.refl w.heap.size w)
  unfold P at H
  go_enter Tryd.func41, Tryd.ntmps41
  go_wp2_with fail
  go_loopg [3] (fuel) (fun m_ v3_ wr => ∃ (i_3l0 : Int), v3_ = .int .i64 i_3l0 ∧ Hid (loopK (l0 s_0) m_ (i_3l0) (e0 s_0) = some r) ∧ Hid (Below w.heap.size w wr))
  case atStart => exact ⟨_, rfl, H, HB⟩
  case round =>
    obtain ⟨i_3l0, rfl, H, HBwr0⟩ := hrel
    rename World => wr0
    cases gk with
    | zero => exact (loop_zero H).elim
    | succ m0 =>
      replace H := loop_succ H
      unfold l0 at H
      replace H := let_hid H
      obtain ⟨_, rfl, H⟩ := H
      replace H := let_hid H
      obtain ⟨t_5, ht_5, H⟩ := H
      replace H := join_hid H
      cases t_5 with
      | false =>
        replace H := ite_f H
        replace H := app_hid H
        replace H := ite_f H
        replace H := app_hid H
        unfold e0 at H
        replace H := let_hid H
        obtain ⟨_, rfl, H⟩ := H
        replace H := bind_hid H
        obtain ⟨t_32, qt_32, H⟩ := H
        go_wp2_with fail
        go_at_call 67
        refine (Go.Proofs.YtgimcnpkngpmiaaDoor.GsL1In.C ((s_0.size : Int)) (1) (10)  _    qt_32).mono ?_
        rintro e_t_32 wt_32 ⟨rfl, bt_32⟩
        have HBwt_32 := Lib.hid (Below.step HBwr0.out bt_32)
        clear bt_32
        obtain rfl := ret_hid H
        go_wp2_with fail
        go_ret
        exact ⟨rfl, HBwt_32.out⟩
      | true =>
        replace H := ite_t H
        replace H := let_hid H
        obtain ⟨t_8, ht_8, H⟩ := H
        replace H := app_hid H
        cases t_8 with
        | false =>
          replace H := ite_f H
          replace H := app_hid H
          unfold e0 at H
          replace H := let_hid H
          obtain ⟨_, rfl, H⟩ := H
          replace H := bind_hid H
          obtain ⟨t_32, qt_32, H⟩ := H
          go_wp2_with fail
          go_at_call 67
          refine (Go.Proofs.YtgimcnpkngpmiaaDoor.GsL1In.C ((s_0.size : Int)) (1) (10)  _    qt_32).mono ?_
          rintro e_t_32 wt_32 ⟨rfl, bt_32⟩
          have HBwt_32 := Lib.hid (Below.step HBwr0.out bt_32)
          clear bt_32
          obtain rfl := ret_hid H
          go_wp2_with fail
          go_ret
          exact ⟨rfl, HBwt_32.out⟩
        | true =>
          replace H := ite_t H
          replace H := idx_hid H
          obtain ⟨nt_12, yt_12, et_12, lt_12, gt_12, H⟩ := H
          subst et_12
          have nc_152 : nt_12 < s_0.size := by have := of_decide_eq_true ht_5; omega
          have nc_153 : nt_12 ≤ 10 := by have := of_decide_eq_true ht_8; omega
          have rt_12 := byte_rule lt_12 gt_12.out
          have b0t_12 : (0 : Int) ≤ (nt_12 : Int) := by omega
          have b1t_12 : (nt_12 : Int) < (s_0.size : Int) := by have := size_list s_0; omega
          have b2t_12 : ((nt_12 : Int)).toNat = nt_12 := by omega
          have b3t_12 : nt_12 < s_0.size := by have := size_list s_0; omega
          replace H := let_hid H
          obtain ⟨t_12, ht_12, H⟩ := H
          replace H := let_hid H
          obtain ⟨t_13, ht_13, H⟩ := H
          replace H := join_hid H
          cases t_13 with
          | false =>
            replace H := ite_f H
            replace H := app_hid H
            replace H := ite_f H
            replace H := let_hid H
            obtain ⟨t_28, ht_28, H⟩ := H
            replace H := app_hid H
            go_wp2_with fail
            go_roundg m0
            case measure => omega
            case rel => exact ⟨_, rfl, H, HBwr0⟩
          | true =>
            replace H := ite_t H
            replace H := idx_hid H
            obtain ⟨nt_17, yt_17, et_17, lt_17, gt_17, H⟩ := H
            obtain rfl : nt_12 = nt_17 := by omega
            clear et_17
            obtain rfl := Option.some.inj (gt_12.out.symm.trans gt_17.out)
            clear gt_17 lt_17
            replace H := let_hid H
            obtain ⟨t_17, ht_17, H⟩ := H
            obtain rfl := ht_12.symm.trans ht_17
            replace H := let_hid H
            obtain ⟨t_18, ht_18, H⟩ := H
            replace H := join_hid H
            cases t_18 with
            | false =>
              replace H := ite_f H
              replace H := idx_hid H
              obtain ⟨nt_22, yt_22, et_22, lt_22, gt_22, H⟩ := H
              obtain rfl : nt_12 = nt_22 := by omega
              clear et_22
              obtain rfl := Option.some.inj (gt_12.out.symm.trans gt_22.out)
              clear gt_22 lt_22
              replace H := let_hid H
              obtain ⟨t_22, ht_22, H⟩ := H
              obtain rfl := ht_12.symm.trans ht_22
              replace H := let_hid H
              obtain ⟨t_23, ht_23, H⟩ := H
              replace H := app_hid H
              replace H := app_hid H
              cases t_23 with
              | false =>
                replace H := ite_f H
                replace H := let_hid H
                obtain ⟨t_28, ht_28, H⟩ := H
                replace H := app_hid H
                go_wp2_with fail
                go_roundg m0
                case measure => omega
                case rel => exact ⟨_, rfl, H, HBwr0⟩
              | true =>
                replace H := ite_t H
                obtain rfl := ret_hid H
                go_wp2_with fail
                go_ret
                exact ⟨rfl, HBwr0.out⟩
            | true =>
              replace H := ite_t H
              replace H := app_hid H
              replace H := app_hid H
              replace H := ite_t H
              obtain rfl := ret_hid H
              go_wp2_with fail
              go_ret
              exact ⟨rfl, HBwr0.out⟩
end Go.Proofs.YtgimcnpkngpmiaaDoor.GsL11Reading

/- loop.example/g01062/spec.l11Used as a plain function, and the contract of the program's: where the plain one has an answer, the program has it. Conditions: slices read as lists. -/
namespace Go.Proofs.YtgimcnpkngpmiaaDoor.GsL11Used
set_option linter.unusedVariables false
set_option linter.unusedSimpArgs false
open Go.RowKit
open Go.Proofs.YtgimcnpkngpmiaaDoor.Rowed Go.Proofs.YtgimcnpkngpmiaaDoor.Turn Go.Proofs.YtgimcnpkngpmiaaDoor.Aid Go.Proofs.YtgimcnpkngpmiaaDoor.GoP Go.Proofs.YtgimcnpkngpmiaaDoor.GoM

def P (p : Go.Proofs.YtgimcnpkngpmiaaDoor.PPostmark.Postmark) (day : Int) : Option (Bool) :=
  unPostmark p fun (p_id : Int) (p_town : ByteArray) (p_kind_ : Int) (p_first : Int) (p_last : Int) (p_lost : ByteArray) =>
  Option.bind (Go.Proofs.YtgimcnpkngpmiaaDoor.GsL1In.P day p_first p_last) fun (t_7 : Bool) =>
  some t_7

set_option maxRecDepth 100000 in
set_option maxHeartbeats 2000000 in
theorem C (p : Go.Proofs.YtgimcnpkngpmiaaDoor.PPostmark.Postmark) (day : Int)   (w : World)   {r : Bool} (H : Hid (P p day = some r)) :
    Calls Tryd.prog 43 #[p.val, .int .i64 day] w (Gives (.bool r) w) := by
  have HB := Lib.hid (Below.refl w.heap.size w)
  unfold P at H
  obtain ⟨p_id, p_town, p_kind_, p_first, p_last, p_lost⟩ := p
  replace H := unPostmark_hid H
  unfold Go.Proofs.YtgimcnpkngpmiaaDoor.PPostmark.Postmark.val
  go_enter Tryd.func43, Tryd.ntmps43
  obtain ⟨w_p_0, hw_p_0⟩ : ∃ x, w.alloc (.cells #[.int .i64 p_id, .string p_town, .int .i64 p_kind_, .int .i64 p_first, .int .i64 p_last, .string p_lost] 39) = x := ⟨_, rfl⟩
  have bw_p_0 : Below w.heap.size w w_p_0 := by rw [← hw_p_0]; exact (Below.refl _ _).alloc (Nat.le_refl _) _
  have HBw_p_0 := Lib.hid (Below.step HB.out bw_p_0)
  clear bw_p_0
  have kp_0_0 : w_p_0.cell? ⟨w.heap.size, 0, none⟩ = some (.int .i64 p_id) := by rw [← hw_p_0]; exact box_new _ _ _ 0 _ rfl
  have kp_0_1 : w_p_0.cell? ⟨w.heap.size, 1, none⟩ = some (.string p_town) := by rw [← hw_p_0]; exact box_new _ _ _ 1 _ rfl
  have kp_0_2 : w_p_0.cell? ⟨w.heap.size, 2, none⟩ = some (.int .i64 p_kind_) := by rw [← hw_p_0]; exact box_new _ _ _ 2 _ rfl
  have kp_0_3 : w_p_0.cell? ⟨w.heap.size, 3, none⟩ = some (.int .i64 p_first) := by rw [← hw_p_0]; exact box_new _ _ _ 3 _ rfl
  have kp_0_4 : w_p_0.cell? ⟨w.heap.size, 4, none⟩ = some (.int .i64 p_last) := by rw [← hw_p_0]; exact box_new _ _ _ 4 _ rfl
  have kp_0_5 : w_p_0.cell? ⟨w.heap.size, 5, none⟩ = some (.string p_lost) := by rw [← hw_p_0]; exact box_new _ _ _ 5 _ rfl
  replace H := bind_hid H
  obtain ⟨t_7, qt_7, H⟩ := H
  go_wp2_with fail
  go_at_call 67
  refine (Go.Proofs.YtgimcnpkngpmiaaDoor.GsL1In.C (day) (p_first) (p_last)  _    qt_7).mono ?_
  rintro e_t_7 wt_7 ⟨rfl, bt_7⟩
  have HBwt_7 := Lib.hid (Below.step HBw_p_0.out bt_7)
  replace kp_0_0 := cell_below bt_7 kp_0_0
  replace kp_0_1 := cell_below bt_7 kp_0_1
  replace kp_0_2 := cell_below bt_7 kp_0_2
  replace kp_0_3 := cell_below bt_7 kp_0_3
  replace kp_0_4 := cell_below bt_7 kp_0_4
  replace kp_0_5 := cell_below bt_7 kp_0_5
  clear bt_7
  obtain rfl := ret_hid H
  go_wp2_with fail
  go_ret
  exact ⟨rfl, HBwt_7.out⟩
end Go.Proofs.YtgimcnpkngpmiaaDoor.GsL11Used

/- loop.example/g01062/spec.l11Reads as a plain function, and the contract of the program's: where the plain one has an answer, the program has it. Conditions: slices read as lists. -/
namespace Go.Proofs.YtgimcnpkngpmiaaDoor.GsL11Reads
set_option linter.unusedVariables false
set_option linter.unusedSimpArgs false
open Go.RowKit
open Go.Proofs.YtgimcnpkngpmiaaDoor.Rowed Go.Proofs.YtgimcnpkngpmiaaDoor.Turn Go.Proofs.YtgimcnpkngpmiaaDoor.Aid Go.Proofs.YtgimcnpkngpmiaaDoor.GoP Go.Proofs.YtgimcnpkngpmiaaDoor.GoM

def l0 (a : ByteArray) (b : ByteArray) (k0 : Nat) (s : Unit) (nx0 bk0 : Unit → Option (Bool)) : Option (Bool) :=
  
  Option.bind (idx a.toList (k0 : Int)) fun (yt_14 : UInt8) =>
  letK ((yt_14.toNat : Int)) fun (t_14 : Int) =>
  Option.bind (idx b.toList (k0 : Int)) fun (yt_17 : UInt8) =>
  letK ((yt_17.toNat : Int)) fun (t_17 : Int) =>
  letK (t_14 != t_17) fun (t_18 : Bool) =>
  joinK (fun (t_24 : Bool) =>
  joinK (fun (t_30 : Bool) =>
  iteK t_30
  (some false)
  (appK nx0 ())) fun jt_30 => iteK t_24 (Option.bind (idx b.toList (k0 : Int)) fun (yt_28 : UInt8) =>
  letK ((yt_28.toNat : Int)) fun (t_28 : Int) =>
  letK (t_28 != 63) fun (t_29 : Bool) =>
  appK jt_30 t_29) (appK jt_30 false)) fun jt_24 => iteK t_18 (Option.bind (idx a.toList (k0 : Int)) fun (yt_22 : UInt8) =>
  letK ((yt_22.toNat : Int)) fun (t_22 : Int) =>
  letK (t_22 != 63) fun (t_23 : Bool) =>
  appK jt_24 t_23) (appK jt_24 false)

def e0  (s : Unit) : Option (Bool) :=
  
  some true

def P (a : ByteArray) (b : ByteArray) : Option (Bool) :=
  letK ((a.size : Int) != (b.size : Int)) fun (t_5 : Bool) =>
  iteK t_5
  (some false)
  (guardK (a.size ≤ 9223372036854775807) <|
  cntK (l0 a b) (a.size) 0 () (e0 ))

set_option maxRecDepth 100000 in
set_option maxHeartbeats 2000000 in
theorem C (a : ByteArray) (b : ByteArray)   (w : World)   {r : Bool} (H : Hid (P a b = some r)) :
    Calls Tryd.prog 44 #[.string a, .string b] w (Gives (.bool r) w) := by
  have HB := Lib.hid (Below.refl w.heap.size w)
  unfold P at H
  go_enter Tryd.func44, Tryd.ntmps44
  replace H := let_hid H
  obtain ⟨t_5, ht_5, H⟩ := H
  cases t_5 with
  | false =>
    have Hht_5 : Hid (a.size = b.size) := Lib.hid (by have := bne_eq_false_iff_eq.1 ht_5; omega)
    have nht_5 : (a.size == b.size) = true := beq_iff_eq.2 Hht_5.out
    replace H := ite_f H
    replace H := guard_hid H
    obtain ⟨hg0, H⟩ := H
    go_wp2_with fail
    go_loopg [5] (a.size) (fun m_ v5_ wr => ∃ (k0 : Nat) , k0 + m_ = a.size ∧ v5_ = .int .i64 (k0 : Int) ∧ Hid (cntK (l0 a b) m_ k0 () (e0 ) = some r) ∧ Hid (Below w.heap.size w wr))
    case atStart => exact ⟨0, by omega, rfl, H, HB⟩
    case round =>
      obtain ⟨k0, hkm0, rfl, H, HBwr0⟩ := hrel
      rename World => wr0
      cases gk with
      | zero =>
        obtain rfl : k0 = a.size := by omega
        have hc0 : decide (((a.size : Nat) : Int) < ((a.size : Nat) : Int)) = false := by simp
        replace H := cnt_zero H
        unfold e0 at H
        obtain rfl := ret_hid H
        go_wp2_with fail
        go_ret
        exact ⟨rfl, HBwr0.out⟩
      | succ m0 =>
        have hlt0 : k0 < a.size := by omega
        have hc0 : decide ((k0 : Int) < ((a.size : Nat) : Int)) = true := by simp; omega
        replace H := cnt_succ H
        unfold l0 at H
        go_wp2_with fail
        replace H := idx_hid H
        obtain ⟨nt_14, yt_14, et_14, lt_14, gt_14, H⟩ := H
        obtain rfl : k0 = nt_14 := by omega
        clear et_14
        have rt_14 := byte_rule lt_14 gt_14.out
        have b0t_14 : (0 : Int) ≤ (k0 : Int) := by omega
        have b1t_14 : (k0 : Int) < (a.size : Int) := by have := size_list a; omega
        have b2t_14 : ((k0 : Int)).toNat = k0 := by omega
        have b3t_14 : k0 < a.size := by have := size_list a; omega
        replace H := let_hid H
        obtain ⟨t_14, ht_14, H⟩ := H
        replace H := idx_hid H
        obtain ⟨nt_17, yt_17, et_17, lt_17, gt_17, H⟩ := H
        obtain rfl : k0 = nt_17 := by omega
        clear et_17
        have rt_17 := byte_rule lt_17 gt_17.out
        have b0t_17 : (0 : Int) ≤ (k0 : Int) := by omega
        have b1t_17 : (k0 : Int) < (b.size : Int) := by have := size_list b; omega
        have b2t_17 : ((k0 : Int)).toNat = k0 := by omega
        have b3t_17 : k0 < b.size := by have := size_list b; omega
        replace H := let_hid H
        obtain ⟨t_17, ht_17, H⟩ := H
        replace H := let_hid H
        obtain ⟨t_18, ht_18, H⟩ := H
        replace H := join_hid H
        cases t_18 with
        | false =>
          replace H := ite_f H
          replace H := app_hid H
          replace H := join_hid H
          replace H := ite_f H
          replace H := app_hid H
          refine wp_region_quiet_below (by kernel_rfl) (by kernel_rfl) ?_
          repeat (go_big_quiet_step (fail))
          refine wpQuiet_nil ?_
          intro Y6 hY6
          replace hY6 := below_class hY6
          have HBY6 := Lib.hid (Below.step HBwr0.out hY6)
          clear hY6
          replace H := ite_f H
          replace H := app_hid H
          go_wp2_with fail
          go_roundg m0
          case measure => omega
          case rel => exact ⟨k0 + 1, by omega, by go_num, H, HBY6⟩
        | true =>
          replace H := ite_t H
          replace H := idx_hid H
          obtain ⟨nt_22, yt_22, et_22, lt_22, gt_22, H⟩ := H
          obtain rfl : k0 = nt_22 := by omega
          clear et_22
          obtain rfl := Option.some.inj (gt_14.out.symm.trans gt_22.out)
          clear gt_22 lt_22
          replace H := let_hid H
          obtain ⟨t_22, ht_22, H⟩ := H
          obtain rfl := ht_14.symm.trans ht_22
          replace H := let_hid H
          obtain ⟨t_23, ht_23, H⟩ := H
          replace H := app_hid H
          replace H := join_hid H
          cases t_23 with
          | false =>
            replace H := ite_f H
            replace H := app_hid H
            refine wp_region_quiet_below (by kernel_rfl) (by kernel_rfl) ?_
            repeat (go_big_quiet_step (fail))
            refine wpQuiet_nil ?_
            intro Y6 hY6
            replace hY6 := below_class hY6
            have HBY6 := Lib.hid (Below.step HBwr0.out hY6)
            clear hY6
            replace H := ite_f H
            replace H := app_hid H
            go_wp2_with fail
            go_roundg m0
            case measure => omega
            case rel => exact ⟨k0 + 1, by omega, by go_num, H, HBY6⟩
          | true =>
            replace H := ite_t H
            replace H := idx_hid H
            obtain ⟨nt_28, yt_28, et_28, lt_28, gt_28, H⟩ := H
            obtain rfl : k0 = nt_28 := by omega
            clear et_28
            obtain rfl := Option.some.inj (gt_17.out.symm.trans gt_28.out)
            clear gt_28 lt_28
            replace H := let_hid H
            obtain ⟨t_28, ht_28, H⟩ := H
            obtain rfl := ht_17.symm.trans ht_28
            replace H := let_hid H
            obtain ⟨t_29, ht_29, H⟩ := H
            replace H := app_hid H
            refine wp_region_quiet_below (by kernel_rfl) (by kernel_rfl) ?_
            repeat (go_big_quiet_step (fail))
            refine wpQuiet_nil ?_
            intro Y6 hY6
            replace hY6 := below_class hY6
            have HBY6 := Lib.hid (Below.step HBwr0.out hY6)
            clear hY6
            cases t_29 with
            | false =>
              replace H := ite_f H
              replace H := app_hid H
              go_wp2_with fail
              go_roundg m0
              case measure => omega
              case rel => exact ⟨k0 + 1, by omega, by go_num, H, HBY6⟩
            | true =>
              replace H := ite_t H
              obtain rfl := ret_hid H
              go_wp2_with fail
              go_ret
              exact ⟨rfl, HBY6.out⟩
  | true =>
    have nht_5 : ¬ (a.size = b.size) := by have := bne_iff_ne.1 ht_5; omega
    replace H := ite_t H
    obtain rfl := ret_hid H
    go_wp2_with fail
    go_ret
    exact ⟨rfl, HB.out⟩
end Go.Proofs.YtgimcnpkngpmiaaDoor.GsL11Reads

/- loop.example/g01062/spec.ReadMarks as a plain function, and the contract of the program's: where the plain one has an answer, the program has it. Conditions: slices read as lists. -/
namespace Go.Proofs.YtgimcnpkngpmiaaDoor.GsReadMarks
set_option linter.unusedVariables false
set_option linter.unusedSimpArgs false
open Go.RowKit
open Go.Proofs.YtgimcnpkngpmiaaDoor.Rowed Go.Proofs.YtgimcnpkngpmiaaDoor.Turn Go.Proofs.YtgimcnpkngpmiaaDoor.Aid Go.Proofs.YtgimcnpkngpmiaaDoor.GoP Go.Proofs.YtgimcnpkngpmiaaDoor.GoM

def l0 (list : (List Go.Proofs.YtgimcnpkngpmiaaDoor.PPostmark.Postmark)) (reading : ByteArray) (day : Int) (fuel : Nat) (k0 : Nat) (s : (List Int)) (nx0 bk0 : (List Int) → Option ((List Int) × Bool)) : Option ((List Int) × Bool) :=
  letK s fun out_8l0 =>
  Option.bind (idx list (k0 : Int)) fun (yt_27 : Go.Proofs.YtgimcnpkngpmiaaDoor.PPostmark.Postmark) =>
  unPostmark yt_27 fun (t_27_id : Int) (t_27_town : ByteArray) (t_27_kind_ : Int) (t_27_first : Int) (t_27_last : Int) (t_27_lost : ByteArray) =>
  Option.bind (Go.Proofs.YtgimcnpkngpmiaaDoor.GsL11Used.P (Go.Proofs.YtgimcnpkngpmiaaDoor.PPostmark.Postmark.mk t_27_id t_27_town t_27_kind_ t_27_first t_27_last t_27_lost) day) fun (t_30 : Bool) =>
  joinK (fun (t_39 : Bool) =>
  iteK t_39
  (Option.bind (idx list (k0 : Int)) fun (yt_43 : Go.Proofs.YtgimcnpkngpmiaaDoor.PPostmark.Postmark) =>
  unPostmark yt_43 fun (t_43_id : Int) (t_43_town : ByteArray) (t_43_kind_ : Int) (t_43_first : Int) (t_43_last : Int) (t_43_lost : ByteArray) =>
  guardK (out_8l0.length ≤ 1099511627776) <|
  letK (out_8l0 ++ [t_43_id]) fun (t_47 : (List Int)) =>
  appK nx0 (t_47))
  (appK nx0 (out_8l0))) fun jt_39 => iteK t_30 (Option.bind (idx list (k0 : Int)) fun (yt_35 : Go.Proofs.YtgimcnpkngpmiaaDoor.PPostmark.Postmark) =>
  unPostmark yt_35 fun (t_35_id : Int) (t_35_town : ByteArray) (t_35_kind_ : Int) (t_35_first : Int) (t_35_last : Int) (t_35_lost : ByteArray) =>
  Option.bind (Go.Proofs.YtgimcnpkngpmiaaDoor.GsL11Shown.P fuel (Go.Proofs.YtgimcnpkngpmiaaDoor.PPostmark.Postmark.mk t_35_id t_35_town t_35_kind_ t_35_first t_35_last t_35_lost)) fun (t_37 : ByteArray) =>
  Option.bind (Go.Proofs.YtgimcnpkngpmiaaDoor.GsL11Reads.P reading t_37) fun (t_38 : Bool) =>
  appK jt_39 t_38) (appK jt_39 false)

def e0  (s : (List Int)) : Option ((List Int) × Bool) :=
  letK s fun out_8l0 =>
  some (out_8l0, true)

def P (fuel : Nat) (list : (List Go.Proofs.YtgimcnpkngpmiaaDoor.PPostmark.Postmark)) (reading : ByteArray) (day : Int) : Option ((List Int) × Bool) :=
  Option.bind (Go.Proofs.YtgimcnpkngpmiaaDoor.GsL11Good.P fuel list) fun (t_5 : Bool) =>
  letK (!t_5) fun (t_6 : Bool) =>
  joinK (fun (t_11 : Bool) =>
  joinK (fun (t_16 : Bool) =>
  iteK t_16
  (some (([] : List Int), false))
  (cntK (l0 list reading day fuel) (list.length) 0 (([] : List Int)) (e0 ))) fun jt_16 => iteK t_11 (appK jt_16 true) (Option.bind (Go.Proofs.YtgimcnpkngpmiaaDoor.GsL2Day.P day) fun (t_14 : Bool) =>
  letK (!t_14) fun (t_15 : Bool) =>
  appK jt_16 t_15)) fun jt_11 => iteK t_6 (appK jt_11 true) (Option.bind (Go.Proofs.YtgimcnpkngpmiaaDoor.GsL11Reading.P fuel reading) fun (t_9 : Bool) =>
  letK (!t_9) fun (t_10 : Bool) =>
  appK jt_11 t_10)

set_option maxRecDepth 100000 in
set_option maxHeartbeats 2000000 in
theorem C (fuel : Nat) (list : (List Go.Proofs.YtgimcnpkngpmiaaDoor.PPostmark.Postmark)) (reading : ByteArray) (day : Int) (A0 : Option Addr) (c0 : Nat)  (w : World) (M0 : Hid (Cells w 6 A0 list.length (Go.Proofs.YtgimcnpkngpmiaaDoor.PPostmark.flat list))) (N0 : Hid (list.length ≤ 9223372036854775807))  {r0 : (List Int)} {r1 : Bool} (H : Hid (P fuel list reading day = some (r0, r1))) :
    Calls Tryd.prog 7 #[.slice A0 list.length c0, .string reading, .int .i64 day] w (fun e w' => ∃ A_r0 c_r0, e = .returned (.tuple #[.slice A_r0 r0.length c_r0, .bool r1]) ∧ w'.ownsRow w.heap.size 3 1 (.slice A_r0 r0.length c_r0) r0.length (Go.Proofs.YtgimcnpkngpmiaaDoor.HelpInt.iv r0) ∧ Below w.heap.size w w') := by
  have HB := Lib.hid (Below.refl w.heap.size w)
  unfold P at H
  have N0o := N0.out
  obtain ⟨i0_3, hi_3, hz0_3, hz1_3, hz2_3⟩ := Aid.info_parts (P := Tryd.prog) (T := 3) (z := .int .i64 0) (s := 1) (b := 8) (by kernel_rfl)
  go_enter Tryd.func7, Tryd.ntmps7
  obtain ⟨w_t_2, hw_t_2⟩ : ∃ x, w.alloc (.cells #[] 3) = x := ⟨_, rfl⟩
  have bw_t_2 : Below w.heap.size w w_t_2 := by rw [← hw_t_2]; exact (Below.refl _ _).alloc (Nat.le_refl _) _
  have Ot_2 : Hid (w_t_2.ownsRow w.heap.size 3 1 (.slice (some ⟨w.heap.size, 0, none⟩) 0 0) 0 []) := Lib.hid (by rw [← hw_t_2]; exact own_empty HB.out.size)
  have HBw_t_2 := Lib.hid (Below.step HB.out bw_t_2)
  clear bw_t_2
  replace H := bind_hid H
  obtain ⟨t_5, qt_5, H⟩ := H
  go_wp2_with fail
  go_at_call 40
  refine (Go.Proofs.YtgimcnpkngpmiaaDoor.GsL11Good.C fuel (list) A0 c0 _   (Lib.hid (Cells.below M0.out HBw_t_2.out)) N0 qt_5).mono ?_
  rintro e_t_5 wt_5 ⟨rfl, bt_5⟩
  have HBwt_5 := Lib.hid (Below.step HBw_t_2.out bt_5)
  replace Ot_2 := Lib.hid (own_below Ot_2.out bt_5)
  clear bt_5
  cases t_5 with
  | false =>
    replace H := let_hid H
    obtain ⟨t_6, ht_6, H⟩ := H
    obtain rfl : t_6 = true := ht_6.symm
    replace H := join_hid H
    replace H := ite_t H
    replace H := app_hid H
    replace H := join_hid H
    replace H := ite_t H
    replace H := app_hid H
    replace H := ite_t H
    cases ret_hid H
    go_wp2_with fail
    go_ret2
    exact ⟨(some ⟨w.heap.size, 0, none⟩), 0, rfl, Ot_2.out, HBwt_5.out⟩
  | true =>
    replace H := let_hid H
    obtain ⟨t_6, ht_6, H⟩ := H
    obtain rfl : t_6 = false := ht_6.symm
    replace H := join_hid H
    replace H := ite_f H
    replace H := bind_hid H
    obtain ⟨t_9, qt_9, H⟩ := H
    go_wp2_with fail
    go_at_call 41
    refine (Go.Proofs.YtgimcnpkngpmiaaDoor.GsL11Reading.C fuel (reading)  _    qt_9).mono ?_
    rintro e_t_9 wt_9 ⟨rfl, bt_9⟩
    have HBwt_9 := Lib.hid (Below.step HBwt_5.out bt_9)
    replace Ot_2 := Lib.hid (own_below Ot_2.out bt_9)
    clear bt_9
    cases t_9 with
    | false =>
      replace H := let_hid H
      obtain ⟨t_10, ht_10, H⟩ := H
      obtain rfl : t_10 = true := ht_10.symm
      replace H := app_hid H
      replace H := join_hid H
      replace H := ite_t H
      replace H := app_hid H
      replace H := ite_t H
      cases ret_hid H
      go_wp2_with fail
      go_ret2
      exact ⟨(some ⟨w.heap.size, 0, none⟩), 0, rfl, Ot_2.out, HBwt_9.out⟩
    | true =>
      replace H := let_hid H
      obtain ⟨t_10, ht_10, H⟩ := H
      obtain rfl : t_10 = false := ht_10.symm
      replace H := app_hid H
      replace H := join_hid H
      replace H := ite_f H
      replace H := bind_hid H
      obtain ⟨t_14, qt_14, H⟩ := H
      go_wp2_with fail
      go_at_call 42
      refine (Go.Proofs.YtgimcnpkngpmiaaDoor.GsL2Day.C (day)  _    qt_14).mono ?_
      rintro e_t_14 wt_14 ⟨rfl, bt_14⟩
      have HBwt_14 := Lib.hid (Below.step HBwt_9.out bt_14)
      replace Ot_2 := Lib.hid (own_below Ot_2.out bt_14)
      clear bt_14
      cases t_14 with
      | false =>
        replace H := let_hid H
        obtain ⟨t_15, ht_15, H⟩ := H
        obtain rfl : t_15 = true := ht_15.symm
        replace H := app_hid H
        replace H := ite_t H
        cases ret_hid H
        go_wp2_with fail
        go_ret2
        exact ⟨(some ⟨w.heap.size, 0, none⟩), 0, rfl, Ot_2.out, HBwt_14.out⟩
      | true =>
        replace H := let_hid H
        obtain ⟨t_15, ht_15, H⟩ := H
        obtain rfl : t_15 = false := ht_15.symm
        replace H := app_hid H
        replace H := ite_f H
        go_wp2_with fail
        go_loopg [9, 8] (list.length) (fun m_ v9_ v8_ wr => ∃ (k0 : Nat) (out_8l0 : (List Int)) (Aout_8l0 : Option Addr) (cout_8l0 : Nat), k0 + m_ = list.length ∧ v9_ = .int .i64 (k0 : Int) ∧ v8_ = .slice Aout_8l0 out_8l0.length cout_8l0 ∧ Hid (cntK (l0 list reading day fuel) m_ k0 (out_8l0) (e0 ) = some (r0, r1)) ∧ Hid (Below w.heap.size w wr) ∧ Hid (wr.ownsRow w.heap.size 3 1 (.slice Aout_8l0 out_8l0.length cout_8l0) out_8l0.length (Go.Proofs.YtgimcnpkngpmiaaDoor.HelpInt.iv out_8l0)))
        case atStart => exact ⟨0, _, _, _, by omega, rfl, rfl, H, HBwt_14, Ot_2⟩
        case round =>
          obtain ⟨k0, out_8l0, Aout_8l0, cout_8l0, hkm0, rfl, rfl, H, HBwr0, Oout_8l0⟩ := hrel
          rename World => wr0
          cases gk with
          | zero =>
            obtain rfl : k0 = list.length := by omega
            have hc0 : decide (((list.length : Nat) : Int) < ((list.length : Nat) : Int)) = false := by simp
            replace H := cnt_zero H
            unfold e0 at H
            replace H := let_hid H
            obtain ⟨_, rfl, H⟩ := H
            cases ret_hid H
            go_wp2_with fail
            go_ret2
            exact ⟨Aout_8l0, cout_8l0, rfl, Oout_8l0.out, HBwr0.out⟩
          | succ m0 =>
            have hlt0 : k0 < list.length := by omega
            have hc0 : decide ((k0 : Int) < ((list.length : Nat) : Int)) = true := by simp; omega
            replace H := cnt_succ H
            unfold l0 at H
            replace H := let_hid H
            obtain ⟨_, rfl, H⟩ := H
            replace H := idx_hid H
            obtain ⟨nt_27, yt_27, et_27, lt_27, gt_27, H⟩ := H
            obtain rfl : k0 = nt_27 := by omega
            clear et_27
            obtain ⟨t_27_id, t_27_town, t_27_kind_, t_27_first, t_27_last, t_27_lost⟩ := yt_27
            replace H := unPostmark_hid H
            obtain ⟨ab_t_27, ao_t_27, zt_27, At_27, z_t_27, ct_27_0, ct_27_1, ct_27_2, ct_27_3, ct_27_4, ct_27_5⟩ := Go.Proofs.YtgimcnpkngpmiaaDoor.OPostmark.at_ M0.out lt_27
            obtain rfl := Option.some.inj (gt_27.out.symm.trans z_t_27)
            subst At_27
            have ltt_27 := cell_lt ct_27_0
            replace ct_27_0 := cell_below HBwr0.out ct_27_0
            replace ct_27_1 := cell_below HBwr0.out ct_27_1
            replace ct_27_2 := cell_below HBwr0.out ct_27_2
            replace ct_27_3 := cell_below HBwr0.out ct_27_3
            replace ct_27_4 := cell_below HBwr0.out ct_27_4
            replace ct_27_5 := cell_below HBwr0.out ct_27_5
            clear z_t_27
            have b0t_27 : (0 : Int) ≤ (k0 : Int) := by omega
            have b1t_27 : (k0 : Int) < ((list.length : Nat) : Int) := by omega
            have b2t_27 : ((k0 : Int)).toNat = k0 := by omega
            replace H := bind_hid H
            obtain ⟨t_30, qt_30, H⟩ := H
            go_wp2_with fail
            go_at_call 43
            refine (Go.Proofs.YtgimcnpkngpmiaaDoor.GsL11Used.C ((Go.Proofs.YtgimcnpkngpmiaaDoor.PPostmark.Postmark.mk t_27_id t_27_town t_27_kind_ t_27_first t_27_last t_27_lost)) (day)  _    qt_30).mono ?_
            rintro e_t_30 wt_30 ⟨rfl, bt_30⟩
            have HBwt_30 := Lib.hid (Below.step HBwr0.out bt_30)
            replace ct_27_0 := cell_below bt_30 ct_27_0
            replace ct_27_1 := cell_below bt_30 ct_27_1
            replace ct_27_2 := cell_below bt_30 ct_27_2
            replace ct_27_3 := cell_below bt_30 ct_27_3
            replace ct_27_4 := cell_below bt_30 ct_27_4
            replace ct_27_5 := cell_below bt_30 ct_27_5
            replace Oout_8l0 := Lib.hid (own_below Oout_8l0.out bt_30)
            clear bt_30
            replace H := join_hid H
            cases t_30 with
            | false =>
              replace H := ite_f H
              replace H := app_hid H
              replace H := ite_f H
              replace H := app_hid H
              go_wp2_with fail
              go_roundg m0
              case measure => omega
              case rel => exact ⟨k0 + 1, _, _, _, by omega, by go_num, rfl, H, HBwt_30, Oout_8l0⟩
            | true =>
              replace H := ite_t H
              replace H := idx_hid H
              obtain ⟨nt_35, yt_35, et_35, lt_35, gt_35, H⟩ := H
              obtain rfl : k0 = nt_35 := by omega
              clear et_35
              obtain rfl := Option.some.inj (gt_27.out.symm.trans gt_35.out)
              clear gt_35 lt_35
              replace H := unPostmark_hid H
              replace H := bind_hid H
              obtain ⟨t_37, qt_37, H⟩ := H
              go_wp2_with fail
              go_at_call 45
              refine (Go.Proofs.YtgimcnpkngpmiaaDoor.GsL11Shown.C fuel ((Go.Proofs.YtgimcnpkngpmiaaDoor.PPostmark.Postmark.mk t_27_id t_27_town t_27_kind_ t_27_first t_27_last t_27_lost))  _    qt_37).mono ?_
              rintro e_t_37 wt_37 ⟨rfl, bt_37⟩
              have HBwt_37 := Lib.hid (Below.step HBwt_30.out bt_37)
              replace ct_27_0 := cell_below bt_37 ct_27_0
              replace ct_27_1 := cell_below bt_37 ct_27_1
              replace ct_27_2 := cell_below bt_37 ct_27_2
              replace ct_27_3 := cell_below bt_37 ct_27_3
              replace ct_27_4 := cell_below bt_37 ct_27_4
              replace ct_27_5 := cell_below bt_37 ct_27_5
              replace Oout_8l0 := Lib.hid (own_below Oout_8l0.out bt_37)
              clear bt_37
              replace H := bind_hid H
              obtain ⟨t_38, qt_38, H⟩ := H
              go_wp2_with fail
              go_at_call 44
              refine (Go.Proofs.YtgimcnpkngpmiaaDoor.GsL11Reads.C (reading) (t_37)  _    qt_38).mono ?_
              rintro e_t_38 wt_38 ⟨rfl, bt_38⟩
              have HBwt_38 := Lib.hid (Below.step HBwt_37.out bt_38)
              replace ct_27_0 := cell_below bt_38 ct_27_0
              replace ct_27_1 := cell_below bt_38 ct_27_1
              replace ct_27_2 := cell_below bt_38 ct_27_2
              replace ct_27_3 := cell_below bt_38 ct_27_3
              replace ct_27_4 := cell_below bt_38 ct_27_4
              replace ct_27_5 := cell_below bt_38 ct_27_5
              replace Oout_8l0 := Lib.hid (own_below Oout_8l0.out bt_38)
              clear bt_38
              replace H := app_hid H
              cases t_38 with
              | false =>
                replace H := ite_f H
                replace H := app_hid H
                go_wp2_with fail
                go_roundg m0
                case measure => omega
                case rel => exact ⟨k0 + 1, _, _, _, by omega, by go_num, rfl, H, HBwt_38, Oout_8l0⟩
              | true =>
                replace H := ite_t H
                replace H := idx_hid H
                obtain ⟨nt_43, yt_43, et_43, lt_43, gt_43, H⟩ := H
                obtain rfl : k0 = nt_43 := by omega
                clear et_43
                obtain rfl := Option.some.inj (gt_27.out.symm.trans gt_43.out)
                clear gt_43 lt_43
                replace H := unPostmark_hid H
                obtain ⟨w_t_46, hw_t_46⟩ : ∃ x, wt_38.alloc (.cells #[.int .i64 t_27_id] 3) = x := ⟨_, rfl⟩
                have bw_t_46 : Below wt_38.heap.size wt_38 w_t_46 := by rw [← hw_t_46]; exact (Below.refl _ _).alloc (Nat.le_refl _) _
                have HBw_t_46 := Lib.hid (Below.step HBwt_38.out bw_t_46)
                have ct_27_0__155 := cell_below bw_t_46 ct_27_0
                have ct_27_1__156 := cell_below bw_t_46 ct_27_1
                have ct_27_2__157 := cell_below bw_t_46 ct_27_2
                have ct_27_3__158 := cell_below bw_t_46 ct_27_3
                have ct_27_4__159 := cell_below bw_t_46 ct_27_4
                have ct_27_5__160 := cell_below bw_t_46 ct_27_5
                replace Oout_8l0 := Lib.hid (own_below Oout_8l0.out bw_t_46)
                clear bw_t_46
                replace H := guard_hid H
                obtain ⟨hlt_47, H⟩ := H
                replace H := let_hid H
                obtain ⟨t_47, ht_47, H⟩ := H
                have hht_47 := Lib.hid ht_47
                clear ht_47
                have hst_47 := HBw_t_46.out.size
                go_wp2_with (at_builtin; refine wpList_append_own_at _ rfl _ _ 24 rfl w.heap.size 3 i0_3 (.int .i64 0) 1 8 Tryd.underlying24 hi_3 hz0_3 hz1_3 hz2_3 rfl (by decide) _ _ _ rfl Oout_8l0.out ⟨wt_38.heap.size, 0, none⟩ 1 1 [.int .i64 t_27_id] rfl rfl (news_new hw_t_46) (one_cells rfl) (by unfold maxLen; omega) (by omega) hst_47 ?_; intro vt_47 wt_47 ot_47 gt_47 zt_47 yt_47; clear zt_47; obtain ⟨qt_47, ct_47, rfl, pt_47⟩ := own_push hht_47.out (Go.Proofs.YtgimcnpkngpmiaaDoor.HelpInt.iv_snoc _ _) rfl ot_47; have Pt_47 := Lib.hid pt_47; have Yt_47 := Lib.hid yt_47; have Gt_47 := Lib.hid gt_47; clear ot_47 gt_47 pt_47 yt_47; refine stop_in ?_)
                refine stop_out ?_
                have HBwt_47 := Lib.hid (HBw_t_46.out.grown Gt_47.out hst_47 (fun q hq => (Oout_8l0.out.lt q hq).1))
                clear hst_47
                replace ct_27_0__155 := cell_other ct_27_0__155 Gt_47.out (apart_old Oout_8l0.out ltt_27)
                replace ct_27_1__156 := cell_other ct_27_1__156 Gt_47.out (apart_old Oout_8l0.out ltt_27)
                replace ct_27_2__157 := cell_other ct_27_2__157 Gt_47.out (apart_old Oout_8l0.out ltt_27)
                replace ct_27_3__158 := cell_other ct_27_3__158 Gt_47.out (apart_old Oout_8l0.out ltt_27)
                replace ct_27_4__159 := cell_other ct_27_4__159 Gt_47.out (apart_old Oout_8l0.out ltt_27)
                replace ct_27_5__160 := cell_other ct_27_5__160 Gt_47.out (apart_old Oout_8l0.out ltt_27)
                clear ct_27_0 ct_27_1 ct_27_2 ct_27_3 ct_27_4 ct_27_5
                clear Oout_8l0 Yt_47 Gt_47
                replace H := app_hid H
                go_wp2_with fail
                go_roundg m0
                case measure => omega
                case rel => exact ⟨k0 + 1, _, _, _, by omega, by go_num, rfl, H, HBwt_47, Pt_47⟩
end Go.Proofs.YtgimcnpkngpmiaaDoor.GsReadMarks

/- loop.example/g01062/impl.idOfPostmark as a plain function, and the contract of the program's: where the plain one has an answer, the program has it. Conditions: slices read as lists. -/
namespace Go.Proofs.YtgimcnpkngpmiaaDoor.GiIdOfPostmark
set_option linter.unusedVariables false
set_option linter.unusedSimpArgs false
open Go.RowKit
open Go.Proofs.YtgimcnpkngpmiaaDoor.Rowed Go.Proofs.YtgimcnpkngpmiaaDoor.Turn Go.Proofs.YtgimcnpkngpmiaaDoor.Aid Go.Proofs.YtgimcnpkngpmiaaDoor.GoP Go.Proofs.YtgimcnpkngpmiaaDoor.GoM

def P (p : Go.Proofs.YtgimcnpkngpmiaaDoor.PPostmark.Postmark) : Option (Int) :=
  unPostmark p fun (p_id : Int) (p_town : ByteArray) (p_kind_ : Int) (p_first : Int) (p_last : Int) (p_lost : ByteArray) =>
  some p_id

set_option maxRecDepth 100000 in
set_option maxHeartbeats 2000000 in
theorem C (p : Go.Proofs.YtgimcnpkngpmiaaDoor.PPostmark.Postmark)   (w : World)   {r : Int} (H : Hid (P p = some r)) :
    Calls Tryd.prog 49 #[p.val] w (Gives (.int .i64 r) w) := by
  have HB := Lib.hid (Below.refl w.heap.size w)
  unfold P at H
  obtain ⟨p_id, p_town, p_kind_, p_first, p_last, p_lost⟩ := p
  replace H := unPostmark_hid H
  unfold Go.Proofs.YtgimcnpkngpmiaaDoor.PPostmark.Postmark.val
  go_enter Tryd.func49, Tryd.ntmps49
  obtain ⟨w_p_0, hw_p_0⟩ : ∃ x, w.alloc (.cells #[.int .i64 p_id, .string p_town, .int .i64 p_kind_, .int .i64 p_first, .int .i64 p_last, .string p_lost] 39) = x := ⟨_, rfl⟩
  have bw_p_0 : Below w.heap.size w w_p_0 := by rw [← hw_p_0]; exact (Below.refl _ _).alloc (Nat.le_refl _) _
  have HBw_p_0 := Lib.hid (Below.step HB.out bw_p_0)
  clear bw_p_0
  have kp_0_0 : w_p_0.cell? ⟨w.heap.size, 0, none⟩ = some (.int .i64 p_id) := by rw [← hw_p_0]; exact box_new _ _ _ 0 _ rfl
  have kp_0_1 : w_p_0.cell? ⟨w.heap.size, 1, none⟩ = some (.string p_town) := by rw [← hw_p_0]; exact box_new _ _ _ 1 _ rfl
  have kp_0_2 : w_p_0.cell? ⟨w.heap.size, 2, none⟩ = some (.int .i64 p_kind_) := by rw [← hw_p_0]; exact box_new _ _ _ 2 _ rfl
  have kp_0_3 : w_p_0.cell? ⟨w.heap.size, 3, none⟩ = some (.int .i64 p_first) := by rw [← hw_p_0]; exact box_new _ _ _ 3 _ rfl
  have kp_0_4 : w_p_0.cell? ⟨w.heap.size, 4, none⟩ = some (.int .i64 p_last) := by rw [← hw_p_0]; exact box_new _ _ _ 4 _ rfl
  have kp_0_5 : w_p_0.cell? ⟨w.heap.size, 5, none⟩ = some (.string p_lost) := by rw [← hw_p_0]; exact box_new _ _ _ 5 _ rfl
  obtain rfl := ret_hid H
  go_wp2_with fail
  go_ret
  exact ⟨rfl, HBw_p_0.out⟩
end Go.Proofs.YtgimcnpkngpmiaaDoor.GiIdOfPostmark

/- loop.example/g01062/impl.areByKey[loop.example/g01062/impl.Postmark,int] as a plain function, and the contract of the program's: where the plain one has an answer, the program has it. Conditions: slices read as lists. -/
namespace Go.Proofs.YtgimcnpkngpmiaaDoor.GiAreByKeyPostmarkIntiIsPostmarkiIdOfPostmark
set_option linter.unusedVariables false
set_option linter.unusedSimpArgs false
open Go.RowKit
open Go.Proofs.YtgimcnpkngpmiaaDoor.Rowed Go.Proofs.YtgimcnpkngpmiaaDoor.Turn Go.Proofs.YtgimcnpkngpmiaaDoor.Aid Go.Proofs.YtgimcnpkngpmiaaDoor.GoP Go.Proofs.YtgimcnpkngpmiaaDoor.GoM

def l0 (list : (List Go.Proofs.YtgimcnpkngpmiaaDoor.PPostmark.Postmark)) (k0 : Nat) (s : Unit) (nx0 bk0 : Unit → Option (Bool)) : Option (Bool) :=
  
  Option.bind (idx list (k0 : Int)) fun (yt_11 : Go.Proofs.YtgimcnpkngpmiaaDoor.PPostmark.Postmark) =>
  unPostmark yt_11 fun (t_11_id : Int) (t_11_town : ByteArray) (t_11_kind_ : Int) (t_11_first : Int) (t_11_last : Int) (t_11_lost : ByteArray) =>
  Option.bind (Go.Proofs.YtgimcnpkngpmiaaDoor.GiIsPostmark.P (Go.Proofs.YtgimcnpkngpmiaaDoor.PPostmark.Postmark.mk t_11_id t_11_town t_11_kind_ t_11_first t_11_last t_11_lost)) fun (t_18 : Bool) =>
  letK (!t_18) fun (t_19 : Bool) =>
  joinK (fun (t_36 : Bool) =>
  iteK t_36
  (some false)
  (appK nx0 ())) fun jt_36 => iteK t_19 (appK jt_36 true) (letK (decide (0 < (k0 : Int))) fun (t_22 : Bool) =>
  joinK (fun (t_35 : Bool) =>
  appK jt_36 t_35) fun jt_35 => iteK t_22 (Option.bind (Go.Proofs.YtgimcnpkngpmiaaDoor.GiIdOfPostmark.P (Go.Proofs.YtgimcnpkngpmiaaDoor.PPostmark.Postmark.mk t_11_id t_11_town t_11_kind_ t_11_first t_11_last t_11_lost)) fun (t_26 : Int) =>
  letK (IntKind.i64.wrap ((k0 : Int) - 1)) fun (t_30 : Int) =>
  Option.bind (idx list t_30) fun (yt_31 : Go.Proofs.YtgimcnpkngpmiaaDoor.PPostmark.Postmark) =>
  unPostmark yt_31 fun (t_31_id : Int) (t_31_town : ByteArray) (t_31_kind_ : Int) (t_31_first : Int) (t_31_last : Int) (t_31_lost : ByteArray) =>
  Option.bind (Go.Proofs.YtgimcnpkngpmiaaDoor.GiIdOfPostmark.P (Go.Proofs.YtgimcnpkngpmiaaDoor.PPostmark.Postmark.mk t_31_id t_31_town t_31_kind_ t_31_first t_31_last t_31_lost)) fun (t_33 : Int) =>
  letK (decide (t_26 ≤ t_33)) fun (t_34 : Bool) =>
  appK jt_35 t_34) (appK jt_35 false))

def e0  (s : Unit) : Option (Bool) :=
  
  some true

def P (list : (List Go.Proofs.YtgimcnpkngpmiaaDoor.PPostmark.Postmark)) (most : Int) : Option (Bool) :=
  letK (decide (most < (list.length : Int))) fun (t_4 : Bool) =>
  iteK t_4
  (some false)
  (cntK (l0 list) (list.length) 0 () (e0 ))

set_option maxRecDepth 100000 in
set_option maxHeartbeats 2000000 in
theorem C (list : (List Go.Proofs.YtgimcnpkngpmiaaDoor.PPostmark.Postmark)) (most : Int) (A0 : Option Addr) (c0 : Nat)  (w : World) (M0 : Hid (Cells w 6 A0 list.length (Go.Proofs.YtgimcnpkngpmiaaDoor.PPostmark.flat list))) (N0 : Hid (list.length ≤ 9223372036854775807))  {r : Bool} (H : Hid (P list most = some r)) :
    Calls Tryd.prog 80 #[.slice A0 list.length c0, .int .i64 most, .func (.func 36) #[] #[], .func (.func 49) #[] #[]] w (Gives (.bool r) w) := by
  have HB := Lib.hid (Below.refl w.heap.size w)
  unfold P at H
  have N0o := N0.out
  go_enter Tryd.func80, Tryd.ntmps80
  replace H := let_hid H
  obtain ⟨t_4, ht_4, H⟩ := H
  cases t_4 with
  | false =>
    replace H := ite_f H
    go_wp2_with fail
    go_loopg [17] (list.length) (fun m_ v17_ wr => ∃ (k0 : Nat) , k0 + m_ = list.length ∧ v17_ = .int .i64 (k0 : Int) ∧ Hid (cntK (l0 list) m_ k0 () (e0 ) = some r) ∧ Hid (Below w.heap.size w wr))
    case atStart => exact ⟨0, by omega, rfl, H, HB⟩
    case round =>
      obtain ⟨k0, hkm0, rfl, H, HBwr0⟩ := hrel
      rename World => wr0
      cases gk with
      | zero =>
        obtain rfl : k0 = list.length := by omega
        have hc0 : decide (((list.length : Nat) : Int) < ((list.length : Nat) : Int)) = false := by simp
        replace H := cnt_zero H
        unfold e0 at H
        obtain rfl := ret_hid H
        go_wp2_with fail
        go_ret
        exact ⟨rfl, HBwr0.out⟩
      | succ m0 =>
        have hlt0 : k0 < list.length := by omega
        have hc0 : decide ((k0 : Int) < ((list.length : Nat) : Int)) = true := by simp; omega
        replace H := cnt_succ H
        unfold l0 at H
        replace H := idx_hid H
        obtain ⟨nt_11, yt_11, et_11, lt_11, gt_11, H⟩ := H
        obtain rfl : k0 = nt_11 := by omega
        clear et_11
        obtain ⟨t_11_id, t_11_town, t_11_kind_, t_11_first, t_11_last, t_11_lost⟩ := yt_11
        replace H := unPostmark_hid H
        obtain ⟨ab_t_11, ao_t_11, zt_11, At_11, z_t_11, ct_11_0, ct_11_1, ct_11_2, ct_11_3, ct_11_4, ct_11_5⟩ := Go.Proofs.YtgimcnpkngpmiaaDoor.OPostmark.at_ M0.out lt_11
        obtain rfl := Option.some.inj (gt_11.out.symm.trans z_t_11)
        subst At_11
        have ltt_11 := cell_lt ct_11_0
        replace ct_11_0 := cell_below HBwr0.out ct_11_0
        replace ct_11_1 := cell_below HBwr0.out ct_11_1
        replace ct_11_2 := cell_below HBwr0.out ct_11_2
        replace ct_11_3 := cell_below HBwr0.out ct_11_3
        replace ct_11_4 := cell_below HBwr0.out ct_11_4
        replace ct_11_5 := cell_below HBwr0.out ct_11_5
        clear z_t_11
        have b0t_11 : (0 : Int) ≤ (k0 : Int) := by omega
        have b1t_11 : (k0 : Int) < ((list.length : Nat) : Int) := by omega
        have b2t_11 : ((k0 : Int)).toNat = k0 := by omega
        obtain ⟨w_e_13, hw_e_13⟩ : ∃ x, wr0.alloc (.cells #[.int .i64 t_11_id, .string t_11_town, .int .i64 t_11_kind_, .int .i64 t_11_first, .int .i64 t_11_last, .string t_11_lost] 39) = x := ⟨_, rfl⟩
        have bw_e_13 : Below wr0.heap.size wr0 w_e_13 := by rw [← hw_e_13]; exact (Below.refl _ _).alloc (Nat.le_refl _) _
        have HBw_e_13 := Lib.hid (Below.step HBwr0.out bw_e_13)
        have ct_11_0__161 := cell_below bw_e_13 ct_11_0
        have ct_11_1__162 := cell_below bw_e_13 ct_11_1
        have ct_11_2__163 := cell_below bw_e_13 ct_11_2
        have ct_11_3__164 := cell_below bw_e_13 ct_11_3
        have ct_11_4__165 := cell_below bw_e_13 ct_11_4
        have ct_11_5__166 := cell_below bw_e_13 ct_11_5
        clear bw_e_13
        have ke_13_0 : w_e_13.cell? ⟨wr0.heap.size, 0, none⟩ = some (.int .i64 t_11_id) := by rw [← hw_e_13]; exact box_new _ _ _ 0 _ rfl
        have ke_13_1 : w_e_13.cell? ⟨wr0.heap.size, 1, none⟩ = some (.string t_11_town) := by rw [← hw_e_13]; exact box_new _ _ _ 1 _ rfl
        have ke_13_2 : w_e_13.cell? ⟨wr0.heap.size, 2, none⟩ = some (.int .i64 t_11_kind_) := by rw [← hw_e_13]; exact box_new _ _ _ 2 _ rfl
        have ke_13_3 : w_e_13.cell? ⟨wr0.heap.size, 3, none⟩ = some (.int .i64 t_11_first) := by rw [← hw_e_13]; exact box_new _ _ _ 3 _ rfl
        have ke_13_4 : w_e_13.cell? ⟨wr0.heap.size, 4, none⟩ = some (.int .i64 t_11_last) := by rw [← hw_e_13]; exact box_new _ _ _ 4 _ rfl
        have ke_13_5 : w_e_13.cell? ⟨wr0.heap.size, 5, none⟩ = some (.string t_11_lost) := by rw [← hw_e_13]; exact box_new _ _ _ 5 _ rfl
        go_wp2_with fail
        clear ct_11_0 ct_11_1 ct_11_2 ct_11_3 ct_11_4 ct_11_5
        have Hct_11_0__161 := Lib.hid ct_11_0__161
        replace ct_11_0__161 := cell_regrown ct_11_0__161
        have Hct_11_1__162 := Lib.hid ct_11_1__162
        replace ct_11_1__162 := cell_regrown ct_11_1__162
        have Hct_11_2__163 := Lib.hid ct_11_2__163
        replace ct_11_2__163 := cell_regrown ct_11_2__163
        have Hct_11_3__164 := Lib.hid ct_11_3__164
        replace ct_11_3__164 := cell_regrown ct_11_3__164
        have Hct_11_4__165 := Lib.hid ct_11_4__165
        replace ct_11_4__165 := cell_regrown ct_11_4__165
        have Hct_11_5__166 := Lib.hid ct_11_5__166
        replace ct_11_5__166 := cell_regrown ct_11_5__166
        have Hke_13_0 := Lib.hid ke_13_0
        replace ke_13_0 := cell_regrown ke_13_0
        have Hke_13_1 := Lib.hid ke_13_1
        replace ke_13_1 := cell_regrown ke_13_1
        have Hke_13_2 := Lib.hid ke_13_2
        replace ke_13_2 := cell_regrown ke_13_2
        have Hke_13_3 := Lib.hid ke_13_3
        replace ke_13_3 := cell_regrown ke_13_3
        have Hke_13_4 := Lib.hid ke_13_4
        replace ke_13_4 := cell_regrown ke_13_4
        have Hke_13_5 := Lib.hid ke_13_5
        replace ke_13_5 := cell_regrown ke_13_5
        replace H := bind_hid H
        obtain ⟨t_18, qt_18, H⟩ := H
        have nt_18 : ∀ d os, Calls Tryd.prog 36 #[.agg #[.int .i64 t_11_id, .string t_11_town, .int .i64 t_11_kind_, .int .i64 t_11_first, .int .i64 t_11_last, .string t_11_lost]] (Go.Sort.grow (redrawn w_e_13 d) os) fun e w'' => e = .returned (.bool t_18) ∧ ∃ p : Regrown, w'' = Go.Sort.grow (redrawn w_e_13 p.d) p.os := fun d os => Calls.regrown_of (Go.Proofs.YtgimcnpkngpmiaaDoor.GiIsPostmark.C ((Go.Proofs.YtgimcnpkngpmiaaDoor.PPostmark.Postmark.mk t_11_id t_11_town t_11_kind_ t_11_first t_11_last t_11_lost))  _    qt_18)
        cases t_18 with
        | false =>
          replace H := let_hid H
          obtain ⟨t_19, ht_19, H⟩ := H
          obtain rfl : t_19 = true := ht_19.symm
          replace H := join_hid H
          replace H := ite_t H
          replace H := app_hid H
          refine wp_region_quiet_below (by kernel_rfl) (by kernel_rfl) ?_
          repeat (go_big_quiet_step (first | (go_at_call 36; exact nt_18 _ _)))
          refine wpQuiet_nil ?_
          intro Y6 hY6
          replace hY6 := below_class hY6
          clear nt_18
          replace ct_11_0__161 := Hct_11_0__161.out
          clear Hct_11_0__161
          replace ct_11_1__162 := Hct_11_1__162.out
          clear Hct_11_1__162
          replace ct_11_2__163 := Hct_11_2__163.out
          clear Hct_11_2__163
          replace ct_11_3__164 := Hct_11_3__164.out
          clear Hct_11_3__164
          replace ct_11_4__165 := Hct_11_4__165.out
          clear Hct_11_4__165
          replace ct_11_5__166 := Hct_11_5__166.out
          clear Hct_11_5__166
          replace ke_13_0 := Hke_13_0.out
          clear Hke_13_0
          replace ke_13_1 := Hke_13_1.out
          clear Hke_13_1
          replace ke_13_2 := Hke_13_2.out
          clear Hke_13_2
          replace ke_13_3 := Hke_13_3.out
          clear Hke_13_3
          replace ke_13_4 := Hke_13_4.out
          clear Hke_13_4
          replace ke_13_5 := Hke_13_5.out
          clear Hke_13_5
          have HBY6 := Lib.hid (Below.step HBw_e_13.out hY6)
          replace ct_11_0__161 := cell_below hY6 ct_11_0__161
          replace ct_11_1__162 := cell_below hY6 ct_11_1__162
          replace ct_11_2__163 := cell_below hY6 ct_11_2__163
          replace ct_11_3__164 := cell_below hY6 ct_11_3__164
          replace ct_11_4__165 := cell_below hY6 ct_11_4__165
          replace ct_11_5__166 := cell_below hY6 ct_11_5__166
          replace ke_13_0 := cell_below hY6 ke_13_0
          replace ke_13_1 := cell_below hY6 ke_13_1
          replace ke_13_2 := cell_below hY6 ke_13_2
          replace ke_13_3 := cell_below hY6 ke_13_3
          replace ke_13_4 := cell_below hY6 ke_13_4
          replace ke_13_5 := cell_below hY6 ke_13_5
          clear hY6
          replace H := ite_t H
          obtain rfl := ret_hid H
          go_wp2_with fail
          go_ret
          exact ⟨rfl, HBY6.out⟩
        | true =>
          replace H := let_hid H
          obtain ⟨t_19, ht_19, H⟩ := H
          obtain rfl : t_19 = false := ht_19.symm
          replace H := join_hid H
          replace H := ite_f H
          replace H := let_hid H
          obtain ⟨t_22, ht_22, H⟩ := H
          replace H := join_hid H
          cases t_22 with
          | false =>
            have nht_22 : ¬ (0 < k0) := by have := of_decide_eq_false ht_22; omega
            replace H := ite_f H
            replace H := app_hid H
            replace H := app_hid H
            refine wp_region_quiet_below (by kernel_rfl) (by kernel_rfl) ?_
            repeat (go_big_quiet_step (first | (go_at_call 36; exact nt_18 _ _)))
            refine wpQuiet_nil ?_
            intro Y6 hY6
            replace hY6 := below_class hY6
            clear nt_18
            replace ct_11_0__161 := Hct_11_0__161.out
            clear Hct_11_0__161
            replace ct_11_1__162 := Hct_11_1__162.out
            clear Hct_11_1__162
            replace ct_11_2__163 := Hct_11_2__163.out
            clear Hct_11_2__163
            replace ct_11_3__164 := Hct_11_3__164.out
            clear Hct_11_3__164
            replace ct_11_4__165 := Hct_11_4__165.out
            clear Hct_11_4__165
            replace ct_11_5__166 := Hct_11_5__166.out
            clear Hct_11_5__166
            replace ke_13_0 := Hke_13_0.out
            clear Hke_13_0
            replace ke_13_1 := Hke_13_1.out
            clear Hke_13_1
            replace ke_13_2 := Hke_13_2.out
            clear Hke_13_2
            replace ke_13_3 := Hke_13_3.out
            clear Hke_13_3
            replace ke_13_4 := Hke_13_4.out
            clear Hke_13_4
            replace ke_13_5 := Hke_13_5.out
            clear Hke_13_5
            have HBY6 := Lib.hid (Below.step HBw_e_13.out hY6)
            replace ct_11_0__161 := cell_below hY6 ct_11_0__161
            replace ct_11_1__162 := cell_below hY6 ct_11_1__162
            replace ct_11_2__163 := cell_below hY6 ct_11_2__163
            replace ct_11_3__164 := cell_below hY6 ct_11_3__164
            replace ct_11_4__165 := cell_below hY6 ct_11_4__165
            replace ct_11_5__166 := cell_below hY6 ct_11_5__166
            replace ke_13_0 := cell_below hY6 ke_13_0
            replace ke_13_1 := cell_below hY6 ke_13_1
            replace ke_13_2 := cell_below hY6 ke_13_2
            replace ke_13_3 := cell_below hY6 ke_13_3
            replace ke_13_4 := cell_below hY6 ke_13_4
            replace ke_13_5 := cell_below hY6 ke_13_5
            clear hY6
            replace H := ite_f H
            replace H := app_hid H
            go_wp2_with fail
            go_roundg m0
            case measure => omega
            case rel => exact ⟨k0 + 1, by omega, by go_num, H, HBY6⟩
          | true =>
            have nht_22 : 0 < k0 := by have := of_decide_eq_true ht_22; omega
            replace H := ite_t H
            replace H := bind_hid H
            obtain ⟨t_26, qt_26, H⟩ := H
            have nt_26 : ∀ d os, Calls Tryd.prog 49 #[.agg #[.int .i64 t_11_id, .string t_11_town, .int .i64 t_11_kind_, .int .i64 t_11_first, .int .i64 t_11_last, .string t_11_lost]] (Go.Sort.grow (redrawn w_e_13 d) os) fun e w'' => e = .returned (.int .i64 t_26) ∧ ∃ p : Regrown, w'' = Go.Sort.grow (redrawn w_e_13 p.d) p.os := fun d os => Calls.regrown_of (Go.Proofs.YtgimcnpkngpmiaaDoor.GiIdOfPostmark.C ((Go.Proofs.YtgimcnpkngpmiaaDoor.PPostmark.Postmark.mk t_11_id t_11_town t_11_kind_ t_11_first t_11_last t_11_lost))  _    qt_26)
            replace H := let_hid H
            obtain ⟨t_30, ht_30, H⟩ := H
            replace H := idx_hid H
            obtain ⟨nt_31, yt_31, et_31, lt_31, gt_31, H⟩ := H
            subst et_31
            obtain ⟨t_31_id, t_31_town, t_31_kind_, t_31_first, t_31_last, t_31_lost⟩ := yt_31
            replace H := unPostmark_hid H
            obtain ⟨ab_t_31, ao_t_31, zt_31, At_31, z_t_31, ct_31_0, ct_31_1, ct_31_2, ct_31_3, ct_31_4, ct_31_5⟩ := Go.Proofs.YtgimcnpkngpmiaaDoor.OPostmark.at_ M0.out lt_31
            obtain rfl := Option.some.inj (gt_31.out.symm.trans z_t_31)
            simp only [Option.some.injEq, Addr.mk.injEq] at At_31
            obtain ⟨rfl, rfl, _⟩ := At_31
            have ltt_31 := cell_lt ct_31_0
            replace ct_31_0 := cell_below HBw_e_13.out ct_31_0
            replace ct_31_1 := cell_below HBw_e_13.out ct_31_1
            replace ct_31_2 := cell_below HBw_e_13.out ct_31_2
            replace ct_31_3 := cell_below HBw_e_13.out ct_31_3
            replace ct_31_4 := cell_below HBw_e_13.out ct_31_4
            replace ct_31_5 := cell_below HBw_e_13.out ct_31_5
            clear z_t_31
            have b0t_31 : (0 : Int) ≤ (nt_31 : Int) := by omega
            have b1t_31 : (nt_31 : Int) < ((list.length : Nat) : Int) := by omega
            have b2t_31 : ((nt_31 : Int)).toNat = nt_31 := by omega
            have Hct_31_0 := Lib.hid ct_31_0
            replace ct_31_0 := cell_regrown ct_31_0
            have Hct_31_1 := Lib.hid ct_31_1
            replace ct_31_1 := cell_regrown ct_31_1
            have Hct_31_2 := Lib.hid ct_31_2
            replace ct_31_2 := cell_regrown ct_31_2
            have Hct_31_3 := Lib.hid ct_31_3
            replace ct_31_3 := cell_regrown ct_31_3
            have Hct_31_4 := Lib.hid ct_31_4
            replace ct_31_4 := cell_regrown ct_31_4
            have Hct_31_5 := Lib.hid ct_31_5
            replace ct_31_5 := cell_regrown ct_31_5
            replace H := bind_hid H
            obtain ⟨t_33, qt_33, H⟩ := H
            have nt_33 : ∀ d os, Calls Tryd.prog 49 #[.agg #[.int .i64 t_31_id, .string t_31_town, .int .i64 t_31_kind_, .int .i64 t_31_first, .int .i64 t_31_last, .string t_31_lost]] (Go.Sort.grow (redrawn w_e_13 d) os) fun e w'' => e = .returned (.int .i64 t_33) ∧ ∃ p : Regrown, w'' = Go.Sort.grow (redrawn w_e_13 p.d) p.os := fun d os => Calls.regrown_of (Go.Proofs.YtgimcnpkngpmiaaDoor.GiIdOfPostmark.C ((Go.Proofs.YtgimcnpkngpmiaaDoor.PPostmark.Postmark.mk t_31_id t_31_town t_31_kind_ t_31_first t_31_last t_31_lost))  _    qt_33)
            replace H := let_hid H
            obtain ⟨t_34, ht_34, H⟩ := H
            replace H := app_hid H
            replace H := app_hid H
            refine wp_region_quiet_below (by kernel_rfl) (by kernel_rfl) ?_
            repeat (go_big_quiet_step (first | (go_at_call 49; with_reducible exact nt_26 _ _) | (go_at_call 49; with_reducible exact nt_33 _ _) | (go_at_call 36; exact nt_18 _ _) | (go_at_call 49; exact nt_26 _ _) | (go_at_call 49; exact nt_33 _ _)))
            refine wpQuiet_nil ?_
            intro Y6 hY6
            replace hY6 := below_class hY6
            clear nt_18 nt_26 nt_33
            replace ct_11_0__161 := Hct_11_0__161.out
            clear Hct_11_0__161
            replace ct_11_1__162 := Hct_11_1__162.out
            clear Hct_11_1__162
            replace ct_11_2__163 := Hct_11_2__163.out
            clear Hct_11_2__163
            replace ct_11_3__164 := Hct_11_3__164.out
            clear Hct_11_3__164
            replace ct_11_4__165 := Hct_11_4__165.out
            clear Hct_11_4__165
            replace ct_11_5__166 := Hct_11_5__166.out
            clear Hct_11_5__166
            replace ke_13_0 := Hke_13_0.out
            clear Hke_13_0
            replace ke_13_1 := Hke_13_1.out
            clear Hke_13_1
            replace ke_13_2 := Hke_13_2.out
            clear Hke_13_2
            replace ke_13_3 := Hke_13_3.out
            clear Hke_13_3
            replace ke_13_4 := Hke_13_4.out
            clear Hke_13_4
            replace ke_13_5 := Hke_13_5.out
            clear Hke_13_5
            replace ct_31_0 := Hct_31_0.out
            clear Hct_31_0
            replace ct_31_1 := Hct_31_1.out
            clear Hct_31_1
            replace ct_31_2 := Hct_31_2.out
            clear Hct_31_2
            replace ct_31_3 := Hct_31_3.out
            clear Hct_31_3
            replace ct_31_4 := Hct_31_4.out
            clear Hct_31_4
            replace ct_31_5 := Hct_31_5.out
            clear Hct_31_5
            have HBY6 := Lib.hid (Below.step HBw_e_13.out hY6)
            replace ct_11_0__161 := cell_below hY6 ct_11_0__161
            replace ct_11_1__162 := cell_below hY6 ct_11_1__162
            replace ct_11_2__163 := cell_below hY6 ct_11_2__163
            replace ct_11_3__164 := cell_below hY6 ct_11_3__164
            replace ct_11_4__165 := cell_below hY6 ct_11_4__165
            replace ct_11_5__166 := cell_below hY6 ct_11_5__166
            replace ke_13_0 := cell_below hY6 ke_13_0
            replace ke_13_1 := cell_below hY6 ke_13_1
            replace ke_13_2 := cell_below hY6 ke_13_2
            replace ke_13_3 := cell_below hY6 ke_13_3
            replace ke_13_4 := cell_below hY6 ke_13_4
            replace ke_13_5 := cell_below hY6 ke_13_5
            replace ct_31_0 := cell_below hY6 ct_31_0
            replace ct_31_1 := cell_below hY6 ct_31_1
            replace ct_31_2 := cell_below hY6 ct_31_2
            replace ct_31_3 := cell_below hY6 ct_31_3
            replace ct_31_4 := cell_below hY6 ct_31_4
            replace ct_31_5 := cell_below hY6 ct_31_5
            clear hY6
            cases t_34 with
            | false =>
              replace H := ite_f H
              replace H := app_hid H
              go_wp2_with fail
              go_roundg m0
              case measure => omega
              case rel => exact ⟨k0 + 1, by omega, by go_num, H, HBY6⟩
            | true =>
              replace H := ite_t H
              obtain rfl := ret_hid H
              go_wp2_with fail
              go_ret
              exact ⟨rfl, HBY6.out⟩
  | true =>
    replace H := ite_t H
    obtain rfl := ret_hid H
    go_wp2_with fail
    go_ret
    exact ⟨rfl, HB.out⟩
end Go.Proofs.YtgimcnpkngpmiaaDoor.GiAreByKeyPostmarkIntiIsPostmarkiIdOfPostmark

/- loop.example/g01062/impl.ArePostmarks as a plain function, and the contract of the program's: where the plain one has an answer, the program has it. Conditions: slices read as lists. -/
namespace Go.Proofs.YtgimcnpkngpmiaaDoor.GiArePostmarks
set_option linter.unusedVariables false
set_option linter.unusedSimpArgs false
open Go.RowKit
open Go.Proofs.YtgimcnpkngpmiaaDoor.Rowed Go.Proofs.YtgimcnpkngpmiaaDoor.Turn Go.Proofs.YtgimcnpkngpmiaaDoor.Aid Go.Proofs.YtgimcnpkngpmiaaDoor.GoP Go.Proofs.YtgimcnpkngpmiaaDoor.GoM

def P (list : (List Go.Proofs.YtgimcnpkngpmiaaDoor.PPostmark.Postmark)) : Option (Bool) :=
  Option.bind (Go.Proofs.YtgimcnpkngpmiaaDoor.GiAreByKeyPostmarkIntiIsPostmarkiIdOfPostmark.P list 12) fun (t_2 : Bool) =>
  some t_2

set_option maxRecDepth 100000 in
set_option maxHeartbeats 2000000 in
theorem C (list : (List Go.Proofs.YtgimcnpkngpmiaaDoor.PPostmark.Postmark)) (A0 : Option Addr) (c0 : Nat)  (w : World) (M0 : Hid (Cells w 6 A0 list.length (Go.Proofs.YtgimcnpkngpmiaaDoor.PPostmark.flat list))) (N0 : Hid (list.length ≤ 9223372036854775807))  {r : Bool} (H : Hid (P list = some r)) :
    Calls Tryd.prog 38 #[.slice A0 list.length c0] w (Gives (.bool r) w) := by
  have HB := Lib.hid (Below.refl w.heap.size w)
  unfold P at H
  have N0o := N0.out
  go_enter Tryd.func38, Tryd.ntmps38
  replace H := bind_hid H
  obtain ⟨t_2, qt_2, H⟩ := H
  go_wp2_with fail
  go_at_call 80
  refine (Go.Proofs.YtgimcnpkngpmiaaDoor.GiAreByKeyPostmarkIntiIsPostmarkiIdOfPostmark.C (list) (12) A0 c0 _   (Lib.hid (Cells.below M0.out HB.out)) N0 qt_2).mono ?_
  rintro e_t_2 wt_2 ⟨rfl, bt_2⟩
  have HBwt_2 := Lib.hid (Below.step HB.out bt_2)
  clear bt_2
  obtain rfl := ret_hid H
  go_wp2_with fail
  go_ret
  exact ⟨rfl, HBwt_2.out⟩
end Go.Proofs.YtgimcnpkngpmiaaDoor.GiArePostmarks

/- strings.ReplaceAll of one sign by another as a plain function; the contract of the program's. No condition. -/
namespace Go.Proofs.YtgimcnpkngpmiaaDoor.GxStringsReplaceAll
set_option linter.unusedVariables false
open Go.RowKit
open Go.Proofs.YtgimcnpkngpmiaaDoor.Turn
def putB (c d b : UInt8) : UInt8 := if b = c then d else b
theorem rep_map (c d : UInt8) : ∀ s : List UInt8, Lib.replaceK [c] [d] (s.count c) s = s.map (putB c d) := by
  intro s
  induction s with
  | nil => rfl
  | cons b l ih =>
    by_cases hb : b = c
    · subst hb
      have hi : Lib.index (b :: l) [b] = (0 : Nat) := by unfold Lib.index; simp
      rw [List.count_cons_self, Lib.replaceK_hit _ _ _ _ 0 hi]
      simp only [List.take_zero, List.nil_append, List.singleton_append, Nat.zero_add, List.length_singleton, List.drop_succ_cons, List.drop_zero, List.map_cons]
      rw [ih]; simp [putB]
    · rw [List.count_cons_of_ne (fun h => hb h), List.map_cons]
      have hp : putB c d b = b := by simp [putB, hb]
      rw [hp, ← ih]
      cases hk : l.count c with
      | zero => rfl
      | succ k =>
        obtain ⟨i, hi⟩ := Lib.index_of_count (s := l) (old := [c]) (by rw [Lib.count_one]; omega)
        have hi2 : Lib.index (b :: l) [c] = (i + 1 : Nat) := by
          unfold Lib.index
          have hne : ¬ c = b := fun h => hb h.symm
          rw [if_neg (by simp [hne]), hi, if_neg (by simp)]; rfl
        rw [Lib.replaceK_hit _ _ _ _ _ hi2, Lib.replaceK_hit _ _ _ _ _ hi]
        simp
theorem replaceAll_map {c d : UInt8} (h : c ≠ d) (s : List UInt8) : Lib.replaceAll s [c] [d] = s.map (putB c d) := by
  unfold Lib.replaceAll Lib.replace Lib.replaceNum
  rw [if_neg (by simp [h]), if_pos (Or.inl (by omega)), Lib.count_one, rep_map]
def P (s old new : ByteArray) : Option ByteArray := match old.data.toList, new.data.toList with
  | [c], [d] => if c ≠ d ∧ s.size < 4294967281 then some ⟨(s.data.toList.map (putB c d)).toArray⟩ else none
  | _, _ => none
theorem C (s old new : ByteArray) (w : World) (HT : Hid (Go.Proofs.YtgimcnpkngpmiaaDoor.TabM.Tab w)) {r : ByteArray} (H : Hid (P s old new = some r)) : Calls Tryd.prog 81 #[.string s, .string old, .string new] w (Gives (.string r) w) := by
  have h : P s old new = some r := H
  unfold P at h
  split at h
  · rename_i c d hc hd
    by_cases hp : c ≠ d ∧ s.size < 4294967281
    · rw [if_pos hp] at h
      obtain rfl := Option.some.inj h
      obtain ⟨m, hm⟩ := HT.out
      have h1 : old.size = 1 := by have : old.data.toList.length = 1 := by rw [hc]; rfl
                                   exact this
      have h2 : new.size = 1 := by have : new.data.toList.length = 1 := by rw [hd]; rfl
                                   exact this
      have hcb : Lib.countB s old ≤ s.size := by
        have e1 : Lib.countB s old = Lib.count s.data.toList old.data.toList := rfl
        have e2 : s.data.toList.length = s.size := rfl
        rw [e1, hc, Lib.count_one, ← e2]
        exact List.count_le_length
      refine (Tryd.strings_ReplaceAll s old new m w hp.2 hm (by omega) (by rw [h2]; omega)).mono ?_
      rintro e w' ⟨rfl, hb⟩
      rw [hc, hd, replaceAll_map hp.1]
      exact ⟨rfl, hb⟩
    · rw [if_neg hp] at h; simp at h
  · simp at h
end Go.Proofs.YtgimcnpkngpmiaaDoor.GxStringsReplaceAll

/- loop.example/g01062/impl.isReading as a plain function, and the contract of the program's: where the plain one has an answer, the program has it. Conditions: slices read as lists. -/
namespace Go.Proofs.YtgimcnpkngpmiaaDoor.GiIsReading
set_option linter.unusedVariables false
set_option linter.unusedSimpArgs false
open Go.RowKit
open Go.Proofs.YtgimcnpkngpmiaaDoor.Rowed Go.Proofs.YtgimcnpkngpmiaaDoor.Turn Go.Proofs.YtgimcnpkngpmiaaDoor.Aid Go.Proofs.YtgimcnpkngpmiaaDoor.GoP Go.Proofs.YtgimcnpkngpmiaaDoor.GoM Go.Proofs.YtgimcnpkngpmiaaDoor.TabM

def P (s_0 : ByteArray) : Option (Bool) :=
  Option.bind (Go.Proofs.YtgimcnpkngpmiaaDoor.GxStringsReplaceAll.P s_0 (⟨#[63]⟩ : ByteArray) (⟨#[97]⟩ : ByteArray)) fun (t_2 : ByteArray) =>
  Option.bind (Go.Proofs.YtgimcnpkngpmiaaDoor.GiIsWord.P t_2) fun (t_3 : Bool) =>
  some t_3

set_option maxRecDepth 100000 in
set_option maxHeartbeats 2000000 in
theorem C (s_0 : ByteArray)   (w : World) (HT : Hid (Tab w))   {r : Bool} (H : Hid (P s_0 = some r)) :
    Calls Tryd.prog 46 #[.string s_0] w (Gives (.bool r) w) := by
  have HB := Lib.hid (Below.refl w.heap.size w)
  unfold P at H
  go_enter Tryd.func46, Tryd.ntmps46
  replace H := bind_hid H
  obtain ⟨t_2, qt_2, H⟩ := H
  go_wp2_with fail
  go_at_call 81
  refine (Go.Proofs.YtgimcnpkngpmiaaDoor.GxStringsReplaceAll.C (s_0) ((⟨#[63]⟩ : ByteArray)) ((⟨#[97]⟩ : ByteArray))  _ (tab_below HB.out HT)   qt_2).mono ?_
  rintro e_t_2 wt_2 ⟨rfl, bt_2⟩
  have HBwt_2 := Lib.hid (Below.step HB.out bt_2)
  clear bt_2
  replace H := bind_hid H
  obtain ⟨t_3, qt_3, H⟩ := H
  go_wp2_with fail
  go_at_call 78
  refine (Go.Proofs.YtgimcnpkngpmiaaDoor.GiIsWord.C (t_2)  _    qt_3).mono ?_
  rintro e_t_3 wt_3 ⟨rfl, bt_3⟩
  have HBwt_3 := Lib.hid (Below.step HBwt_2.out bt_3)
  clear bt_3
  obtain rfl := ret_hid H
  go_wp2_with fail
  go_ret
  exact ⟨rfl, HBwt_3.out⟩
end Go.Proofs.YtgimcnpkngpmiaaDoor.GiIsReading

/- loop.example/g01062/impl.wasUsedOn as a plain function, and the contract of the program's: where the plain one has an answer, the program has it. Conditions: slices read as lists. -/
namespace Go.Proofs.YtgimcnpkngpmiaaDoor.GiWasUsedOn
set_option linter.unusedVariables false
set_option linter.unusedSimpArgs false
open Go.RowKit
open Go.Proofs.YtgimcnpkngpmiaaDoor.Rowed Go.Proofs.YtgimcnpkngpmiaaDoor.Turn Go.Proofs.YtgimcnpkngpmiaaDoor.Aid Go.Proofs.YtgimcnpkngpmiaaDoor.GoP Go.Proofs.YtgimcnpkngpmiaaDoor.GoM

def P (p : Go.Proofs.YtgimcnpkngpmiaaDoor.PPostmark.Postmark) (day : Int) : Option (Bool) :=
  unPostmark p fun (p_id : Int) (p_town : ByteArray) (p_kind_ : Int) (p_first : Int) (p_last : Int) (p_lost : ByteArray) =>
  Option.bind (Go.Proofs.YtgimcnpkngpmiaaDoor.GiWithin.P day p_first p_last) fun (t_7 : Bool) =>
  some t_7

set_option maxRecDepth 100000 in
set_option maxHeartbeats 2000000 in
theorem C (p : Go.Proofs.YtgimcnpkngpmiaaDoor.PPostmark.Postmark) (day : Int)   (w : World)   {r : Bool} (H : Hid (P p day = some r)) :
    Calls Tryd.prog 51 #[p.val, .int .i64 day] w (Gives (.bool r) w) := by
  have HB := Lib.hid (Below.refl w.heap.size w)
  unfold P at H
  obtain ⟨p_id, p_town, p_kind_, p_first, p_last, p_lost⟩ := p
  replace H := unPostmark_hid H
  unfold Go.Proofs.YtgimcnpkngpmiaaDoor.PPostmark.Postmark.val
  go_enter Tryd.func51, Tryd.ntmps51
  obtain ⟨w_p_0, hw_p_0⟩ : ∃ x, w.alloc (.cells #[.int .i64 p_id, .string p_town, .int .i64 p_kind_, .int .i64 p_first, .int .i64 p_last, .string p_lost] 39) = x := ⟨_, rfl⟩
  have bw_p_0 : Below w.heap.size w w_p_0 := by rw [← hw_p_0]; exact (Below.refl _ _).alloc (Nat.le_refl _) _
  have HBw_p_0 := Lib.hid (Below.step HB.out bw_p_0)
  clear bw_p_0
  have kp_0_0 : w_p_0.cell? ⟨w.heap.size, 0, none⟩ = some (.int .i64 p_id) := by rw [← hw_p_0]; exact box_new _ _ _ 0 _ rfl
  have kp_0_1 : w_p_0.cell? ⟨w.heap.size, 1, none⟩ = some (.string p_town) := by rw [← hw_p_0]; exact box_new _ _ _ 1 _ rfl
  have kp_0_2 : w_p_0.cell? ⟨w.heap.size, 2, none⟩ = some (.int .i64 p_kind_) := by rw [← hw_p_0]; exact box_new _ _ _ 2 _ rfl
  have kp_0_3 : w_p_0.cell? ⟨w.heap.size, 3, none⟩ = some (.int .i64 p_first) := by rw [← hw_p_0]; exact box_new _ _ _ 3 _ rfl
  have kp_0_4 : w_p_0.cell? ⟨w.heap.size, 4, none⟩ = some (.int .i64 p_last) := by rw [← hw_p_0]; exact box_new _ _ _ 4 _ rfl
  have kp_0_5 : w_p_0.cell? ⟨w.heap.size, 5, none⟩ = some (.string p_lost) := by rw [← hw_p_0]; exact box_new _ _ _ 5 _ rfl
  replace H := bind_hid H
  obtain ⟨t_7, qt_7, H⟩ := H
  go_wp2_with fail
  go_at_call 64
  refine (Go.Proofs.YtgimcnpkngpmiaaDoor.GiWithin.C (day) (p_first) (p_last)  _    qt_7).mono ?_
  rintro e_t_7 wt_7 ⟨rfl, bt_7⟩
  have HBwt_7 := Lib.hid (Below.step HBw_p_0.out bt_7)
  replace kp_0_0 := cell_below bt_7 kp_0_0
  replace kp_0_1 := cell_below bt_7 kp_0_1
  replace kp_0_2 := cell_below bt_7 kp_0_2
  replace kp_0_3 := cell_below bt_7 kp_0_3
  replace kp_0_4 := cell_below bt_7 kp_0_4
  replace kp_0_5 := cell_below bt_7 kp_0_5
  clear bt_7
  obtain rfl := ret_hid H
  go_wp2_with fail
  go_ret
  exact ⟨rfl, HBwt_7.out⟩
end Go.Proofs.YtgimcnpkngpmiaaDoor.GiWasUsedOn

/- loop.example/g01062/impl.readsAs as a plain function, and the contract of the program's: where the plain one has an answer, the program has it. Conditions: slices read as lists. -/
namespace Go.Proofs.YtgimcnpkngpmiaaDoor.GiReadsAs
set_option linter.unusedVariables false
set_option linter.unusedSimpArgs false
open Go.RowKit
open Go.Proofs.YtgimcnpkngpmiaaDoor.Rowed Go.Proofs.YtgimcnpkngpmiaaDoor.Turn Go.Proofs.YtgimcnpkngpmiaaDoor.Aid Go.Proofs.YtgimcnpkngpmiaaDoor.GoP Go.Proofs.YtgimcnpkngpmiaaDoor.GoM

def l0 (a : ByteArray) (b : ByteArray) (k0 : Nat) (s : Unit) (nx0 bk0 : Unit → Option (Bool)) : Option (Bool) :=
  
  Option.bind (idx a.toList (k0 : Int)) fun (yt_15 : UInt8) =>
  letK ((yt_15.toNat : Int)) fun (t_15 : Int) =>
  Option.bind (idx b.toList (k0 : Int)) fun (yt_18 : UInt8) =>
  letK ((yt_18.toNat : Int)) fun (t_18 : Int) =>
  letK (t_15 != t_18) fun (t_19 : Bool) =>
  joinK (fun (t_25 : Bool) =>
  joinK (fun (t_31 : Bool) =>
  iteK t_31
  (some false)
  (appK nx0 ())) fun jt_31 => iteK t_25 (Option.bind (idx b.toList (k0 : Int)) fun (yt_29 : UInt8) =>
  letK ((yt_29.toNat : Int)) fun (t_29 : Int) =>
  letK (t_29 != 63) fun (t_30 : Bool) =>
  appK jt_31 t_30) (appK jt_31 false)) fun jt_25 => iteK t_19 (Option.bind (idx a.toList (k0 : Int)) fun (yt_23 : UInt8) =>
  letK ((yt_23.toNat : Int)) fun (t_23 : Int) =>
  letK (t_23 != 63) fun (t_24 : Bool) =>
  appK jt_25 t_24) (appK jt_25 false)

def e0  (s : Unit) : Option (Bool) :=
  
  some true

def P (a : ByteArray) (b : ByteArray) : Option (Bool) :=
  letK ((a.size : Int) != (b.size : Int)) fun (t_5 : Bool) =>
  iteK t_5
  (some false)
  (guardK (a.size ≤ 9223372036854775807) <|
  cntK (l0 a b) (a.size) 0 () (e0 ))

set_option maxRecDepth 100000 in
set_option maxHeartbeats 2000000 in
theorem C (a : ByteArray) (b : ByteArray)   (w : World)   {r : Bool} (H : Hid (P a b = some r)) :
    Calls Tryd.prog 52 #[.string a, .string b] w (Gives (.bool r) w) := by
  have HB := Lib.hid (Below.refl w.heap.size w)
  unfold P at H
  go_enter Tryd.func52, Tryd.ntmps52
  replace H := let_hid H
  obtain ⟨t_5, ht_5, H⟩ := H
  cases t_5 with
  | false =>
    have Hht_5 : Hid (a.size = b.size) := Lib.hid (by have := bne_eq_false_iff_eq.1 ht_5; omega)
    have nht_5 : (a.size == b.size) = true := beq_iff_eq.2 Hht_5.out
    replace H := ite_f H
    replace H := guard_hid H
    obtain ⟨hg0, H⟩ := H
    go_wp2_with fail
    go_loopg [13] (a.size) (fun m_ v13_ wr => ∃ (k0 : Nat) , k0 + m_ = a.size ∧ v13_ = .int .i64 (k0 : Int) ∧ Hid (cntK (l0 a b) m_ k0 () (e0 ) = some r) ∧ Hid (Below w.heap.size w wr))
    case atStart => exact ⟨0, by omega, rfl, H, HB⟩
    case round =>
      obtain ⟨k0, hkm0, rfl, H, HBwr0⟩ := hrel
      rename World => wr0
      cases gk with
      | zero =>
        obtain rfl : k0 = a.size := by omega
        have hc0 : decide (((a.size : Nat) : Int) < ((a.size : Nat) : Int)) = false := by simp
        replace H := cnt_zero H
        unfold e0 at H
        obtain rfl := ret_hid H
        go_wp2_with fail
        go_ret
        exact ⟨rfl, HBwr0.out⟩
      | succ m0 =>
        have hlt0 : k0 < a.size := by omega
        have hc0 : decide ((k0 : Int) < ((a.size : Nat) : Int)) = true := by simp; omega
        replace H := cnt_succ H
        unfold l0 at H
        go_wp2_with fail
        replace H := idx_hid H
        obtain ⟨nt_15, yt_15, et_15, lt_15, gt_15, H⟩ := H
        obtain rfl : k0 = nt_15 := by omega
        clear et_15
        have rt_15 := byte_rule lt_15 gt_15.out
        have b0t_15 : (0 : Int) ≤ (k0 : Int) := by omega
        have b1t_15 : (k0 : Int) < (a.size : Int) := by have := size_list a; omega
        have b2t_15 : ((k0 : Int)).toNat = k0 := by omega
        have b3t_15 : k0 < a.size := by have := size_list a; omega
        replace H := let_hid H
        obtain ⟨t_15, ht_15, H⟩ := H
        replace H := idx_hid H
        obtain ⟨nt_18, yt_18, et_18, lt_18, gt_18, H⟩ := H
        obtain rfl : k0 = nt_18 := by omega
        clear et_18
        have rt_18 := byte_rule lt_18 gt_18.out
        have b0t_18 : (0 : Int) ≤ (k0 : Int) := by omega
        have b1t_18 : (k0 : Int) < (b.size : Int) := by have := size_list b; omega
        have b2t_18 : ((k0 : Int)).toNat = k0 := by omega
        have b3t_18 : k0 < b.size := by have := size_list b; omega
        replace H := let_hid H
        obtain ⟨t_18, ht_18, H⟩ := H
        replace H := let_hid H
        obtain ⟨t_19, ht_19, H⟩ := H
        replace H := join_hid H
        cases t_19 with
        | false =>
          replace H := ite_f H
          replace H := app_hid H
          replace H := join_hid H
          replace H := ite_f H
          replace H := app_hid H
          refine wp_region_quiet_below (by kernel_rfl) (by kernel_rfl) ?_
          repeat (go_big_quiet_step (fail))
          refine wpQuiet_nil ?_
          intro Y6 hY6
          replace hY6 := below_class hY6
          have HBY6 := Lib.hid (Below.step HBwr0.out hY6)
          clear hY6
          replace H := ite_f H
          replace H := app_hid H
          go_wp2_with fail
          go_roundg m0
          case measure => omega
          case rel => exact ⟨k0 + 1, by omega, by go_num, H, HBY6⟩
        | true =>
          replace H := ite_t H
          replace H := idx_hid H
          obtain ⟨nt_23, yt_23, et_23, lt_23, gt_23, H⟩ := H
          obtain rfl : k0 = nt_23 := by omega
          clear et_23
          obtain rfl := Option.some.inj (gt_15.out.symm.trans gt_23.out)
          clear gt_23 lt_23
          replace H := let_hid H
          obtain ⟨t_23, ht_23, H⟩ := H
          obtain rfl := ht_15.symm.trans ht_23
          replace H := let_hid H
          obtain ⟨t_24, ht_24, H⟩ := H
          replace H := app_hid H
          replace H := join_hid H
          cases t_24 with
          | false =>
            replace H := ite_f H
            replace H := app_hid H
            refine wp_region_quiet_below (by kernel_rfl) (by kernel_rfl) ?_
            repeat (go_big_quiet_step (fail))
            refine wpQuiet_nil ?_
            intro Y6 hY6
            replace hY6 := below_class hY6
            have HBY6 := Lib.hid (Below.step HBwr0.out hY6)
            clear hY6
            replace H := ite_f H
            replace H := app_hid H
            go_wp2_with fail
            go_roundg m0
            case measure => omega
            case rel => exact ⟨k0 + 1, by omega, by go_num, H, HBY6⟩
          | true =>
            replace H := ite_t H
            replace H := idx_hid H
            obtain ⟨nt_29, yt_29, et_29, lt_29, gt_29, H⟩ := H
            obtain rfl : k0 = nt_29 := by omega
            clear et_29
            obtain rfl := Option.some.inj (gt_18.out.symm.trans gt_29.out)
            clear gt_29 lt_29
            replace H := let_hid H
            obtain ⟨t_29, ht_29, H⟩ := H
            obtain rfl := ht_18.symm.trans ht_29
            replace H := let_hid H
            obtain ⟨t_30, ht_30, H⟩ := H
            replace H := app_hid H
            refine wp_region_quiet_below (by kernel_rfl) (by kernel_rfl) ?_
            repeat (go_big_quiet_step (fail))
            refine wpQuiet_nil ?_
            intro Y6 hY6
            replace hY6 := below_class hY6
            have HBY6 := Lib.hid (Below.step HBwr0.out hY6)
            clear hY6
            cases t_30 with
            | false =>
              replace H := ite_f H
              replace H := app_hid H
              go_wp2_with fail
              go_roundg m0
              case measure => omega
              case rel => exact ⟨k0 + 1, by omega, by go_num, H, HBY6⟩
            | true =>
              replace H := ite_t H
              obtain rfl := ret_hid H
              go_wp2_with fail
              go_ret
              exact ⟨rfl, HBY6.out⟩
  | true =>
    have nht_5 : ¬ (a.size = b.size) := by have := bne_iff_ne.1 ht_5; omega
    replace H := ite_t H
    obtain rfl := ret_hid H
    go_wp2_with fail
    go_ret
    exact ⟨rfl, HB.out⟩
end Go.Proofs.YtgimcnpkngpmiaaDoor.GiReadsAs

/- loop.example/g01062/impl.ReadMarks$1 as a plain function, and the contract of the program's: where the plain one has an answer, the program has it. Conditions: slices read as lists. -/
namespace Go.Proofs.YtgimcnpkngpmiaaDoor.GiReadMarks1
set_option linter.unusedVariables false
set_option linter.unusedSimpArgs false
open Go.RowKit
open Go.Proofs.YtgimcnpkngpmiaaDoor.Rowed Go.Proofs.YtgimcnpkngpmiaaDoor.Turn Go.Proofs.YtgimcnpkngpmiaaDoor.Aid Go.Proofs.YtgimcnpkngpmiaaDoor.GoP Go.Proofs.YtgimcnpkngpmiaaDoor.GoM

def P (p : Go.Proofs.YtgimcnpkngpmiaaDoor.PPostmark.Postmark) (hq0 : Int) (hq1 : ByteArray) : Option (Bool) :=
  unPostmark p fun (p_id : Int) (p_town : ByteArray) (p_kind_ : Int) (p_first : Int) (p_last : Int) (p_lost : ByteArray) =>
  Option.bind (Go.Proofs.YtgimcnpkngpmiaaDoor.GiWasUsedOn.P (Go.Proofs.YtgimcnpkngpmiaaDoor.PPostmark.Postmark.mk p_id p_town p_kind_ p_first p_last p_lost) hq0) fun (t_4 : Bool) =>
  joinK (fun (t_10 : Bool) =>
  some t_10) fun jt_10 => iteK t_4 (Option.bind (Go.Proofs.YtgimcnpkngpmiaaDoor.GiLoShownBy.P (Go.Proofs.YtgimcnpkngpmiaaDoor.PPostmark.Postmark.mk p_id p_town p_kind_ p_first p_last p_lost)) fun (t_8 : ByteArray) =>
  Option.bind (Go.Proofs.YtgimcnpkngpmiaaDoor.GiReadsAs.P hq1 t_8) fun (t_9 : Bool) =>
  appK jt_10 t_9) (appK jt_10 false)

set_option maxRecDepth 100000 in
set_option maxHeartbeats 2000000 in
theorem C (p : Go.Proofs.YtgimcnpkngpmiaaDoor.PPostmark.Postmark) (hq0 : Int) (hq1 : ByteArray)  (gq0 : Nat) (gq1 : Nat) (w : World)  (Fq0h : Hid (w.cell? ⟨gq0, 0, none⟩ = some (.int .i64 hq0))) (Fq1h : Hid (w.cell? ⟨gq1, 0, none⟩ = some (.string hq1))) {r : Bool} (H : Hid (P p hq0 hq1 = some r)) :
    Calls Tryd.prog 50 #[p.val, .pointer (some ⟨gq0, 0, none⟩), .pointer (some ⟨gq1, 0, none⟩)] w (Gives (.bool r) w) := by
  have HB := Lib.hid (Below.refl w.heap.size w)
  unfold P at H
  obtain ⟨p_id, p_town, p_kind_, p_first, p_last, p_lost⟩ := p
  replace H := unPostmark_hid H
  unfold Go.Proofs.YtgimcnpkngpmiaaDoor.PPostmark.Postmark.val
  have Fq0 := Fq0h.out
  have Fq1 := Fq1h.out
  go_enter Tryd.func50, Tryd.ntmps50
  obtain ⟨w_p_0, hw_p_0⟩ : ∃ x, w.alloc (.cells #[.int .i64 p_id, .string p_town, .int .i64 p_kind_, .int .i64 p_first, .int .i64 p_last, .string p_lost] 39) = x := ⟨_, rfl⟩
  have bw_p_0 : Below w.heap.size w w_p_0 := by rw [← hw_p_0]; exact (Below.refl _ _).alloc (Nat.le_refl _) _
  have HBw_p_0 := Lib.hid (Below.step HB.out bw_p_0)
  have Fq0__179 := cell_below bw_p_0 Fq0
  have Fq1__180 := cell_below bw_p_0 Fq1
  clear bw_p_0
  have kp_0_0 : w_p_0.cell? ⟨w.heap.size, 0, none⟩ = some (.int .i64 p_id) := by rw [← hw_p_0]; exact box_new _ _ _ 0 _ rfl
  have kp_0_1 : w_p_0.cell? ⟨w.heap.size, 1, none⟩ = some (.string p_town) := by rw [← hw_p_0]; exact box_new _ _ _ 1 _ rfl
  have kp_0_2 : w_p_0.cell? ⟨w.heap.size, 2, none⟩ = some (.int .i64 p_kind_) := by rw [← hw_p_0]; exact box_new _ _ _ 2 _ rfl
  have kp_0_3 : w_p_0.cell? ⟨w.heap.size, 3, none⟩ = some (.int .i64 p_first) := by rw [← hw_p_0]; exact box_new _ _ _ 3 _ rfl
  have kp_0_4 : w_p_0.cell? ⟨w.heap.size, 4, none⟩ = some (.int .i64 p_last) := by rw [← hw_p_0]; exact box_new _ _ _ 4 _ rfl
  have kp_0_5 : w_p_0.cell? ⟨w.heap.size, 5, none⟩ = some (.string p_lost) := by rw [← hw_p_0]; exact box_new _ _ _ 5 _ rfl
  go_wp2_with fail
  clear Fq0 Fq1
  have HFq0__179 := Lib.hid Fq0__179
  replace Fq0__179 := cell_regrown Fq0__179
  have HFq1__180 := Lib.hid Fq1__180
  replace Fq1__180 := cell_regrown Fq1__180
  have Hkp_0_0 := Lib.hid kp_0_0
  replace kp_0_0 := cell_regrown kp_0_0
  have Hkp_0_1 := Lib.hid kp_0_1
  replace kp_0_1 := cell_regrown kp_0_1
  have Hkp_0_2 := Lib.hid kp_0_2
  replace kp_0_2 := cell_regrown kp_0_2
  have Hkp_0_3 := Lib.hid kp_0_3
  replace kp_0_3 := cell_regrown kp_0_3
  have Hkp_0_4 := Lib.hid kp_0_4
  replace kp_0_4 := cell_regrown kp_0_4
  have Hkp_0_5 := Lib.hid kp_0_5
  replace kp_0_5 := cell_regrown kp_0_5
  replace H := bind_hid H
  obtain ⟨t_4, qt_4, H⟩ := H
  have nt_4 : ∀ d os, Calls Tryd.prog 51 #[.agg #[.int .i64 p_id, .string p_town, .int .i64 p_kind_, .int .i64 p_first, .int .i64 p_last, .string p_lost], .int .i64 hq0] (Go.Sort.grow (redrawn w_p_0 d) os) fun e w'' => e = .returned (.bool t_4) ∧ ∃ p : Regrown, w'' = Go.Sort.grow (redrawn w_p_0 p.d) p.os := fun d os => Calls.regrown_of (Go.Proofs.YtgimcnpkngpmiaaDoor.GiWasUsedOn.C ((Go.Proofs.YtgimcnpkngpmiaaDoor.PPostmark.Postmark.mk p_id p_town p_kind_ p_first p_last p_lost)) (hq0)  _    qt_4)
  replace H := join_hid H
  cases t_4 with
  | false =>
    replace H := ite_f H
    replace H := app_hid H
    refine wp_region_quiet_below (by kernel_rfl) (by kernel_rfl) ?_
    repeat (go_big_quiet_step (first | (go_at_call 51; exact nt_4 _ _)))
    refine wpQuiet_nil ?_
    intro Y1 hY1
    replace hY1 := below_class hY1
    clear nt_4
    replace Fq0__179 := HFq0__179.out
    clear HFq0__179
    replace Fq1__180 := HFq1__180.out
    clear HFq1__180
    replace kp_0_0 := Hkp_0_0.out
    clear Hkp_0_0
    replace kp_0_1 := Hkp_0_1.out
    clear Hkp_0_1
    replace kp_0_2 := Hkp_0_2.out
    clear Hkp_0_2
    replace kp_0_3 := Hkp_0_3.out
    clear Hkp_0_3
    replace kp_0_4 := Hkp_0_4.out
    clear Hkp_0_4
    replace kp_0_5 := Hkp_0_5.out
    clear Hkp_0_5
    have HBY1 := Lib.hid (Below.step HBw_p_0.out hY1)
    replace Fq0__179 := cell_below hY1 Fq0__179
    replace Fq1__180 := cell_below hY1 Fq1__180
    replace kp_0_0 := cell_below hY1 kp_0_0
    replace kp_0_1 := cell_below hY1 kp_0_1
    replace kp_0_2 := cell_below hY1 kp_0_2
    replace kp_0_3 := cell_below hY1 kp_0_3
    replace kp_0_4 := cell_below hY1 kp_0_4
    replace kp_0_5 := cell_below hY1 kp_0_5
    clear hY1
    obtain rfl := ret_hid H
    go_wp2_with fail
    go_ret
    exact ⟨rfl, HBY1.out⟩
  | true =>
    replace H := ite_t H
    replace H := bind_hid H
    obtain ⟨t_8, qt_8, H⟩ := H
    have nt_8 : ∀ d os, Calls Tryd.prog 53 #[.agg #[.int .i64 p_id, .string p_town, .int .i64 p_kind_, .int .i64 p_first, .int .i64 p_last, .string p_lost]] (Go.Sort.grow (redrawn w_p_0 d) os) fun e w'' => e = .returned (.string t_8) ∧ ∃ p : Regrown, w'' = Go.Sort.grow (redrawn w_p_0 p.d) p.os := fun d os => Calls.regrown_of (Go.Proofs.YtgimcnpkngpmiaaDoor.GiLoShownBy.C ((Go.Proofs.YtgimcnpkngpmiaaDoor.PPostmark.Postmark.mk p_id p_town p_kind_ p_first p_last p_lost))  _    qt_8)
    replace H := bind_hid H
    obtain ⟨t_9, qt_9, H⟩ := H
    have nt_9 : ∀ d os, Calls Tryd.prog 52 #[.string hq1, .string t_8] (Go.Sort.grow (redrawn w_p_0 d) os) fun e w'' => e = .returned (.bool t_9) ∧ ∃ p : Regrown, w'' = Go.Sort.grow (redrawn w_p_0 p.d) p.os := fun d os => Calls.regrown_of (Go.Proofs.YtgimcnpkngpmiaaDoor.GiReadsAs.C (hq1) (t_8)  _    qt_9)
    replace H := app_hid H
    refine wp_region_quiet_below (by kernel_rfl) (by kernel_rfl) ?_
    repeat (go_big_quiet_step (first | (go_at_call 51; exact nt_4 _ _) | (go_at_call 53; exact nt_8 _ _) | (go_at_call 52; exact nt_9 _ _)))
    refine wpQuiet_nil ?_
    intro Y1 hY1
    replace hY1 := below_class hY1
    clear nt_4 nt_8 nt_9
    replace Fq0__179 := HFq0__179.out
    clear HFq0__179
    replace Fq1__180 := HFq1__180.out
    clear HFq1__180
    replace kp_0_0 := Hkp_0_0.out
    clear Hkp_0_0
    replace kp_0_1 := Hkp_0_1.out
    clear Hkp_0_1
    replace kp_0_2 := Hkp_0_2.out
    clear Hkp_0_2
    replace kp_0_3 := Hkp_0_3.out
    clear Hkp_0_3
    replace kp_0_4 := Hkp_0_4.out
    clear Hkp_0_4
    replace kp_0_5 := Hkp_0_5.out
    clear Hkp_0_5
    have HBY1 := Lib.hid (Below.step HBw_p_0.out hY1)
    replace Fq0__179 := cell_below hY1 Fq0__179
    replace Fq1__180 := cell_below hY1 Fq1__180
    replace kp_0_0 := cell_below hY1 kp_0_0
    replace kp_0_1 := cell_below hY1 kp_0_1
    replace kp_0_2 := cell_below hY1 kp_0_2
    replace kp_0_3 := cell_below hY1 kp_0_3
    replace kp_0_4 := cell_below hY1 kp_0_4
    replace kp_0_5 := cell_below hY1 kp_0_5
    clear hY1
    obtain rfl := ret_hid H
    go_wp2_with fail
    go_ret
    exact ⟨rfl, HBY1.out⟩
end Go.Proofs.YtgimcnpkngpmiaaDoor.GiReadMarks1

