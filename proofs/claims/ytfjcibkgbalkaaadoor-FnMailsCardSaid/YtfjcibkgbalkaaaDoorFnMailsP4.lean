/- The texts on which the proof of FnMails stands, one behind the other (4 of 5). No condition of their own. -/
import Derived.Test.YtfjcibkgbalkaaaDoorChecked
import Derived.Test.YtfjcibkgbalkaaaDoorFnMailsP1
import Derived.Test.YtfjcibkgbalkaaaDoorFnMailsP2
import Derived.Test.YtfjcibkgbalkaaaDoorFnMailsP3
import Derived.WalkKit
import Derived.WalkSpells
import Derived.WalkLawsBesides
import Derived.BigQuiet
import Derived.OwnWalk
import Derived.Deep.LoopGhost
import Derived.Deep.QuietTactic
import Derived.IntWalk
import Derived.Lib.QuietBelow
import Derived.Test.YtfjcibkgbalkaaaDoorRows
import Derived.LaidSub
import Derived.Lib.LaidTab
import Derived.Lib.ItoaNum
import Derived.KernelRfl
import Derived.Lib.ItoaLen
import Derived.Lib.AtoiTie
import Derived.Lib.ItoaMem
/- loop.example/g01062/laws.FnMails as a plain function, and the contract of the program's: where the plain one has an answer, the program has it. Conditions: slices read as lists. -/
namespace Go.Proofs.YtfjcibkgbalkaaaDoor.GlFnMails
set_option linter.unusedVariables false
set_option linter.unusedSimpArgs false
open Go.RowKit
open Go.Proofs.YtfjcibkgbalkaaaDoor.Rowed Go.Proofs.YtfjcibkgbalkaaaDoor.Turn Go.Proofs.YtfjcibkgbalkaaaDoor.Aid Go.Proofs.YtfjcibkgbalkaaaDoor.GoP Go.Proofs.YtfjcibkgbalkaaaDoor.GoM Go.Proofs.YtfjcibkgbalkaaaDoor.Tab

def l0 (t_83a : (List Go.Proofs.YtfjcibkgbalkaaaDoor.PMail.Mail)) (t_83b : Int) (t_83c : Int) (t_94a : (List Int)) (k0 : Nat) (s : Unit) (nx0 bk0 : Unit → Option (Bool)) : Option (Bool) :=
  
  Option.bind (idx t_94a (k0 : Int)) fun (yt_127 : Int) =>
  Option.bind (idx t_83a yt_127) fun (yt_129 : Go.Proofs.YtfjcibkgbalkaaaDoor.PMail.Mail) =>
  unMail yt_129 fun (t_129_leave : Int) (t_129_from_ : Int) (t_129_to_ : Int) (t_129_arrive : Int) =>
  bind2 (Go.Proofs.YtfjcibkgbalkaaaDoor.GiEarliestAt.P t_83a t_83b t_83c t_129_from_) fun (t_138a : Int) (t_138b : Bool) =>
  joinK (fun (t_150 : Bool) =>
  iteK t_150
  (some false)
  (appK nx0 ())) fun jt_150 => iteK t_138b (letK (decide (t_138a ≤ t_129_leave)) fun (t_149 : Bool) =>
  appK jt_150 t_149) (appK jt_150 false)

def e0 (code : (List Int)) (fuel : Nat) (tapes : List Int → Go.Proofs.YtfjcibkgbalkaaaDoor.GoC.Tape) (s : Unit) : Option (Bool) :=
  
  bind4 (Go.Proofs.YtfjcibkgbalkaaaDoor.GsDrawReachedBy.P fuel tapes code) fun (t_156a : (List Go.Proofs.YtfjcibkgbalkaaaDoor.PMail.Mail)) (t_156b : Int) (t_156c : Int) (t_156d : Int) =>
  bind2 (Go.Proofs.YtfjcibkgbalkaaaDoor.GiReachedBy.P t_156a t_156b t_156c t_156d) fun (t_170a : (List Int)) (t_170b : Bool) =>
  bind2 (Go.Proofs.YtfjcibkgbalkaaaDoor.GsReachedBy.P t_156a t_156b t_156c t_156d) fun (t_180a : (List Int)) (t_180b : Bool) =>
  letK (!(t_170b == t_180b)) fun (t_188 : Bool) =>
  joinK (fun (t_194 : Bool) =>
  joinK (fun (t_203 : Bool) =>
  iteK t_203
  (some false)
  (Option.bind (Go.Proofs.YtfjcibkgbalkaaaDoor.GsDrawMailText.P tapes code) fun (t_206 : Go.Proofs.YtfjcibkgbalkaaaDoor.PMail.Mail) =>
  unMail t_206 fun (t_206_leave : Int) (t_206_from_ : Int) (t_206_to_ : Int) (t_206_arrive : Int) =>
  bind2 (Go.Proofs.YtfjcibkgbalkaaaDoor.GiMailText.P (Go.Proofs.YtfjcibkgbalkaaaDoor.PMail.Mail.mk t_206_leave t_206_from_ t_206_to_ t_206_arrive)) fun (t_210a : ByteArray) (t_210b : Bool) =>
  bind2 (Go.Proofs.YtfjcibkgbalkaaaDoor.GsMailText.P (Go.Proofs.YtfjcibkgbalkaaaDoor.PMail.Mail.mk t_206_leave t_206_from_ t_206_to_ t_206_arrive)) fun (t_217a : ByteArray) (t_217b : Bool) =>
  letK (t_210a.toList == t_217a.toList) fun (t_225 : Bool) =>
  joinK (fun (t_230 : Bool) =>
  some t_230) fun jt_230 => iteK t_225 (letK (t_210b == t_217b) fun (t_229 : Bool) =>
  appK jt_230 t_229) (appK jt_230 false))) fun jt_203 => iteK t_194 (appK jt_203 true) (joinK (fun (t_202 : Bool) =>
  appK jt_203 t_202) fun jt_202 => iteK t_170b (Option.bind (Go.Proofs.YtfjcibkgbalkaaaDoor.GlVHas.P t_170a t_156b) fun (t_200 : Bool) =>
  letK (!t_200) fun (t_201 : Bool) =>
  appK jt_202 t_201) (appK jt_202 false))) fun jt_194 => iteK t_188 (appK jt_194 true) (Option.bind (Go.Proofs.YtfjcibkgbalkaaaDoor.GlVInts.P t_170a t_180a) fun (t_192 : Bool) =>
  letK (!t_192) fun (t_193 : Bool) =>
  appK jt_194 t_193)

def j0 (code : (List Int)) (fuel : Nat) (tapes : List Int → Go.Proofs.YtfjcibkgbalkaaaDoor.GoC.Tape) (s : Unit) : Option (Bool) :=
  bind3 (Go.Proofs.YtfjcibkgbalkaaaDoor.GsDrawMissedMails.P fuel tapes code) fun (t_83a : (List Go.Proofs.YtfjcibkgbalkaaaDoor.PMail.Mail)) (t_83b : Int) (t_83c : Int) =>
  bind2 (Go.Proofs.YtfjcibkgbalkaaaDoor.GiMissedMails.P t_83a t_83b t_83c) fun (t_94a : (List Int)) (t_94b : Bool) =>
  bind2 (Go.Proofs.YtfjcibkgbalkaaaDoor.GsMissedMails.P t_83a t_83b t_83c) fun (t_103a : (List Int)) (t_103b : Bool) =>
  letK (!(t_94b == t_103b)) fun (t_111 : Bool) =>
  joinK (fun (t_117 : Bool) =>
  iteK t_117
  (some false)
  (cntK (l0 t_83a t_83b t_83c t_94a) (t_94a.length) 0 () (e0 code fuel tapes))) fun jt_117 => iteK t_111 (appK jt_117 true) (Option.bind (Go.Proofs.YtfjcibkgbalkaaaDoor.GlVInts.P t_94a t_103a) fun (t_115 : Bool) =>
  letK (!t_115) fun (t_116 : Bool) =>
  appK jt_117 t_116)

def P (fuel : Nat) (tapes : List Int → Go.Proofs.YtfjcibkgbalkaaaDoor.GoC.Tape) (code : (List Int)) : Option (Bool) :=
  Option.bind (Go.Proofs.YtfjcibkgbalkaaaDoor.GlVBig.P code) fun (t_2 : Bool) =>
  iteK t_2
  (some true)
  (bind4 (Go.Proofs.YtfjcibkgbalkaaaDoor.GsDrawLatestLeave.P fuel tapes code) fun (t_5a : (List Go.Proofs.YtfjcibkgbalkaaaDoor.PMail.Mail)) (t_5b : Int) (t_5c : Int) (t_5d : Int) =>
  bind2 (Go.Proofs.YtfjcibkgbalkaaaDoor.GiLatestLeave.P fuel t_5a t_5b t_5c t_5d) fun (t_19a : Int) (t_19b : Bool) =>
  bind2 (Go.Proofs.YtfjcibkgbalkaaaDoor.GsLatestLeave.P fuel t_5a t_5b t_5c t_5d) fun (t_29a : Int) (t_29b : Bool) =>
  letK (t_19a != t_29a) fun (t_37 : Bool) =>
  joinK (fun (t_42 : Bool) =>
  iteK t_42
  (some false)
  (iteK t_19b
  (bind2 (Go.Proofs.YtfjcibkgbalkaaaDoor.GiEarliestAt.P t_5a t_5b t_19a t_5c) fun (t_49a : Int) (t_49b : Bool) =>
  letK (IntKind.i64.wrap (t_19a + 1)) fun (t_58 : Int) =>
  bind2 (Go.Proofs.YtfjcibkgbalkaaaDoor.GiEarliestAt.P t_5a t_5b t_58 t_5c) fun (t_60a : Int) (t_60b : Bool) =>
  letK (!t_49b) fun (t_67 : Bool) =>
  joinK (fun (t_72 : Bool) =>
  joinK (fun (t_80 : Bool) =>
  iteK t_80
  (some false)
  (j0 code fuel tapes ())) fun jt_80 => iteK t_72 (appK jt_80 true) (joinK (fun (t_79 : Bool) =>
  appK jt_80 t_79) fun jt_79 => iteK t_60b (letK (decide (t_60a ≤ t_5d)) fun (t_78 : Bool) =>
  appK jt_79 t_78) (appK jt_79 false))) fun jt_72 => iteK t_67 (appK jt_72 true) (letK (decide (t_5d < t_49a)) fun (t_71 : Bool) =>
  appK jt_72 t_71))
  (j0 code fuel tapes ()))) fun jt_42 => iteK t_37 (appK jt_42 true) (letK (!(t_19b == t_29b)) fun (t_41 : Bool) =>
  appK jt_42 t_41))

set_option maxRecDepth 100000 in
set_option maxHeartbeats 2000000 in
theorem C (fuel : Nat) (tapes : List Int → Go.Proofs.YtfjcibkgbalkaaaDoor.GoC.Tape) (code : (List Int)) (A0 : Option Addr) (c0 : Nat)  (w : World) (HT : Hid (Tab w)) (HE : Hid (Go.Proofs.YtfjcibkgbalkaaaDoor.GoC.Tells tapes)) (M0 : Hid (Cells w 1 A0 code.length (Go.Proofs.YtfjcibkgbalkaaaDoor.GoC.u8s code))) (N0 : Hid (code.length ≤ 9223372036854775807)) (V0 : Hid (∀ z ∈ code, 0 ≤ z ∧ z ≤ 255))  {r : Bool} (H : Hid (P fuel tapes code = some r)) :
    Calls Tryd.prog 4 #[.slice A0 code.length c0] w (Gives (.bool r) w) := by
  have HB := Lib.hid (Below.refl w.heap.size w)
  unfold P at H
  have N0o := N0.out
  go_enter Tryd.func4, Tryd.ntmps4
  replace H := bind_hid H
  obtain ⟨t_2, qt_2, H⟩ := H
  go_wp2_with fail
  go_at_call 6
  refine (Go.Proofs.YtfjcibkgbalkaaaDoor.GlVBig.C (code) A0 c0 _   (Lib.hid (Cells.below M0.out HB.out)) N0 V0 qt_2).mono ?_
  rintro e_t_2 wt_2 ⟨rfl, bt_2⟩
  have HBwt_2 := Lib.hid (Below.step HB.out bt_2)
  clear bt_2
  cases t_2 with
  | false =>
    replace H := ite_f H
    replace H := bind4_hid H
    obtain ⟨t_5a, t_5b, t_5c, t_5d, qt_5, H⟩ := H
    go_wp2_with fail
    go_at_call 24
    refine (Go.Proofs.YtfjcibkgbalkaaaDoor.GsDrawLatestLeave.C fuel tapes (code) A0 c0 _  HE (Lib.hid (Cells.below M0.out HBwt_2.out)) N0 V0 qt_5).mono ?_
    rintro e_t_5 wt_5 ⟨At_5a, ct_5a, rfl, ot_5a, bt_5⟩
    have Ot_5a := Lib.hid (own_lower ot_5a HBwt_2.out.size)
    clear ot_5a
    have HBwt_5 := Lib.hid (Below.step HBwt_2.out bt_5)
    clear bt_5
    replace H := bind2_hid H
    obtain ⟨t_19a, t_19b, qt_19, H⟩ := H
    go_wp2_with fail
    go_at_call 25
    refine (Go.Proofs.YtfjcibkgbalkaaaDoor.GiLatestLeave.C fuel (t_5a) (t_5b) (t_5c) (t_5d) At_5a ct_5a _   (Lib.hid (own_cells Ot_5a.out)) (Lib.hid (own_max Ot_5a.out)) qt_19).mono ?_
    rintro e_t_19 wt_19 ⟨rfl, bt_19⟩
    have HBwt_19 := Lib.hid (Below.step HBwt_5.out bt_19)
    replace Ot_5a := Lib.hid (own_below Ot_5a.out bt_19)
    clear bt_19
    replace H := bind2_hid H
    obtain ⟨t_29a, t_29b, qt_29, H⟩ := H
    go_wp2_with fail
    go_at_call 26
    refine (Go.Proofs.YtfjcibkgbalkaaaDoor.GsLatestLeave.C fuel (t_5a) (t_5b) (t_5c) (t_5d) At_5a ct_5a _   (Lib.hid (own_cells Ot_5a.out)) (Lib.hid (own_max Ot_5a.out)) qt_29).mono ?_
    rintro e_t_29 wt_29 ⟨rfl, bt_29⟩
    have HBwt_29 := Lib.hid (Below.step HBwt_19.out bt_29)
    replace Ot_5a := Lib.hid (own_below Ot_5a.out bt_29)
    clear bt_29
    replace H := let_hid H
    obtain ⟨t_37, ht_37, H⟩ := H
    replace H := join_hid H
    cases t_37 with
    | false =>
      replace H := ite_f H
      replace H := let_hid H
      obtain ⟨t_41, ht_41, H⟩ := H
      replace H := app_hid H
      cases t_41 with
      | false =>
        replace H := ite_f H
        cases t_19b with
        | false =>
          obtain rfl : t_29b = false := by revert ht_41; cases t_29b <;> simp
          replace H := ite_f H
          unfold j0 at H
          replace H := bind3_hid H
          obtain ⟨t_83a, t_83b, t_83c, qt_83, H⟩ := H
          go_wp2_with fail
          go_at_call 28
          refine (Go.Proofs.YtfjcibkgbalkaaaDoor.GsDrawMissedMails.C fuel tapes (code) A0 c0 _  HE (Lib.hid (Cells.below M0.out HBwt_29.out)) N0 V0 qt_83).mono ?_
          rintro e_t_83 wt_83 ⟨At_83a, ct_83a, rfl, ot_83a, bt_83⟩
          have Dt_83a_t_5a := Lib.hid (apart_call ot_83a Ot_5a.out)
          have Ot_83a := Lib.hid (own_lower ot_83a HBwt_29.out.size)
          clear ot_83a
          have HBwt_83 := Lib.hid (Below.step HBwt_29.out bt_83)
          replace Ot_5a := Lib.hid (own_below Ot_5a.out bt_83)
          clear bt_83
          replace H := bind2_hid H
          obtain ⟨t_94a, t_94b, qt_94, H⟩ := H
          go_wp2_with fail
          go_at_call 29
          refine (Go.Proofs.YtfjcibkgbalkaaaDoor.GiMissedMails.C (t_83a) (t_83b) (t_83c) At_83a ct_83a _   (Lib.hid (own_cells Ot_83a.out)) (Lib.hid (own_max Ot_83a.out)) qt_94).mono ?_
          rintro e_t_94 wt_94 ⟨At_94a, ct_94a, rfl, ot_94a, bt_94⟩
          have Dt_94a_t_5a := Lib.hid (apart_call ot_94a Ot_5a.out)
          have Dt_94a_t_83a := Lib.hid (apart_call ot_94a Ot_83a.out)
          have Ot_94a := Lib.hid (own_lower ot_94a HBwt_83.out.size)
          clear ot_94a
          have HBwt_94 := Lib.hid (Below.step HBwt_83.out bt_94)
          replace Ot_5a := Lib.hid (own_below Ot_5a.out bt_94)
          replace Ot_83a := Lib.hid (own_below Ot_83a.out bt_94)
          clear bt_94
          replace H := bind2_hid H
          obtain ⟨t_103a, t_103b, qt_103, H⟩ := H
          go_wp2_with fail
          go_at_call 30
          refine (Go.Proofs.YtfjcibkgbalkaaaDoor.GsMissedMails.C (t_83a) (t_83b) (t_83c) At_83a ct_83a _   (Lib.hid (own_cells Ot_83a.out)) (Lib.hid (own_max Ot_83a.out)) qt_103).mono ?_
          rintro e_t_103 wt_103 ⟨At_103a, ct_103a, rfl, ot_103a, bt_103⟩
          have Dt_103a_t_5a := Lib.hid (apart_call ot_103a Ot_5a.out)
          have Dt_103a_t_83a := Lib.hid (apart_call ot_103a Ot_83a.out)
          have Dt_103a_t_94a := Lib.hid (apart_call ot_103a Ot_94a.out)
          have Ot_103a := Lib.hid (own_lower ot_103a HBwt_94.out.size)
          clear ot_103a
          have HBwt_103 := Lib.hid (Below.step HBwt_94.out bt_103)
          replace Ot_5a := Lib.hid (own_below Ot_5a.out bt_103)
          replace Ot_83a := Lib.hid (own_below Ot_83a.out bt_103)
          replace Ot_94a := Lib.hid (own_below Ot_94a.out bt_103)
          clear bt_103
          replace H := let_hid H
          obtain ⟨t_111, ht_111, H⟩ := H
          replace H := join_hid H
          cases t_111 with
          | false =>
            replace H := ite_f H
            replace H := bind_hid H
            obtain ⟨t_115, qt_115, H⟩ := H
            go_wp2_with fail
            go_at_call 31
            refine (Go.Proofs.YtfjcibkgbalkaaaDoor.GlVInts.C (t_94a) (t_103a) At_94a ct_94a At_103a ct_103a _   (Lib.hid (own_cells Ot_94a.out)) (Lib.hid (own_max Ot_94a.out)) (Lib.hid (own_cells Ot_103a.out)) (Lib.hid (own_max Ot_103a.out)) qt_115).mono ?_
            rintro e_t_115 wt_115 ⟨rfl, bt_115⟩
            have HBwt_115 := Lib.hid (Below.step HBwt_103.out bt_115)
            replace Ot_5a := Lib.hid (own_below Ot_5a.out bt_115)
            replace Ot_83a := Lib.hid (own_below Ot_83a.out bt_115)
            replace Ot_94a := Lib.hid (own_below Ot_94a.out bt_115)
            replace Ot_103a := Lib.hid (own_below Ot_103a.out bt_115)
            clear bt_115
            cases t_115 with
            | false =>
              replace H := let_hid H
              obtain ⟨t_116, ht_116, H⟩ := H
              obtain rfl : t_116 = true := ht_116.symm
              replace H := app_hid H
              replace H := ite_t H
              obtain rfl := ret_hid H
              go_wp2_with fail
              go_ret
              exact ⟨rfl, HBwt_115.out⟩
            | true =>
              replace H := let_hid H
              obtain ⟨t_116, ht_116, H⟩ := H
              obtain rfl : t_116 = false := ht_116.symm
              replace H := app_hid H
              replace H := ite_f H
              have hb_0 : t_94a.length ≤ 9223372036854775807 := own_max Ot_94a.out
              go_wp2_with fail
              go_loopg [22] (t_94a.length) (fun m_ v22_ wr => ∃ (k0 : Nat) , k0 + m_ = t_94a.length ∧ v22_ = .int .i64 (k0 : Int) ∧ Hid (cntK (l0 t_83a t_83b t_83c t_94a) m_ k0 () (e0 code fuel tapes) = some r) ∧ Hid (Below w.heap.size w wr) ∧ Hid (wr.ownsRow w.heap.size 54 4 (.slice At_5a t_5a.length ct_5a) t_5a.length (Go.Proofs.YtfjcibkgbalkaaaDoor.PMail.flat t_5a)) ∧ Hid (wr.ownsRow w.heap.size 54 4 (.slice At_83a t_83a.length ct_83a) t_83a.length (Go.Proofs.YtfjcibkgbalkaaaDoor.PMail.flat t_83a)) ∧ Hid (wr.ownsRow w.heap.size 3 1 (.slice At_94a t_94a.length ct_94a) t_94a.length (Go.Proofs.YtfjcibkgbalkaaaDoor.HelpInt.iv t_94a)) ∧ Hid (wr.ownsRow w.heap.size 3 1 (.slice At_103a t_103a.length ct_103a) t_103a.length (Go.Proofs.YtfjcibkgbalkaaaDoor.HelpInt.iv t_103a)))
              case atStart => exact ⟨0, by omega, rfl, H, HBwt_115, Ot_5a, Ot_83a, Ot_94a, Ot_103a⟩
              case round =>
                obtain ⟨k0, hkm0, rfl, H, HBwr0, Ot_5a, Ot_83a, Ot_94a, Ot_103a⟩ := hrel
                rename World => wr0
                cases gk with
                | zero =>
                  obtain rfl : k0 = t_94a.length := by omega
                  have hc0 : decide (((t_94a.length : Nat) : Int) < ((t_94a.length : Nat) : Int)) = false := by simp
                  replace H := cnt_zero H
                  unfold e0 at H
                  replace H := bind4_hid H
                  obtain ⟨t_156a, t_156b, t_156c, t_156d, qt_156, H⟩ := H
                  go_wp2_with fail
                  go_at_call 32
                  refine (Go.Proofs.YtfjcibkgbalkaaaDoor.GsDrawReachedBy.C fuel tapes (code) A0 c0 _  HE (Lib.hid (Cells.below M0.out HBwr0.out)) N0 V0 qt_156).mono ?_
                  rintro e_t_156 wt_156 ⟨At_156a, ct_156a, rfl, ot_156a, bt_156⟩
                  have Dt_156a_t_5a := Lib.hid (apart_call ot_156a Ot_5a.out)
                  have Dt_156a_t_83a := Lib.hid (apart_call ot_156a Ot_83a.out)
                  have Dt_156a_t_94a := Lib.hid (apart_call ot_156a Ot_94a.out)
                  have Dt_156a_t_103a := Lib.hid (apart_call ot_156a Ot_103a.out)
                  have Ot_156a := Lib.hid (own_lower ot_156a HBwr0.out.size)
                  clear ot_156a
                  have HBwt_156 := Lib.hid (Below.step HBwr0.out bt_156)
                  replace Ot_5a := Lib.hid (own_below Ot_5a.out bt_156)
                  replace Ot_83a := Lib.hid (own_below Ot_83a.out bt_156)
                  replace Ot_94a := Lib.hid (own_below Ot_94a.out bt_156)
                  replace Ot_103a := Lib.hid (own_below Ot_103a.out bt_156)
                  clear bt_156
                  replace H := bind2_hid H
                  obtain ⟨t_170a, t_170b, qt_170, H⟩ := H
                  go_wp2_with fail
                  go_at_call 33
                  refine (Go.Proofs.YtfjcibkgbalkaaaDoor.GiReachedBy.C (t_156a) (t_156b) (t_156c) (t_156d) At_156a ct_156a _   (Lib.hid (own_cells Ot_156a.out)) (Lib.hid (own_max Ot_156a.out)) qt_170).mono ?_
                  rintro e_t_170 wt_170 ⟨At_170a, ct_170a, rfl, ot_170a, bt_170⟩
                  have Dt_170a_t_5a := Lib.hid (apart_call ot_170a Ot_5a.out)
                  have Dt_170a_t_83a := Lib.hid (apart_call ot_170a Ot_83a.out)
                  have Dt_170a_t_94a := Lib.hid (apart_call ot_170a Ot_94a.out)
                  have Dt_170a_t_103a := Lib.hid (apart_call ot_170a Ot_103a.out)
                  have Dt_170a_t_156a := Lib.hid (apart_call ot_170a Ot_156a.out)
                  have Ot_170a := Lib.hid (own_lower ot_170a HBwt_156.out.size)
                  clear ot_170a
                  have HBwt_170 := Lib.hid (Below.step HBwt_156.out bt_170)
                  replace Ot_5a := Lib.hid (own_below Ot_5a.out bt_170)
                  replace Ot_83a := Lib.hid (own_below Ot_83a.out bt_170)
                  replace Ot_94a := Lib.hid (own_below Ot_94a.out bt_170)
                  replace Ot_103a := Lib.hid (own_below Ot_103a.out bt_170)
                  replace Ot_156a := Lib.hid (own_below Ot_156a.out bt_170)
                  clear bt_170
                  replace H := bind2_hid H
                  obtain ⟨t_180a, t_180b, qt_180, H⟩ := H
                  go_wp2_with fail
                  go_at_call 34
                  refine (Go.Proofs.YtfjcibkgbalkaaaDoor.GsReachedBy.C (t_156a) (t_156b) (t_156c) (t_156d) At_156a ct_156a _   (Lib.hid (own_cells Ot_156a.out)) (Lib.hid (own_max Ot_156a.out)) qt_180).mono ?_
                  rintro e_t_180 wt_180 ⟨At_180a, ct_180a, rfl, ot_180a, bt_180⟩
                  have Dt_180a_t_5a := Lib.hid (apart_call ot_180a Ot_5a.out)
                  have Dt_180a_t_83a := Lib.hid (apart_call ot_180a Ot_83a.out)
                  have Dt_180a_t_94a := Lib.hid (apart_call ot_180a Ot_94a.out)
                  have Dt_180a_t_103a := Lib.hid (apart_call ot_180a Ot_103a.out)
                  have Dt_180a_t_156a := Lib.hid (apart_call ot_180a Ot_156a.out)
                  have Dt_180a_t_170a := Lib.hid (apart_call ot_180a Ot_170a.out)
                  have Ot_180a := Lib.hid (own_lower ot_180a HBwt_170.out.size)
                  clear ot_180a
                  have HBwt_180 := Lib.hid (Below.step HBwt_170.out bt_180)
                  replace Ot_5a := Lib.hid (own_below Ot_5a.out bt_180)
                  replace Ot_83a := Lib.hid (own_below Ot_83a.out bt_180)
                  replace Ot_94a := Lib.hid (own_below Ot_94a.out bt_180)
                  replace Ot_103a := Lib.hid (own_below Ot_103a.out bt_180)
                  replace Ot_156a := Lib.hid (own_below Ot_156a.out bt_180)
                  replace Ot_170a := Lib.hid (own_below Ot_170a.out bt_180)
                  clear bt_180
                  replace H := let_hid H
                  obtain ⟨t_188, ht_188, H⟩ := H
                  replace H := join_hid H
                  cases t_188 with
                  | false =>
                    replace H := ite_f H
                    replace H := bind_hid H
                    obtain ⟨t_192, qt_192, H⟩ := H
                    go_wp2_with fail
                    go_at_call 31
                    refine (Go.Proofs.YtfjcibkgbalkaaaDoor.GlVInts.C (t_170a) (t_180a) At_170a ct_170a At_180a ct_180a _   (Lib.hid (own_cells Ot_170a.out)) (Lib.hid (own_max Ot_170a.out)) (Lib.hid (own_cells Ot_180a.out)) (Lib.hid (own_max Ot_180a.out)) qt_192).mono ?_
                    rintro e_t_192 wt_192 ⟨rfl, bt_192⟩
                    have HBwt_192 := Lib.hid (Below.step HBwt_180.out bt_192)
                    replace Ot_5a := Lib.hid (own_below Ot_5a.out bt_192)
                    replace Ot_83a := Lib.hid (own_below Ot_83a.out bt_192)
                    replace Ot_94a := Lib.hid (own_below Ot_94a.out bt_192)
                    replace Ot_103a := Lib.hid (own_below Ot_103a.out bt_192)
                    replace Ot_156a := Lib.hid (own_below Ot_156a.out bt_192)
                    replace Ot_170a := Lib.hid (own_below Ot_170a.out bt_192)
                    replace Ot_180a := Lib.hid (own_below Ot_180a.out bt_192)
                    clear bt_192
                    cases t_192 with
                    | false =>
                      replace H := let_hid H
                      obtain ⟨t_193, ht_193, H⟩ := H
                      obtain rfl : t_193 = true := ht_193.symm
                      replace H := app_hid H
                      replace H := join_hid H
                      replace H := ite_t H
                      replace H := app_hid H
                      replace H := ite_t H
                      obtain rfl := ret_hid H
                      go_wp2_with fail
                      go_ret
                      exact ⟨rfl, HBwt_192.out⟩
                    | true =>
                      replace H := let_hid H
                      obtain ⟨t_193, ht_193, H⟩ := H
                      obtain rfl : t_193 = false := ht_193.symm
                      replace H := app_hid H
                      replace H := join_hid H
                      replace H := ite_f H
                      replace H := join_hid H
                      cases t_170b with
                      | false =>
                        obtain rfl : t_180b = false := by revert ht_188; cases t_180b <;> simp
                        replace H := ite_f H
                        replace H := app_hid H
                        replace H := app_hid H
                        replace H := ite_f H
                        replace H := bind_hid H
                        obtain ⟨t_206, qt_206, H⟩ := H
                        obtain ⟨t_206_leave, t_206_from_, t_206_to_, t_206_arrive⟩ := t_206
                        replace H := unMail_hid H
                        go_wp2_with fail
                        go_at_call 36
                        refine (Go.Proofs.YtfjcibkgbalkaaaDoor.GsDrawMailText.C tapes (code) A0 c0 _  HE (Lib.hid (Cells.below M0.out HBwt_192.out)) N0 V0 qt_206).mono ?_
                        rintro e_t_206 wt_206 ⟨rfl, bt_206⟩
                        unfold Go.Proofs.YtfjcibkgbalkaaaDoor.PMail.Mail.val
                        have HBwt_206 := Lib.hid (Below.step HBwt_192.out bt_206)
                        replace Ot_5a := Lib.hid (own_below Ot_5a.out bt_206)
                        replace Ot_83a := Lib.hid (own_below Ot_83a.out bt_206)
                        replace Ot_94a := Lib.hid (own_below Ot_94a.out bt_206)
                        replace Ot_103a := Lib.hid (own_below Ot_103a.out bt_206)
                        replace Ot_156a := Lib.hid (own_below Ot_156a.out bt_206)
                        replace Ot_170a := Lib.hid (own_below Ot_170a.out bt_206)
                        replace Ot_180a := Lib.hid (own_below Ot_180a.out bt_206)
                        clear bt_206
                        obtain ⟨w_z_207, hw_z_207⟩ : ∃ x, wt_206.alloc (.cells #[.int .i64 t_206_leave, .int .i64 t_206_from_, .int .i64 t_206_to_, .int .i64 t_206_arrive] 54) = x := ⟨_, rfl⟩
                        have bw_z_207 : Below wt_206.heap.size wt_206 w_z_207 := by rw [← hw_z_207]; exact (Below.refl _ _).alloc (Nat.le_refl _) _
                        have Dz_207_t_5a := Lib.hid (apart_fresh Ot_5a.out)
                        have Dz_207_t_83a := Lib.hid (apart_fresh Ot_83a.out)
                        have Dz_207_t_94a := Lib.hid (apart_fresh Ot_94a.out)
                        have Dz_207_t_103a := Lib.hid (apart_fresh Ot_103a.out)
                        have Dz_207_t_156a := Lib.hid (apart_fresh Ot_156a.out)
                        have Dz_207_t_170a := Lib.hid (apart_fresh Ot_170a.out)
                        have Dz_207_t_180a := Lib.hid (apart_fresh Ot_180a.out)
                        have HBw_z_207 := Lib.hid (Below.step HBwt_206.out bw_z_207)
                        replace Ot_5a := Lib.hid (own_below Ot_5a.out bw_z_207)
                        replace Ot_83a := Lib.hid (own_below Ot_83a.out bw_z_207)
                        replace Ot_94a := Lib.hid (own_below Ot_94a.out bw_z_207)
                        replace Ot_103a := Lib.hid (own_below Ot_103a.out bw_z_207)
                        replace Ot_156a := Lib.hid (own_below Ot_156a.out bw_z_207)
                        replace Ot_170a := Lib.hid (own_below Ot_170a.out bw_z_207)
                        replace Ot_180a := Lib.hid (own_below Ot_180a.out bw_z_207)
                        clear bw_z_207
                        have kz_207_0 : w_z_207.cell? ⟨wt_206.heap.size, 0, none⟩ = some (.int .i64 t_206_leave) := by rw [← hw_z_207]; exact box_new _ _ _ 0 _ rfl
                        have kz_207_1 : w_z_207.cell? ⟨wt_206.heap.size, 1, none⟩ = some (.int .i64 t_206_from_) := by rw [← hw_z_207]; exact box_new _ _ _ 1 _ rfl
                        have kz_207_2 : w_z_207.cell? ⟨wt_206.heap.size, 2, none⟩ = some (.int .i64 t_206_to_) := by rw [← hw_z_207]; exact box_new _ _ _ 2 _ rfl
                        have kz_207_3 : w_z_207.cell? ⟨wt_206.heap.size, 3, none⟩ = some (.int .i64 t_206_arrive) := by rw [← hw_z_207]; exact box_new _ _ _ 3 _ rfl
                        replace H := bind2_hid H
                        obtain ⟨t_210a, t_210b, qt_210, H⟩ := H
                        go_wp2_with fail
                        go_at_call 37
                        refine (Go.Proofs.YtfjcibkgbalkaaaDoor.GiMailText.C ((Go.Proofs.YtfjcibkgbalkaaaDoor.PMail.Mail.mk t_206_leave t_206_from_ t_206_to_ t_206_arrive))  _ (tab_below HBw_z_207.out HT)   qt_210).mono ?_
                        rintro e_t_210 wt_210 ⟨rfl, bt_210⟩
                        have HBwt_210 := Lib.hid (Below.step HBw_z_207.out bt_210)
                        replace kz_207_0 := cell_below bt_210 kz_207_0
                        replace kz_207_1 := cell_below bt_210 kz_207_1
                        replace kz_207_2 := cell_below bt_210 kz_207_2
                        replace kz_207_3 := cell_below bt_210 kz_207_3
                        replace Ot_5a := Lib.hid (own_below Ot_5a.out bt_210)
                        replace Ot_83a := Lib.hid (own_below Ot_83a.out bt_210)
                        replace Ot_94a := Lib.hid (own_below Ot_94a.out bt_210)
                        replace Ot_103a := Lib.hid (own_below Ot_103a.out bt_210)
                        replace Ot_156a := Lib.hid (own_below Ot_156a.out bt_210)
                        replace Ot_170a := Lib.hid (own_below Ot_170a.out bt_210)
                        replace Ot_180a := Lib.hid (own_below Ot_180a.out bt_210)
                        clear bt_210
                        replace H := bind2_hid H
                        obtain ⟨t_217a, t_217b, qt_217, H⟩ := H
                        go_wp2_with fail
                        go_at_call 38
                        refine (Go.Proofs.YtfjcibkgbalkaaaDoor.GsMailText.C ((Go.Proofs.YtfjcibkgbalkaaaDoor.PMail.Mail.mk t_206_leave t_206_from_ t_206_to_ t_206_arrive))  _    qt_217).mono ?_
                        rintro e_t_217 wt_217 ⟨rfl, bt_217⟩
                        have HBwt_217 := Lib.hid (Below.step HBwt_210.out bt_217)
                        replace kz_207_0 := cell_below bt_217 kz_207_0
                        replace kz_207_1 := cell_below bt_217 kz_207_1
                        replace kz_207_2 := cell_below bt_217 kz_207_2
                        replace kz_207_3 := cell_below bt_217 kz_207_3
                        replace Ot_5a := Lib.hid (own_below Ot_5a.out bt_217)
                        replace Ot_83a := Lib.hid (own_below Ot_83a.out bt_217)
                        replace Ot_94a := Lib.hid (own_below Ot_94a.out bt_217)
                        replace Ot_103a := Lib.hid (own_below Ot_103a.out bt_217)
                        replace Ot_156a := Lib.hid (own_below Ot_156a.out bt_217)
                        replace Ot_170a := Lib.hid (own_below Ot_170a.out bt_217)
                        replace Ot_180a := Lib.hid (own_below Ot_180a.out bt_217)
                        clear bt_217
                        replace H := let_hid H
                        obtain ⟨t_225, ht_225, H⟩ := H
                        replace H := join_hid H
                        cases t_225 with
                        | false =>
                          replace H := ite_f H
                          replace H := app_hid H
                          obtain rfl := ret_hid H
                          go_wp2_with fail
                          go_ret
                          exact ⟨rfl, HBwt_217.out⟩
                        | true =>
                          replace H := ite_t H
                          replace H := let_hid H
                          obtain ⟨t_229, ht_229, H⟩ := H
                          replace H := app_hid H
                          obtain rfl := ret_hid H
                          go_wp2_with fail
                          go_ret
                          exact ⟨rfl, HBwt_217.out⟩
                      | true =>
                        obtain rfl : t_180b = true := by revert ht_188; cases t_180b <;> simp
                        replace H := ite_t H
                        replace H := bind_hid H
                        obtain ⟨t_200, qt_200, H⟩ := H
                        go_wp2_with fail
                        go_at_call 35
                        refine (Go.Proofs.YtfjcibkgbalkaaaDoor.GlVHas.C (t_170a) (t_156b) At_170a ct_170a _   (Lib.hid (own_cells Ot_170a.out)) (Lib.hid (own_max Ot_170a.out)) qt_200).mono ?_
                        rintro e_t_200 wt_200 ⟨rfl, bt_200⟩
                        have HBwt_200 := Lib.hid (Below.step HBwt_192.out bt_200)
                        replace Ot_5a := Lib.hid (own_below Ot_5a.out bt_200)
                        replace Ot_83a := Lib.hid (own_below Ot_83a.out bt_200)
                        replace Ot_94a := Lib.hid (own_below Ot_94a.out bt_200)
                        replace Ot_103a := Lib.hid (own_below Ot_103a.out bt_200)
                        replace Ot_156a := Lib.hid (own_below Ot_156a.out bt_200)
                        replace Ot_170a := Lib.hid (own_below Ot_170a.out bt_200)
                        replace Ot_180a := Lib.hid (own_below Ot_180a.out bt_200)
                        clear bt_200
                        cases t_200 with
                        | false =>
                          replace H := let_hid H
                          obtain ⟨t_201, ht_201, H⟩ := H
                          obtain rfl : t_201 = true := ht_201.symm
                          replace H := app_hid H
                          replace H := app_hid H
                          replace H := ite_t H
                          obtain rfl := ret_hid H
                          go_wp2_with fail
                          go_ret
                          exact ⟨rfl, HBwt_200.out⟩
                        | true =>
                          replace H := let_hid H
                          obtain ⟨t_201, ht_201, H⟩ := H
                          obtain rfl : t_201 = false := ht_201.symm
                          replace H := app_hid H
                          replace H := app_hid H
                          replace H := ite_f H
                          replace H := bind_hid H
                          obtain ⟨t_206, qt_206, H⟩ := H
                          obtain ⟨t_206_leave, t_206_from_, t_206_to_, t_206_arrive⟩ := t_206
                          replace H := unMail_hid H
                          go_wp2_with fail
                          go_at_call 36
                          refine (Go.Proofs.YtfjcibkgbalkaaaDoor.GsDrawMailText.C tapes (code) A0 c0 _  HE (Lib.hid (Cells.below M0.out HBwt_200.out)) N0 V0 qt_206).mono ?_
                          rintro e_t_206 wt_206 ⟨rfl, bt_206⟩
                          unfold Go.Proofs.YtfjcibkgbalkaaaDoor.PMail.Mail.val
                          have HBwt_206 := Lib.hid (Below.step HBwt_200.out bt_206)
                          replace Ot_5a := Lib.hid (own_below Ot_5a.out bt_206)
                          replace Ot_83a := Lib.hid (own_below Ot_83a.out bt_206)
                          replace Ot_94a := Lib.hid (own_below Ot_94a.out bt_206)
                          replace Ot_103a := Lib.hid (own_below Ot_103a.out bt_206)
                          replace Ot_156a := Lib.hid (own_below Ot_156a.out bt_206)
                          replace Ot_170a := Lib.hid (own_below Ot_170a.out bt_206)
                          replace Ot_180a := Lib.hid (own_below Ot_180a.out bt_206)
                          clear bt_206
                          obtain ⟨w_z_207, hw_z_207⟩ : ∃ x, wt_206.alloc (.cells #[.int .i64 t_206_leave, .int .i64 t_206_from_, .int .i64 t_206_to_, .int .i64 t_206_arrive] 54) = x := ⟨_, rfl⟩
                          have bw_z_207 : Below wt_206.heap.size wt_206 w_z_207 := by rw [← hw_z_207]; exact (Below.refl _ _).alloc (Nat.le_refl _) _
                          have Dz_207_t_5a := Lib.hid (apart_fresh Ot_5a.out)
                          have Dz_207_t_83a := Lib.hid (apart_fresh Ot_83a.out)
                          have Dz_207_t_94a := Lib.hid (apart_fresh Ot_94a.out)
                          have Dz_207_t_103a := Lib.hid (apart_fresh Ot_103a.out)
                          have Dz_207_t_156a := Lib.hid (apart_fresh Ot_156a.out)
                          have Dz_207_t_170a := Lib.hid (apart_fresh Ot_170a.out)
                          have Dz_207_t_180a := Lib.hid (apart_fresh Ot_180a.out)
                          have HBw_z_207 := Lib.hid (Below.step HBwt_206.out bw_z_207)
                          replace Ot_5a := Lib.hid (own_below Ot_5a.out bw_z_207)
                          replace Ot_83a := Lib.hid (own_below Ot_83a.out bw_z_207)
                          replace Ot_94a := Lib.hid (own_below Ot_94a.out bw_z_207)
                          replace Ot_103a := Lib.hid (own_below Ot_103a.out bw_z_207)
                          replace Ot_156a := Lib.hid (own_below Ot_156a.out bw_z_207)
                          replace Ot_170a := Lib.hid (own_below Ot_170a.out bw_z_207)
                          replace Ot_180a := Lib.hid (own_below Ot_180a.out bw_z_207)
                          clear bw_z_207
                          have kz_207_0 : w_z_207.cell? ⟨wt_206.heap.size, 0, none⟩ = some (.int .i64 t_206_leave) := by rw [← hw_z_207]; exact box_new _ _ _ 0 _ rfl
                          have kz_207_1 : w_z_207.cell? ⟨wt_206.heap.size, 1, none⟩ = some (.int .i64 t_206_from_) := by rw [← hw_z_207]; exact box_new _ _ _ 1 _ rfl
                          have kz_207_2 : w_z_207.cell? ⟨wt_206.heap.size, 2, none⟩ = some (.int .i64 t_206_to_) := by rw [← hw_z_207]; exact box_new _ _ _ 2 _ rfl
                          have kz_207_3 : w_z_207.cell? ⟨wt_206.heap.size, 3, none⟩ = some (.int .i64 t_206_arrive) := by rw [← hw_z_207]; exact box_new _ _ _ 3 _ rfl
                          replace H := bind2_hid H
                          obtain ⟨t_210a, t_210b, qt_210, H⟩ := H
                          go_wp2_with fail
                          go_at_call 37
                          refine (Go.Proofs.YtfjcibkgbalkaaaDoor.GiMailText.C ((Go.Proofs.YtfjcibkgbalkaaaDoor.PMail.Mail.mk t_206_leave t_206_from_ t_206_to_ t_206_arrive))  _ (tab_below HBw_z_207.out HT)   qt_210).mono ?_
                          rintro e_t_210 wt_210 ⟨rfl, bt_210⟩
                          have HBwt_210 := Lib.hid (Below.step HBw_z_207.out bt_210)
                          replace kz_207_0 := cell_below bt_210 kz_207_0
                          replace kz_207_1 := cell_below bt_210 kz_207_1
                          replace kz_207_2 := cell_below bt_210 kz_207_2
                          replace kz_207_3 := cell_below bt_210 kz_207_3
                          replace Ot_5a := Lib.hid (own_below Ot_5a.out bt_210)
                          replace Ot_83a := Lib.hid (own_below Ot_83a.out bt_210)
                          replace Ot_94a := Lib.hid (own_below Ot_94a.out bt_210)
                          replace Ot_103a := Lib.hid (own_below Ot_103a.out bt_210)
                          replace Ot_156a := Lib.hid (own_below Ot_156a.out bt_210)
                          replace Ot_170a := Lib.hid (own_below Ot_170a.out bt_210)
                          replace Ot_180a := Lib.hid (own_below Ot_180a.out bt_210)
                          clear bt_210
                          replace H := bind2_hid H
                          obtain ⟨t_217a, t_217b, qt_217, H⟩ := H
                          go_wp2_with fail
                          go_at_call 38
                          refine (Go.Proofs.YtfjcibkgbalkaaaDoor.GsMailText.C ((Go.Proofs.YtfjcibkgbalkaaaDoor.PMail.Mail.mk t_206_leave t_206_from_ t_206_to_ t_206_arrive))  _    qt_217).mono ?_
                          rintro e_t_217 wt_217 ⟨rfl, bt_217⟩
                          have HBwt_217 := Lib.hid (Below.step HBwt_210.out bt_217)
                          replace kz_207_0 := cell_below bt_217 kz_207_0
                          replace kz_207_1 := cell_below bt_217 kz_207_1
                          replace kz_207_2 := cell_below bt_217 kz_207_2
                          replace kz_207_3 := cell_below bt_217 kz_207_3
                          replace Ot_5a := Lib.hid (own_below Ot_5a.out bt_217)
                          replace Ot_83a := Lib.hid (own_below Ot_83a.out bt_217)
                          replace Ot_94a := Lib.hid (own_below Ot_94a.out bt_217)
                          replace Ot_103a := Lib.hid (own_below Ot_103a.out bt_217)
                          replace Ot_156a := Lib.hid (own_below Ot_156a.out bt_217)
                          replace Ot_170a := Lib.hid (own_below Ot_170a.out bt_217)
                          replace Ot_180a := Lib.hid (own_below Ot_180a.out bt_217)
                          clear bt_217
                          replace H := let_hid H
                          obtain ⟨t_225, ht_225, H⟩ := H
                          replace H := join_hid H
                          cases t_225 with
                          | false =>
                            replace H := ite_f H
                            replace H := app_hid H
                            obtain rfl := ret_hid H
                            go_wp2_with fail
                            go_ret
                            exact ⟨rfl, HBwt_217.out⟩
                          | true =>
                            replace H := ite_t H
                            replace H := let_hid H
                            obtain ⟨t_229, ht_229, H⟩ := H
                            replace H := app_hid H
                            obtain rfl := ret_hid H
                            go_wp2_with fail
                            go_ret
                            exact ⟨rfl, HBwt_217.out⟩
                  | true =>
                    replace H := ite_t H
                    replace H := app_hid H
                    replace H := join_hid H
                    replace H := ite_t H
                    replace H := app_hid H
                    replace H := ite_t H
                    obtain rfl := ret_hid H
                    go_wp2_with fail
                    go_ret
                    exact ⟨rfl, HBwt_180.out⟩
                | succ m0 =>
                  have hlt0 : k0 < t_94a.length := by omega
                  have hc0 : decide ((k0 : Int) < ((t_94a.length : Nat) : Int)) = true := by simp; omega
                  replace H := cnt_succ H
                  unfold l0 at H
                  replace H := idx_hid H
                  obtain ⟨nt_127, yt_127, et_127, lt_127, gt_127, H⟩ := H
                  obtain rfl : k0 = nt_127 := by omega
                  clear et_127
                  obtain ⟨qt_127, Qt_127⟩ := own_some Ot_94a.out (by omega)
                  subst Qt_127
                  obtain ⟨ab_t_127, ao_t_127, zt_127, At_127, z_t_127, ct_127_0⟩ := Go.Proofs.YtfjcibkgbalkaaaDoor.HelpInt.Ints.at_ (own_cells Ot_94a.out) (k := k0) (by omega)
                  obtain rfl := Option.some.inj (gt_127.out.symm.trans z_t_127)
                  simp only [Option.some.injEq, Addr.mk.injEq] at At_127
                  obtain ⟨rfl, rfl, _⟩ := At_127
                  clear z_t_127
                  simp only [Nat.zero_add] at ct_127_0
                  have b0t_127 : (0 : Int) ≤ (k0 : Int) := by omega
                  have b1t_127 : (k0 : Int) < ((t_94a.length : Nat) : Int) := by omega
                  have b2t_127 : ((k0 : Int)).toNat = k0 := by omega
                  replace H := idx_hid H
                  obtain ⟨nt_129, yt_129, et_129, lt_129, gt_129, H⟩ := H
                  subst et_129
                  obtain ⟨t_129_leave, t_129_from_, t_129_to_, t_129_arrive⟩ := yt_129
                  replace H := unMail_hid H
                  obtain ⟨qt_129, Qt_129⟩ := own_some Ot_83a.out (by omega)
                  subst Qt_129
                  obtain ⟨ab_t_129, ao_t_129, zt_129, At_129, z_t_129, ct_129_0, ct_129_1, ct_129_2, ct_129_3⟩ := Go.Proofs.YtfjcibkgbalkaaaDoor.OMail.at_ (own_cells Ot_83a.out) (k := nt_129) (by omega)
                  obtain rfl := Option.some.inj (gt_129.out.symm.trans z_t_129)
                  simp only [Option.some.injEq, Addr.mk.injEq] at At_129
                  obtain ⟨rfl, rfl, _⟩ := At_129
                  clear z_t_129
                  simp only [Nat.zero_add] at ct_129_0 ct_129_1 ct_129_2 ct_129_3
                  have b0t_129 : (0 : Int) ≤ (nt_129 : Int) := by omega
                  have b1t_129 : (nt_129 : Int) < ((t_83a.length : Nat) : Int) := by omega
                  have b2t_129 : ((nt_129 : Int)).toNat = nt_129 := by omega
                  obtain ⟨w_m_131, hw_m_131⟩ : ∃ x, wr0.alloc (.cells #[.int .i64 t_129_leave, .int .i64 t_129_from_, .int .i64 t_129_to_, .int .i64 t_129_arrive] 54) = x := ⟨_, rfl⟩
                  have bw_m_131 : Below wr0.heap.size wr0 w_m_131 := by rw [← hw_m_131]; exact (Below.refl _ _).alloc (Nat.le_refl _) _
                  have Dm_131_t_5a := Lib.hid (apart_fresh Ot_5a.out)
                  have Dm_131_t_83a := Lib.hid (apart_fresh Ot_83a.out)
                  have Dm_131_t_94a := Lib.hid (apart_fresh Ot_94a.out)
                  have Dm_131_t_103a := Lib.hid (apart_fresh Ot_103a.out)
                  have HBw_m_131 := Lib.hid (Below.step HBwr0.out bw_m_131)
                  have ct_127_0__358 := cell_below bw_m_131 ct_127_0
                  have ct_129_0__359 := cell_below bw_m_131 ct_129_0
                  have ct_129_1__360 := cell_below bw_m_131 ct_129_1
                  have ct_129_2__361 := cell_below bw_m_131 ct_129_2
                  have ct_129_3__362 := cell_below bw_m_131 ct_129_3
                  replace Ot_5a := Lib.hid (own_below Ot_5a.out bw_m_131)
                  replace Ot_83a := Lib.hid (own_below Ot_83a.out bw_m_131)
                  replace Ot_94a := Lib.hid (own_below Ot_94a.out bw_m_131)
                  replace Ot_103a := Lib.hid (own_below Ot_103a.out bw_m_131)
                  clear bw_m_131
                  have km_131_0 : w_m_131.cell? ⟨wr0.heap.size, 0, none⟩ = some (.int .i64 t_129_leave) := by rw [← hw_m_131]; exact box_new _ _ _ 0 _ rfl
                  have km_131_1 : w_m_131.cell? ⟨wr0.heap.size, 1, none⟩ = some (.int .i64 t_129_from_) := by rw [← hw_m_131]; exact box_new _ _ _ 1 _ rfl
                  have km_131_2 : w_m_131.cell? ⟨wr0.heap.size, 2, none⟩ = some (.int .i64 t_129_to_) := by rw [← hw_m_131]; exact box_new _ _ _ 2 _ rfl
                  have km_131_3 : w_m_131.cell? ⟨wr0.heap.size, 3, none⟩ = some (.int .i64 t_129_arrive) := by rw [← hw_m_131]; exact box_new _ _ _ 3 _ rfl
                  replace H := bind2_hid H
                  obtain ⟨t_138a, t_138b, qt_138, H⟩ := H
                  go_wp2_with fail
                  clear ct_127_0 ct_129_0 ct_129_1 ct_129_2 ct_129_3
                  go_at_call 27
                  refine (Go.Proofs.YtfjcibkgbalkaaaDoor.GiEarliestAt.C (t_83a) (t_83b) (t_83c) (t_129_from_) (some ⟨qt_129, 0, none⟩) ct_83a _   (Lib.hid (own_cells Ot_83a.out)) (Lib.hid (own_max Ot_83a.out)) qt_138).mono ?_
                  rintro e_t_138 wt_138 ⟨rfl, bt_138⟩
                  have HBwt_138 := Lib.hid (Below.step HBw_m_131.out bt_138)
                  replace ct_127_0__358 := cell_below bt_138 ct_127_0__358
                  replace ct_129_0__359 := cell_below bt_138 ct_129_0__359
                  replace ct_129_1__360 := cell_below bt_138 ct_129_1__360
                  replace ct_129_2__361 := cell_below bt_138 ct_129_2__361
                  replace ct_129_3__362 := cell_below bt_138 ct_129_3__362
                  replace km_131_0 := cell_below bt_138 km_131_0
                  replace km_131_1 := cell_below bt_138 km_131_1
                  replace km_131_2 := cell_below bt_138 km_131_2
                  replace km_131_3 := cell_below bt_138 km_131_3
                  replace Ot_5a := Lib.hid (own_below Ot_5a.out bt_138)
                  replace Ot_83a := Lib.hid (own_below Ot_83a.out bt_138)
                  replace Ot_94a := Lib.hid (own_below Ot_94a.out bt_138)
                  replace Ot_103a := Lib.hid (own_below Ot_103a.out bt_138)
                  clear bt_138
                  replace H := join_hid H
                  cases t_138b with
                  | false =>
                    replace H := ite_f H
                    replace H := app_hid H
                    replace H := ite_f H
                    replace H := app_hid H
                    go_wp2_with fail
                    go_roundg m0
                    case measure => omega
                    case rel => exact ⟨k0 + 1, by omega, by go_num, H, HBwt_138, Ot_5a, Ot_83a, Ot_94a, Ot_103a⟩
                  | true =>
                    replace H := ite_t H
                    replace H := let_hid H
                    obtain ⟨t_149, ht_149, H⟩ := H
                    replace H := app_hid H
                    cases t_149 with
                    | false =>
                      replace H := ite_f H
                      replace H := app_hid H
                      go_wp2_with fail
                      go_roundg m0
                      case measure => omega
                      case rel => exact ⟨k0 + 1, by omega, by go_num, H, HBwt_138, Ot_5a, Ot_83a, Ot_94a, Ot_103a⟩
                    | true =>
                      replace H := ite_t H
                      obtain rfl := ret_hid H
                      go_wp2_with fail
                      go_ret
                      exact ⟨rfl, HBwt_138.out⟩
          | true =>
            replace H := ite_t H
            replace H := app_hid H
            replace H := ite_t H
            obtain rfl := ret_hid H
            go_wp2_with fail
            go_ret
            exact ⟨rfl, HBwt_103.out⟩
        | true =>
          obtain rfl : t_29b = true := by revert ht_41; cases t_29b <;> simp
          replace H := ite_t H
          replace H := bind2_hid H
          obtain ⟨t_49a, t_49b, qt_49, H⟩ := H
          go_wp2_with fail
          go_at_call 27
          refine (Go.Proofs.YtfjcibkgbalkaaaDoor.GiEarliestAt.C (t_5a) (t_5b) (t_19a) (t_5c) At_5a ct_5a _   (Lib.hid (own_cells Ot_5a.out)) (Lib.hid (own_max Ot_5a.out)) qt_49).mono ?_
          rintro e_t_49 wt_49 ⟨rfl, bt_49⟩
          have HBwt_49 := Lib.hid (Below.step HBwt_29.out bt_49)
          replace Ot_5a := Lib.hid (own_below Ot_5a.out bt_49)
          clear bt_49
          replace H := let_hid H
          obtain ⟨t_58, ht_58, H⟩ := H
          replace H := bind2_hid H
          obtain ⟨t_60a, t_60b, qt_60, H⟩ := H
          go_wp2_with fail
          go_at_call 27
          refine (Go.Proofs.YtfjcibkgbalkaaaDoor.GiEarliestAt.C (t_5a) (t_5b) (t_58) (t_5c) At_5a ct_5a _   (Lib.hid (own_cells Ot_5a.out)) (Lib.hid (own_max Ot_5a.out)) qt_60).mono ?_
          rintro e_t_60 wt_60 ⟨rfl, bt_60⟩
          have HBwt_60 := Lib.hid (Below.step HBwt_49.out bt_60)
          replace Ot_5a := Lib.hid (own_below Ot_5a.out bt_60)
          clear bt_60
          cases t_49b with
          | false =>
            replace H := let_hid H
            obtain ⟨t_67, ht_67, H⟩ := H
            obtain rfl : t_67 = true := ht_67.symm
            replace H := join_hid H
            replace H := ite_t H
            replace H := app_hid H
            replace H := join_hid H
            replace H := ite_t H
            replace H := app_hid H
            replace H := ite_t H
            obtain rfl := ret_hid H
            go_wp2_with fail
            go_ret
            exact ⟨rfl, HBwt_60.out⟩
          | true =>
            replace H := let_hid H
            obtain ⟨t_67, ht_67, H⟩ := H
            obtain rfl : t_67 = false := ht_67.symm
            replace H := join_hid H
            replace H := ite_f H
            replace H := let_hid H
            obtain ⟨t_71, ht_71, H⟩ := H
            replace H := app_hid H
            replace H := join_hid H
            cases t_71 with
            | false =>
              replace H := ite_f H
              replace H := join_hid H
              cases t_60b with
              | false =>
                replace H := ite_f H
                replace H := app_hid H
                replace H := app_hid H
                replace H := ite_f H
                unfold j0 at H
                replace H := bind3_hid H
                obtain ⟨t_83a, t_83b, t_83c, qt_83, H⟩ := H
                go_wp2_with fail
                go_at_call 28
                refine (Go.Proofs.YtfjcibkgbalkaaaDoor.GsDrawMissedMails.C fuel tapes (code) A0 c0 _  HE (Lib.hid (Cells.below M0.out HBwt_60.out)) N0 V0 qt_83).mono ?_
                rintro e_t_83 wt_83 ⟨At_83a, ct_83a, rfl, ot_83a, bt_83⟩
                have Dt_83a_t_5a := Lib.hid (apart_call ot_83a Ot_5a.out)
                have Ot_83a := Lib.hid (own_lower ot_83a HBwt_60.out.size)
                clear ot_83a
                have HBwt_83 := Lib.hid (Below.step HBwt_60.out bt_83)
                replace Ot_5a := Lib.hid (own_below Ot_5a.out bt_83)
                clear bt_83
                replace H := bind2_hid H
                obtain ⟨t_94a, t_94b, qt_94, H⟩ := H
                go_wp2_with fail
                go_at_call 29
                refine (Go.Proofs.YtfjcibkgbalkaaaDoor.GiMissedMails.C (t_83a) (t_83b) (t_83c) At_83a ct_83a _   (Lib.hid (own_cells Ot_83a.out)) (Lib.hid (own_max Ot_83a.out)) qt_94).mono ?_
                rintro e_t_94 wt_94 ⟨At_94a, ct_94a, rfl, ot_94a, bt_94⟩
                have Dt_94a_t_5a := Lib.hid (apart_call ot_94a Ot_5a.out)
                have Dt_94a_t_83a := Lib.hid (apart_call ot_94a Ot_83a.out)
                have Ot_94a := Lib.hid (own_lower ot_94a HBwt_83.out.size)
                clear ot_94a
                have HBwt_94 := Lib.hid (Below.step HBwt_83.out bt_94)
                replace Ot_5a := Lib.hid (own_below Ot_5a.out bt_94)
                replace Ot_83a := Lib.hid (own_below Ot_83a.out bt_94)
                clear bt_94
                replace H := bind2_hid H
                obtain ⟨t_103a, t_103b, qt_103, H⟩ := H
                go_wp2_with fail
                go_at_call 30
                refine (Go.Proofs.YtfjcibkgbalkaaaDoor.GsMissedMails.C (t_83a) (t_83b) (t_83c) At_83a ct_83a _   (Lib.hid (own_cells Ot_83a.out)) (Lib.hid (own_max Ot_83a.out)) qt_103).mono ?_
                rintro e_t_103 wt_103 ⟨At_103a, ct_103a, rfl, ot_103a, bt_103⟩
                have Dt_103a_t_5a := Lib.hid (apart_call ot_103a Ot_5a.out)
                have Dt_103a_t_83a := Lib.hid (apart_call ot_103a Ot_83a.out)
                have Dt_103a_t_94a := Lib.hid (apart_call ot_103a Ot_94a.out)
                have Ot_103a := Lib.hid (own_lower ot_103a HBwt_94.out.size)
                clear ot_103a
                have HBwt_103 := Lib.hid (Below.step HBwt_94.out bt_103)
                replace Ot_5a := Lib.hid (own_below Ot_5a.out bt_103)
                replace Ot_83a := Lib.hid (own_below Ot_83a.out bt_103)
                replace Ot_94a := Lib.hid (own_below Ot_94a.out bt_103)
                clear bt_103
                replace H := let_hid H
                obtain ⟨t_111, ht_111, H⟩ := H
                replace H := join_hid H
                cases t_111 with
                | false =>
                  replace H := ite_f H
                  replace H := bind_hid H
                  obtain ⟨t_115, qt_115, H⟩ := H
                  go_wp2_with fail
                  go_at_call 31
                  refine (Go.Proofs.YtfjcibkgbalkaaaDoor.GlVInts.C (t_94a) (t_103a) At_94a ct_94a At_103a ct_103a _   (Lib.hid (own_cells Ot_94a.out)) (Lib.hid (own_max Ot_94a.out)) (Lib.hid (own_cells Ot_103a.out)) (Lib.hid (own_max Ot_103a.out)) qt_115).mono ?_
                  rintro e_t_115 wt_115 ⟨rfl, bt_115⟩
                  have HBwt_115 := Lib.hid (Below.step HBwt_103.out bt_115)
                  replace Ot_5a := Lib.hid (own_below Ot_5a.out bt_115)
                  replace Ot_83a := Lib.hid (own_below Ot_83a.out bt_115)
                  replace Ot_94a := Lib.hid (own_below Ot_94a.out bt_115)
                  replace Ot_103a := Lib.hid (own_below Ot_103a.out bt_115)
                  clear bt_115
                  cases t_115 with
                  | false =>
                    replace H := let_hid H
                    obtain ⟨t_116, ht_116, H⟩ := H
                    obtain rfl : t_116 = true := ht_116.symm
                    replace H := app_hid H
                    replace H := ite_t H
                    obtain rfl := ret_hid H
                    go_wp2_with fail
                    go_ret
                    exact ⟨rfl, HBwt_115.out⟩
                  | true =>
                    replace H := let_hid H
                    obtain ⟨t_116, ht_116, H⟩ := H
                    obtain rfl : t_116 = false := ht_116.symm
                    replace H := app_hid H
                    replace H := ite_f H
                    have hb_0 : t_94a.length ≤ 9223372036854775807 := own_max Ot_94a.out
                    go_wp2_with fail
                    go_loopg [22] (t_94a.length) (fun m_ v22_ wr => ∃ (k0 : Nat) , k0 + m_ = t_94a.length ∧ v22_ = .int .i64 (k0 : Int) ∧ Hid (cntK (l0 t_83a t_83b t_83c t_94a) m_ k0 () (e0 code fuel tapes) = some r) ∧ Hid (Below w.heap.size w wr) ∧ Hid (wr.ownsRow w.heap.size 54 4 (.slice At_5a t_5a.length ct_5a) t_5a.length (Go.Proofs.YtfjcibkgbalkaaaDoor.PMail.flat t_5a)) ∧ Hid (wr.ownsRow w.heap.size 54 4 (.slice At_83a t_83a.length ct_83a) t_83a.length (Go.Proofs.YtfjcibkgbalkaaaDoor.PMail.flat t_83a)) ∧ Hid (wr.ownsRow w.heap.size 3 1 (.slice At_94a t_94a.length ct_94a) t_94a.length (Go.Proofs.YtfjcibkgbalkaaaDoor.HelpInt.iv t_94a)) ∧ Hid (wr.ownsRow w.heap.size 3 1 (.slice At_103a t_103a.length ct_103a) t_103a.length (Go.Proofs.YtfjcibkgbalkaaaDoor.HelpInt.iv t_103a)))
                    case atStart => exact ⟨0, by omega, rfl, H, HBwt_115, Ot_5a, Ot_83a, Ot_94a, Ot_103a⟩
                    case round =>
                      obtain ⟨k0, hkm0, rfl, H, HBwr0, Ot_5a, Ot_83a, Ot_94a, Ot_103a⟩ := hrel
                      rename World => wr0
                      cases gk with
                      | zero =>
                        obtain rfl : k0 = t_94a.length := by omega
                        have hc0 : decide (((t_94a.length : Nat) : Int) < ((t_94a.length : Nat) : Int)) = false := by simp
                        replace H := cnt_zero H
                        unfold e0 at H
                        replace H := bind4_hid H
                        obtain ⟨t_156a, t_156b, t_156c, t_156d, qt_156, H⟩ := H
                        go_wp2_with fail
                        go_at_call 32
                        refine (Go.Proofs.YtfjcibkgbalkaaaDoor.GsDrawReachedBy.C fuel tapes (code) A0 c0 _  HE (Lib.hid (Cells.below M0.out HBwr0.out)) N0 V0 qt_156).mono ?_
                        rintro e_t_156 wt_156 ⟨At_156a, ct_156a, rfl, ot_156a, bt_156⟩
                        have Dt_156a_t_5a := Lib.hid (apart_call ot_156a Ot_5a.out)
                        have Dt_156a_t_83a := Lib.hid (apart_call ot_156a Ot_83a.out)
                        have Dt_156a_t_94a := Lib.hid (apart_call ot_156a Ot_94a.out)
                        have Dt_156a_t_103a := Lib.hid (apart_call ot_156a Ot_103a.out)
                        have Ot_156a := Lib.hid (own_lower ot_156a HBwr0.out.size)
                        clear ot_156a
                        have HBwt_156 := Lib.hid (Below.step HBwr0.out bt_156)
                        replace Ot_5a := Lib.hid (own_below Ot_5a.out bt_156)
                        replace Ot_83a := Lib.hid (own_below Ot_83a.out bt_156)
                        replace Ot_94a := Lib.hid (own_below Ot_94a.out bt_156)
                        replace Ot_103a := Lib.hid (own_below Ot_103a.out bt_156)
                        clear bt_156
                        replace H := bind2_hid H
                        obtain ⟨t_170a, t_170b, qt_170, H⟩ := H
                        go_wp2_with fail
                        go_at_call 33
                        refine (Go.Proofs.YtfjcibkgbalkaaaDoor.GiReachedBy.C (t_156a) (t_156b) (t_156c) (t_156d) At_156a ct_156a _   (Lib.hid (own_cells Ot_156a.out)) (Lib.hid (own_max Ot_156a.out)) qt_170).mono ?_
                        rintro e_t_170 wt_170 ⟨At_170a, ct_170a, rfl, ot_170a, bt_170⟩
                        have Dt_170a_t_5a := Lib.hid (apart_call ot_170a Ot_5a.out)
                        have Dt_170a_t_83a := Lib.hid (apart_call ot_170a Ot_83a.out)
                        have Dt_170a_t_94a := Lib.hid (apart_call ot_170a Ot_94a.out)
                        have Dt_170a_t_103a := Lib.hid (apart_call ot_170a Ot_103a.out)
                        have Dt_170a_t_156a := Lib.hid (apart_call ot_170a Ot_156a.out)
                        have Ot_170a := Lib.hid (own_lower ot_170a HBwt_156.out.size)
                        clear ot_170a
                        have HBwt_170 := Lib.hid (Below.step HBwt_156.out bt_170)
                        replace Ot_5a := Lib.hid (own_below Ot_5a.out bt_170)
                        replace Ot_83a := Lib.hid (own_below Ot_83a.out bt_170)
                        replace Ot_94a := Lib.hid (own_below Ot_94a.out bt_170)
                        replace Ot_103a := Lib.hid (own_below Ot_103a.out bt_170)
                        replace Ot_156a := Lib.hid (own_below Ot_156a.out bt_170)
                        clear bt_170
                        replace H := bind2_hid H
                        obtain ⟨t_180a, t_180b, qt_180, H⟩ := H
                        go_wp2_with fail
                        go_at_call 34
                        refine (Go.Proofs.YtfjcibkgbalkaaaDoor.GsReachedBy.C (t_156a) (t_156b) (t_156c) (t_156d) At_156a ct_156a _   (Lib.hid (own_cells Ot_156a.out)) (Lib.hid (own_max Ot_156a.out)) qt_180).mono ?_
                        rintro e_t_180 wt_180 ⟨At_180a, ct_180a, rfl, ot_180a, bt_180⟩
                        have Dt_180a_t_5a := Lib.hid (apart_call ot_180a Ot_5a.out)
                        have Dt_180a_t_83a := Lib.hid (apart_call ot_180a Ot_83a.out)
                        have Dt_180a_t_94a := Lib.hid (apart_call ot_180a Ot_94a.out)
                        have Dt_180a_t_103a := Lib.hid (apart_call ot_180a Ot_103a.out)
                        have Dt_180a_t_156a := Lib.hid (apart_call ot_180a Ot_156a.out)
                        have Dt_180a_t_170a := Lib.hid (apart_call ot_180a Ot_170a.out)
                        have Ot_180a := Lib.hid (own_lower ot_180a HBwt_170.out.size)
                        clear ot_180a
                        have HBwt_180 := Lib.hid (Below.step HBwt_170.out bt_180)
                        replace Ot_5a := Lib.hid (own_below Ot_5a.out bt_180)
                        replace Ot_83a := Lib.hid (own_below Ot_83a.out bt_180)
                        replace Ot_94a := Lib.hid (own_below Ot_94a.out bt_180)
                        replace Ot_103a := Lib.hid (own_below Ot_103a.out bt_180)
                        replace Ot_156a := Lib.hid (own_below Ot_156a.out bt_180)
                        replace Ot_170a := Lib.hid (own_below Ot_170a.out bt_180)
                        clear bt_180
                        replace H := let_hid H
                        obtain ⟨t_188, ht_188, H⟩ := H
                        replace H := join_hid H
                        cases t_188 with
                        | false =>
                          replace H := ite_f H
                          replace H := bind_hid H
                          obtain ⟨t_192, qt_192, H⟩ := H
                          go_wp2_with fail
                          go_at_call 31
                          refine (Go.Proofs.YtfjcibkgbalkaaaDoor.GlVInts.C (t_170a) (t_180a) At_170a ct_170a At_180a ct_180a _   (Lib.hid (own_cells Ot_170a.out)) (Lib.hid (own_max Ot_170a.out)) (Lib.hid (own_cells Ot_180a.out)) (Lib.hid (own_max Ot_180a.out)) qt_192).mono ?_
                          rintro e_t_192 wt_192 ⟨rfl, bt_192⟩
                          have HBwt_192 := Lib.hid (Below.step HBwt_180.out bt_192)
                          replace Ot_5a := Lib.hid (own_below Ot_5a.out bt_192)
                          replace Ot_83a := Lib.hid (own_below Ot_83a.out bt_192)
                          replace Ot_94a := Lib.hid (own_below Ot_94a.out bt_192)
                          replace Ot_103a := Lib.hid (own_below Ot_103a.out bt_192)
                          replace Ot_156a := Lib.hid (own_below Ot_156a.out bt_192)
                          replace Ot_170a := Lib.hid (own_below Ot_170a.out bt_192)
                          replace Ot_180a := Lib.hid (own_below Ot_180a.out bt_192)
                          clear bt_192
                          cases t_192 with
                          | false =>
                            replace H := let_hid H
                            obtain ⟨t_193, ht_193, H⟩ := H
                            obtain rfl : t_193 = true := ht_193.symm
                            replace H := app_hid H
                            replace H := join_hid H
                            replace H := ite_t H
                            replace H := app_hid H
                            replace H := ite_t H
                            obtain rfl := ret_hid H
                            go_wp2_with fail
                            go_ret
                            exact ⟨rfl, HBwt_192.out⟩
                          | true =>
                            replace H := let_hid H
                            obtain ⟨t_193, ht_193, H⟩ := H
                            obtain rfl : t_193 = false := ht_193.symm
                            replace H := app_hid H
                            replace H := join_hid H
                            replace H := ite_f H
                            replace H := join_hid H
                            cases t_170b with
                            | false =>
                              obtain rfl : t_180b = false := by revert ht_188; cases t_180b <;> simp
                              replace H := ite_f H
                              replace H := app_hid H
                              replace H := app_hid H
                              replace H := ite_f H
                              replace H := bind_hid H
                              obtain ⟨t_206, qt_206, H⟩ := H
                              obtain ⟨t_206_leave, t_206_from_, t_206_to_, t_206_arrive⟩ := t_206
                              replace H := unMail_hid H
                              go_wp2_with fail
                              go_at_call 36
                              refine (Go.Proofs.YtfjcibkgbalkaaaDoor.GsDrawMailText.C tapes (code) A0 c0 _  HE (Lib.hid (Cells.below M0.out HBwt_192.out)) N0 V0 qt_206).mono ?_
                              rintro e_t_206 wt_206 ⟨rfl, bt_206⟩
                              unfold Go.Proofs.YtfjcibkgbalkaaaDoor.PMail.Mail.val
                              have HBwt_206 := Lib.hid (Below.step HBwt_192.out bt_206)
                              replace Ot_5a := Lib.hid (own_below Ot_5a.out bt_206)
                              replace Ot_83a := Lib.hid (own_below Ot_83a.out bt_206)
                              replace Ot_94a := Lib.hid (own_below Ot_94a.out bt_206)
                              replace Ot_103a := Lib.hid (own_below Ot_103a.out bt_206)
                              replace Ot_156a := Lib.hid (own_below Ot_156a.out bt_206)
                              replace Ot_170a := Lib.hid (own_below Ot_170a.out bt_206)
                              replace Ot_180a := Lib.hid (own_below Ot_180a.out bt_206)
                              clear bt_206
                              obtain ⟨w_z_207, hw_z_207⟩ : ∃ x, wt_206.alloc (.cells #[.int .i64 t_206_leave, .int .i64 t_206_from_, .int .i64 t_206_to_, .int .i64 t_206_arrive] 54) = x := ⟨_, rfl⟩
                              have bw_z_207 : Below wt_206.heap.size wt_206 w_z_207 := by rw [← hw_z_207]; exact (Below.refl _ _).alloc (Nat.le_refl _) _
                              have Dz_207_t_5a := Lib.hid (apart_fresh Ot_5a.out)
                              have Dz_207_t_83a := Lib.hid (apart_fresh Ot_83a.out)
                              have Dz_207_t_94a := Lib.hid (apart_fresh Ot_94a.out)
                              have Dz_207_t_103a := Lib.hid (apart_fresh Ot_103a.out)
                              have Dz_207_t_156a := Lib.hid (apart_fresh Ot_156a.out)
                              have Dz_207_t_170a := Lib.hid (apart_fresh Ot_170a.out)
                              have Dz_207_t_180a := Lib.hid (apart_fresh Ot_180a.out)
                              have HBw_z_207 := Lib.hid (Below.step HBwt_206.out bw_z_207)
                              replace Ot_5a := Lib.hid (own_below Ot_5a.out bw_z_207)
                              replace Ot_83a := Lib.hid (own_below Ot_83a.out bw_z_207)
                              replace Ot_94a := Lib.hid (own_below Ot_94a.out bw_z_207)
                              replace Ot_103a := Lib.hid (own_below Ot_103a.out bw_z_207)
                              replace Ot_156a := Lib.hid (own_below Ot_156a.out bw_z_207)
                              replace Ot_170a := Lib.hid (own_below Ot_170a.out bw_z_207)
                              replace Ot_180a := Lib.hid (own_below Ot_180a.out bw_z_207)
                              clear bw_z_207
                              have kz_207_0 : w_z_207.cell? ⟨wt_206.heap.size, 0, none⟩ = some (.int .i64 t_206_leave) := by rw [← hw_z_207]; exact box_new _ _ _ 0 _ rfl
                              have kz_207_1 : w_z_207.cell? ⟨wt_206.heap.size, 1, none⟩ = some (.int .i64 t_206_from_) := by rw [← hw_z_207]; exact box_new _ _ _ 1 _ rfl
                              have kz_207_2 : w_z_207.cell? ⟨wt_206.heap.size, 2, none⟩ = some (.int .i64 t_206_to_) := by rw [← hw_z_207]; exact box_new _ _ _ 2 _ rfl
                              have kz_207_3 : w_z_207.cell? ⟨wt_206.heap.size, 3, none⟩ = some (.int .i64 t_206_arrive) := by rw [← hw_z_207]; exact box_new _ _ _ 3 _ rfl
                              replace H := bind2_hid H
                              obtain ⟨t_210a, t_210b, qt_210, H⟩ := H
                              go_wp2_with fail
                              go_at_call 37
                              refine (Go.Proofs.YtfjcibkgbalkaaaDoor.GiMailText.C ((Go.Proofs.YtfjcibkgbalkaaaDoor.PMail.Mail.mk t_206_leave t_206_from_ t_206_to_ t_206_arrive))  _ (tab_below HBw_z_207.out HT)   qt_210).mono ?_
                              rintro e_t_210 wt_210 ⟨rfl, bt_210⟩
                              have HBwt_210 := Lib.hid (Below.step HBw_z_207.out bt_210)
                              replace kz_207_0 := cell_below bt_210 kz_207_0
                              replace kz_207_1 := cell_below bt_210 kz_207_1
                              replace kz_207_2 := cell_below bt_210 kz_207_2
                              replace kz_207_3 := cell_below bt_210 kz_207_3
                              replace Ot_5a := Lib.hid (own_below Ot_5a.out bt_210)
                              replace Ot_83a := Lib.hid (own_below Ot_83a.out bt_210)
                              replace Ot_94a := Lib.hid (own_below Ot_94a.out bt_210)
                              replace Ot_103a := Lib.hid (own_below Ot_103a.out bt_210)
                              replace Ot_156a := Lib.hid (own_below Ot_156a.out bt_210)
                              replace Ot_170a := Lib.hid (own_below Ot_170a.out bt_210)
                              replace Ot_180a := Lib.hid (own_below Ot_180a.out bt_210)
                              clear bt_210
                              replace H := bind2_hid H
                              obtain ⟨t_217a, t_217b, qt_217, H⟩ := H
                              go_wp2_with fail
                              go_at_call 38
                              refine (Go.Proofs.YtfjcibkgbalkaaaDoor.GsMailText.C ((Go.Proofs.YtfjcibkgbalkaaaDoor.PMail.Mail.mk t_206_leave t_206_from_ t_206_to_ t_206_arrive))  _    qt_217).mono ?_
                              rintro e_t_217 wt_217 ⟨rfl, bt_217⟩
                              have HBwt_217 := Lib.hid (Below.step HBwt_210.out bt_217)
                              replace kz_207_0 := cell_below bt_217 kz_207_0
                              replace kz_207_1 := cell_below bt_217 kz_207_1
                              replace kz_207_2 := cell_below bt_217 kz_207_2
                              replace kz_207_3 := cell_below bt_217 kz_207_3
                              replace Ot_5a := Lib.hid (own_below Ot_5a.out bt_217)
                              replace Ot_83a := Lib.hid (own_below Ot_83a.out bt_217)
                              replace Ot_94a := Lib.hid (own_below Ot_94a.out bt_217)
                              replace Ot_103a := Lib.hid (own_below Ot_103a.out bt_217)
                              replace Ot_156a := Lib.hid (own_below Ot_156a.out bt_217)
                              replace Ot_170a := Lib.hid (own_below Ot_170a.out bt_217)
                              replace Ot_180a := Lib.hid (own_below Ot_180a.out bt_217)
                              clear bt_217
                              replace H := let_hid H
                              obtain ⟨t_225, ht_225, H⟩ := H
                              replace H := join_hid H
                              cases t_225 with
                              | false =>
                                replace H := ite_f H
                                replace H := app_hid H
                                obtain rfl := ret_hid H
                                go_wp2_with fail
                                go_ret
                                exact ⟨rfl, HBwt_217.out⟩
                              | true =>
                                replace H := ite_t H
                                replace H := let_hid H
                                obtain ⟨t_229, ht_229, H⟩ := H
                                replace H := app_hid H
                                obtain rfl := ret_hid H
                                go_wp2_with fail
                                go_ret
                                exact ⟨rfl, HBwt_217.out⟩
                            | true =>
                              obtain rfl : t_180b = true := by revert ht_188; cases t_180b <;> simp
                              replace H := ite_t H
                              replace H := bind_hid H
                              obtain ⟨t_200, qt_200, H⟩ := H
                              go_wp2_with fail
                              go_at_call 35
                              refine (Go.Proofs.YtfjcibkgbalkaaaDoor.GlVHas.C (t_170a) (t_156b) At_170a ct_170a _   (Lib.hid (own_cells Ot_170a.out)) (Lib.hid (own_max Ot_170a.out)) qt_200).mono ?_
                              rintro e_t_200 wt_200 ⟨rfl, bt_200⟩
                              have HBwt_200 := Lib.hid (Below.step HBwt_192.out bt_200)
                              replace Ot_5a := Lib.hid (own_below Ot_5a.out bt_200)
                              replace Ot_83a := Lib.hid (own_below Ot_83a.out bt_200)
                              replace Ot_94a := Lib.hid (own_below Ot_94a.out bt_200)
                              replace Ot_103a := Lib.hid (own_below Ot_103a.out bt_200)
                              replace Ot_156a := Lib.hid (own_below Ot_156a.out bt_200)
                              replace Ot_170a := Lib.hid (own_below Ot_170a.out bt_200)
                              replace Ot_180a := Lib.hid (own_below Ot_180a.out bt_200)
                              clear bt_200
                              cases t_200 with
                              | false =>
                                replace H := let_hid H
                                obtain ⟨t_201, ht_201, H⟩ := H
                                obtain rfl : t_201 = true := ht_201.symm
                                replace H := app_hid H
                                replace H := app_hid H
                                replace H := ite_t H
                                obtain rfl := ret_hid H
                                go_wp2_with fail
                                go_ret
                                exact ⟨rfl, HBwt_200.out⟩
                              | true =>
                                replace H := let_hid H
                                obtain ⟨t_201, ht_201, H⟩ := H
                                obtain rfl : t_201 = false := ht_201.symm
                                replace H := app_hid H
                                replace H := app_hid H
                                replace H := ite_f H
                                replace H := bind_hid H
                                obtain ⟨t_206, qt_206, H⟩ := H
                                obtain ⟨t_206_leave, t_206_from_, t_206_to_, t_206_arrive⟩ := t_206
                                replace H := unMail_hid H
                                go_wp2_with fail
                                go_at_call 36
                                refine (Go.Proofs.YtfjcibkgbalkaaaDoor.GsDrawMailText.C tapes (code) A0 c0 _  HE (Lib.hid (Cells.below M0.out HBwt_200.out)) N0 V0 qt_206).mono ?_
                                rintro e_t_206 wt_206 ⟨rfl, bt_206⟩
                                unfold Go.Proofs.YtfjcibkgbalkaaaDoor.PMail.Mail.val
                                have HBwt_206 := Lib.hid (Below.step HBwt_200.out bt_206)
                                replace Ot_5a := Lib.hid (own_below Ot_5a.out bt_206)
                                replace Ot_83a := Lib.hid (own_below Ot_83a.out bt_206)
                                replace Ot_94a := Lib.hid (own_below Ot_94a.out bt_206)
                                replace Ot_103a := Lib.hid (own_below Ot_103a.out bt_206)
                                replace Ot_156a := Lib.hid (own_below Ot_156a.out bt_206)
                                replace Ot_170a := Lib.hid (own_below Ot_170a.out bt_206)
                                replace Ot_180a := Lib.hid (own_below Ot_180a.out bt_206)
                                clear bt_206
                                obtain ⟨w_z_207, hw_z_207⟩ : ∃ x, wt_206.alloc (.cells #[.int .i64 t_206_leave, .int .i64 t_206_from_, .int .i64 t_206_to_, .int .i64 t_206_arrive] 54) = x := ⟨_, rfl⟩
                                have bw_z_207 : Below wt_206.heap.size wt_206 w_z_207 := by rw [← hw_z_207]; exact (Below.refl _ _).alloc (Nat.le_refl _) _
                                have Dz_207_t_5a := Lib.hid (apart_fresh Ot_5a.out)
                                have Dz_207_t_83a := Lib.hid (apart_fresh Ot_83a.out)
                                have Dz_207_t_94a := Lib.hid (apart_fresh Ot_94a.out)
                                have Dz_207_t_103a := Lib.hid (apart_fresh Ot_103a.out)
                                have Dz_207_t_156a := Lib.hid (apart_fresh Ot_156a.out)
                                have Dz_207_t_170a := Lib.hid (apart_fresh Ot_170a.out)
                                have Dz_207_t_180a := Lib.hid (apart_fresh Ot_180a.out)
                                have HBw_z_207 := Lib.hid (Below.step HBwt_206.out bw_z_207)
                                replace Ot_5a := Lib.hid (own_below Ot_5a.out bw_z_207)
                                replace Ot_83a := Lib.hid (own_below Ot_83a.out bw_z_207)
                                replace Ot_94a := Lib.hid (own_below Ot_94a.out bw_z_207)
                                replace Ot_103a := Lib.hid (own_below Ot_103a.out bw_z_207)
                                replace Ot_156a := Lib.hid (own_below Ot_156a.out bw_z_207)
                                replace Ot_170a := Lib.hid (own_below Ot_170a.out bw_z_207)
                                replace Ot_180a := Lib.hid (own_below Ot_180a.out bw_z_207)
                                clear bw_z_207
                                have kz_207_0 : w_z_207.cell? ⟨wt_206.heap.size, 0, none⟩ = some (.int .i64 t_206_leave) := by rw [← hw_z_207]; exact box_new _ _ _ 0 _ rfl
                                have kz_207_1 : w_z_207.cell? ⟨wt_206.heap.size, 1, none⟩ = some (.int .i64 t_206_from_) := by rw [← hw_z_207]; exact box_new _ _ _ 1 _ rfl
                                have kz_207_2 : w_z_207.cell? ⟨wt_206.heap.size, 2, none⟩ = some (.int .i64 t_206_to_) := by rw [← hw_z_207]; exact box_new _ _ _ 2 _ rfl
                                have kz_207_3 : w_z_207.cell? ⟨wt_206.heap.size, 3, none⟩ = some (.int .i64 t_206_arrive) := by rw [← hw_z_207]; exact box_new _ _ _ 3 _ rfl
                                replace H := bind2_hid H
                                obtain ⟨t_210a, t_210b, qt_210, H⟩ := H
                                go_wp2_with fail
                                go_at_call 37
                                refine (Go.Proofs.YtfjcibkgbalkaaaDoor.GiMailText.C ((Go.Proofs.YtfjcibkgbalkaaaDoor.PMail.Mail.mk t_206_leave t_206_from_ t_206_to_ t_206_arrive))  _ (tab_below HBw_z_207.out HT)   qt_210).mono ?_
                                rintro e_t_210 wt_210 ⟨rfl, bt_210⟩
                                have HBwt_210 := Lib.hid (Below.step HBw_z_207.out bt_210)
                                replace kz_207_0 := cell_below bt_210 kz_207_0
                                replace kz_207_1 := cell_below bt_210 kz_207_1
                                replace kz_207_2 := cell_below bt_210 kz_207_2
                                replace kz_207_3 := cell_below bt_210 kz_207_3
                                replace Ot_5a := Lib.hid (own_below Ot_5a.out bt_210)
                                replace Ot_83a := Lib.hid (own_below Ot_83a.out bt_210)
                                replace Ot_94a := Lib.hid (own_below Ot_94a.out bt_210)
                                replace Ot_103a := Lib.hid (own_below Ot_103a.out bt_210)
                                replace Ot_156a := Lib.hid (own_below Ot_156a.out bt_210)
                                replace Ot_170a := Lib.hid (own_below Ot_170a.out bt_210)
                                replace Ot_180a := Lib.hid (own_below Ot_180a.out bt_210)
                                clear bt_210
                                replace H := bind2_hid H
                                obtain ⟨t_217a, t_217b, qt_217, H⟩ := H
                                go_wp2_with fail
                                go_at_call 38
                                refine (Go.Proofs.YtfjcibkgbalkaaaDoor.GsMailText.C ((Go.Proofs.YtfjcibkgbalkaaaDoor.PMail.Mail.mk t_206_leave t_206_from_ t_206_to_ t_206_arrive))  _    qt_217).mono ?_
                                rintro e_t_217 wt_217 ⟨rfl, bt_217⟩
                                have HBwt_217 := Lib.hid (Below.step HBwt_210.out bt_217)
                                replace kz_207_0 := cell_below bt_217 kz_207_0
                                replace kz_207_1 := cell_below bt_217 kz_207_1
                                replace kz_207_2 := cell_below bt_217 kz_207_2
                                replace kz_207_3 := cell_below bt_217 kz_207_3
                                replace Ot_5a := Lib.hid (own_below Ot_5a.out bt_217)
                                replace Ot_83a := Lib.hid (own_below Ot_83a.out bt_217)
                                replace Ot_94a := Lib.hid (own_below Ot_94a.out bt_217)
                                replace Ot_103a := Lib.hid (own_below Ot_103a.out bt_217)
                                replace Ot_156a := Lib.hid (own_below Ot_156a.out bt_217)
                                replace Ot_170a := Lib.hid (own_below Ot_170a.out bt_217)
                                replace Ot_180a := Lib.hid (own_below Ot_180a.out bt_217)
                                clear bt_217
                                replace H := let_hid H
                                obtain ⟨t_225, ht_225, H⟩ := H
                                replace H := join_hid H
                                cases t_225 with
                                | false =>
                                  replace H := ite_f H
                                  replace H := app_hid H
                                  obtain rfl := ret_hid H
                                  go_wp2_with fail
                                  go_ret
                                  exact ⟨rfl, HBwt_217.out⟩
                                | true =>
                                  replace H := ite_t H
                                  replace H := let_hid H
                                  obtain ⟨t_229, ht_229, H⟩ := H
                                  replace H := app_hid H
                                  obtain rfl := ret_hid H
                                  go_wp2_with fail
                                  go_ret
                                  exact ⟨rfl, HBwt_217.out⟩
                        | true =>
                          replace H := ite_t H
                          replace H := app_hid H
                          replace H := join_hid H
                          replace H := ite_t H
                          replace H := app_hid H
                          replace H := ite_t H
                          obtain rfl := ret_hid H
                          go_wp2_with fail
                          go_ret
                          exact ⟨rfl, HBwt_180.out⟩
                      | succ m0 =>
                        have hlt0 : k0 < t_94a.length := by omega
                        have hc0 : decide ((k0 : Int) < ((t_94a.length : Nat) : Int)) = true := by simp; omega
                        replace H := cnt_succ H
                        unfold l0 at H
                        replace H := idx_hid H
                        obtain ⟨nt_127, yt_127, et_127, lt_127, gt_127, H⟩ := H
                        obtain rfl : k0 = nt_127 := by omega
                        clear et_127
                        obtain ⟨qt_127, Qt_127⟩ := own_some Ot_94a.out (by omega)
                        subst Qt_127
                        obtain ⟨ab_t_127, ao_t_127, zt_127, At_127, z_t_127, ct_127_0⟩ := Go.Proofs.YtfjcibkgbalkaaaDoor.HelpInt.Ints.at_ (own_cells Ot_94a.out) (k := k0) (by omega)
                        obtain rfl := Option.some.inj (gt_127.out.symm.trans z_t_127)
                        simp only [Option.some.injEq, Addr.mk.injEq] at At_127
                        obtain ⟨rfl, rfl, _⟩ := At_127
                        clear z_t_127
                        simp only [Nat.zero_add] at ct_127_0
                        have b0t_127 : (0 : Int) ≤ (k0 : Int) := by omega
                        have b1t_127 : (k0 : Int) < ((t_94a.length : Nat) : Int) := by omega
                        have b2t_127 : ((k0 : Int)).toNat = k0 := by omega
                        replace H := idx_hid H
                        obtain ⟨nt_129, yt_129, et_129, lt_129, gt_129, H⟩ := H
                        subst et_129
                        obtain ⟨t_129_leave, t_129_from_, t_129_to_, t_129_arrive⟩ := yt_129
                        replace H := unMail_hid H
                        obtain ⟨qt_129, Qt_129⟩ := own_some Ot_83a.out (by omega)
                        subst Qt_129
                        obtain ⟨ab_t_129, ao_t_129, zt_129, At_129, z_t_129, ct_129_0, ct_129_1, ct_129_2, ct_129_3⟩ := Go.Proofs.YtfjcibkgbalkaaaDoor.OMail.at_ (own_cells Ot_83a.out) (k := nt_129) (by omega)
                        obtain rfl := Option.some.inj (gt_129.out.symm.trans z_t_129)
                        simp only [Option.some.injEq, Addr.mk.injEq] at At_129
                        obtain ⟨rfl, rfl, _⟩ := At_129
                        clear z_t_129
                        simp only [Nat.zero_add] at ct_129_0 ct_129_1 ct_129_2 ct_129_3
                        have b0t_129 : (0 : Int) ≤ (nt_129 : Int) := by omega
                        have b1t_129 : (nt_129 : Int) < ((t_83a.length : Nat) : Int) := by omega
                        have b2t_129 : ((nt_129 : Int)).toNat = nt_129 := by omega
                        obtain ⟨w_m_131, hw_m_131⟩ : ∃ x, wr0.alloc (.cells #[.int .i64 t_129_leave, .int .i64 t_129_from_, .int .i64 t_129_to_, .int .i64 t_129_arrive] 54) = x := ⟨_, rfl⟩
                        have bw_m_131 : Below wr0.heap.size wr0 w_m_131 := by rw [← hw_m_131]; exact (Below.refl _ _).alloc (Nat.le_refl _) _
                        have Dm_131_t_5a := Lib.hid (apart_fresh Ot_5a.out)
                        have Dm_131_t_83a := Lib.hid (apart_fresh Ot_83a.out)
                        have Dm_131_t_94a := Lib.hid (apart_fresh Ot_94a.out)
                        have Dm_131_t_103a := Lib.hid (apart_fresh Ot_103a.out)
                        have HBw_m_131 := Lib.hid (Below.step HBwr0.out bw_m_131)
                        have ct_127_0__363 := cell_below bw_m_131 ct_127_0
                        have ct_129_0__364 := cell_below bw_m_131 ct_129_0
                        have ct_129_1__365 := cell_below bw_m_131 ct_129_1
                        have ct_129_2__366 := cell_below bw_m_131 ct_129_2
                        have ct_129_3__367 := cell_below bw_m_131 ct_129_3
                        replace Ot_5a := Lib.hid (own_below Ot_5a.out bw_m_131)
                        replace Ot_83a := Lib.hid (own_below Ot_83a.out bw_m_131)
                        replace Ot_94a := Lib.hid (own_below Ot_94a.out bw_m_131)
                        replace Ot_103a := Lib.hid (own_below Ot_103a.out bw_m_131)
                        clear bw_m_131
                        have km_131_0 : w_m_131.cell? ⟨wr0.heap.size, 0, none⟩ = some (.int .i64 t_129_leave) := by rw [← hw_m_131]; exact box_new _ _ _ 0 _ rfl
                        have km_131_1 : w_m_131.cell? ⟨wr0.heap.size, 1, none⟩ = some (.int .i64 t_129_from_) := by rw [← hw_m_131]; exact box_new _ _ _ 1 _ rfl
                        have km_131_2 : w_m_131.cell? ⟨wr0.heap.size, 2, none⟩ = some (.int .i64 t_129_to_) := by rw [← hw_m_131]; exact box_new _ _ _ 2 _ rfl
                        have km_131_3 : w_m_131.cell? ⟨wr0.heap.size, 3, none⟩ = some (.int .i64 t_129_arrive) := by rw [← hw_m_131]; exact box_new _ _ _ 3 _ rfl
                        replace H := bind2_hid H
                        obtain ⟨t_138a, t_138b, qt_138, H⟩ := H
                        go_wp2_with fail
                        clear ct_127_0 ct_129_0 ct_129_1 ct_129_2 ct_129_3
                        go_at_call 27
                        refine (Go.Proofs.YtfjcibkgbalkaaaDoor.GiEarliestAt.C (t_83a) (t_83b) (t_83c) (t_129_from_) (some ⟨qt_129, 0, none⟩) ct_83a _   (Lib.hid (own_cells Ot_83a.out)) (Lib.hid (own_max Ot_83a.out)) qt_138).mono ?_
                        rintro e_t_138 wt_138 ⟨rfl, bt_138⟩
                        have HBwt_138 := Lib.hid (Below.step HBw_m_131.out bt_138)
                        replace ct_127_0__363 := cell_below bt_138 ct_127_0__363
                        replace ct_129_0__364 := cell_below bt_138 ct_129_0__364
                        replace ct_129_1__365 := cell_below bt_138 ct_129_1__365
                        replace ct_129_2__366 := cell_below bt_138 ct_129_2__366
                        replace ct_129_3__367 := cell_below bt_138 ct_129_3__367
                        replace km_131_0 := cell_below bt_138 km_131_0
                        replace km_131_1 := cell_below bt_138 km_131_1
                        replace km_131_2 := cell_below bt_138 km_131_2
                        replace km_131_3 := cell_below bt_138 km_131_3
                        replace Ot_5a := Lib.hid (own_below Ot_5a.out bt_138)
                        replace Ot_83a := Lib.hid (own_below Ot_83a.out bt_138)
                        replace Ot_94a := Lib.hid (own_below Ot_94a.out bt_138)
                        replace Ot_103a := Lib.hid (own_below Ot_103a.out bt_138)
                        clear bt_138
                        replace H := join_hid H
                        cases t_138b with
                        | false =>
                          replace H := ite_f H
                          replace H := app_hid H
                          replace H := ite_f H
                          replace H := app_hid H
                          go_wp2_with fail
                          go_roundg m0
                          case measure => omega
                          case rel => exact ⟨k0 + 1, by omega, by go_num, H, HBwt_138, Ot_5a, Ot_83a, Ot_94a, Ot_103a⟩
                        | true =>
                          replace H := ite_t H
                          replace H := let_hid H
                          obtain ⟨t_149, ht_149, H⟩ := H
                          replace H := app_hid H
                          cases t_149 with
                          | false =>
                            replace H := ite_f H
                            replace H := app_hid H
                            go_wp2_with fail
                            go_roundg m0
                            case measure => omega
                            case rel => exact ⟨k0 + 1, by omega, by go_num, H, HBwt_138, Ot_5a, Ot_83a, Ot_94a, Ot_103a⟩
                          | true =>
                            replace H := ite_t H
                            obtain rfl := ret_hid H
                            go_wp2_with fail
                            go_ret
                            exact ⟨rfl, HBwt_138.out⟩
                | true =>
                  replace H := ite_t H
                  replace H := app_hid H
                  replace H := ite_t H
                  obtain rfl := ret_hid H
                  go_wp2_with fail
                  go_ret
                  exact ⟨rfl, HBwt_103.out⟩
              | true =>
                replace H := ite_t H
                replace H := let_hid H
                obtain ⟨t_78, ht_78, H⟩ := H
                replace H := app_hid H
                replace H := app_hid H
                cases t_78 with
                | false =>
                  replace H := ite_f H
                  unfold j0 at H
                  replace H := bind3_hid H
                  obtain ⟨t_83a, t_83b, t_83c, qt_83, H⟩ := H
                  go_wp2_with fail
                  go_at_call 28
                  refine (Go.Proofs.YtfjcibkgbalkaaaDoor.GsDrawMissedMails.C fuel tapes (code) A0 c0 _  HE (Lib.hid (Cells.below M0.out HBwt_60.out)) N0 V0 qt_83).mono ?_
                  rintro e_t_83 wt_83 ⟨At_83a, ct_83a, rfl, ot_83a, bt_83⟩
                  have Dt_83a_t_5a := Lib.hid (apart_call ot_83a Ot_5a.out)
                  have Ot_83a := Lib.hid (own_lower ot_83a HBwt_60.out.size)
                  clear ot_83a
                  have HBwt_83 := Lib.hid (Below.step HBwt_60.out bt_83)
                  replace Ot_5a := Lib.hid (own_below Ot_5a.out bt_83)
                  clear bt_83
                  replace H := bind2_hid H
                  obtain ⟨t_94a, t_94b, qt_94, H⟩ := H
                  go_wp2_with fail
                  go_at_call 29
                  refine (Go.Proofs.YtfjcibkgbalkaaaDoor.GiMissedMails.C (t_83a) (t_83b) (t_83c) At_83a ct_83a _   (Lib.hid (own_cells Ot_83a.out)) (Lib.hid (own_max Ot_83a.out)) qt_94).mono ?_
                  rintro e_t_94 wt_94 ⟨At_94a, ct_94a, rfl, ot_94a, bt_94⟩
                  have Dt_94a_t_5a := Lib.hid (apart_call ot_94a Ot_5a.out)
                  have Dt_94a_t_83a := Lib.hid (apart_call ot_94a Ot_83a.out)
                  have Ot_94a := Lib.hid (own_lower ot_94a HBwt_83.out.size)
                  clear ot_94a
                  have HBwt_94 := Lib.hid (Below.step HBwt_83.out bt_94)
                  replace Ot_5a := Lib.hid (own_below Ot_5a.out bt_94)
                  replace Ot_83a := Lib.hid (own_below Ot_83a.out bt_94)
                  clear bt_94
                  replace H := bind2_hid H
                  obtain ⟨t_103a, t_103b, qt_103, H⟩ := H
                  go_wp2_with fail
                  go_at_call 30
                  refine (Go.Proofs.YtfjcibkgbalkaaaDoor.GsMissedMails.C (t_83a) (t_83b) (t_83c) At_83a ct_83a _   (Lib.hid (own_cells Ot_83a.out)) (Lib.hid (own_max Ot_83a.out)) qt_103).mono ?_
                  rintro e_t_103 wt_103 ⟨At_103a, ct_103a, rfl, ot_103a, bt_103⟩
                  have Dt_103a_t_5a := Lib.hid (apart_call ot_103a Ot_5a.out)
                  have Dt_103a_t_83a := Lib.hid (apart_call ot_103a Ot_83a.out)
                  have Dt_103a_t_94a := Lib.hid (apart_call ot_103a Ot_94a.out)
                  have Ot_103a := Lib.hid (own_lower ot_103a HBwt_94.out.size)
                  clear ot_103a
                  have HBwt_103 := Lib.hid (Below.step HBwt_94.out bt_103)
                  replace Ot_5a := Lib.hid (own_below Ot_5a.out bt_103)
                  replace Ot_83a := Lib.hid (own_below Ot_83a.out bt_103)
                  replace Ot_94a := Lib.hid (own_below Ot_94a.out bt_103)
                  clear bt_103
                  replace H := let_hid H
                  obtain ⟨t_111, ht_111, H⟩ := H
                  replace H := join_hid H
                  cases t_111 with
                  | false =>
                    replace H := ite_f H
                    replace H := bind_hid H
                    obtain ⟨t_115, qt_115, H⟩ := H
                    go_wp2_with fail
                    go_at_call 31
                    refine (Go.Proofs.YtfjcibkgbalkaaaDoor.GlVInts.C (t_94a) (t_103a) At_94a ct_94a At_103a ct_103a _   (Lib.hid (own_cells Ot_94a.out)) (Lib.hid (own_max Ot_94a.out)) (Lib.hid (own_cells Ot_103a.out)) (Lib.hid (own_max Ot_103a.out)) qt_115).mono ?_
                    rintro e_t_115 wt_115 ⟨rfl, bt_115⟩
                    have HBwt_115 := Lib.hid (Below.step HBwt_103.out bt_115)
                    replace Ot_5a := Lib.hid (own_below Ot_5a.out bt_115)
                    replace Ot_83a := Lib.hid (own_below Ot_83a.out bt_115)
                    replace Ot_94a := Lib.hid (own_below Ot_94a.out bt_115)
                    replace Ot_103a := Lib.hid (own_below Ot_103a.out bt_115)
                    clear bt_115
                    cases t_115 with
                    | false =>
                      replace H := let_hid H
                      obtain ⟨t_116, ht_116, H⟩ := H
                      obtain rfl : t_116 = true := ht_116.symm
                      replace H := app_hid H
                      replace H := ite_t H
                      obtain rfl := ret_hid H
                      go_wp2_with fail
                      go_ret
                      exact ⟨rfl, HBwt_115.out⟩
                    | true =>
                      replace H := let_hid H
                      obtain ⟨t_116, ht_116, H⟩ := H
                      obtain rfl : t_116 = false := ht_116.symm
                      replace H := app_hid H
                      replace H := ite_f H
                      have hb_0 : t_94a.length ≤ 9223372036854775807 := own_max Ot_94a.out
                      go_wp2_with fail
                      go_loopg [22] (t_94a.length) (fun m_ v22_ wr => ∃ (k0 : Nat) , k0 + m_ = t_94a.length ∧ v22_ = .int .i64 (k0 : Int) ∧ Hid (cntK (l0 t_83a t_83b t_83c t_94a) m_ k0 () (e0 code fuel tapes) = some r) ∧ Hid (Below w.heap.size w wr) ∧ Hid (wr.ownsRow w.heap.size 54 4 (.slice At_5a t_5a.length ct_5a) t_5a.length (Go.Proofs.YtfjcibkgbalkaaaDoor.PMail.flat t_5a)) ∧ Hid (wr.ownsRow w.heap.size 54 4 (.slice At_83a t_83a.length ct_83a) t_83a.length (Go.Proofs.YtfjcibkgbalkaaaDoor.PMail.flat t_83a)) ∧ Hid (wr.ownsRow w.heap.size 3 1 (.slice At_94a t_94a.length ct_94a) t_94a.length (Go.Proofs.YtfjcibkgbalkaaaDoor.HelpInt.iv t_94a)) ∧ Hid (wr.ownsRow w.heap.size 3 1 (.slice At_103a t_103a.length ct_103a) t_103a.length (Go.Proofs.YtfjcibkgbalkaaaDoor.HelpInt.iv t_103a)))
                      case atStart => exact ⟨0, by omega, rfl, H, HBwt_115, Ot_5a, Ot_83a, Ot_94a, Ot_103a⟩
                      case round =>
                        obtain ⟨k0, hkm0, rfl, H, HBwr0, Ot_5a, Ot_83a, Ot_94a, Ot_103a⟩ := hrel
                        rename World => wr0
                        cases gk with
                        | zero =>
                          obtain rfl : k0 = t_94a.length := by omega
                          have hc0 : decide (((t_94a.length : Nat) : Int) < ((t_94a.length : Nat) : Int)) = false := by simp
                          replace H := cnt_zero H
                          unfold e0 at H
                          replace H := bind4_hid H
                          obtain ⟨t_156a, t_156b, t_156c, t_156d, qt_156, H⟩ := H
                          go_wp2_with fail
                          go_at_call 32
                          refine (Go.Proofs.YtfjcibkgbalkaaaDoor.GsDrawReachedBy.C fuel tapes (code) A0 c0 _  HE (Lib.hid (Cells.below M0.out HBwr0.out)) N0 V0 qt_156).mono ?_
                          rintro e_t_156 wt_156 ⟨At_156a, ct_156a, rfl, ot_156a, bt_156⟩
                          have Dt_156a_t_5a := Lib.hid (apart_call ot_156a Ot_5a.out)
                          have Dt_156a_t_83a := Lib.hid (apart_call ot_156a Ot_83a.out)
                          have Dt_156a_t_94a := Lib.hid (apart_call ot_156a Ot_94a.out)
                          have Dt_156a_t_103a := Lib.hid (apart_call ot_156a Ot_103a.out)
                          have Ot_156a := Lib.hid (own_lower ot_156a HBwr0.out.size)
                          clear ot_156a
                          have HBwt_156 := Lib.hid (Below.step HBwr0.out bt_156)
                          replace Ot_5a := Lib.hid (own_below Ot_5a.out bt_156)
                          replace Ot_83a := Lib.hid (own_below Ot_83a.out bt_156)
                          replace Ot_94a := Lib.hid (own_below Ot_94a.out bt_156)
                          replace Ot_103a := Lib.hid (own_below Ot_103a.out bt_156)
                          clear bt_156
                          replace H := bind2_hid H
                          obtain ⟨t_170a, t_170b, qt_170, H⟩ := H
                          go_wp2_with fail
                          go_at_call 33
                          refine (Go.Proofs.YtfjcibkgbalkaaaDoor.GiReachedBy.C (t_156a) (t_156b) (t_156c) (t_156d) At_156a ct_156a _   (Lib.hid (own_cells Ot_156a.out)) (Lib.hid (own_max Ot_156a.out)) qt_170).mono ?_
                          rintro e_t_170 wt_170 ⟨At_170a, ct_170a, rfl, ot_170a, bt_170⟩
                          have Dt_170a_t_5a := Lib.hid (apart_call ot_170a Ot_5a.out)
                          have Dt_170a_t_83a := Lib.hid (apart_call ot_170a Ot_83a.out)
                          have Dt_170a_t_94a := Lib.hid (apart_call ot_170a Ot_94a.out)
                          have Dt_170a_t_103a := Lib.hid (apart_call ot_170a Ot_103a.out)
                          have Dt_170a_t_156a := Lib.hid (apart_call ot_170a Ot_156a.out)
                          have Ot_170a := Lib.hid (own_lower ot_170a HBwt_156.out.size)
                          clear ot_170a
                          have HBwt_170 := Lib.hid (Below.step HBwt_156.out bt_170)
                          replace Ot_5a := Lib.hid (own_below Ot_5a.out bt_170)
                          replace Ot_83a := Lib.hid (own_below Ot_83a.out bt_170)
                          replace Ot_94a := Lib.hid (own_below Ot_94a.out bt_170)
                          replace Ot_103a := Lib.hid (own_below Ot_103a.out bt_170)
                          replace Ot_156a := Lib.hid (own_below Ot_156a.out bt_170)
                          clear bt_170
                          replace H := bind2_hid H
                          obtain ⟨t_180a, t_180b, qt_180, H⟩ := H
                          go_wp2_with fail
                          go_at_call 34
                          refine (Go.Proofs.YtfjcibkgbalkaaaDoor.GsReachedBy.C (t_156a) (t_156b) (t_156c) (t_156d) At_156a ct_156a _   (Lib.hid (own_cells Ot_156a.out)) (Lib.hid (own_max Ot_156a.out)) qt_180).mono ?_
                          rintro e_t_180 wt_180 ⟨At_180a, ct_180a, rfl, ot_180a, bt_180⟩
                          have Dt_180a_t_5a := Lib.hid (apart_call ot_180a Ot_5a.out)
                          have Dt_180a_t_83a := Lib.hid (apart_call ot_180a Ot_83a.out)
                          have Dt_180a_t_94a := Lib.hid (apart_call ot_180a Ot_94a.out)
                          have Dt_180a_t_103a := Lib.hid (apart_call ot_180a Ot_103a.out)
                          have Dt_180a_t_156a := Lib.hid (apart_call ot_180a Ot_156a.out)
                          have Dt_180a_t_170a := Lib.hid (apart_call ot_180a Ot_170a.out)
                          have Ot_180a := Lib.hid (own_lower ot_180a HBwt_170.out.size)
                          clear ot_180a
                          have HBwt_180 := Lib.hid (Below.step HBwt_170.out bt_180)
                          replace Ot_5a := Lib.hid (own_below Ot_5a.out bt_180)
                          replace Ot_83a := Lib.hid (own_below Ot_83a.out bt_180)
                          replace Ot_94a := Lib.hid (own_below Ot_94a.out bt_180)
                          replace Ot_103a := Lib.hid (own_below Ot_103a.out bt_180)
                          replace Ot_156a := Lib.hid (own_below Ot_156a.out bt_180)
                          replace Ot_170a := Lib.hid (own_below Ot_170a.out bt_180)
                          clear bt_180
                          replace H := let_hid H
                          obtain ⟨t_188, ht_188, H⟩ := H
                          replace H := join_hid H
                          cases t_188 with
                          | false =>
                            replace H := ite_f H
                            replace H := bind_hid H
                            obtain ⟨t_192, qt_192, H⟩ := H
                            go_wp2_with fail
                            go_at_call 31
                            refine (Go.Proofs.YtfjcibkgbalkaaaDoor.GlVInts.C (t_170a) (t_180a) At_170a ct_170a At_180a ct_180a _   (Lib.hid (own_cells Ot_170a.out)) (Lib.hid (own_max Ot_170a.out)) (Lib.hid (own_cells Ot_180a.out)) (Lib.hid (own_max Ot_180a.out)) qt_192).mono ?_
                            rintro e_t_192 wt_192 ⟨rfl, bt_192⟩
                            have HBwt_192 := Lib.hid (Below.step HBwt_180.out bt_192)
                            replace Ot_5a := Lib.hid (own_below Ot_5a.out bt_192)
                            replace Ot_83a := Lib.hid (own_below Ot_83a.out bt_192)
                            replace Ot_94a := Lib.hid (own_below Ot_94a.out bt_192)
                            replace Ot_103a := Lib.hid (own_below Ot_103a.out bt_192)
                            replace Ot_156a := Lib.hid (own_below Ot_156a.out bt_192)
                            replace Ot_170a := Lib.hid (own_below Ot_170a.out bt_192)
                            replace Ot_180a := Lib.hid (own_below Ot_180a.out bt_192)
                            clear bt_192
                            cases t_192 with
                            | false =>
                              replace H := let_hid H
                              obtain ⟨t_193, ht_193, H⟩ := H
                              obtain rfl : t_193 = true := ht_193.symm
                              replace H := app_hid H
                              replace H := join_hid H
                              replace H := ite_t H
                              replace H := app_hid H
                              replace H := ite_t H
                              obtain rfl := ret_hid H
                              go_wp2_with fail
                              go_ret
                              exact ⟨rfl, HBwt_192.out⟩
                            | true =>
                              replace H := let_hid H
                              obtain ⟨t_193, ht_193, H⟩ := H
                              obtain rfl : t_193 = false := ht_193.symm
                              replace H := app_hid H
                              replace H := join_hid H
                              replace H := ite_f H
                              replace H := join_hid H
                              cases t_170b with
                              | false =>
                                obtain rfl : t_180b = false := by revert ht_188; cases t_180b <;> simp
                                replace H := ite_f H
                                replace H := app_hid H
                                replace H := app_hid H
                                replace H := ite_f H
                                replace H := bind_hid H
                                obtain ⟨t_206, qt_206, H⟩ := H
                                obtain ⟨t_206_leave, t_206_from_, t_206_to_, t_206_arrive⟩ := t_206
                                replace H := unMail_hid H
                                go_wp2_with fail
                                go_at_call 36
                                refine (Go.Proofs.YtfjcibkgbalkaaaDoor.GsDrawMailText.C tapes (code) A0 c0 _  HE (Lib.hid (Cells.below M0.out HBwt_192.out)) N0 V0 qt_206).mono ?_
                                rintro e_t_206 wt_206 ⟨rfl, bt_206⟩
                                unfold Go.Proofs.YtfjcibkgbalkaaaDoor.PMail.Mail.val
                                have HBwt_206 := Lib.hid (Below.step HBwt_192.out bt_206)
                                replace Ot_5a := Lib.hid (own_below Ot_5a.out bt_206)
                                replace Ot_83a := Lib.hid (own_below Ot_83a.out bt_206)
                                replace Ot_94a := Lib.hid (own_below Ot_94a.out bt_206)
                                replace Ot_103a := Lib.hid (own_below Ot_103a.out bt_206)
                                replace Ot_156a := Lib.hid (own_below Ot_156a.out bt_206)
                                replace Ot_170a := Lib.hid (own_below Ot_170a.out bt_206)
                                replace Ot_180a := Lib.hid (own_below Ot_180a.out bt_206)
                                clear bt_206
                                obtain ⟨w_z_207, hw_z_207⟩ : ∃ x, wt_206.alloc (.cells #[.int .i64 t_206_leave, .int .i64 t_206_from_, .int .i64 t_206_to_, .int .i64 t_206_arrive] 54) = x := ⟨_, rfl⟩
                                have bw_z_207 : Below wt_206.heap.size wt_206 w_z_207 := by rw [← hw_z_207]; exact (Below.refl _ _).alloc (Nat.le_refl _) _
                                have Dz_207_t_5a := Lib.hid (apart_fresh Ot_5a.out)
                                have Dz_207_t_83a := Lib.hid (apart_fresh Ot_83a.out)
                                have Dz_207_t_94a := Lib.hid (apart_fresh Ot_94a.out)
                                have Dz_207_t_103a := Lib.hid (apart_fresh Ot_103a.out)
                                have Dz_207_t_156a := Lib.hid (apart_fresh Ot_156a.out)
                                have Dz_207_t_170a := Lib.hid (apart_fresh Ot_170a.out)
                                have Dz_207_t_180a := Lib.hid (apart_fresh Ot_180a.out)
                                have HBw_z_207 := Lib.hid (Below.step HBwt_206.out bw_z_207)
                                replace Ot_5a := Lib.hid (own_below Ot_5a.out bw_z_207)
                                replace Ot_83a := Lib.hid (own_below Ot_83a.out bw_z_207)
                                replace Ot_94a := Lib.hid (own_below Ot_94a.out bw_z_207)
                                replace Ot_103a := Lib.hid (own_below Ot_103a.out bw_z_207)
                                replace Ot_156a := Lib.hid (own_below Ot_156a.out bw_z_207)
                                replace Ot_170a := Lib.hid (own_below Ot_170a.out bw_z_207)
                                replace Ot_180a := Lib.hid (own_below Ot_180a.out bw_z_207)
                                clear bw_z_207
                                have kz_207_0 : w_z_207.cell? ⟨wt_206.heap.size, 0, none⟩ = some (.int .i64 t_206_leave) := by rw [← hw_z_207]; exact box_new _ _ _ 0 _ rfl
                                have kz_207_1 : w_z_207.cell? ⟨wt_206.heap.size, 1, none⟩ = some (.int .i64 t_206_from_) := by rw [← hw_z_207]; exact box_new _ _ _ 1 _ rfl
                                have kz_207_2 : w_z_207.cell? ⟨wt_206.heap.size, 2, none⟩ = some (.int .i64 t_206_to_) := by rw [← hw_z_207]; exact box_new _ _ _ 2 _ rfl
                                have kz_207_3 : w_z_207.cell? ⟨wt_206.heap.size, 3, none⟩ = some (.int .i64 t_206_arrive) := by rw [← hw_z_207]; exact box_new _ _ _ 3 _ rfl
                                replace H := bind2_hid H
                                obtain ⟨t_210a, t_210b, qt_210, H⟩ := H
                                go_wp2_with fail
                                go_at_call 37
                                refine (Go.Proofs.YtfjcibkgbalkaaaDoor.GiMailText.C ((Go.Proofs.YtfjcibkgbalkaaaDoor.PMail.Mail.mk t_206_leave t_206_from_ t_206_to_ t_206_arrive))  _ (tab_below HBw_z_207.out HT)   qt_210).mono ?_
                                rintro e_t_210 wt_210 ⟨rfl, bt_210⟩
                                have HBwt_210 := Lib.hid (Below.step HBw_z_207.out bt_210)
                                replace kz_207_0 := cell_below bt_210 kz_207_0
                                replace kz_207_1 := cell_below bt_210 kz_207_1
                                replace kz_207_2 := cell_below bt_210 kz_207_2
                                replace kz_207_3 := cell_below bt_210 kz_207_3
                                replace Ot_5a := Lib.hid (own_below Ot_5a.out bt_210)
                                replace Ot_83a := Lib.hid (own_below Ot_83a.out bt_210)
                                replace Ot_94a := Lib.hid (own_below Ot_94a.out bt_210)
                                replace Ot_103a := Lib.hid (own_below Ot_103a.out bt_210)
                                replace Ot_156a := Lib.hid (own_below Ot_156a.out bt_210)
                                replace Ot_170a := Lib.hid (own_below Ot_170a.out bt_210)
                                replace Ot_180a := Lib.hid (own_below Ot_180a.out bt_210)
                                clear bt_210
                                replace H := bind2_hid H
                                obtain ⟨t_217a, t_217b, qt_217, H⟩ := H
                                go_wp2_with fail
                                go_at_call 38
                                refine (Go.Proofs.YtfjcibkgbalkaaaDoor.GsMailText.C ((Go.Proofs.YtfjcibkgbalkaaaDoor.PMail.Mail.mk t_206_leave t_206_from_ t_206_to_ t_206_arrive))  _    qt_217).mono ?_
                                rintro e_t_217 wt_217 ⟨rfl, bt_217⟩
                                have HBwt_217 := Lib.hid (Below.step HBwt_210.out bt_217)
                                replace kz_207_0 := cell_below bt_217 kz_207_0
                                replace kz_207_1 := cell_below bt_217 kz_207_1
                                replace kz_207_2 := cell_below bt_217 kz_207_2
                                replace kz_207_3 := cell_below bt_217 kz_207_3
                                replace Ot_5a := Lib.hid (own_below Ot_5a.out bt_217)
                                replace Ot_83a := Lib.hid (own_below Ot_83a.out bt_217)
                                replace Ot_94a := Lib.hid (own_below Ot_94a.out bt_217)
                                replace Ot_103a := Lib.hid (own_below Ot_103a.out bt_217)
                                replace Ot_156a := Lib.hid (own_below Ot_156a.out bt_217)
                                replace Ot_170a := Lib.hid (own_below Ot_170a.out bt_217)
                                replace Ot_180a := Lib.hid (own_below Ot_180a.out bt_217)
                                clear bt_217
                                replace H := let_hid H
                                obtain ⟨t_225, ht_225, H⟩ := H
                                replace H := join_hid H
                                cases t_225 with
                                | false =>
                                  replace H := ite_f H
                                  replace H := app_hid H
                                  obtain rfl := ret_hid H
                                  go_wp2_with fail
                                  go_ret
                                  exact ⟨rfl, HBwt_217.out⟩
                                | true =>
                                  replace H := ite_t H
                                  replace H := let_hid H
                                  obtain ⟨t_229, ht_229, H⟩ := H
                                  replace H := app_hid H
                                  obtain rfl := ret_hid H
                                  go_wp2_with fail
                                  go_ret
                                  exact ⟨rfl, HBwt_217.out⟩
                              | true =>
                                obtain rfl : t_180b = true := by revert ht_188; cases t_180b <;> simp
                                replace H := ite_t H
                                replace H := bind_hid H
                                obtain ⟨t_200, qt_200, H⟩ := H
                                go_wp2_with fail
                                go_at_call 35
                                refine (Go.Proofs.YtfjcibkgbalkaaaDoor.GlVHas.C (t_170a) (t_156b) At_170a ct_170a _   (Lib.hid (own_cells Ot_170a.out)) (Lib.hid (own_max Ot_170a.out)) qt_200).mono ?_
                                rintro e_t_200 wt_200 ⟨rfl, bt_200⟩
                                have HBwt_200 := Lib.hid (Below.step HBwt_192.out bt_200)
                                replace Ot_5a := Lib.hid (own_below Ot_5a.out bt_200)
                                replace Ot_83a := Lib.hid (own_below Ot_83a.out bt_200)
                                replace Ot_94a := Lib.hid (own_below Ot_94a.out bt_200)
                                replace Ot_103a := Lib.hid (own_below Ot_103a.out bt_200)
                                replace Ot_156a := Lib.hid (own_below Ot_156a.out bt_200)
                                replace Ot_170a := Lib.hid (own_below Ot_170a.out bt_200)
                                replace Ot_180a := Lib.hid (own_below Ot_180a.out bt_200)
                                clear bt_200
                                cases t_200 with
                                | false =>
                                  replace H := let_hid H
                                  obtain ⟨t_201, ht_201, H⟩ := H
                                  obtain rfl : t_201 = true := ht_201.symm
                                  replace H := app_hid H
                                  replace H := app_hid H
                                  replace H := ite_t H
                                  obtain rfl := ret_hid H
                                  go_wp2_with fail
                                  go_ret
                                  exact ⟨rfl, HBwt_200.out⟩
                                | true =>
                                  replace H := let_hid H
                                  obtain ⟨t_201, ht_201, H⟩ := H
                                  obtain rfl : t_201 = false := ht_201.symm
                                  replace H := app_hid H
                                  replace H := app_hid H
                                  replace H := ite_f H
                                  replace H := bind_hid H
                                  obtain ⟨t_206, qt_206, H⟩ := H
                                  obtain ⟨t_206_leave, t_206_from_, t_206_to_, t_206_arrive⟩ := t_206
                                  replace H := unMail_hid H
                                  go_wp2_with fail
                                  go_at_call 36
                                  refine (Go.Proofs.YtfjcibkgbalkaaaDoor.GsDrawMailText.C tapes (code) A0 c0 _  HE (Lib.hid (Cells.below M0.out HBwt_200.out)) N0 V0 qt_206).mono ?_
                                  rintro e_t_206 wt_206 ⟨rfl, bt_206⟩
                                  unfold Go.Proofs.YtfjcibkgbalkaaaDoor.PMail.Mail.val
                                  have HBwt_206 := Lib.hid (Below.step HBwt_200.out bt_206)
                                  replace Ot_5a := Lib.hid (own_below Ot_5a.out bt_206)
                                  replace Ot_83a := Lib.hid (own_below Ot_83a.out bt_206)
                                  replace Ot_94a := Lib.hid (own_below Ot_94a.out bt_206)
                                  replace Ot_103a := Lib.hid (own_below Ot_103a.out bt_206)
                                  replace Ot_156a := Lib.hid (own_below Ot_156a.out bt_206)
                                  replace Ot_170a := Lib.hid (own_below Ot_170a.out bt_206)
                                  replace Ot_180a := Lib.hid (own_below Ot_180a.out bt_206)
                                  clear bt_206
                                  obtain ⟨w_z_207, hw_z_207⟩ : ∃ x, wt_206.alloc (.cells #[.int .i64 t_206_leave, .int .i64 t_206_from_, .int .i64 t_206_to_, .int .i64 t_206_arrive] 54) = x := ⟨_, rfl⟩
                                  have bw_z_207 : Below wt_206.heap.size wt_206 w_z_207 := by rw [← hw_z_207]; exact (Below.refl _ _).alloc (Nat.le_refl _) _
                                  have Dz_207_t_5a := Lib.hid (apart_fresh Ot_5a.out)
                                  have Dz_207_t_83a := Lib.hid (apart_fresh Ot_83a.out)
                                  have Dz_207_t_94a := Lib.hid (apart_fresh Ot_94a.out)
                                  have Dz_207_t_103a := Lib.hid (apart_fresh Ot_103a.out)
                                  have Dz_207_t_156a := Lib.hid (apart_fresh Ot_156a.out)
                                  have Dz_207_t_170a := Lib.hid (apart_fresh Ot_170a.out)
                                  have Dz_207_t_180a := Lib.hid (apart_fresh Ot_180a.out)
                                  have HBw_z_207 := Lib.hid (Below.step HBwt_206.out bw_z_207)
                                  replace Ot_5a := Lib.hid (own_below Ot_5a.out bw_z_207)
                                  replace Ot_83a := Lib.hid (own_below Ot_83a.out bw_z_207)
                                  replace Ot_94a := Lib.hid (own_below Ot_94a.out bw_z_207)
                                  replace Ot_103a := Lib.hid (own_below Ot_103a.out bw_z_207)
                                  replace Ot_156a := Lib.hid (own_below Ot_156a.out bw_z_207)
                                  replace Ot_170a := Lib.hid (own_below Ot_170a.out bw_z_207)
                                  replace Ot_180a := Lib.hid (own_below Ot_180a.out bw_z_207)
                                  clear bw_z_207
                                  have kz_207_0 : w_z_207.cell? ⟨wt_206.heap.size, 0, none⟩ = some (.int .i64 t_206_leave) := by rw [← hw_z_207]; exact box_new _ _ _ 0 _ rfl
                                  have kz_207_1 : w_z_207.cell? ⟨wt_206.heap.size, 1, none⟩ = some (.int .i64 t_206_from_) := by rw [← hw_z_207]; exact box_new _ _ _ 1 _ rfl
                                  have kz_207_2 : w_z_207.cell? ⟨wt_206.heap.size, 2, none⟩ = some (.int .i64 t_206_to_) := by rw [← hw_z_207]; exact box_new _ _ _ 2 _ rfl
                                  have kz_207_3 : w_z_207.cell? ⟨wt_206.heap.size, 3, none⟩ = some (.int .i64 t_206_arrive) := by rw [← hw_z_207]; exact box_new _ _ _ 3 _ rfl
                                  replace H := bind2_hid H
                                  obtain ⟨t_210a, t_210b, qt_210, H⟩ := H
                                  go_wp2_with fail
                                  go_at_call 37
                                  refine (Go.Proofs.YtfjcibkgbalkaaaDoor.GiMailText.C ((Go.Proofs.YtfjcibkgbalkaaaDoor.PMail.Mail.mk t_206_leave t_206_from_ t_206_to_ t_206_arrive))  _ (tab_below HBw_z_207.out HT)   qt_210).mono ?_
                                  rintro e_t_210 wt_210 ⟨rfl, bt_210⟩
                                  have HBwt_210 := Lib.hid (Below.step HBw_z_207.out bt_210)
                                  replace kz_207_0 := cell_below bt_210 kz_207_0
                                  replace kz_207_1 := cell_below bt_210 kz_207_1
                                  replace kz_207_2 := cell_below bt_210 kz_207_2
                                  replace kz_207_3 := cell_below bt_210 kz_207_3
                                  replace Ot_5a := Lib.hid (own_below Ot_5a.out bt_210)
                                  replace Ot_83a := Lib.hid (own_below Ot_83a.out bt_210)
                                  replace Ot_94a := Lib.hid (own_below Ot_94a.out bt_210)
                                  replace Ot_103a := Lib.hid (own_below Ot_103a.out bt_210)
                                  replace Ot_156a := Lib.hid (own_below Ot_156a.out bt_210)
                                  replace Ot_170a := Lib.hid (own_below Ot_170a.out bt_210)
                                  replace Ot_180a := Lib.hid (own_below Ot_180a.out bt_210)
                                  clear bt_210
                                  replace H := bind2_hid H
                                  obtain ⟨t_217a, t_217b, qt_217, H⟩ := H
                                  go_wp2_with fail
                                  go_at_call 38
                                  refine (Go.Proofs.YtfjcibkgbalkaaaDoor.GsMailText.C ((Go.Proofs.YtfjcibkgbalkaaaDoor.PMail.Mail.mk t_206_leave t_206_from_ t_206_to_ t_206_arrive))  _    qt_217).mono ?_
                                  rintro e_t_217 wt_217 ⟨rfl, bt_217⟩
                                  have HBwt_217 := Lib.hid (Below.step HBwt_210.out bt_217)
                                  replace kz_207_0 := cell_below bt_217 kz_207_0
                                  replace kz_207_1 := cell_below bt_217 kz_207_1
                                  replace kz_207_2 := cell_below bt_217 kz_207_2
                                  replace kz_207_3 := cell_below bt_217 kz_207_3
                                  replace Ot_5a := Lib.hid (own_below Ot_5a.out bt_217)
                                  replace Ot_83a := Lib.hid (own_below Ot_83a.out bt_217)
                                  replace Ot_94a := Lib.hid (own_below Ot_94a.out bt_217)
                                  replace Ot_103a := Lib.hid (own_below Ot_103a.out bt_217)
                                  replace Ot_156a := Lib.hid (own_below Ot_156a.out bt_217)
                                  replace Ot_170a := Lib.hid (own_below Ot_170a.out bt_217)
                                  replace Ot_180a := Lib.hid (own_below Ot_180a.out bt_217)
                                  clear bt_217
                                  replace H := let_hid H
                                  obtain ⟨t_225, ht_225, H⟩ := H
                                  replace H := join_hid H
                                  cases t_225 with
                                  | false =>
                                    replace H := ite_f H
                                    replace H := app_hid H
                                    obtain rfl := ret_hid H
                                    go_wp2_with fail
                                    go_ret
                                    exact ⟨rfl, HBwt_217.out⟩
                                  | true =>
                                    replace H := ite_t H
                                    replace H := let_hid H
                                    obtain ⟨t_229, ht_229, H⟩ := H
                                    replace H := app_hid H
                                    obtain rfl := ret_hid H
                                    go_wp2_with fail
                                    go_ret
                                    exact ⟨rfl, HBwt_217.out⟩
                          | true =>
                            replace H := ite_t H
                            replace H := app_hid H
                            replace H := join_hid H
                            replace H := ite_t H
                            replace H := app_hid H
                            replace H := ite_t H
                            obtain rfl := ret_hid H
                            go_wp2_with fail
                            go_ret
                            exact ⟨rfl, HBwt_180.out⟩
                        | succ m0 =>
                          have hlt0 : k0 < t_94a.length := by omega
                          have hc0 : decide ((k0 : Int) < ((t_94a.length : Nat) : Int)) = true := by simp; omega
                          replace H := cnt_succ H
                          unfold l0 at H
                          replace H := idx_hid H
                          obtain ⟨nt_127, yt_127, et_127, lt_127, gt_127, H⟩ := H
                          obtain rfl : k0 = nt_127 := by omega
                          clear et_127
                          obtain ⟨qt_127, Qt_127⟩ := own_some Ot_94a.out (by omega)
                          subst Qt_127
                          obtain ⟨ab_t_127, ao_t_127, zt_127, At_127, z_t_127, ct_127_0⟩ := Go.Proofs.YtfjcibkgbalkaaaDoor.HelpInt.Ints.at_ (own_cells Ot_94a.out) (k := k0) (by omega)
                          obtain rfl := Option.some.inj (gt_127.out.symm.trans z_t_127)
                          simp only [Option.some.injEq, Addr.mk.injEq] at At_127
                          obtain ⟨rfl, rfl, _⟩ := At_127
                          clear z_t_127
                          simp only [Nat.zero_add] at ct_127_0
                          have b0t_127 : (0 : Int) ≤ (k0 : Int) := by omega
                          have b1t_127 : (k0 : Int) < ((t_94a.length : Nat) : Int) := by omega
                          have b2t_127 : ((k0 : Int)).toNat = k0 := by omega
                          replace H := idx_hid H
                          obtain ⟨nt_129, yt_129, et_129, lt_129, gt_129, H⟩ := H
                          subst et_129
                          obtain ⟨t_129_leave, t_129_from_, t_129_to_, t_129_arrive⟩ := yt_129
                          replace H := unMail_hid H
                          obtain ⟨qt_129, Qt_129⟩ := own_some Ot_83a.out (by omega)
                          subst Qt_129
                          obtain ⟨ab_t_129, ao_t_129, zt_129, At_129, z_t_129, ct_129_0, ct_129_1, ct_129_2, ct_129_3⟩ := Go.Proofs.YtfjcibkgbalkaaaDoor.OMail.at_ (own_cells Ot_83a.out) (k := nt_129) (by omega)
                          obtain rfl := Option.some.inj (gt_129.out.symm.trans z_t_129)
                          simp only [Option.some.injEq, Addr.mk.injEq] at At_129
                          obtain ⟨rfl, rfl, _⟩ := At_129
                          clear z_t_129
                          simp only [Nat.zero_add] at ct_129_0 ct_129_1 ct_129_2 ct_129_3
                          have b0t_129 : (0 : Int) ≤ (nt_129 : Int) := by omega
                          have b1t_129 : (nt_129 : Int) < ((t_83a.length : Nat) : Int) := by omega
                          have b2t_129 : ((nt_129 : Int)).toNat = nt_129 := by omega
                          obtain ⟨w_m_131, hw_m_131⟩ : ∃ x, wr0.alloc (.cells #[.int .i64 t_129_leave, .int .i64 t_129_from_, .int .i64 t_129_to_, .int .i64 t_129_arrive] 54) = x := ⟨_, rfl⟩
                          have bw_m_131 : Below wr0.heap.size wr0 w_m_131 := by rw [← hw_m_131]; exact (Below.refl _ _).alloc (Nat.le_refl _) _
                          have Dm_131_t_5a := Lib.hid (apart_fresh Ot_5a.out)
                          have Dm_131_t_83a := Lib.hid (apart_fresh Ot_83a.out)
                          have Dm_131_t_94a := Lib.hid (apart_fresh Ot_94a.out)
                          have Dm_131_t_103a := Lib.hid (apart_fresh Ot_103a.out)
                          have HBw_m_131 := Lib.hid (Below.step HBwr0.out bw_m_131)
                          have ct_127_0__368 := cell_below bw_m_131 ct_127_0
                          have ct_129_0__369 := cell_below bw_m_131 ct_129_0
                          have ct_129_1__370 := cell_below bw_m_131 ct_129_1
                          have ct_129_2__371 := cell_below bw_m_131 ct_129_2
                          have ct_129_3__372 := cell_below bw_m_131 ct_129_3
                          replace Ot_5a := Lib.hid (own_below Ot_5a.out bw_m_131)
                          replace Ot_83a := Lib.hid (own_below Ot_83a.out bw_m_131)
                          replace Ot_94a := Lib.hid (own_below Ot_94a.out bw_m_131)
                          replace Ot_103a := Lib.hid (own_below Ot_103a.out bw_m_131)
                          clear bw_m_131
                          have km_131_0 : w_m_131.cell? ⟨wr0.heap.size, 0, none⟩ = some (.int .i64 t_129_leave) := by rw [← hw_m_131]; exact box_new _ _ _ 0 _ rfl
                          have km_131_1 : w_m_131.cell? ⟨wr0.heap.size, 1, none⟩ = some (.int .i64 t_129_from_) := by rw [← hw_m_131]; exact box_new _ _ _ 1 _ rfl
                          have km_131_2 : w_m_131.cell? ⟨wr0.heap.size, 2, none⟩ = some (.int .i64 t_129_to_) := by rw [← hw_m_131]; exact box_new _ _ _ 2 _ rfl
                          have km_131_3 : w_m_131.cell? ⟨wr0.heap.size, 3, none⟩ = some (.int .i64 t_129_arrive) := by rw [← hw_m_131]; exact box_new _ _ _ 3 _ rfl
                          replace H := bind2_hid H
                          obtain ⟨t_138a, t_138b, qt_138, H⟩ := H
                          go_wp2_with fail
                          clear ct_127_0 ct_129_0 ct_129_1 ct_129_2 ct_129_3
                          go_at_call 27
                          refine (Go.Proofs.YtfjcibkgbalkaaaDoor.GiEarliestAt.C (t_83a) (t_83b) (t_83c) (t_129_from_) (some ⟨qt_129, 0, none⟩) ct_83a _   (Lib.hid (own_cells Ot_83a.out)) (Lib.hid (own_max Ot_83a.out)) qt_138).mono ?_
                          rintro e_t_138 wt_138 ⟨rfl, bt_138⟩
                          have HBwt_138 := Lib.hid (Below.step HBw_m_131.out bt_138)
                          replace ct_127_0__368 := cell_below bt_138 ct_127_0__368
                          replace ct_129_0__369 := cell_below bt_138 ct_129_0__369
                          replace ct_129_1__370 := cell_below bt_138 ct_129_1__370
                          replace ct_129_2__371 := cell_below bt_138 ct_129_2__371
                          replace ct_129_3__372 := cell_below bt_138 ct_129_3__372
                          replace km_131_0 := cell_below bt_138 km_131_0
                          replace km_131_1 := cell_below bt_138 km_131_1
                          replace km_131_2 := cell_below bt_138 km_131_2
                          replace km_131_3 := cell_below bt_138 km_131_3
                          replace Ot_5a := Lib.hid (own_below Ot_5a.out bt_138)
                          replace Ot_83a := Lib.hid (own_below Ot_83a.out bt_138)
                          replace Ot_94a := Lib.hid (own_below Ot_94a.out bt_138)
                          replace Ot_103a := Lib.hid (own_below Ot_103a.out bt_138)
                          clear bt_138
                          replace H := join_hid H
                          cases t_138b with
                          | false =>
                            replace H := ite_f H
                            replace H := app_hid H
                            replace H := ite_f H
                            replace H := app_hid H
                            go_wp2_with fail
                            go_roundg m0
                            case measure => omega
                            case rel => exact ⟨k0 + 1, by omega, by go_num, H, HBwt_138, Ot_5a, Ot_83a, Ot_94a, Ot_103a⟩
                          | true =>
                            replace H := ite_t H
                            replace H := let_hid H
                            obtain ⟨t_149, ht_149, H⟩ := H
                            replace H := app_hid H
                            cases t_149 with
                            | false =>
                              replace H := ite_f H
                              replace H := app_hid H
                              go_wp2_with fail
                              go_roundg m0
                              case measure => omega
                              case rel => exact ⟨k0 + 1, by omega, by go_num, H, HBwt_138, Ot_5a, Ot_83a, Ot_94a, Ot_103a⟩
                            | true =>
                              replace H := ite_t H
                              obtain rfl := ret_hid H
                              go_wp2_with fail
                              go_ret
                              exact ⟨rfl, HBwt_138.out⟩
                  | true =>
                    replace H := ite_t H
                    replace H := app_hid H
                    replace H := ite_t H
                    obtain rfl := ret_hid H
                    go_wp2_with fail
                    go_ret
                    exact ⟨rfl, HBwt_103.out⟩
                | true =>
                  replace H := ite_t H
                  obtain rfl := ret_hid H
                  go_wp2_with fail
                  go_ret
                  exact ⟨rfl, HBwt_60.out⟩
            | true =>
              replace H := ite_t H
              replace H := app_hid H
              replace H := ite_t H
              obtain rfl := ret_hid H
              go_wp2_with fail
              go_ret
              exact ⟨rfl, HBwt_60.out⟩
      | true =>
        replace H := ite_t H
        obtain rfl := ret_hid H
        go_wp2_with fail
        go_ret
        exact ⟨rfl, HBwt_29.out⟩
    | true =>
      replace H := ite_t H
      replace H := app_hid H
      replace H := ite_t H
      obtain rfl := ret_hid H
      go_wp2_with fail
      go_ret
      exact ⟨rfl, HBwt_29.out⟩
  | true =>
    replace H := ite_t H
    obtain rfl := ret_hid H
    go_wp2_with fail
    go_ret
    exact ⟨rfl, HBwt_2.out⟩
end Go.Proofs.YtfjcibkgbalkaaaDoor.GlFnMails

/- What the rows' lists of the library's tables give: the table of powers of ten holds what Itoa reads. Condition: the row's list is met. -/
namespace Go.Proofs.YtfjcibkgbalkaaaDoor.DoorLaid

theorem gPow : Tryd.prog.globalNamed "internal/strconv.uint64pow10" = some 0 := by kernel_rfl
def keepPow (x : String × DataW Unit) : Bool := x.1 == "internal/strconv.uint64pow10"
theorem gPowType : (Tryd.prog.globals[0]?).map (·.type) = some 118 := by kernel_rfl
theorem cellsPow : Tryd.prog.cellsOf 118 = 20 := by kernel_rfl
theorem cellsU64 : Tryd.prog.cellsOf 63 = 1 := by kernel_rfl

/-- Of whatever list holds the table at its own datum: the table is there. -/
theorem pow10 {l : List (String × DataW Unit)} {W : World} (h : laidMetH Tryd.prog l W) (hl : l.filter keepPow = [("internal/strconv.uint64pow10", Lib.tabData .u64 Lib.pow10Tab)]) :
    Lib.TabIs Tryd.prog W "internal/strconv.uint64pow10" .u64 Lib.pow10Tab := by
  have h1 := laidMetH.filter keepPow h
  rw [hl] at h1
  exact Lib.tabIs_of_head (rest := []) gPow gPowType Tryd.underlying118 Tryd.underlying63 cellsU64 cellsPow h1
end Go.Proofs.YtfjcibkgbalkaaaDoor.DoorLaid

/- Plain words on stamps: what a stamp is, when one is valid, when a list of them is; the cells of a list of records. No condition. -/
namespace Go.Proofs.YtfjcibkgbalkaaaDoor.PlainStamp
set_option linter.unusedVariables false

/-- a number lies in a..b -/
def inB (x a b : Int) : Bool := decide (a ≤ x ∧ x ≤ b)
theorem inB_yes {x a b : Int} (h1 : a ≤ x) (h2 : x ≤ b) : inB x a b = true := by unfold inB; exact decide_eq_true ⟨h1, h2⟩
theorem inB_of {x a b : Int} (h : inB x a b = true) : a ≤ x ∧ x ≤ b := by unfold inB at h; exact of_decide_eq_true h
theorem inB_no {x a b : Int} (h : x < a ∨ b < x) : inB x a b = false := by unfold inB; exact decide_eq_false (by omega)

structure St where
  id : Int
  face : Int
  color : Int
  year : Int
deriving DecidableEq

def St.cells (s : St) : List Value := [.int .i64 s.id, .int .i64 s.face, .int .i64 s.color, .int .i64 s.year]
def St.val (s : St) : Value := .agg #[.int .i64 s.id, .int .i64 s.face, .int .i64 s.color, .int .i64 s.year]
/-- each field fits an int -/
def St.fits (s : St) : Prop := (Lit.int .i64 s.id).wf = true ∧ (Lit.int .i64 s.face).wf = true ∧ (Lit.int .i64 s.color).wf = true ∧ (Lit.int .i64 s.year).wf = true

def okSt (s : St) : Bool := inB s.id 1 999 && inB s.face 0 9999 && inB s.color 0 99 && inB s.year 1840 2100
theorem okSt_yes {s : St} (h : okSt s = true) : (1 ≤ s.id ∧ s.id ≤ 999) ∧ (0 ≤ s.face ∧ s.face ≤ 9999) ∧ (0 ≤ s.color ∧ s.color ≤ 99) ∧ (1840 ≤ s.year ∧ s.year ≤ 2100) := by
  unfold okSt at h
  simp only [Bool.and_eq_true] at h
  exact ⟨inB_of h.1.1.1, inB_of h.1.1.2, inB_of h.1.2, inB_of h.2⟩

/-- the stamp at k is valid, and its id is above the one ahead of it -/
def okAt (l : List St) (k : Nat) : Bool :=
  match l[k]? with
  | none => true
  | some s => okSt s && (decide (k = 0) || (match l[k-1]? with | none => true | some r => decide (r.id < s.id)))
def okUp (l : List St) (k : Nat) : Bool := (List.range k).all (okAt l)
theorem okUp_zero (l : List St) : okUp l 0 = true := by simp [okUp]
theorem okUp_succ (l : List St) (k : Nat) : okUp l (k + 1) = (okUp l k && okAt l k) := by simp [okUp, List.range_succ, List.all_append]
theorem okUp_not {l : List St} {k n : Nat} (h : okAt l k = false) (hk : k < n) : okUp l n = false := by
  unfold okUp
  rw [Bool.eq_false_iff]
  intro hall
  have := List.all_eq_true.1 hall k (List.mem_range.2 hk)
  rw [h] at this; exact absurd this (by simp)
/-- a list of at most twelve valid stamps with rising ids -/
def okSts (l : List St) : Bool := decide (l.length ≤ 12) && okUp l l.length
theorem okAt_of {l : List St} {k : Nat} {s : St} (hs : l[k]? = some s) (h : okAt l k = true) : okSt s = true ∧ ∀ r, 0 < k → l[k-1]? = some r → r.id < s.id := by
  unfold okAt at h
  rw [hs] at h
  simp only [Bool.and_eq_true, Bool.or_eq_true, decide_eq_true_eq] at h
  refine ⟨h.1, fun r hk hr => ?_⟩
  rcases h.2 with h0 | h0
  · omega
  · rw [hr] at h0; simpa using h0
theorem okSts_len {l : List St} (h : okSts l = true) : l.length ≤ 12 := by unfold okSts at h; simp only [Bool.and_eq_true, decide_eq_true_eq] at h; exact h.1
theorem okSts_at {l : List St} (h : okSts l = true) {k : Nat} {s : St} (hs : l[k]? = some s) : okSt s = true ∧ ∀ r, 0 < k → l[k-1]? = some r → r.id < s.id := by
  unfold okSts at h
  simp only [Bool.and_eq_true, decide_eq_true_eq] at h
  exact okAt_of hs (List.all_eq_true.1 h.2 k (List.mem_range.2 (List.getElem?_eq_some_iff.1 hs).1))
theorem okSts_mem {l : List St} (h : okSts l = true) {s : St} (hs : s ∈ l) : okSt s = true := by
  obtain ⟨k, hk⟩ := List.getElem?_of_mem hs
  exact (okSts_at h hk).1

/-- the cells of a list of stamps, one after the other -/
def flat (l : List St) : List Value := l.flatMap St.cells
theorem flat_nil : flat [] = [] := rfl
theorem flat_cons (s : St) (l : List St) : flat (s :: l) = s.cells ++ flat l := by simp [flat]
theorem flat_len (l : List St) : (flat l).length = l.length * 4 := by
  induction l with
  | nil => rfl
  | cons s l ih => rw [flat_cons, List.length_append, ih]; simp [St.cells]; omega
theorem flat_at : ∀ (l : List St) (k : Nat) (s : St), l[k]? = some s → ∀ j, j < 4 → (flat l)[k * 4 + j]? = s.cells[j]?
  | [], k, s, h, _, _ => by simp at h
  | r :: l, 0, s, h, j, hj => by
    obtain rfl : r = s := by simpa using h
    rw [flat_cons, List.getElem?_append_left (by simp [St.cells]; omega)]; simp
  | r :: l, k + 1, s, h, j, hj => by
    rw [flat_cons, List.getElem?_append_right (by simp [St.cells]; omega), show (k + 1) * 4 + j - r.cells.length = k * 4 + j by simp [St.cells]; omega]
    exact flat_at l k s (by simpa using h) j hj
end Go.Proofs.YtfjcibkgbalkaaaDoor.PlainStamp

/- Words for reckoning with plain functions; within and l1In. No condition. -/
namespace Go.Proofs.YtfjcibkgbalkaaaDoor.QBase
set_option linter.unusedVariables false
set_option linter.unusedSimpArgs false
open Go.RowKit
open Go.Proofs.YtfjcibkgbalkaaaDoor.GoP Go.Proofs.YtfjcibkgbalkaaaDoor.PlainStamp

theorem iteK_if {ρ : Type} (c : Bool) (a b : Option ρ) : iteK c a b = if c = true then a else b := by cases c <;> rfl
theorem bind2_some {α β ρ : Type} (a : α) (b : β) (f : α → β → Option ρ) : bind2 (some (a, b)) f = f a b := rfl
theorem bind3_some {α β γ ρ : Type} (a : α) (b : β) (c : γ) (f : α → β → γ → Option ρ) : bind3 (some (a, b, c)) f = f a b c := rfl
theorem unp2_mk {α β ρ : Type} (a : α) (b : β) (f : α → β → Option ρ) : unp2 (a, b) f = f a b := rfl
theorem unp3_mk {α β γ ρ : Type} (a : α) (b : β) (c : γ) (f : α → β → γ → Option ρ) : unp3 (a, b, c) f = f a b c := rfl
theorem guardK_pos {ρ : Type} {p : Prop} [Decidable p] {a : Option ρ} (h : p) : guardK p a = a := if_pos h
theorem cut2 {α β : Type} {x : Option (α × β)} {p : α × β} (h : x = some p) : x = some (p.1, p.2) := h
theorem cut3 {α β γ : Type} {x : Option (α × β × γ)} {p : α × β × γ} (h : x = some p) : x = some (p.1, p.2.1, p.2.2) := h
theorem within_eq (n a b : Int) : GiWithin.P n a b = some (inB n a b) := by
  simp only [GiWithin.P, letK, joinK, appK, iteK_if, inB]
  by_cases h1 : a ≤ n <;> by_cases h2 : n ≤ b <;> simp [h1, h2]
theorem l1In_eq (n a b : Int) : GsL1In.P n a b = some (inB n a b) := by
  simp only [GsL1In.P, letK, joinK, appK, iteK_if, inB]
  by_cases h1 : a ≤ n <;> by_cases h2 : n ≤ b <;> simp [h1, h2]
end Go.Proofs.YtfjcibkgbalkaaaDoor.QBase

/- Reckoning with the loops of plain functions; lists of valid records with rising ids. No condition. -/
namespace Go.Proofs.YtfjcibkgbalkaaaDoor.QLoop
set_option linter.unusedVariables false
open Go.RowKit
open Go.Proofs.YtfjcibkgbalkaaaDoor.GoP Go.Proofs.YtfjcibkgbalkaaaDoor.QBase

theorem cnt_ex {σ ρ : Type} {f : Nat → σ → (σ → Option ρ) → (σ → Option ρ) → Option ρ} {fin : σ → Option ρ} {Q : ρ → Prop} {n : Nat} (I : Nat → σ → Prop)
    (step : ∀ k s nx, k < n → I k s → (∀ s', I (k + 1) s' → ∃ r, nx s' = some r ∧ Q r) → ∃ r, f k s nx fin = some r ∧ Q r) (done : ∀ s, I n s → ∃ r, fin s = some r ∧ Q r) :
    ∀ m k s, k + m = n → I k s → ∃ r, cntK f m k s fin = some r ∧ Q r := by
  intro m
  induction m with
  | zero => intro k s hk hI; obtain rfl : k = n := by omega
            exact done s hI
  | succ m ih => intro k s hk hI; exact step k s _ (by omega) hI (fun s' h' => ih (k + 1) s' (by omega) h')
theorem cnt_is {σ ρ : Type} {f : Nat → σ → (σ → Option ρ) → (σ → Option ρ) → Option ρ} {fin : σ → Option ρ} {n : Nat} (r : ρ) (I : Nat → σ → Prop)
    (step : ∀ k s nx, k < n → I k s → (∀ s', I (k + 1) s' → nx s' = some r) → f k s nx fin = some r) (done : ∀ s, I n s → fin s = some r) (s : σ) (h0 : I 0 s) : cntK f n 0 s fin = some r := by
  obtain ⟨r', h, rfl⟩ := cnt_ex (Q := fun x => x = r) I (fun k s nx hk hI hn => ⟨r, step k s nx hk hI (fun s' h' => by obtain ⟨_, h, rfl⟩ := hn s' h'; exact h), rfl⟩) (fun s h => ⟨r, done s h, rfl⟩) n 0 s (by omega) h0
  exact h
theorem at_lt {α : Type} {l : List α} {k : Nat} (h : k < l.length) : ∃ x, l[k]? = some x ∧ idx l (k : Int) = some x := ⟨l[k], List.getElem?_eq_getElem h, by rw [idx_nat, List.getElem?_eq_getElem h]⟩
theorem idx_pred {α : Type} {l : List α} {k : Nat} {x : α} (hk : 0 < k) (hb : k ≤ 9223372036854775807) (h : l[k - 1]? = some x) : idx l (IntKind.i64.wrap ((k : Int) - 1)) = some x := by
  rw [IntWalk.i64_in _ (by omega), show ((k : Int) - 1) = ((k - 1 : Nat) : Int) by omega, idx_nat, h]
theorem take_next {α : Type} {l : List α} {k : Nat} {x : α} (h : l[k]? = some x) : l.take (k + 1) = l.take k ++ [x] := by
  obtain ⟨hk, e⟩ := List.getElem?_eq_some_iff.1 h
  rw [List.take_succ_eq_append_getElem hk, e]
theorem all_next {α : Type} {p : α → Bool} {l : List α} {k : Nat} {x : α} (h : l[k]? = some x) : (l.take (k + 1)).all p = ((l.take k).all p && p x) := by
  rw [take_next h]; simp
theorem not_all {α : Type} {p : α → Bool} {l : List α} {k : Nat} {x : α} (h : l[k]? = some x) (hp : p x = false) : l.all p = false := by
  rw [Bool.eq_false_iff]
  intro ha
  have := List.all_eq_true.1 ha x (List.mem_of_getElem? h)
  rw [hp] at this; exact absurd this (by simp)
theorem wrap_in {x : Int} (h1 : -9223372036854775808 ≤ x) (h2 : x ≤ 9223372036854775807) : IntKind.i64.wrap x = x := IntWalk.i64_in _ (by omega)

/-- valid, and above the one ahead of it -/
def upAt {α : Type} (ok : α → Bool) (id : α → Int) (l : List α) (k : Nat) : Bool :=
  match l[k]? with
  | none => true
  | some s => ok s && (decide (k = 0) || (match l[k-1]? with | none => true | some r => decide (id r < id s)))
def upTo {α : Type} (ok : α → Bool) (id : α → Int) (l : List α) (k : Nat) : Bool := (List.range k).all (upAt ok id l)
theorem upTo_zero {α : Type} (ok : α → Bool) (id : α → Int) (l : List α) : upTo ok id l 0 = true := rfl
theorem upTo_succ {α : Type} (ok : α → Bool) (id : α → Int) (l : List α) (k : Nat) : upTo ok id l (k + 1) = (upTo ok id l k && upAt ok id l k) := by simp [upTo, List.range_succ, List.all_append]
theorem upTo_not {α : Type} {ok : α → Bool} {id : α → Int} {l : List α} {k n : Nat} (h : upAt ok id l k = false) (hk : k < n) : upTo ok id l n = false := by
  unfold upTo
  rw [Bool.eq_false_iff]
  intro ha
  have := List.all_eq_true.1 ha k (List.mem_range.2 hk)
  rw [h] at this; exact absurd this (by simp)
/-- a list of at most m valid records with rising ids -/
def upL {α : Type} (m : Nat) (ok : α → Bool) (id : α → Int) (l : List α) : Bool := decide (l.length ≤ m) && upTo ok id l l.length
theorem upAt_bad {α : Type} {ok : α → Bool} {id : α → Int} {l : List α} {k : Nat} {s : α} (hs : l[k]? = some s) (h : ok s = false) : upAt ok id l k = false := by unfold upAt; rw [hs]; simp [h]
theorem upAt_first {α : Type} {ok : α → Bool} {id : α → Int} {l : List α} {s : α} (hs : l[0]? = some s) (h : ok s = true) : upAt ok id l 0 = true := by unfold upAt; rw [hs]; simp [h]
theorem upAt_next {α : Type} {ok : α → Bool} {id : α → Int} {l : List α} {k : Nat} {s r : α} (hs : l[k]? = some s) (hr : l[k-1]? = some r) (hk : 0 < k) (h : ok s = true) : upAt ok id l k = decide (id r < id s) := by
  unfold upAt; rw [hs]; simp only [hr, h, Bool.true_and, decide_eq_false (show ¬ k = 0 by omega), Bool.false_or]
theorem upL_len {α : Type} {m : Nat} {ok : α → Bool} {id : α → Int} {l : List α} (h : upL m ok id l = true) : l.length ≤ m := by unfold upL at h; simp only [Bool.and_eq_true, decide_eq_true_eq] at h; exact h.1
theorem upL_ok {α : Type} {m : Nat} {ok : α → Bool} {id : α → Int} {l : List α} (h : upL m ok id l = true) {k : Nat} {s : α} (hs : l[k]? = some s) : ok s = true := by
  unfold upL at h
  simp only [Bool.and_eq_true, decide_eq_true_eq] at h
  have := List.all_eq_true.1 h.2 k (List.mem_range.2 (List.getElem?_eq_some_iff.1 hs).1)
  unfold upAt at this
  rw [hs] at this
  simp only [Bool.and_eq_true] at this
  exact this.1
theorem upL_mem {α : Type} {m : Nat} {ok : α → Bool} {id : α → Int} {l : List α} (h : upL m ok id l = true) {s : α} (hs : s ∈ l) : ok s = true := by
  obtain ⟨k, hk⟩ := List.getElem?_of_mem hs
  exact upL_ok h hk
/-- a loop that goes through a list of records and stops with 'false' at the first that is bad -/
theorem up_loop {α : Type} {ok : α → Bool} {id : α → Int} {l : List α} {R : Type} {no : R} {f : Nat → Unit → (Unit → Option R) → (Unit → Option R) → Option R} {fin : Unit → Option R}
    (step : ∀ k nx s, l[k]? = some s → (ok s = false → f k () nx fin = some no) ∧ (ok s = true → (k = 0 → f k () nx fin = nx ()) ∧ (0 < k → ∀ r, l[k-1]? = some r → (id r < id s → f k () nx fin = nx ()) ∧ (id s ≤ id r → f k () nx fin = some no)))) :
    cntK f l.length 0 () fin = if upTo ok id l l.length then fin () else some no := by
  have key : ∀ m k, k + m = l.length → upTo ok id l k = true → cntK f m k () fin = if upTo ok id l l.length then fin () else some no := by
    intro m
    induction m with
    | zero => intro k hk hu; obtain rfl : k = l.length := by omega
              rw [hu]; rfl
    | succ m ih =>
      intro k hk hu
      have hlt : k < l.length := by omega
      obtain ⟨s, hs, _⟩ := at_lt hlt
      obtain ⟨h1, h2⟩ := step k (fun s' => cntK f m (k + 1) s' fin) s hs
      show f k () _ fin = _
      cases hok : ok s with
      | false => rw [h1 hok, upTo_not (upAt_bad hs hok) hlt]; rfl
      | true =>
        obtain ⟨h3, h4⟩ := h2 hok
        by_cases hk0 : k = 0
        · rw [h3 hk0]
          subst hk0
          exact ih 1 (by omega) (by rw [upTo_succ, hu, upAt_first hs hok]; rfl)
        · obtain ⟨r, hr, _⟩ := at_lt (l := l) (k := k - 1) (by omega)
          obtain ⟨h5, h6⟩ := h4 (by omega) r hr
          by_cases hlt2 : id r < id s
          · rw [h5 hlt2]
            exact ih (k + 1) (by omega) (by rw [upTo_succ, hu, upAt_next hs hr (by omega) hok]; simpa using hlt2)
          · rw [h6 (by omega), upTo_not (by rw [upAt_next hs hr (by omega) hok]; simpa using hlt2) hlt]; rfl
  exact key l.length 0 (by omega) (upTo_zero ok id l)
end Go.Proofs.YtfjcibkgbalkaaaDoor.QLoop

/- The named law of mails: what it draws, and why it answers true. (QVInts) No condition but those of each theorem. -/
namespace Go.Proofs.YtfjcibkgbalkaaaDoor.QVInts
set_option linter.unusedVariables false
set_option linter.unusedSimpArgs false
open Go.RowKit
open Go.Proofs.YtfjcibkgbalkaaaDoor.GoP Go.Proofs.YtfjcibkgbalkaaaDoor.PlainStamp Go.Proofs.YtfjcibkgbalkaaaDoor.QBase Go.Proofs.YtfjcibkgbalkaaaDoor.QLoop

theorem vInts_self (l : List Int) : GlVInts.P l l = some true := by
  simp only [GlVInts.P, letK, iteK_if]
  rw [if_neg (by simp)]
  refine cnt_is true (fun _ _ => True) ?_ (fun s _ => rfl) () trivial
  rintro k ⟨⟩ nx hk _ hn
  obtain ⟨x, _, hi⟩ := at_lt (l := l) (k := k) hk
  simp only [GlVInts.l0, hi, Option.bind_some, letK, appK, iteK_if]
  rw [if_neg (by simp)]; exact hn () trivial
theorem vHas_yes {l : List Int} {x : Int} (h : x ∈ l) : GlVHas.P l x = some true := by
  obtain ⟨j, hj⟩ := List.getElem?_of_mem h
  have hjl := (List.getElem?_eq_some_iff.1 hj).1
  simp only [GlVHas.P]
  have key : ∀ m k, k + m = l.length → k ≤ j → cntK (GlVHas.l0 l x) m k () GlVHas.e0 = some true := by
    intro m
    induction m with
    | zero => intro k hk hkj; omega
    | succ m ih =>
      intro k hk hkj
      obtain ⟨y, hy, hi⟩ := at_lt (l := l) (k := k) (by omega)
      show GlVHas.l0 l x k () _ _ = _
      simp only [GlVHas.l0, hi, Option.bind_some, letK, appK, iteK_if]
      by_cases hc : y = x
      · rw [if_pos (by simpa using hc)]
      · rw [if_neg (by simpa using hc)]
        refine ih (k + 1) (by omega) ?_
        by_cases he : k = j
        · subst he; rw [hy] at hj; exact absurd (Option.some.inj hj) hc
        · omega
  exact key l.length 0 (by omega) (by omega)
theorem vHas_no {l : List Int} {x : Int} (h : ¬ x ∈ l) : GlVHas.P l x = some false := by
  simp only [GlVHas.P]
  refine cnt_is false (fun _ _ => True) ?_ (fun s _ => rfl) () trivial
  rintro k ⟨⟩ nx hk _ hn
  obtain ⟨y, hy, hi⟩ := at_lt (l := l) (k := k) hk
  simp only [GlVHas.l0, hi, Option.bind_some, letK, appK, iteK_if]
  rw [if_neg (by
    intro hc
    have : y = x := by simpa using hc
    rw [this] at hy; exact h (List.mem_of_getElem? hy))]
  exact hn () trivial
end Go.Proofs.YtfjcibkgbalkaaaDoor.QVInts

/- Draws on tapes: each gives something within its bounds. (QDraw) No condition but those of each theorem. -/
namespace Go.Proofs.YtfjcibkgbalkaaaDoor.QDraw
set_option linter.unusedVariables false
set_option linter.unusedSimpArgs false
open Go.RowKit
open Go.Proofs.YtfjcibkgbalkaaaDoor.GoP Go.Proofs.YtfjcibkgbalkaaaDoor.PlainStamp Go.Proofs.YtfjcibkgbalkaaaDoor.QBase Go.Proofs.YtfjcibkgbalkaaaDoor.QLoop

/-- a tape that may be asked m times more -/
def good (t : GoC.Tape) (m : Nat) : Prop := m ≤ t.left ∧ ∀ i, 0 ≤ t.vals i ∧ t.vals i ≤ 255
theorem good_less {t : GoC.Tape} {m n : Nat} (h : good t m) (hn : n ≤ m) : good t n := ⟨Nat.le_trans hn h.1, h.2⟩
theorem good_of {tapes : List Int → GoC.Tape} (h : GoC.Tells tapes) (code : List Int) {m : Nat} (hm : m ≤ 4611686018427387904) : good (tapes code) m := ⟨by rw [h.1]; exact hm, h.2.1 code⟩
theorem next_ok {t : GoC.Tape} {m : Nat} (h : good t (m + 1)) : ∃ b t', GsL1CurNext.P t = some (b, t') ∧ (0 ≤ b ∧ b ≤ 255) ∧ good t' m := by
  unfold GsL1CurNext.P
  rw [if_pos (by have := h.1; omega)]
  exact ⟨_, _, rfl, h.2 0, by have := h.1; show m ≤ t.left - 1; omega, fun i => h.2 (i + 1)⟩
theorem pick_ok {t : GoC.Tape} {m : Nat} {n : Int} (h : good t (m + 2)) : ∃ x t', GsL1CurPick.P t n = some (x, t') ∧ 0 ≤ x ∧ (x < n ∨ n ≤ 1 ∧ x = 0) ∧ x ≤ 65535 ∧ good t' m := by
  simp only [GsL1CurPick.P, letK, iteK_if]
  by_cases hn : n ≤ 1
  · rw [if_pos (by simpa using hn)]
    exact ⟨0, t, rfl, by omega, by omega, by omega, good_less h (by omega)⟩
  · rw [if_neg (by simpa using hn)]
    obtain ⟨b, t1, e1, hb, h1⟩ := next_ok (m := m + 1) h
    rw [e1]
    simp only [bind2_some]
    by_cases h2 : 200 < n
    · rw [if_pos (by simpa using h2)]
      obtain ⟨b2, t2, e2, hb2, h3⟩ := next_ok (m := m) h1
      rw [e2]
      simp only [bind2_some, GsL1CurPick.j0, unp2, letK]
      rw [guardK_pos (by omega), wrap_in (x := b * 256) (by omega) (by omega), wrap_in (by omega) (by omega), Int.tmod_eq_emod_of_nonneg (by omega)]
      have k1 := Int.emod_nonneg (b * 256 + b2) (show n ≠ 0 by omega)
      have k2 := Int.emod_lt_of_pos (b * 256 + b2) (show 0 < n by omega)
      have k3 : (b * 256 + b2) % n ≤ 65535 := by
        by_cases hq : n ≤ 65536
        · omega
        · rw [Int.emod_eq_of_lt (by omega) (by omega)]; omega
      exact ⟨_, _, rfl, k1, .inl k2, by omega, h3⟩
    · rw [if_neg (by simpa using h2)]
      simp only [GsL1CurPick.j0, unp2, letK]
      rw [guardK_pos (by omega), Int.tmod_eq_emod_of_nonneg (by omega)]
      have k1 := Int.emod_nonneg b (show n ≠ 0 by omega)
      have k2 := Int.emod_lt_of_pos b (show 0 < n by omega)
      exact ⟨_, _, rfl, k1, .inl k2, by omega, good_less h1 (by omega)⟩
theorem among_ok {t : GoC.Tape} {m : Nat} {l : List Int} (h : good t (m + 2)) (h0 : 0 < l.length) : ∃ x t', GsL1CurAmong.P t l = some (x, t') ∧ x ∈ l ∧ good t' m := by
  obtain ⟨x, t', e, hx0, hx, _, hg⟩ := pick_ok (n := (l.length : Int)) h
  simp only [GsL1CurAmong.P, e, bind2_some]
  obtain ⟨y, hy, hyi⟩ := at_lt (l := l) (k := x.toNat) (by omega)
  rw [show ((x.toNat : Nat) : Int) = x by omega] at hyi
  exact ⟨y, t', by rw [hyi]; rfl, List.mem_of_getElem? hy, hg⟩
theorem one_ok {t : GoC.Tape} {m : Nat} {n : Int} (h : good t (m + 2)) : ∃ b t', GsL1CurOne.P t n = some (b, t') ∧ good t' m := by
  obtain ⟨x, t', e, _, _, _, hg⟩ := pick_ok (n := n) h
  exact ⟨x == 0, t', by simp only [GsL1CurOne.P, e, bind2_some, letK], hg⟩
end Go.Proofs.YtfjcibkgbalkaaaDoor.QDraw

/- Loops that test each place, and loops without a count. No condition. -/
namespace Go.Proofs.YtfjcibkgbalkaaaDoor.QAll
set_option linter.unusedVariables false
set_option linter.unusedSimpArgs false
open Go.RowKit
open Go.Proofs.YtfjcibkgbalkaaaDoor.GoP Go.Proofs.YtfjcibkgbalkaaaDoor.QBase Go.Proofs.YtfjcibkgbalkaaaDoor.QLoop

/-- each number below n is good -/
def allN (n : Nat) (p : Nat → Bool) : Bool := (List.range n).all p
theorem allN_iff {n : Nat} {p : Nat → Bool} : allN n p = true ↔ ∀ i, i < n → p i = true := by unfold allN; simp
theorem allN_no {n k : Nat} {p : Nat → Bool} (hk : k < n) (h : p k = false) : allN n p = false := by
  rw [Bool.eq_false_iff]; intro ha; rw [allN_iff.1 ha k hk] at h; exact absurd h (by simp)
theorem allN_eq {n m : Nat} {p q : Nat → Bool} (h : (∀ i, i < n → p i = true) ↔ (∀ i, i < m → q i = true)) : allN n p = allN m q := by
  rw [Bool.eq_iff_iff, allN_iff, allN_iff]; exact h
theorem all_cnt {ρ : Type} {n : Nat} {p : Nat → Bool} {no : ρ} {f : Nat → Unit → (Unit → Option ρ) → (Unit → Option ρ) → Option ρ} {fin : Unit → Option ρ}
    (step : ∀ k nx, k < n → (p k = false → f k () nx fin = some no) ∧ (p k = true → f k () nx fin = nx ())) : cntK f n 0 () fin = if allN n p = true then fin () else some no := by
  have key : ∀ m k, k + m = n → (∀ i, i < k → p i = true) → cntK f m k () fin = if allN n p = true then fin () else some no := by
    intro m
    induction m with
    | zero => intro k hk hu; obtain rfl : k = n := by omega
              rw [allN_iff.2 hu]; rfl
    | succ m ih =>
      intro k hk hu
      obtain ⟨h1, h2⟩ := step k (fun s' => cntK f m (k + 1) s' fin) (by omega)
      show f k () _ fin = _
      cases hp : p k with
      | false => rw [h1 hp, allN_no (by omega) hp]; rfl
      | true =>
        rw [h2 hp]
        refine ih (k + 1) (by omega) (fun i hi => ?_)
        by_cases he : i = k
        · rw [he]; exact hp
        · exact hu i (by omega)
  exact key n 0 (by omega) (fun i hi => by omega)
theorem lp_ex {σ ρ : Type} {f : σ → (σ → Option ρ) → (σ → Option ρ) → Option ρ} {fin : σ → Option ρ} {Q : ρ → Prop} {n : Nat} (I : Nat → σ → Prop)
    (step : ∀ k s nx, k < n → I k s → (∀ s', I (k + 1) s' → ∃ r, nx s' = some r ∧ Q r) → ∃ r, f s nx fin = some r ∧ Q r) (done : ∀ s nx, I n s → ∃ r, f s nx fin = some r ∧ Q r) :
    ∀ fuel k s, k ≤ n → n - k < fuel → I k s → ∃ r, loopK f fuel s fin = some r ∧ Q r := by
  intro fuel
  induction fuel with
  | zero => intro k s hk hf; omega
  | succ m ih =>
    intro k s hk hf hI
    show ∃ r, f s _ fin = some r ∧ Q r
    by_cases he : k = n
    · subst he; exact done s _ hI
    · exact step k s _ (by omega) hI (fun s' h' => ih (k + 1) s' (by omega) (by omega) h')
theorem all_lp {ρ : Type} {n : Nat} {p : Nat → Bool} {no : ρ} {f : Int → (Int → Option ρ) → (Int → Option ρ) → Option ρ} {fin : Int → Option ρ}
    (step : ∀ (k : Nat) nx, k < n → (p k = false → f (k : Int) nx fin = some no) ∧ (p k = true → f (k : Int) nx fin = nx ((k + 1 : Nat) : Int))) (stop : ∀ nx, f (n : Int) nx fin = fin (n : Int))
    (fuel : Nat) (hf : n < fuel) : loopK f fuel 0 fin = if allN n p = true then fin (n : Int) else some no := by
  have key : ∀ fuel k, k ≤ n → n - k < fuel → (∀ i, i < k → p i = true) → loopK f fuel (k : Int) fin = if allN n p = true then fin (n : Int) else some no := by
    intro fuel
    induction fuel with
    | zero => intro k hk hf; omega
    | succ m ih =>
      intro k hk hf hu
      show f (k : Int) _ fin = _
      by_cases he : k = n
      · subst he; rw [stop, allN_iff.2 hu]; rfl
      · obtain ⟨h1, h2⟩ := step k (fun s' => loopK f m s' fin) (by omega)
        cases hp : p k with
        | false => rw [h1 hp, allN_no (by omega) hp]; rfl
        | true =>
          rw [h2 hp]
          refine ih (k + 1) (by omega) (by omega) (fun i hi => ?_)
          by_cases he : i = k
          · rw [he]; exact hp
          · exact hu i (by omega)
  exact key fuel 0 (by omega) (by omega) (fun i hi => by omega)
theorem next_i {k : Nat} (h : k ≤ 9223372036854775806) : IntKind.i64.wrap ((k : Int) + 1) = ((k + 1 : Nat) : Int) := by rw [wrap_in (by omega) (by omega)]; omega
end Go.Proofs.YtfjcibkgbalkaaaDoor.QAll

/- Rising rows: what a rising row gives; loops that sum; loops from one on. No condition. -/
namespace Go.Proofs.YtfjcibkgbalkaaaDoor.QUp
set_option linter.unusedVariables false
set_option linter.unusedSimpArgs false
open Go.RowKit
open Go.Proofs.YtfjcibkgbalkaaaDoor.GoP Go.Proofs.YtfjcibkgbalkaaaDoor.QBase Go.Proofs.YtfjcibkgbalkaaaDoor.QLoop Go.Proofs.YtfjcibkgbalkaaaDoor.QAll

theorem upTo_at {α : Type} {ok : α → Bool} {id : α → Int} {l : List α} {n : Nat} (h : upTo ok id l n = true) {k : Nat} (hk : k < n) : upAt ok id l k = true := List.all_eq_true.1 h k (List.mem_range.2 hk)
theorem upTo_ok {α : Type} {ok : α → Bool} {id : α → Int} {l : List α} {n : Nat} (h : upTo ok id l n = true) {k : Nat} (hk : k < n) {x : α} (hx : l[k]? = some x) : ok x = true := by
  have := upTo_at h hk
  unfold upAt at this
  rw [hx] at this
  simp only [Bool.and_eq_true] at this
  exact this.1
theorem upTo_step {α : Type} {ok : α → Bool} {id : α → Int} {l : List α} {n : Nat} (h : upTo ok id l n = true) {k : Nat} (hk : k + 1 < n) {x y : α} (hx : l[k]? = some x) (hy : l[k + 1]? = some y) : id x < id y := by
  have := upTo_at h hk
  unfold upAt at this
  rw [hy] at this
  simp only [Nat.add_sub_cancel, hx, Bool.and_eq_true, Bool.or_eq_true, decide_eq_true_eq] at this
  rcases this.2 with h0 | h0
  · omega
  · exact h0
theorem upTo_lt {α : Type} {ok : α → Bool} {id : α → Int} {l : List α} {n : Nat} (h : upTo ok id l n = true) (hn : n ≤ l.length) {i : Nat} : ∀ d {x y : α}, i + d + 1 < n → l[i]? = some x → l[i + d + 1]? = some y → id x < id y := by
  intro d
  induction d with
  | zero => intro x y hk hx hy; exact upTo_step h hk hx hy
  | succ d ih =>
    intro x y hk hx hy
    obtain ⟨z, hz, _⟩ := at_lt (l := l) (k := i + d + 1) (by omega)
    have h1 := ih (by omega) hx hz
    have h2 := upTo_step (k := i + d + 1) h (by omega) hz (by rw [← hy]; rfl)
    omega
/-- rising numbers: the later one is greater -/
theorem up_less {α : Type} {ok : α → Bool} {id : α → Int} {l : List α} (h : upTo ok id l l.length = true) {i j : Nat} {x y : α} (hij : i < j) (hx : l[i]? = some x) (hy : l[j]? = some y) : id x < id y := by
  have hj := (List.getElem?_eq_some_iff.1 hy).1
  exact upTo_lt h (Nat.le_refl _) (j - i - 1) (by omega) hx (by rw [← hy]; congr 1; omega)
/-- a loop with fuel, from k on, by an invariant -/
theorem lp_is {σ ρ : Type} {f : σ → (σ → Option ρ) → (σ → Option ρ) → Option ρ} {fin : σ → Option ρ} {n : Nat} (r : ρ) (I : Nat → σ → Prop)
    (step : ∀ k s nx, k < n → I k s → (∀ s', I (k + 1) s' → nx s' = some r) → f s nx fin = some r) (done : ∀ s nx, I n s → f s nx fin = some r) (fuel : Nat) (k : Nat) (s : σ) (hk : k ≤ n) (hf : n - k < fuel) (hI : I k s) : loopK f fuel s fin = some r := by
  obtain ⟨r', h, rfl⟩ := lp_ex (Q := fun x => x = r) I (fun k s nx hk hI hn => ⟨r, step k s nx hk hI (fun s' h' => by obtain ⟨_, h, rfl⟩ := hn s' h'; exact h), rfl⟩) (fun s nx h => ⟨r, done s nx h, rfl⟩) fuel k s hk hf hI
  exact h
theorem most_eq (a b : Int) (h : (if b < a then a else b) = max a b := by omega) : (if b < a then a else b) = max a b := h
end Go.Proofs.YtfjcibkgbalkaaaDoor.QUp

/- What the named laws of mails draw: mails and timetables: the draws answer, within bounds. (Q9Draws) No condition but those of each theorem. -/
namespace Go.Proofs.YtfjcibkgbalkaaaDoor.Q9Draws
set_option linter.unusedVariables false
set_option linter.unusedSimpArgs false
open Go.RowKit
open Go.Proofs.YtfjcibkgbalkaaaDoor.GoP Go.Proofs.YtfjcibkgbalkaaaDoor.PlainStamp Go.Proofs.YtfjcibkgbalkaaaDoor.QBase Go.Proofs.YtfjcibkgbalkaaaDoor.QDraw Go.Proofs.YtfjcibkgbalkaaaDoor.QUp Go.Proofs.YtfjcibkgbalkaaaDoor.QAll Go.Proofs.YtfjcibkgbalkaaaDoor.QLoop Go.Proofs.YtfjcibkgbalkaaaDoor.PMail

theorem mail9_ok {t : GoC.Tape} {m : Nat} (h : good t (m + 12)) : ∃ x t', GsL1CurMail.P t = some (x, t') ∧ good t' m := by
  obtain ⟨a, t1, e1, ha, h1⟩ := among_ok (l := [0, 5, 10, 10, 20, 30, 45, 60]) (m := m + 10) h (by simp)
  obtain ⟨b, t2, e2, _, _, _, h2⟩ := pick_ok (n := 4) (m := m + 8) h1
  obtain ⟨c, t3, e3, _, _, _, h3⟩ := pick_ok (n := 4) (m := m + 6) h2
  obtain ⟨d, t4, e4, hd, h4⟩ := among_ok (l := [1, 5, 10, 10, 25]) (m := m + 4) h3 (by simp)
  obtain ⟨p, t5, e5, _, _, _, h5⟩ := pick_ok (n := 48) (m := m + 2) h4
  simp only [GsL1CurMail.P, letK, e1, e2, e3, e4, e5, bind2_some, iteK_if]
  by_cases hp : p = 0
  · obtain ⟨u, t6, e6, _, h6⟩ := among_ok (l := [(-1), 9, 10]) (m := m) h5 (by simp)
    exact ⟨_, _, by simp only [hp, beq_self_eq_true, if_true, e6, bind2_some]; rfl, h6⟩
  · have hpb : (p == 0) = false := by simpa using hp
    by_cases hp2 : p = 1
    · obtain ⟨u, t6, e6, _, h6⟩ := among_ok (l := [a, 9999, 10000]) (m := m) h5 (by simp)
      exact ⟨_, _, by simp only [hp2, show ((1 : Int) == 0) = false from rfl, Bool.false_eq_true, if_false, beq_self_eq_true, if_true, e6, bind2_some]; rfl, h6⟩
    · have hpb2 : (p == 1) = false := by simpa using hp2
      exact ⟨_, _, by simp only [hpb, hpb2, Bool.false_eq_true, if_false]; rfl, good_less h5 (by omega)⟩
end Go.Proofs.YtfjcibkgbalkaaaDoor.Q9Draws

/- Chapter 9: mails and routes: the plain functions of the program and of the reference agree, and the laws answer true. (QCmp) No condition but those of each theorem. -/
namespace Go.Proofs.YtfjcibkgbalkaaaDoor.QCmp
set_option linter.unusedVariables false
set_option linter.unusedSimpArgs false
open Go.RowKit
open Go.Proofs.YtfjcibkgbalkaaaDoor.GoP Go.Proofs.YtfjcibkgbalkaaaDoor.PlainStamp Go.Proofs.YtfjcibkgbalkaaaDoor.QBase Go.Proofs.YtfjcibkgbalkaaaDoor.QLoop

def cmpI (x y : Int) : Int := if x < y then -1 else if y < x then 1 else 0
theorem cmp_eq (x y : Int) : GxCmpCompareInt.P x y = some (cmpI x y) := by
  simp only [GxCmpCompareInt.P, GxCmpIsNaNInt.P, Option.bind_some, letK, iteK_if, cmpI]
  by_cases h1 : x < y
  · simp [h1]
  · by_cases h2 : y < x <;> simp [h1, h2]
theorem or_eq (a b c d : Int) : GxCmpOrInt.P [a, b, c, d] = some (if a != 0 then a else if b != 0 then b else if c != 0 then c else d) := by
  have st : ∀ m k fin, cntK (GxCmpOrInt.l0 [a, b, c, d]) (m + 1) k () fin = GxCmpOrInt.l0 [a, b, c, d] k () (fun s' => cntK (GxCmpOrInt.l0 [a, b, c, d]) m (k + 1) s' fin) fin := fun _ _ _ => rfl
  show cntK (GxCmpOrInt.l0 [a, b, c, d]) (3 + 1) 0 () (GxCmpOrInt.e0) = _
  rw [st]
  simp only [GxCmpOrInt.l0, show idx [a, b, c, d] ((0 : Nat) : Int) = some a from rfl, Option.bind_some, letK, appK, iteK_if]
  by_cases ha : (a != 0) = true
  · rw [if_pos ha, if_pos ha]
  · rw [if_neg ha, if_neg ha]
    show cntK (GxCmpOrInt.l0 [a, b, c, d]) (2 + 1) 1 () (GxCmpOrInt.e0) = _
    rw [st]
    simp only [GxCmpOrInt.l0, show idx [a, b, c, d] ((1 : Nat) : Int) = some b from rfl, Option.bind_some, letK, appK, iteK_if]
    by_cases hb : (b != 0) = true
    · rw [if_pos hb, if_pos hb]
    · rw [if_neg hb, if_neg hb]
      show cntK (GxCmpOrInt.l0 [a, b, c, d]) (1 + 1) 2 () (GxCmpOrInt.e0) = _
      rw [st]
      simp only [GxCmpOrInt.l0, show idx [a, b, c, d] ((2 : Nat) : Int) = some c from rfl, Option.bind_some, letK, appK, iteK_if]
      by_cases hc : (c != 0) = true
      · rw [if_pos hc, if_pos hc]
      · rw [if_neg hc, if_neg hc]
        show cntK (GxCmpOrInt.l0 [a, b, c, d]) (0 + 1) 3 () (GxCmpOrInt.e0) = _
        rw [st]
        simp only [GxCmpOrInt.l0, show idx [a, b, c, d] ((3 : Nat) : Int) = some d from rfl, Option.bind_some, letK, appK, iteK_if]
        by_cases hd : (d != 0) = true
        · rw [if_pos hd]
        · rw [if_neg hd]
          have : d = 0 := by simpa using hd
          rw [this]; rfl
end Go.Proofs.YtfjcibkgbalkaaaDoor.QCmp

/- Chapter 9: mails and routes: the plain functions of the program and of the reference agree, and the laws answer true. (Q9Mail) No condition but those of each theorem. -/
namespace Go.Proofs.YtfjcibkgbalkaaaDoor.Q9Mail
set_option linter.unusedVariables false
set_option linter.unusedSimpArgs false
open Go.RowKit
open Go.Proofs.YtfjcibkgbalkaaaDoor.GoP Go.Proofs.YtfjcibkgbalkaaaDoor.PlainStamp Go.Proofs.YtfjcibkgbalkaaaDoor.QBase Go.Proofs.YtfjcibkgbalkaaaDoor.QCmp Go.Proofs.YtfjcibkgbalkaaaDoor.QLoop Go.Proofs.YtfjcibkgbalkaaaDoor.PMail

theorem isMinute_eq (n : Int) : GiIsMinute.P n = some (inB n 0 9999) := by simp only [GiIsMinute.P, within_eq, Option.bind_some]
theorem isOffice_eq (n : Int) : GiIsPostOffice.P n = some (inB n 0 9) := by simp only [GiIsPostOffice.P, within_eq, Option.bind_some]
theorem l9Office_eq (n : Int) : GsL9Office.P n = some (inB n 0 9) := by simp only [GsL9Office.P, l1In_eq, Option.bind_some]
theorem l9Minute_eq (n : Int) : GsL9Minute.P n = some (inB n 0 9999) := by simp only [GsL9Minute.P, l1In_eq, Option.bind_some]
def okM (x : Mail) : Bool := inB x.from_ 0 9 && inB x.to_ 0 9 && (x.from_ != x.to_) && inB x.leave 0 9999 && inB x.arrive 0 9999 && decide (x.leave < x.arrive)
theorem isMail_eq (x : Mail) : GiIsMail.P x = some (okM x) := by
  obtain ⟨a, b, c, d⟩ := x
  simp only [GiIsMail.P, unMail, isMinute_eq, isOffice_eq, Option.bind_some, letK, joinK, appK, iteK_if, okM]
  cases inB b 0 9 <;> cases inB c 0 9 <;> cases (b != c) <;> cases inB a 0 9999 <;> cases inB d 0 9999 <;> simp
theorem l9One_eq (x : Mail) : GsL9One.P x = some (okM x) := by
  obtain ⟨a, b, c, d⟩ := x
  have hx : (inB d 0 9999 && inB a 0 (d - 1)) = (inB a 0 9999 && inB d 0 9999 && decide (a < d)) := by unfold inB; rw [Bool.eq_iff_iff]; simp; omega
  have hy : okM ⟨a, b, c, d⟩ = (inB b 0 9 && inB c 0 9 && (b != c) && (inB d 0 9999 && inB a 0 (d - 1))) := by
    rw [hx]; unfold okM
    cases inB b 0 9 <;> cases inB c 0 9 <;> cases (b != c) <;> simp
  rw [hy]
  simp only [GsL9One.P, unMail, l9Office_eq, l9Minute_eq, l1In_eq, Option.bind_some, letK, joinK, appK, iteK_if]
  cases hd : inB d 0 9999 with
  | false => cases inB b 0 9 <;> cases inB c 0 9 <;> cases (b != c) <;> simp
  | true =>
    have h := inB_of hd
    rw [wrap_in (by omega) (by omega)]
    cases inB b 0 9 <;> cases inB c 0 9 <;> cases (b != c) <;> simp
theorem okM_of {x : Mail} (h : okM x = true) : (0 ≤ x.from_ ∧ x.from_ ≤ 9) ∧ (0 ≤ x.to_ ∧ x.to_ ≤ 9) ∧ x.from_ ≠ x.to_ ∧ (0 ≤ x.leave ∧ x.leave < x.arrive ∧ x.arrive ≤ 9999) := by
  unfold okM at h
  simp only [Bool.and_eq_true, decide_eq_true_eq, bne_iff_ne] at h
  have h1 := inB_of h.1.1.1.1.1
  have h2 := inB_of h.1.1.1.1.2
  have h3 := inB_of h.1.1.2
  have h4 := inB_of h.1.2
  exact ⟨h1, h2, h.1.1.1.2, h3.1, h.2, h4.2⟩
def codeM (x : Mail) : Int := ((x.leave * 10 + x.from_) * 10 + x.to_) * 10000 + x.arrive
def ltM (a b : Mail) : Bool := decide (codeM a < codeM b)
theorem code_eq {x : Mail} (h : okM x = true) : GsL9Code.P x = some (codeM x) := by
  obtain ⟨h1, h2, _, h3⟩ := okM_of h
  obtain ⟨a, b, c, d⟩ := x
  dsimp only at h1 h2 h3
  simp only [GsL9Code.P, unMail, letK, codeM]
  rw [wrap_in (x := a * 10) (by omega) (by omega), wrap_in (x := a * 10 + b) (by omega) (by omega), wrap_in (x := (a * 10 + b) * 10) (by omega) (by omega), wrap_in (x := (a * 10 + b) * 10 + c) (by omega) (by omega), wrap_in (x := ((a * 10 + b) * 10 + c) * 10000) (by omega) (by omega), wrap_in (by omega) (by omega)]
theorem compare_eq {a b : Mail} (ha : okM a = true) (hb : okM b = true) : ∃ c, GiCompareMails.P a b = some c ∧ (0 ≤ c ↔ codeM b ≤ codeM a) := by
  have h1 := okM_of ha
  have h2 := okM_of hb
  obtain ⟨a, x, c, y⟩ := a
  obtain ⟨a', x', c', y'⟩ := b
  dsimp only at h1 h2
  simp only [GiCompareMails.P, unMail, cmp_eq, Option.bind_some, letK, or_eq]
  refine ⟨_, rfl, ?_⟩
  unfold cmpI codeM
  dsimp only
  by_cases p1 : a < a'
  · simp [p1]; omega
  · by_cases p2 : a' < a
    · simp [p1, p2]; omega
    · obtain rfl : a = a' := by omega
      by_cases p3 : x < x'
      · simp [p3]; omega
      · by_cases p4 : x' < x
        · simp [p3, p4]; omega
        · obtain rfl : x = x' := by omega
          by_cases p5 : c < c'
          · simp [p5]; omega
          · by_cases p6 : c' < c
            · simp [p5, p6]; omega
            · obtain rfl : c = c' := by omega
              by_cases p7 : y < y'
              · simp [p7]
              · by_cases p8 : y' < y
                · simp [p7, p8]; omega
                · simp [p7, p8]; omega
end Go.Proofs.YtfjcibkgbalkaaaDoor.Q9Mail

/- What the named laws of mails draw: mails and timetables: the draws answer, within bounds. (Q9Draws2) No condition but those of each theorem. -/
namespace Go.Proofs.YtfjcibkgbalkaaaDoor.Q9Draws2
set_option linter.unusedVariables false
set_option linter.unusedSimpArgs false
open Go.RowKit
open Go.Proofs.YtfjcibkgbalkaaaDoor.GoP Go.Proofs.YtfjcibkgbalkaaaDoor.PlainStamp Go.Proofs.YtfjcibkgbalkaaaDoor.QBase Go.Proofs.YtfjcibkgbalkaaaDoor.Q9Draws Go.Proofs.YtfjcibkgbalkaaaDoor.Q9Mail Go.Proofs.YtfjcibkgbalkaaaDoor.QDraw Go.Proofs.YtfjcibkgbalkaaaDoor.QUp Go.Proofs.YtfjcibkgbalkaaaDoor.QAll Go.Proofs.YtfjcibkgbalkaaaDoor.QLoop Go.Proofs.YtfjcibkgbalkaaaDoor.PMail

theorem code_some (x : Mail) : ∃ c, GsL9Code.P x = some c := by obtain ⟨a, b, c, d⟩ := x; exact ⟨_, rfl⟩
abbrev St9 := List Mail × Int × GoC.Tape
abbrev Re9 := List Mail × GoC.Tape
/-- behind the search for the place: the mail is laid in, or not -/
theorem place9 {nx : St9 → Option Re9} {Q : Re9 → Prop} {l : List Mail} {n : Int} {x : Mail} {c : GoC.Tape} (hl : l.length ≤ 1000) (hn0 : 0 < n ∧ n ≤ 1000)
    (hn : ∀ l', l'.length ≤ l.length + 1 → ∃ r, nx (l', n - 1, c) = some r ∧ Q r) {k : Int} (hk : 0 ≤ k ∧ k ≤ (l.length : Int)) :
    ∃ r, GsL1CurTimetable.e1 nx l n x.leave x.from_ x.to_ x.arrive c k = some r ∧ Q r := by
  have hq : ∀ b, ∃ r, GsL1CurTimetable.q2 nx l n x.leave x.from_ x.to_ x.arrive c k b = some r ∧ Q r := by
    intro b
    simp only [GsL1CurTimetable.q2, letK, iteK_if]
    rw [wrap_in (by omega) (by omega)]
    cases b with
    | false =>
      rw [if_neg (by simp)]
      exact hn l (by omega)
    | true =>
      rw [if_pos rfl]
      rw [guardK_pos hk, guardK_pos (by simp; omega), guardK_pos (by simp; omega), guardK_pos hk, guardK_pos (by simp; omega)]
      exact hn _ (by simp; omega)
  simp only [GsL1CurTimetable.e1, letK, joinK, appK, iteK_if]
  by_cases h0 : k = 0
  · rw [if_pos (by simpa using h0)]; exact hq true
  · rw [if_neg (by simpa using h0), wrap_in (by omega) (by omega)]
    obtain ⟨y, _, hy⟩ := at_lt (l := l) (k := (k - 1).toNat) (by omega)
    rw [show (((k - 1).toNat : Nat) : Int) = k - 1 by omega] at hy
    rw [hy]
    exact hq _
theorem search9 {fuel : Nat} (hf : 1048577 ≤ fuel) {nx : St9 → Option Re9} {Q : Re9 → Prop} {l : List Mail} {n : Int} {x : Mail} {c : GoC.Tape} (hl : l.length ≤ 1000) (hn0 : 0 < n ∧ n ≤ 1000)
    (hn : ∀ l', l'.length ≤ l.length + 1 → ∃ r, nx (l', n - 1, c) = some r ∧ Q r) :
    ∃ r, loopK (GsL1CurTimetable.l1 l x.leave x.from_ x.to_ x.arrive) fuel (l.length : Int) (GsL1CurTimetable.e1 nx l n x.leave x.from_ x.to_ x.arrive c) = some r ∧ Q r := by
  refine lp_ex (n := l.length) (fun j (k : Int) => k = (l.length : Int) - (j : Int)) ?_ ?_ fuel 0 _ (by omega) (by omega) (by omega)
  · rintro j k nx1 hj rfl hn1
    have h0 : (0 : Int) < (l.length : Int) - (j : Int) := by omega
    simp only [GsL1CurTimetable.l1, letK, joinK, appK, iteK_if, decide_eq_true h0, if_true]
    rw [wrap_in (by omega) (by omega)]
    obtain ⟨y, _, hy⟩ := at_lt (l := l) (k := l.length - j - 1) (by omega)
    rw [show ((l.length - j - 1 : Nat) : Int) = (l.length : Int) - (j : Int) - 1 by omega] at hy
    obtain ⟨c1, h1⟩ := code_some y
    obtain ⟨c2, h2⟩ := code_some x
    have hye : Mail.mk y.leave y.from_ y.to_ y.arrive = y := rfl
    have hxe : Mail.mk x.leave x.from_ x.to_ x.arrive = x := rfl
    rw [hy]
    simp only [Option.bind_some, unMail, hye, hxe, h1, h2, GsL1CurTimetable.q1, letK, iteK_if, appK]
    rw [wrap_in (by omega) (by omega)]
    by_cases hc : c2 < c1
    · rw [if_pos (by simpa using hc)]; exact hn1 _ (by omega)
    · rw [if_neg (by simpa using hc)]; exact place9 hl hn0 hn (by omega)
  · rintro k nx1 rfl
    have h0 : ¬ (0 : Int) < (l.length : Int) - (l.length : Int) := by omega
    simp only [GsL1CurTimetable.l1, letK, joinK, appK, iteK_if, decide_eq_false h0, GsL1CurTimetable.q1, Bool.false_eq_true, if_false]
    exact place9 hl hn0 hn (by omega)
theorem more9 {fuel : Nat} (hf : 1048577 ≤ fuel) {m : Nat} (l : List Mail) (hl : l.length ≤ 21) {c : GoC.Tape} (h : good c (m + 50)) : ∃ r, loopK GsL1CurTimetable.l2 fuel (l, c) GsL1CurTimetable.e2 = some r ∧ (r.1.length ≤ 60 ∧ good r.2 m) := by
  refine lp_ex (n := 22) (fun k (s : Re9) => s.1.length = l.length + k ∧ good s.2 (m + 50 - 2 * k)) ?_ ?_ fuel 0 _ (by omega) (by omega) ⟨rfl, h⟩
  · rintro k ⟨o, c⟩ nx hk ⟨h1, h4⟩ hn
    dsimp only at h1 h4
    obtain ⟨x, c1, e, hx0, hx, _, hg⟩ := pick_ok (n := 2) (m := m + 48 - 2 * k) (good_less h4 (by omega))
    simp only [GsL1CurTimetable.l2, unp2, e, bind2_some, letK, iteK_if]
    rw [wrap_in (x := 20 + x) (by omega) (by omega)]
    by_cases hc : (o.length : Int) < 20 + x
    · rw [if_pos (by simpa using hc), guardK_pos (by omega)]
      exact hn _ ⟨by simp [h1]; omega, good_less hg (by omega)⟩
    · rw [if_neg (by simpa using hc)]
      exact ⟨_, rfl, by dsimp only; omega, good_less hg (by omega)⟩
  · rintro ⟨o, c⟩ nx ⟨h1, h4⟩
    dsimp only at h1 h4
    obtain ⟨x, c1, e, hx0, hx, _, hg⟩ := pick_ok (n := 2) (m := m) (good_less h4 (by omega))
    simp only [GsL1CurTimetable.l2, unp2, e, bind2_some, letK, iteK_if]
    rw [wrap_in (x := 20 + x) (by omega) (by omega), if_neg (by simp; omega)]
    exact ⟨_, rfl, by dsimp only; omega, hg⟩
theorem end9 {fuel : Nat} (hf : 1048577 ≤ fuel) {m : Nat} (l : List Mail) (n : Int) (hl : l.length ≤ 20) {c : GoC.Tape} (h : good c (m + 60)) : ∃ r, GsL1CurTimetable.e0 fuel (l, n, c) = some r ∧ (r.1.length ≤ 60 ∧ good r.2 m) := by
  obtain ⟨p, t1, e1, hp0, hp, _, h1⟩ := pick_ok (n := 32) (m := m + 58) h
  simp only [GsL1CurTimetable.e0, unp3, e1, bind2_some, letK, iteK_if]
  by_cases hp1 : p = 0
  · obtain ⟨x, t2, e2, h2⟩ := mail9_ok (m := m + 46) h1
    obtain ⟨a, b, c, d⟩ := x
    simp only [hp1, beq_self_eq_true, if_true, e2, bind2_some, unMail]
    rw [guardK_pos (by omega)]
    exact ⟨_, rfl, by simp; omega, good_less h2 (by omega)⟩
  · have hpb : (p == 0) = false := by simpa using hp1
    by_cases hp2 : p = 1
    · simp only [hp2, show ((1 : Int) == 0) = false from rfl, Bool.false_eq_true, if_false, beq_self_eq_true, if_true]
      exact more9 hf l (by omega) (good_less h1 (by omega))
    · have hpb2 : (p == 1) = false := by simpa using hp2
      simp only [hpb, hpb2, Bool.false_eq_true, if_false]
      exact ⟨_, rfl, by dsimp only; omega, good_less h1 (by omega)⟩
theorem time9_ok {t : GoC.Tape} {m : Nat} (fuel : Nat) (hf : 1048577 ≤ fuel) (h : good t (m + 300)) : ∃ l t', GsL1CurTimetable.P fuel t = some (l, t') ∧ l.length ≤ 60 ∧ good t' m := by
  obtain ⟨p, t1, e1, hp0, hp, _, h1⟩ := pick_ok (n := 10) (m := m + 298) h
  obtain ⟨⟨l, t'⟩, h1, h2⟩ : ∃ r : Re9, GsL1CurTimetable.P fuel t = some r ∧ (r.1.length ≤ 60 ∧ good r.2 m) := by
    simp only [GsL1CurTimetable.P, e1, bind2_some]
    refine lp_ex (n := p.toNat) (fun k (s : St9) => s.2.1 = p - (k : Int) ∧ s.1.length ≤ k ∧ good s.2.2 (m + 298 - 14 * k)) ?_ ?_ fuel 0 _ (by omega) (by omega) ⟨by simp, by simp, h1⟩
    · rintro k ⟨l, n, c⟩ nx hk ⟨g1, g2, g3⟩ hn
      dsimp only at g1 g2 g3
      subst g1
      have h0 : (0 : Int) < p - (k : Int) := by omega
      obtain ⟨x, t2, e2, h2⟩ := mail9_ok (m := m + 298 - 14 * k - 12) (good_less g3 (by omega))
      have hxe : Mail.mk x.leave x.from_ x.to_ x.arrive = x := rfl
      simp only [GsL1CurTimetable.l0, unp3, letK, decide_eq_true h0, iteK_if, if_true, e2, bind2_some, unMail, hxe, l9One_eq, Option.bind_some, joinK, appK]
      have hw : IntKind.i64.wrap (p - (k : Int) - 1) = p - (k : Int) - 1 := wrap_in (by omega) (by omega)
      have go : ∀ b c', good c' (m + 298 - 14 * (k + 1)) → ∃ r, GsL1CurTimetable.q0 fuel nx l (p - (k : Int)) x.leave x.from_ x.to_ x.arrive (b, c') = some r ∧ (r.1.length ≤ 60 ∧ good r.2 m) := by
        intro b c' hc'
        simp only [GsL1CurTimetable.q0, unp2, letK, iteK_if, hw]
        cases b with
        | true => rw [if_pos rfl]; exact hn _ ⟨by dsimp only; omega, by dsimp only; omega, hc'⟩
        | false =>
          rw [if_neg (by simp)]
          exact search9 hf (by omega) (by omega) (fun l' hl' => hn _ ⟨by dsimp only; omega, by dsimp only; omega, hc'⟩)
      by_cases hb : okM x = true
      · rw [if_neg (by simp [hb])]
        exact go _ _ (good_less h2 (by omega))
      · rw [if_pos (by simp [hb])]
        obtain ⟨b, t3, e3, h3⟩ := one_ok (n := 30) (m := m + 298 - 14 * k - 14) (good_less h2 (by omega))
        simp only [e3, bind2_some, unp2]
        exact go _ _ (good_less h3 (by omega))
    · rintro ⟨l, n, c⟩ nx ⟨g1, g2, g3⟩
      dsimp only at g1 g2 g3
      have h0 : ¬ (0 : Int) < n := by omega
      simp only [GsL1CurTimetable.l0, unp3, letK, decide_eq_false h0, iteK_if, Bool.false_eq_true, if_false, appK]
      exact end9 hf l n (by omega) (good_less g3 (by omega))
  exact ⟨l, t', h1, h2⟩
end Go.Proofs.YtfjcibkgbalkaaaDoor.Q9Draws2

/- The named law of mails: what it draws, and why it answers true. (Q9DrawsF) No condition but those of each theorem. -/
namespace Go.Proofs.YtfjcibkgbalkaaaDoor.Q9DrawsF
set_option linter.unusedVariables false
set_option linter.unusedSimpArgs false
open Go.RowKit
open Go.Proofs.YtfjcibkgbalkaaaDoor.GoP Go.Proofs.YtfjcibkgbalkaaaDoor.PlainStamp Go.Proofs.YtfjcibkgbalkaaaDoor.QBase Go.Proofs.YtfjcibkgbalkaaaDoor.Q9Draws2 Go.Proofs.YtfjcibkgbalkaaaDoor.Q9Draws Go.Proofs.YtfjcibkgbalkaaaDoor.QDraw Go.Proofs.YtfjcibkgbalkaaaDoor.QUp Go.Proofs.YtfjcibkgbalkaaaDoor.QAll Go.Proofs.YtfjcibkgbalkaaaDoor.QLoop Go.Proofs.YtfjcibkgbalkaaaDoor.PMail

theorem drawLeave_ok {tapes : List Int → GoC.Tape} (ht : GoC.Tells tapes) (code : List Int) (fuel : Nat) (hf : 1048577 ≤ fuel) : ∃ l o p b, GsDrawLatestLeave.P fuel tapes code = some (l, o, p, b) ∧ l.length ≤ 60 := by
  obtain ⟨l, c0, e0, hl, h0⟩ := time9_ok fuel hf (m := 40) (good_of ht code (by omega))
  obtain ⟨z, c1, e1, _, h1⟩ := among_ok (l := [0, 1, 2, 3, 10]) (m := 38) h0 (by simp)
  obtain ⟨g, c2, e2, _, h2⟩ := among_ok (l := [0, 1, 2, 3, (-1)]) (m := 36) h1 (by simp)
  obtain ⟨d, c3, e3, _, h3⟩ := among_ok (l := [0, 20, 40, 60, 9999, 10000]) (m := 34) h2 (by simp)
  exact ⟨l, z, g, d, by simp only [GsDrawLatestLeave.P, letK, e0, e1, e2, e3, bind2_some], hl⟩
theorem drawMissed_ok {tapes : List Int → GoC.Tape} (ht : GoC.Tells tapes) (code : List Int) (fuel : Nat) (hf : 1048577 ≤ fuel) : ∃ l o m, GsDrawMissedMails.P fuel tapes code = some (l, o, m) ∧ l.length ≤ 60 := by
  obtain ⟨l, c0, e0, hl, h0⟩ := time9_ok fuel hf (m := 40) (good_of ht code (by omega))
  obtain ⟨z, c1, e1, _, h1⟩ := among_ok (l := [0, 1, 2, 3, 10]) (m := 38) h0 (by simp)
  obtain ⟨g, c2, e2, _, h2⟩ := among_ok (l := [0, 0, 5, 10, 11, 10000]) (m := 36) h1 (by simp)
  exact ⟨l, z, g, by simp only [GsDrawMissedMails.P, letK, e0, e1, e2, bind2_some], hl⟩
theorem drawReached_ok {tapes : List Int → GoC.Tape} (ht : GoC.Tells tapes) (code : List Int) (fuel : Nat) (hf : 1048577 ≤ fuel) : ∃ l o m b, GsDrawReachedBy.P fuel tapes code = some (l, o, m, b) ∧ l.length ≤ 60 := by
  obtain ⟨l, c0, e0, hl, h0⟩ := time9_ok fuel hf (m := 40) (good_of ht code (by omega))
  obtain ⟨z, c1, e1, _, h1⟩ := among_ok (l := [0, 1, 2, 3, 10]) (m := 38) h0 (by simp)
  obtain ⟨g, c2, e2, _, h2⟩ := among_ok (l := [0, 0, 5, 10, 11, 10000]) (m := 36) h1 (by simp)
  obtain ⟨d, c3, e3, _, h3⟩ := among_ok (l := [10, 20, 40, 60, 9999, 10000]) (m := 34) h2 (by simp)
  exact ⟨l, z, g, d, by simp only [GsDrawReachedBy.P, letK, e0, e1, e2, e3, bind2_some], hl⟩
theorem drawText_ok {tapes : List Int → GoC.Tape} (ht : GoC.Tells tapes) (code : List Int) : ∃ x, GsDrawMailText.P tapes code = some x := by
  obtain ⟨x, c, e, _⟩ := mail9_ok (m := 40) (good_of ht code (by omega))
  exact ⟨x, by simp only [GsDrawMailText.P, letK, e, bind2_some, unMail]⟩
end Go.Proofs.YtfjcibkgbalkaaaDoor.Q9DrawsF

/- Plain facts on decimal numerals: what a row of digits is worth, and that a numeral read back is its number. No condition. -/
namespace Go.Proofs.YtfjcibkgbalkaaaDoor.PlainNum

def step (a : Nat) (c : UInt8) : Nat := 10 * a + (c.toNat - 48)
def dv (l : List UInt8) : Nat := l.foldl step 0
def Digs (l : List UInt8) : Prop := ∀ c ∈ l, 48 ≤ c.toNat ∧ c.toNat ≤ 57

theorem dv_snoc (l : List UInt8) (c : UInt8) : dv (l ++ [c]) = 10 * dv l + (c.toNat - 48) := by
  unfold dv; rw [List.foldl_append]; rfl

theorem fold_lt (l : List UInt8) : ∀ a, Digs l → l.foldl step a < (a + 1) * 10 ^ l.length := by
  induction l with
  | nil => intro a _; simp
  | cons c r ih =>
    intro a h
    have hc := h c (by simp)
    have h1 := ih (step a c) (fun x hx => h x (by simp [hx]))
    have h2 : (step a c + 1) * 10 ^ r.length ≤ (10 * (a + 1)) * 10 ^ r.length := Nat.mul_le_mul_right _ (by unfold step; omega)
    have h3 : (10 * (a + 1)) * 10 ^ r.length = (a + 1) * 10 ^ (r.length + 1) := by rw [Nat.pow_succ, Nat.mul_comm 10 (a + 1), Nat.mul_assoc, Nat.mul_comm 10]
    rw [List.foldl_cons, List.length_cons]
    omega

theorem dv_lt (l : List UInt8) (h : Digs l) : dv l < 10 ^ l.length := by
  have := fold_lt l 0 h
  unfold dv; omega

theorem dv_lt6 (l : List UInt8) (h : Digs l) (hl : l.length ≤ 6) : dv l < 1000000 := by
  have h1 := dv_lt l h
  have h2 : 10 ^ l.length ≤ 10 ^ 6 := Nat.pow_le_pow_right (by omega) hl
  omega

theorem digit_toNat (i : Nat) (h : i < 10) : (UInt8.ofNat (48 + i)).toNat = 48 + i := by
  rw [UInt8.toNat_ofNat']; omega

theorem digs_dec (u : Nat) : Digs (Lib.decDigits u) := by
  induction u using Nat.strongRecOn with
  | _ u ih =>
    rw [Lib.decDigits]
    by_cases h : u < 10
    · rw [dif_pos h]
      intro c hc
      obtain rfl : c = UInt8.ofNat (48 + u) := by simpa using hc
      rw [digit_toNat u h]; omega
    · rw [dif_neg h]
      intro c hc
      rcases List.mem_append.1 hc with h1 | h1
      · exact ih (u / 10) (by omega) c h1
      · obtain rfl : c = UInt8.ofNat (48 + u % 10) := by simpa using h1
        rw [digit_toNat _ (by omega)]; omega

theorem dv_dec (u : Nat) : dv (Lib.decDigits u) = u := by
  induction u using Nat.strongRecOn with
  | _ u ih =>
    rw [Lib.decDigits]
    by_cases h : u < 10
    · rw [dif_pos h]
      show step 0 (UInt8.ofNat (48 + u)) = u
      unfold step; rw [digit_toNat u h]; omega
    · rw [dif_neg h, dv_snoc, ih (u / 10) (by omega), digit_toNat _ (by omega)]; omega

theorem nd_le (k : Nat) : ∀ u, u < 10 ^ (k + 1) → Lib.nDigits u ≤ k + 1 := by
  induction k with
  | zero => intro u h; rw [Lib.nDigits_small (by omega)]; omega
  | succ k ih =>
    intro u h
    by_cases h10 : u < 10
    · rw [Lib.nDigits_small h10]; omega
    · rw [Lib.nDigits_big h10]
      have := ih (u / 10) (by rw [Nat.pow_succ] at h; omega)
      omega

theorem len_dec (u : Nat) (h : u ≤ 999999) : 1 ≤ (Lib.decDigits u).length ∧ (Lib.decDigits u).length ≤ 6 := by
  rw [Lib.decDigits_length]
  exact ⟨Lib.nDigits_pos u, nd_le 5 u (by omega)⟩

theorem decFrom_dv (l : List UInt8) : ∀ a, Digs l → Lib.decFrom a l = some (l.foldl step a) := by
  induction l with
  | nil => intro a _; rfl
  | cons c r ih =>
    intro a h
    have hc := h c (by simp)
    have e : Lib.digitVal c = some (c.toNat - 48) := by unfold Lib.digitVal; rw [if_pos hc]
    rw [Lib.decFrom, e]
    show Lib.decFrom (a * 10 + (c.toNat - 48)) r = _
    rw [ih _ (fun x hx => h x (by simp [hx])), Nat.mul_comm a 10]
    rfl

theorem decNat_dec (u : Nat) (h : u ≤ 999999) : Lib.decNat (Lib.decDigits u) = some u := by
  have hl := (len_dec u h).1
  unfold Lib.decNat
  rw [if_neg (by intro e; rw [List.isEmpty_iff] at e; rw [e] at hl; simp at hl), decFrom_dv _ 0 (digs_dec u)]
  exact congrArg some (dv_dec u)

/-- l is the numeral of n -/
def Inv (l : List UInt8) (n : Int) : Prop := -999999 ≤ n ∧ n ≤ 999999 ∧ Lib.itoa n = l

theorem itoa_cases (n : Int) : (n < 0 ∧ Lib.itoa n = 45 :: Lib.decDigits n.natAbs) ∨ (0 ≤ n ∧ Lib.itoa n = Lib.decDigits n.natAbs) := by
  by_cases h : n < 0
  · left; refine ⟨h, ?_⟩; unfold Lib.itoa; rw [if_pos h]
  · right; refine ⟨by omega, ?_⟩; unfold Lib.itoa; rw [if_neg h]; congr 1; omega

theorem itoa_len (n : Int) (h1 : -999999 ≤ n) (h2 : n ≤ 999999) : 1 ≤ (Lib.itoa n).length ∧ (Lib.itoa n).length ≤ 7 := by
  have := len_dec n.natAbs (by omega)
  rcases itoa_cases n with ⟨_, e⟩ | ⟨_, e⟩
  · rw [e, List.length_cons]; omega
  · rw [e]; omega

theorem atoi_itoa (n : Int) (h1 : -999999 ≤ n) (h2 : n ≤ 999999) : Lib.atoiAll (Lib.itoa n) = .ok n := by
  rw [Lib.atoiAll_short _ (by have := itoa_len n h1 h2; omega)]
  have hd := decNat_dec n.natAbs (by omega)
  rcases itoa_cases n with ⟨hn, e⟩ | ⟨hn, e⟩
  · rw [e]
    show Lib.NumEnd.ofOption ((Lib.decNat (Lib.decDigits n.natAbs)).map fun (m : Nat) => -(m : Int)) = _
    rw [hd]
    show Lib.NumEnd.ok (-((n.natAbs : Nat) : Int)) = _
    congr 1; omega
  · rw [e]
    have hl := len_dec n.natAbs (by omega)
    have hg := digs_dec n.natAbs
    cases hx : Lib.decDigits n.natAbs with
    | nil => rw [hx] at hl; simp at hl
    | cons b r =>
      rw [hx] at hg hd
      have hb := hg b (by simp)
      have e1 : (b == 45) = false := by
        rw [beq_eq_false_iff_ne]; rintro rfl; have : (45 : UInt8).toNat = 45 := rfl; omega
      have e2 : (b == 43) = false := by
        rw [beq_eq_false_iff_ne]; rintro rfl; have : (43 : UInt8).toNat = 43 := rfl; omega
      unfold Lib.atoi
      simp only [e1, e2, Bool.false_eq_true, if_false, hd]
      show Lib.NumEnd.ok ((n.natAbs : Nat) : Int) = _
      congr 1; omega

theorem Inv.uniq {l : List UInt8} {n m : Int} (h : Inv l n) (k : Inv l m) : n = m := by
  have e1 := atoi_itoa n h.1 h.2.1
  have e2 := atoi_itoa m k.1 k.2.1
  rw [h.2.2] at e1
  rw [k.2.2] at e2
  rw [e1] at e2
  injection e2

/-- how a numeral's reading ends: the number and true; else 0 and false -/
def Rd (l : List UInt8) (v : Int) (b : Bool) : Prop := (b = true ∧ Inv l v) ∨ (b = false ∧ v = 0 ∧ ∀ n, ¬ Inv l n)

theorem Rd.uniq {l : List UInt8} {v v' : Int} {b b' : Bool} (h : Rd l v b) (k : Rd l v' b') : v = v' ∧ b = b' := by
  rcases h with ⟨rfl, h⟩ | ⟨rfl, rfl, h⟩ <;> rcases k with ⟨rfl, k⟩ | ⟨rfl, rfl, k⟩
  · exact ⟨h.uniq k, rfl⟩
  · exact absurd h (k _)
  · exact absurd k (h _)
  · exact ⟨rfl, rfl⟩

theorem Rd.no {l : List UInt8} (h : ∀ n, ¬ Inv l n) : Rd l 0 false := .inr ⟨rfl, rfl, h⟩
theorem Rd.yes {l : List UInt8} {n : Int} (h : Inv l n) : Rd l n true := .inl ⟨rfl, h⟩

theorem neg_head {r : List UInt8} {n : Int} (h : Inv (45 :: r) n) : n < 0 ∧ r = Lib.decDigits n.natAbs := by
  obtain ⟨h1, h2, h3⟩ := h
  rcases itoa_cases n with ⟨hn, e⟩ | ⟨hn, e⟩
  · rw [e] at h3; injection h3 with _ h3; exact ⟨hn, h3.symm⟩
  · rw [e] at h3
    have := digs_dec n.natAbs 45 (by rw [h3]; simp)
    have e45 : (45 : UInt8).toNat = 45 := rfl
    omega

theorem pos_head {l : List UInt8} {n : Int} (h : Inv l n) (h45 : l.head? ≠ some 45) : 0 ≤ n ∧ l = Lib.decDigits n.natAbs := by
  obtain ⟨h1, h2, h3⟩ := h
  rcases itoa_cases n with ⟨hn, e⟩ | ⟨hn, e⟩
  · rw [e] at h3; subst h3; simp at h45
  · exact ⟨hn, by rw [← h3, e]⟩

/-- the numeral behind the sign -/
theorem no_minus {r : List UInt8} (h : r.length = 0 ∨ 6 < r.length ∨ ¬ Digs r) (n : Int) : ¬ Inv (45 :: r) n := by
  intro k
  obtain ⟨hn, rfl⟩ := neg_head k
  have hl := len_dec n.natAbs (by have := k.1; omega)
  have hd := digs_dec n.natAbs
  rcases h with h | h | h
  · omega
  · omega
  · exact h hd

theorem no_plain {l : List UInt8} (h45 : l.head? ≠ some 45) (h : l.length = 0 ∨ 6 < l.length ∨ ¬ Digs l) (n : Int) : ¬ Inv l n := by
  intro k
  obtain ⟨hn, rfl⟩ := pos_head k h45
  have hl := len_dec n.natAbs (by have := k.2.1; omega)
  have hd := digs_dec n.natAbs
  rcases h with h | h | h
  · omega
  · omega
  · exact h hd

theorem val_minus {r : List UInt8} {n : Int} (k : Inv (45 :: r) n) : n = -(dv r : Int) := by
  obtain ⟨hn, rfl⟩ := neg_head k
  rw [dv_dec]; omega
theorem val_plain {l : List UInt8} {n : Int} (h45 : l.head? ≠ some 45) (k : Inv l n) : n = (dv l : Int) := by
  obtain ⟨hn, rfl⟩ := pos_head k h45
  rw [dv_dec]; omega

/-- the end: the numeral of what was read is the text, or the text is no numeral -/
theorem end_minus {r : List UInt8} (hg : Digs r) (hl : r.length ≤ 6) : (Lib.itoa (-(dv r : Int)) = 45 :: r → Rd (45 :: r) (-(dv r : Int)) true) ∧ (Lib.itoa (-(dv r : Int)) ≠ 45 :: r → Rd (45 :: r) 0 false) := by
  have hb := dv_lt6 r hg hl
  exact ⟨fun e => .yes ⟨by omega, by omega, e⟩, fun e => .no fun n k => e (by rw [← val_minus k]; exact k.2.2)⟩
theorem end_plain {l : List UInt8} (h45 : l.head? ≠ some 45) (hg : Digs l) (hl : l.length ≤ 6) : (Lib.itoa (dv l : Int) = l → Rd l (dv l : Int) true) ∧ (Lib.itoa (dv l : Int) ≠ l → Rd l 0 false) := by
  have hb := dv_lt6 l hg hl
  exact ⟨fun e => .yes ⟨by omega, by omega, e⟩, fun e => .no fun n k => e (by rw [← val_plain h45 k]; exact k.2.2)⟩

theorem one_minus {l : List UInt8} (hp : ¬ (1 < l.length ∧ l.head? = some 45)) (h : l.head? = some 45) : l = [45] := by
  match l, hp, h with
  | [c], _, h => simpa using h
  | c :: d :: r, hp, h => exact absurd ⟨by simp, h⟩ hp

theorem no_plain' {l : List UInt8} (hp : ¬ (1 < l.length ∧ l.head? = some 45)) (h : l.length = 0 ∨ 6 < l.length ∨ ¬ Digs l) (n : Int) : ¬ Inv l n := by
  by_cases h45 : l.head? = some 45
  · rw [one_minus hp h45]; exact no_minus (.inl rfl) n
  · exact no_plain h45 h n

theorem end_plain' {l : List UInt8} (hg : Digs l) (hl : l.length ≤ 6) : (Lib.itoa (dv l : Int) = l → Rd l (dv l : Int) true) ∧ (Lib.itoa (dv l : Int) ≠ l → Rd l 0 false) := by
  refine end_plain (fun h => ?_) hg hl
  cases l with
  | nil => simp at h
  | cons c r =>
    obtain rfl : c = 45 := by simpa using h
    have := hg 45 (by simp)
    have e45 : (45 : UInt8).toNat = 45 := rfl
    omega

end Go.Proofs.YtfjcibkgbalkaaaDoor.PlainNum

/- Plain words on the text of a face, and on short decimal texts. No condition. -/
namespace Go.Proofs.YtfjcibkgbalkaaaDoor.PlainFace
set_option linter.unusedVariables false
open Go.Proofs.YtfjcibkgbalkaaaDoor.PlainNum

def dig (d : Int) : UInt8 := UInt8.ofNat (48 + d.toNat)
theorem itoa_nn {n : Int} (h : 0 ≤ n) : Lib.itoa n = Lib.decDigits n.toNat := by
  rcases itoa_cases n with ⟨h1, _⟩ | ⟨_, e⟩
  · omega
  · rw [e]; congr 1; omega
theorem itoa_dig {d : Int} (h0 : 0 ≤ d) (h : d < 10) : Lib.itoa d = [dig d] := by
  rw [itoa_nn h0, Lib.decDigits_one (by omega)]
  rfl
theorem dec_step (n : Nat) (h : 10 ≤ n) : Lib.decDigits n = Lib.decDigits (n / 10) ++ [UInt8.ofNat (48 + n % 10)] := by
  rw [Lib.decDigits, dif_neg (by omega)]
theorem itoa_hund {r : Int} (h0 : 0 ≤ r) (h : r < 100) : Lib.itoa (100 + r) = [49, dig (r / 10), dig (r % 10)] := by
  rw [itoa_nn (by omega), dec_step _ (by omega), dec_step _ (by omega), Lib.decDigits_one (by omega)]
  unfold dig
  rw [show (100 + r).toNat / 10 / 10 = 1 by omega, show (100 + r).toNat / 10 % 10 = (r / 10).toNat by omega, show (100 + r).toNat % 10 = (r % 10).toNat by omega]
  rfl
theorem itoa_hund' {n : Int} (h0 : 0 ≤ n) : Lib.itoa (100 + n % 100) = [49, dig (n % 100 / 10), dig (n % 10)] := by
  rw [itoa_hund (by omega) (by omega), show n % 100 % 10 = n % 10 by omega]
theorem itoa_short {n : Int} (h1 : -999999 ≤ n) (h2 : n ≤ 999999) : (Lib.itoa n).length ≤ 7 := (itoa_len n h1 h2).2
/-- the text of a face -/
def faceL (n : Int) : List UInt8 := Lib.itoa (n / 100) ++ [46] ++ Lib.itoa (n / 10 % 10) ++ Lib.itoa (n % 10)
theorem faceL_len {n : Int} (h0 : 0 ≤ n) (h : n ≤ 9999) : (faceL n).length ≤ 30 := by
  unfold faceL
  have a := itoa_short (n := n / 100) (by omega) (by omega)
  have b := itoa_short (n := n / 10 % 10) (by omega) (by omega)
  have c := itoa_short (n := n % 10) (by omega) (by omega)
  simp only [List.length_append, List.length_cons, List.length_nil]
  omega
theorem faceL_hund {n : Int} (h0 : 0 ≤ n) (h : n ≤ 9999) : faceL n = Lib.itoa (n / 100) ++ [46] ++ [dig (n % 100 / 10), dig (n % 10)] := by
  unfold faceL
  rw [itoa_dig (d := n / 10 % 10) (by omega) (by omega), itoa_dig (d := n % 10) (by omega) (by omega), show n % 100 / 10 = n / 10 % 10 by omega, List.append_assoc]
  rfl
def str (l : List UInt8) : ByteArray := ⟨l.toArray⟩
def faceRes (n : Int) : ByteArray × Bool := if 0 ≤ n ∧ n ≤ 9999 then (str (faceL n), true) else (⟨#[]⟩, false)
theorem faceRes_yes {n : Int} (h0 : 0 ≤ n) (h : n ≤ 9999) : faceRes n = (str (faceL n), true) := by unfold faceRes; rw [if_pos ⟨h0, h⟩]
theorem faceRes_no {n : Int} (h : n < 0 ∨ 9999 < n) : faceRes n = (⟨#[]⟩, false) := by unfold faceRes; rw [if_neg (by omega)]
end Go.Proofs.YtfjcibkgbalkaaaDoor.PlainFace

/- Decimal texts as plain functions: Itoa and l1Num, for short numbers. No condition. -/
namespace Go.Proofs.YtfjcibkgbalkaaaDoor.QNum
set_option linter.unusedVariables false
set_option linter.unusedSimpArgs false
open Go.RowKit
open Go.Proofs.YtfjcibkgbalkaaaDoor.GoP Go.Proofs.YtfjcibkgbalkaaaDoor.QBase

def itoaB (n : Int) : ByteArray := ⟨(Lib.itoa n).toArray⟩
theorem itoa_eq {n : Int} (h1 : -999999 ≤ n) (h2 : n ≤ 999999) : GxStrconvItoa.P n = some (itoaB n) := by unfold GxStrconvItoa.P; rw [if_pos (by omega)]; rfl
theorem num_eq {n : Int} (h1 : -999999 ≤ n) (h2 : n ≤ 999999) : GsL1Num.P n = some (itoaB n) := by unfold GsL1Num.P; rw [if_pos (by omega)]; rfl
theorem itoaB_size {n : Int} (h1 : -999999 ≤ n) (h2 : n ≤ 999999) : (itoaB n).size ≤ 7 := by
  show (Lib.itoa n).toArray.size ≤ 7
  rw [List.size_toArray]; exact (PlainNum.itoa_len n h1 h2).2
theorem wrap_short {x : Int} (h1 : -9223372036854775808 ≤ x) (h2 : x ≤ 9223372036854775807) : IntKind.i64.wrap x = x := IntWalk.i64_in _ (by omega)
theorem fits_cat {a b : ByteArray} (h : a.size + b.size ≤ 9223372036854775807) {ρ : Type} {x : Option ρ} : guardK (a.size + b.size ≤ maxLen) x = x := guardK_pos (by unfold maxLen; exact h)
end Go.Proofs.YtfjcibkgbalkaaaDoor.QNum

/- Chapter 9: mails and routes: the plain functions of the program and of the reference agree, and the laws answer true. (Q9Text) No condition but those of each theorem. -/
namespace Go.Proofs.YtfjcibkgbalkaaaDoor.Q9Text
set_option linter.unusedVariables false
set_option linter.unusedSimpArgs false
open Go.RowKit
open Go.Proofs.YtfjcibkgbalkaaaDoor.GoP Go.Proofs.YtfjcibkgbalkaaaDoor.PlainStamp Go.Proofs.YtfjcibkgbalkaaaDoor.QBase Go.Proofs.YtfjcibkgbalkaaaDoor.Q9Mail Go.Proofs.YtfjcibkgbalkaaaDoor.QNum Go.Proofs.YtfjcibkgbalkaaaDoor.QLoop Go.Proofs.YtfjcibkgbalkaaaDoor.PMail

theorem text_same (x : Mail) : GiMailText.P x = GsMailText.P x ∧ ∃ a b, GsMailText.P x = some (a, b) := by
  have h3 := l9One_eq x
  have h4 := isMail_eq x
  have hof := fun hc => okM_of (x := x) hc
  obtain ⟨a, b, c, d⟩ := x
  simp only [GiMailText.P, GsMailText.P, unMail, h3, h4, Option.bind_some, letK, iteK_if]
  cases hc : okM ⟨a, b, c, d⟩ with
  | false => exact ⟨by simp, _, _, by simp; exact ⟨rfl, rfl⟩⟩
  | true =>
    obtain ⟨hb, hc, _, ha⟩ := hof hc
    dsimp only at hb hc ha
    have s1 := itoaB_size (n := a) (by omega) (by omega)
    have s2 := itoaB_size (n := b) (by omega) (by omega)
    have s3 := itoaB_size (n := c) (by omega) (by omega)
    have s4 := itoaB_size (n := d) (by omega) (by omega)
    simp only [itoa_eq (n := a) (by omega) (by omega), itoa_eq (n := b) (by omega) (by omega), itoa_eq (n := c) (by omega) (by omega), itoa_eq (n := d) (by omega) (by omega), num_eq (n := a) (by omega) (by omega), num_eq (n := b) (by omega) (by omega), num_eq (n := c) (by omega) (by omega), num_eq (n := d) (by omega) (by omega), Option.bind_some]
    refine ⟨by first | rfl | trivial, ?_⟩
    have e1 : (⟨#[32]⟩ : ByteArray).size = 1 := rfl
    have e2 : (⟨#[62]⟩ : ByteArray).size = 1 := rfl
    have e3 : (⟨#[45]⟩ : ByteArray).size = 1 := rfl
    simp only [Bool.not_true, Bool.false_eq_true, if_false]
    rw [guardK_pos (by unfold maxLen; omega)]
    iterate 5 rw [guardK_pos (by simp only [ByteArray.size_append]; unfold maxLen; omega)]
    exact ⟨_, _, rfl⟩
end Go.Proofs.YtfjcibkgbalkaaaDoor.Q9Text

/- Chapter 9: mails and routes: the plain functions of the program and of the reference agree, and the laws answer true. (QFoldS) No condition but those of each theorem. -/
namespace Go.Proofs.YtfjcibkgbalkaaaDoor.QFoldS
set_option linter.unusedVariables false
set_option linter.unusedSimpArgs false
open Go.RowKit
open Go.Proofs.YtfjcibkgbalkaaaDoor.GoP Go.Proofs.YtfjcibkgbalkaaaDoor.PlainStamp Go.Proofs.YtfjcibkgbalkaaaDoor.QBase Go.Proofs.YtfjcibkgbalkaaaDoor.QLoop

/-- a counted loop that carries a state through a list -/
theorem fold_cnt {α σ ρ : Type} {l : List α} {g : σ → α → σ} {J : σ → Prop} {f : Nat → σ → (σ → Option ρ) → (σ → Option ρ) → Option ρ} {fin : σ → Option ρ}
    (step : ∀ k x s nx, l[k]? = some x → J s → f k s nx fin = nx (g s x) ∧ J (g s x)) {s : σ} (hs : J s) : cntK f l.length 0 s fin = fin (l.foldl g s) := by
  have key : ∀ m k s, k + m = l.length → J s → cntK f m k s fin = fin ((l.drop k).foldl g s) := by
    intro m
    induction m with
    | zero => intro k s hk _; rw [List.drop_eq_nil_of_le (by omega)]; rfl
    | succ m ih =>
      intro k s hk hJ
      have hlt : k < l.length := by omega
      have hx : l[k]? = some l[k] := List.getElem?_eq_getElem hlt
      obtain ⟨h1, h2⟩ := step k l[k] s (fun s' => cntK f m (k + 1) s' fin) hx hJ
      show f k s _ fin = _
      rw [h1, ih (k + 1) _ (by omega) h2, List.drop_eq_getElem_cons hlt, List.foldl_cons]
  exact key l.length 0 s (by omega) hs
theorem range_at {n k x : Nat} (h : (List.range n)[k]? = some x) : k < n ∧ k = x := by
  have h1 := (List.getElem?_eq_some_iff.1 h).1
  rw [List.length_range] at h1
  rw [List.getElem?_range h1] at h
  exact ⟨h1, by simpa using h⟩
end Go.Proofs.YtfjcibkgbalkaaaDoor.QFoldS

/- Chapter 9: mails and routes: the plain functions of the program and of the reference agree, and the laws answer true. (Q9Arr) No condition but those of each theorem. -/
namespace Go.Proofs.YtfjcibkgbalkaaaDoor.Q9Arr
set_option linter.unusedVariables false
set_option linter.unusedSimpArgs false
open Go.RowKit
open Go.Proofs.YtfjcibkgbalkaaaDoor.GoP Go.Proofs.YtfjcibkgbalkaaaDoor.PlainStamp Go.Proofs.YtfjcibkgbalkaaaDoor.QBase Go.Proofs.YtfjcibkgbalkaaaDoor.QLoop Go.Proofs.YtfjcibkgbalkaaaDoor.PIntA10 Go.Proofs.YtfjcibkgbalkaaaDoor.GoA

/-- the number of an office in a row of ten -/
def at_ (s : List Int) (i : Int) : Int := s.getD i.toNat 0
theorem idx_at {s : List Int} {i : Int} (hs : s.length = 10) (hi : 0 ≤ i ∧ i ≤ 9) : idx s i = some (at_ s i) := by
  unfold idx at_
  rw [if_pos hi.1, List.getD_eq_getElem?_getD, List.getElem?_eq_getElem (by omega)]; rfl
theorem at_set {s : List Int} {i j : Int} (hs : s.length = 10) (hi : 0 ≤ i ∧ i ≤ 9) (hj : 0 ≤ j ∧ j ≤ 9) (v : Int) : at_ (s.set i.toNat v) j = if j = i then v else at_ s j := by
  unfold at_
  rw [List.getD_eq_getElem?_getD, List.getD_eq_getElem?_getD]
  by_cases h : j = i
  · subst h; rw [if_pos rfl, List.getElem?_set_self (by omega)]; rfl
  · rw [if_neg h, List.getElem?_set_ne (by omega)]
theorem at_rep {v i : Int} (hi : 0 ≤ i ∧ i ≤ 9) : at_ (List.replicate 10 v) i = v := by
  unfold at_
  rw [List.getD_eq_getElem?_getD, List.getElem?_replicate, if_pos (by omega)]; rfl
def toA (s : List Int) : IntA10 := IntA10.mk (nth s 0) (nth s 1) (nth s 2) (nth s 3) (nth s 4) (nth s 5) (nth s 6) (nth s 7) (nth s 8) (nth s 9)
theorem ten {s : List Int} (hs : s.length = 10) : [(toA s).x0, (toA s).x1, (toA s).x2, (toA s).x3, (toA s).x4, (toA s).x5, (toA s).x6, (toA s).x7, (toA s).x8, (toA s).x9] = s := by
  match s, hs with
  | [a, b, c, d, e, f, g, h, i, j], _ => rfl
theorem filled_eq (v : Int) : GiFilledWith.P v = some (toA (List.replicate 10 v)) := rfl
theorem un_eq {ρ : Type} (s : IntA10) (f : Int → Int → Int → Int → Int → Int → Int → Int → Int → Int → Option ρ) : unIntA10 s f = f s.x0 s.x1 s.x2 s.x3 s.x4 s.x5 s.x6 s.x7 s.x8 s.x9 := rfl
end Go.Proofs.YtfjcibkgbalkaaaDoor.Q9Arr

/- Lists of valid records in strictly rising order of any kind; texts in the order of their bytes. (QOrd) No condition but those of each theorem. -/
namespace Go.Proofs.YtfjcibkgbalkaaaDoor.QOrd
set_option linter.unusedVariables false
set_option linter.unusedSimpArgs false
open Go.RowKit
open Go.Proofs.YtfjcibkgbalkaaaDoor.GoP Go.Proofs.YtfjcibkgbalkaaaDoor.PlainStamp Go.Proofs.YtfjcibkgbalkaaaDoor.QBase Go.Proofs.YtfjcibkgbalkaaaDoor.QLoop

/-- texts in the order of their bytes -/
def bl (a b : ByteArray) : Bool := Op.bytesLess a.toList b.toList
theorem bl_self' : ∀ x, Op.bytesLess x x = false
  | [] => rfl
  | a :: x => by
    have h1 : ¬ a < a := fun k => by rw [UInt8.lt_iff_toNat_lt] at k; omega
    simp [Op.bytesLess, h1, bl_self' x]
theorem bl_total' : ∀ x y, x ≠ y → Op.bytesLess x y = !(Op.bytesLess y x)
  | [], [], h => absurd rfl h
  | [], b :: y, _ => by simp [Op.bytesLess]
  | a :: x, [], _ => by simp [Op.bytesLess]
  | a :: x, b :: y, h => by
    by_cases hab : a = b
    · subst hab
      have h1 : ¬ a < a := fun k => by rw [UInt8.lt_iff_toNat_lt] at k; omega
      have := bl_total' x y (fun e => h (by rw [e]))
      simp [Op.bytesLess, h1, this]
    · have hne : a.toNat ≠ b.toNat := fun e => hab (UInt8.toNat_inj.1 e)
      by_cases hlt : a < b
      · have h2 : ¬ b < a := fun k => by rw [UInt8.lt_iff_toNat_lt] at k hlt; omega
        simp [Op.bytesLess, hlt, h2, Ne.symm hab]
      · have h2 : b < a := by rw [UInt8.lt_iff_toNat_lt] at hlt ⊢; omega
        simp [Op.bytesLess, hlt, h2, hab]
theorem bl_trans' : ∀ x y z, Op.bytesLess x y = true → Op.bytesLess y z = true → Op.bytesLess x z = true
  | [], _, [], h1, h2 => by rename_i y; cases y <;> simp [Op.bytesLess] at h1 h2
  | [], _, c :: z, _, _ => by simp [Op.bytesLess]
  | a :: x, [], _, h1, _ => by simp [Op.bytesLess] at h1
  | a :: x, b :: y, [], _, h2 => by simp [Op.bytesLess] at h2
  | a :: x, b :: y, c :: z, h1, h2 => by
    simp only [Op.bytesLess, Bool.or_eq_true, decide_eq_true_eq, Bool.and_eq_true, beq_iff_eq] at h1 h2 ⊢
    rcases h1 with h1 | ⟨rfl, h1⟩
    · rcases h2 with h2 | ⟨rfl, h2⟩
      · left; rw [UInt8.lt_iff_toNat_lt] at h1 h2 ⊢; omega
      · left; exact h1
    · rcases h2 with h2 | ⟨rfl, h2⟩
      · left; exact h2
      · right; exact ⟨rfl, bl_trans' x y z h1 h2⟩
theorem list_inj {a b : ByteArray} (h : a.toList = b.toList) : a = b := by
  rw [Lib.toList_data, Lib.toList_data] at h
  cases a; cases b; congr 1; exact Array.toList_inj.1 h
theorem bl_self (a : ByteArray) : bl a a = false := bl_self' _
theorem bl_total {a b : ByteArray} (h : a ≠ b) : bl a b = !(bl b a) := bl_total' _ _ (fun e => h (list_inj e))
theorem bl_trans {a b c : ByteArray} (h1 : bl a b = true) (h2 : bl b c = true) : bl a c = true := bl_trans' _ _ _ h1 h2
theorem bl_asymm {a b : ByteArray} (h : bl a b = true) : bl b a = false := by
  by_cases e : a = b
  · rw [e]; exact bl_self b
  · rw [bl_total e] at h; simpa using h
theorem bl_ne {a b : ByteArray} (h : bl a b = true) : a ≠ b := fun e => by rw [e, bl_self] at h; exact absurd h (by simp)
/-- 'not above', as the program asks it -/
theorem bl_le (a b : ByteArray) : (Op.bytesLess a.toList b.toList || a.toList == b.toList) = !(bl b a) := by
  by_cases e : a = b
  · subst e; rw [bl_self]; simp
  · have h1 : (a.toList == b.toList) = false := by rw [beq_eq_false_iff_ne]; exact fun h => e (list_inj h)
    rw [h1, Bool.or_false]; exact bl_total e
theorem bl_lt (a b : ByteArray) : Op.bytesLess a.toList b.toList = bl a b := rfl
theorem eq_list (a b : ByteArray) : (a.toList == b.toList) = decide (a = b) := by
  by_cases e : a = b
  · subst e; simp
  · rw [decide_eq_false e, beq_eq_false_iff_ne]; exact fun h => e (list_inj h)

/-- valid, and behind the one ahead of it -/
def riseAt {α : Type} (ok : α → Bool) (lt : α → α → Bool) (l : List α) (k : Nat) : Bool :=
  match l[k]? with
  | none => true
  | some s => ok s && (decide (k = 0) || (match l[k-1]? with | none => true | some r => lt r s))
def riseTo {α : Type} (ok : α → Bool) (lt : α → α → Bool) (l : List α) (k : Nat) : Bool := (List.range k).all (riseAt ok lt l)
theorem riseTo_zero {α : Type} (ok : α → Bool) (lt : α → α → Bool) (l : List α) : riseTo ok lt l 0 = true := rfl
theorem riseTo_succ {α : Type} (ok : α → Bool) (lt : α → α → Bool) (l : List α) (k : Nat) : riseTo ok lt l (k + 1) = (riseTo ok lt l k && riseAt ok lt l k) := by simp [riseTo, List.range_succ, List.all_append]
theorem riseTo_not {α : Type} {ok : α → Bool} {lt : α → α → Bool} {l : List α} {k n : Nat} (h : riseAt ok lt l k = false) (hk : k < n) : riseTo ok lt l n = false := by
  unfold riseTo
  rw [Bool.eq_false_iff]
  intro ha
  have := List.all_eq_true.1 ha k (List.mem_range.2 hk)
  rw [h] at this; exact absurd this (by simp)
def riseL {α : Type} (m : Nat) (ok : α → Bool) (lt : α → α → Bool) (l : List α) : Bool := decide (l.length ≤ m) && riseTo ok lt l l.length
theorem riseAt_bad {α : Type} {ok : α → Bool} {lt : α → α → Bool} {l : List α} {k : Nat} {s : α} (hs : l[k]? = some s) (h : ok s = false) : riseAt ok lt l k = false := by unfold riseAt; rw [hs]; simp [h]
theorem riseAt_first {α : Type} {ok : α → Bool} {lt : α → α → Bool} {l : List α} {s : α} (hs : l[0]? = some s) (h : ok s = true) : riseAt ok lt l 0 = true := by unfold riseAt; rw [hs]; simp [h]
theorem riseAt_next {α : Type} {ok : α → Bool} {lt : α → α → Bool} {l : List α} {k : Nat} {s r : α} (hs : l[k]? = some s) (hr : l[k-1]? = some r) (hk : 0 < k) (h : ok s = true) : riseAt ok lt l k = lt r s := by
  unfold riseAt; rw [hs]; simp only [hr, h, Bool.true_and, decide_eq_false (show ¬ k = 0 by omega), Bool.false_or]
theorem riseL_len {α : Type} {m : Nat} {ok : α → Bool} {lt : α → α → Bool} {l : List α} (h : riseL m ok lt l = true) : l.length ≤ m := by unfold riseL at h; simp only [Bool.and_eq_true, decide_eq_true_eq] at h; exact h.1
theorem riseTo_at {α : Type} {ok : α → Bool} {lt : α → α → Bool} {l : List α} {n : Nat} (h : riseTo ok lt l n = true) {k : Nat} (hk : k < n) : riseAt ok lt l k = true := List.all_eq_true.1 h k (List.mem_range.2 hk)
theorem riseL_ok {α : Type} {m : Nat} {ok : α → Bool} {lt : α → α → Bool} {l : List α} (h : riseL m ok lt l = true) {k : Nat} {s : α} (hs : l[k]? = some s) : ok s = true := by
  unfold riseL at h
  simp only [Bool.and_eq_true, decide_eq_true_eq] at h
  have := riseTo_at h.2 (List.getElem?_eq_some_iff.1 hs).1
  unfold riseAt at this
  rw [hs] at this
  simp only [Bool.and_eq_true] at this
  exact this.1
theorem riseL_mem {α : Type} {m : Nat} {ok : α → Bool} {lt : α → α → Bool} {l : List α} (h : riseL m ok lt l = true) {s : α} (hs : s ∈ l) : ok s = true := by
  obtain ⟨k, hk⟩ := List.getElem?_of_mem hs
  exact riseL_ok h hk
theorem riseL_step {α : Type} {m : Nat} {ok : α → Bool} {lt : α → α → Bool} {l : List α} (h : riseL m ok lt l = true) {k : Nat} {x y : α} (hx : l[k]? = some x) (hy : l[k + 1]? = some y) : lt x y = true := by
  unfold riseL at h
  simp only [Bool.and_eq_true, decide_eq_true_eq] at h
  have := riseTo_at h.2 (List.getElem?_eq_some_iff.1 hy).1
  unfold riseAt at this
  rw [hy] at this
  simp only [Nat.add_sub_cancel, hx, Bool.and_eq_true, Bool.or_eq_true, decide_eq_true_eq] at this
  rcases this.2 with h0 | h0
  · omega
  · exact h0
theorem riseL_lt {α : Type} {m : Nat} {ok : α → Bool} {lt : α → α → Bool} (tr : ∀ a b c, lt a b = true → lt b c = true → lt a c = true) {l : List α} (h : riseL m ok lt l = true) {i j : Nat} {x y : α} (hij : i < j) (hx : l[i]? = some x) (hy : l[j]? = some y) : lt x y = true := by
  obtain ⟨d, rfl⟩ : ∃ d, j = i + d + 1 := ⟨j - i - 1, by omega⟩
  clear hij
  induction d generalizing y with
  | zero => exact riseL_step h hx hy
  | succ d ih =>
    obtain ⟨z, hz, _⟩ := at_lt (l := l) (k := i + d + 1) (by have := (List.getElem?_eq_some_iff.1 hy).1; omega)
    exact tr _ _ _ (ih hz) (riseL_step (k := i + d + 1) h hz (by rw [← hy]; rfl))
/-- a loop that goes through a list of records and stops with 'no' at the first that is bad -/
theorem rise_loop {α : Type} {ok : α → Bool} {lt : α → α → Bool} {l : List α} {R : Type} {no : R} {f : Nat → Unit → (Unit → Option R) → (Unit → Option R) → Option R} {fin : Unit → Option R}
    (step : ∀ k nx s, l[k]? = some s → (ok s = false → f k () nx fin = some no) ∧ (ok s = true → (k = 0 → f k () nx fin = nx ()) ∧ (0 < k → ∀ r, l[k-1]? = some r → (lt r s = true → f k () nx fin = nx ()) ∧ (lt r s = false → f k () nx fin = some no)))) :
    cntK f l.length 0 () fin = if riseTo ok lt l l.length then fin () else some no := by
  have key : ∀ m k, k + m = l.length → riseTo ok lt l k = true → cntK f m k () fin = if riseTo ok lt l l.length then fin () else some no := by
    intro m
    induction m with
    | zero => intro k hk hu; obtain rfl : k = l.length := by omega
              rw [hu]; rfl
    | succ m ih =>
      intro k hk hu
      have hlt : k < l.length := by omega
      obtain ⟨s, hs, _⟩ := at_lt hlt
      obtain ⟨h1, h2⟩ := step k (fun s' => cntK f m (k + 1) s' fin) s hs
      show f k () _ fin = _
      cases hok : ok s with
      | false => rw [h1 hok, riseTo_not (riseAt_bad hs hok) hlt]; rfl
      | true =>
        obtain ⟨h3, h4⟩ := h2 hok
        by_cases hk0 : k = 0
        · rw [h3 hk0]
          subst hk0
          exact ih 1 (by omega) (by rw [riseTo_succ, hu, riseAt_first hs hok]; rfl)
        · obtain ⟨r, hr, _⟩ := at_lt (l := l) (k := k - 1) (by omega)
          obtain ⟨h5, h6⟩ := h4 (by omega) r hr
          cases hl : lt r s with
          | true =>
            rw [h5 hl]
            exact ih (k + 1) (by omega) (by rw [riseTo_succ, hu, riseAt_next hs hr (by omega) hok, hl]; rfl)
          | false => rw [h6 hl, riseTo_not (by rw [riseAt_next hs hr (by omega) hok, hl]) hlt]; rfl
  exact key l.length 0 (by omega) (riseTo_zero ok lt l)
end Go.Proofs.YtfjcibkgbalkaaaDoor.QOrd

/- Chapter 9: mails and routes: the plain functions of the program and of the reference agree, and the laws answer true. (QRiseV) No condition but those of each theorem. -/
namespace Go.Proofs.YtfjcibkgbalkaaaDoor.QRiseV
set_option linter.unusedVariables false
set_option linter.unusedSimpArgs false
open Go.RowKit
open Go.Proofs.YtfjcibkgbalkaaaDoor.GoP Go.Proofs.YtfjcibkgbalkaaaDoor.PlainStamp Go.Proofs.YtfjcibkgbalkaaaDoor.QBase Go.Proofs.YtfjcibkgbalkaaaDoor.QOrd Go.Proofs.YtfjcibkgbalkaaaDoor.QLoop

/-- as rise_loop, with what is known of the one ahead -/
theorem rise_loopV {α : Type} {ok : α → Bool} {lt : α → α → Bool} {l : List α} {R : Type} {no : R} {f : Nat → Unit → (Unit → Option R) → (Unit → Option R) → Option R} {fin : Unit → Option R}
    (step : ∀ k nx s, l[k]? = some s → (ok s = false → f k () nx fin = some no) ∧ (ok s = true → (k = 0 → f k () nx fin = nx ()) ∧ (0 < k → ∀ r, l[k-1]? = some r → ok r = true → (lt r s = true → f k () nx fin = nx ()) ∧ (lt r s = false → f k () nx fin = some no)))) :
    cntK f l.length 0 () fin = if riseTo ok lt l l.length then fin () else some no := by
  have key : ∀ m k, k + m = l.length → riseTo ok lt l k = true → cntK f m k () fin = if riseTo ok lt l l.length then fin () else some no := by
    intro m
    induction m with
    | zero => intro k hk hu; obtain rfl : k = l.length := by omega
              rw [hu]; rfl
    | succ m ih =>
      intro k hk hu
      have hlt : k < l.length := by omega
      obtain ⟨s, hs, _⟩ := at_lt hlt
      obtain ⟨h1, h2⟩ := step k (fun s' => cntK f m (k + 1) s' fin) s hs
      show f k () _ fin = _
      cases hok : ok s with
      | false => rw [h1 hok, riseTo_not (riseAt_bad hs hok) hlt]; rfl
      | true =>
        obtain ⟨h3, h4⟩ := h2 hok
        by_cases hk0 : k = 0
        · rw [h3 hk0]
          subst hk0
          exact ih 1 (by omega) (by rw [riseTo_succ, hu, riseAt_first hs hok]; rfl)
        · obtain ⟨r, hr, _⟩ := at_lt (l := l) (k := k - 1) (by omega)
          have hokr : ok r = true := by
            have := riseTo_at hu (k := k - 1) (by omega)
            unfold riseAt at this; rw [hr] at this
            simp only [Bool.and_eq_true] at this; exact this.1
          obtain ⟨h5, h6⟩ := h4 (by omega) r hr hokr
          cases hl : lt r s with
          | true =>
            rw [h5 hl]
            exact ih (k + 1) (by omega) (by rw [riseTo_succ, hu, riseAt_next hs hr (by omega) hok, hl]; rfl)
          | false => rw [h6 hl, riseTo_not (by rw [riseAt_next hs hr (by omega) hok, hl]) hlt]; rfl
  exact key l.length 0 (by omega) (riseTo_zero ok lt l)
end Go.Proofs.YtfjcibkgbalkaaaDoor.QRiseV

/- Chapter 8: rates: the plain functions of the program and of the reference agree, and the laws answer true. (QRiseL) No condition but those of each theorem. -/
namespace Go.Proofs.YtfjcibkgbalkaaaDoor.QRiseL
set_option linter.unusedVariables false
set_option linter.unusedSimpArgs false
open Go.RowKit
open Go.Proofs.YtfjcibkgbalkaaaDoor.GoP Go.Proofs.YtfjcibkgbalkaaaDoor.PlainStamp Go.Proofs.YtfjcibkgbalkaaaDoor.QBase Go.Proofs.YtfjcibkgbalkaaaDoor.QOrd Go.Proofs.YtfjcibkgbalkaaaDoor.QLoop

/-- the same, for a loop that counts by itself and stops behind m: the list may be longer than m -/
theorem rise_lp {α R : Type} {ok : α → Bool} {lt : α → α → Bool} {l : List α} {m : Nat} {no : R} {yes : Option R} {f : Int → (Int → Option R) → (Int → Option R) → Option R} {fin : Int → Option R}
    (stop : ∀ (k : Nat) nx, (l.length ≤ k ∨ m < k) → k ≤ l.length → k ≤ m + 1 → f (k : Int) nx fin = fin (k : Int))
    (end_ : ∀ k : Int, fin k = if l.length ≤ m then yes else some no)
    (step : ∀ (k : Nat) nx s, k ≤ m → l[k]? = some s → (ok s = false → f (k : Int) nx fin = some no) ∧ (ok s = true → (k = 0 → f (k : Int) nx fin = nx ((k + 1 : Nat) : Int)) ∧ (0 < k → ∀ r, l[k-1]? = some r → ok r = true → (lt r s = true → f (k : Int) nx fin = nx ((k + 1 : Nat) : Int)) ∧ (lt r s = false → f (k : Int) nx fin = some no)))) :
    ∀ fuel k, m + 1 - k < fuel → k ≤ l.length → k ≤ m + 1 → riseTo ok lt l k = true → loopK f fuel (k : Int) fin = if riseL m ok lt l = true then yes else some no := by
  intro fuel
  induction fuel with
  | zero => intro k h; omega
  | succ n ih =>
    intro k hf hk hm hu
    show f (k : Int) (fun s' => loopK f n s' fin) fin = _
    by_cases hs : l.length ≤ k ∨ m < k
    · rw [stop k _ hs hk hm, end_]
      by_cases hl : l.length ≤ m
      · obtain rfl : k = l.length := by omega
        rw [if_pos hl, if_pos (by unfold riseL; simp [hl, hu])]
      · rw [if_neg hl, if_neg (by unfold riseL; simp [hl])]
    · have hlt : k < l.length := by omega
      obtain ⟨s, hs', _⟩ := at_lt hlt
      obtain ⟨h1, h2⟩ := step k (fun s' => loopK f n s' fin) s (by omega) hs'
      have bad : riseAt ok lt l k = false → riseL m ok lt l = false := by
        intro h; unfold riseL; rw [riseTo_not h hlt, Bool.and_false]
      cases hok : ok s with
      | false => rw [h1 hok, bad (riseAt_bad hs' hok)]; rfl
      | true =>
        obtain ⟨h3, h4⟩ := h2 hok
        by_cases hk0 : k = 0
        · rw [h3 hk0]
          subst hk0
          exact ih 1 (by omega) (by omega) (by omega) (by rw [riseTo_succ, hu, riseAt_first hs' hok]; rfl)
        · obtain ⟨r, hr, _⟩ := at_lt (l := l) (k := k - 1) (by omega)
          have hokr : ok r = true := by
            have := riseTo_at hu (k := k - 1) (by omega)
            unfold riseAt at this; rw [hr] at this
            simp only [Bool.and_eq_true] at this; exact this.1
          obtain ⟨h5, h6⟩ := h4 (by omega) r hr hokr
          cases hl : lt r s with
          | true =>
            rw [h5 hl]
            exact ih (k + 1) (by omega) (by omega) (by omega) (by rw [riseTo_succ, hu, riseAt_next hs' hr (by omega) hok, hl]; rfl)
          | false => rw [h6 hl, bad (by rw [riseAt_next hs' hr (by omega) hok, hl])]; rfl
/-- what each step gives holds between any two -/
theorem riseL_rel {α : Type} {m : Nat} {ok : α → Bool} {lt : α → α → Bool} (rel : α → α → Prop) (st : ∀ a b, ok a = true → ok b = true → lt a b = true → rel a b) (tr : ∀ a b c, rel a b → rel b c → rel a c) {l : List α} (h : riseL m ok lt l = true) {i j : Nat} {x y : α} (hij : i < j) (hx : l[i]? = some x) (hy : l[j]? = some y) : rel x y := by
  obtain ⟨d, rfl⟩ : ∃ d, j = i + d + 1 := ⟨j - i - 1, by omega⟩
  clear hij
  induction d generalizing y with
  | zero => exact st _ _ (riseL_ok h hx) (riseL_ok h hy) (riseL_step h hx hy)
  | succ d ih =>
    obtain ⟨z, hz, _⟩ := at_lt (l := l) (k := i + d + 1) (by have := (List.getElem?_eq_some_iff.1 hy).1; omega)
    exact tr _ _ _ (ih hz) (st _ _ (riseL_ok h hz) (riseL_ok h hy) (riseL_step (k := i + d + 1) h hz (by rw [← hy]; rfl)))
end Go.Proofs.YtfjcibkgbalkaaaDoor.QRiseL

/- Chapter 9: mails and routes: the plain functions of the program and of the reference agree, and the laws answer true. (Q9List) No condition but those of each theorem. -/
namespace Go.Proofs.YtfjcibkgbalkaaaDoor.Q9List
set_option linter.unusedVariables false
set_option linter.unusedSimpArgs false
open Go.RowKit
open Go.Proofs.YtfjcibkgbalkaaaDoor.GoP Go.Proofs.YtfjcibkgbalkaaaDoor.PlainStamp Go.Proofs.YtfjcibkgbalkaaaDoor.QBase Go.Proofs.YtfjcibkgbalkaaaDoor.QRiseV Go.Proofs.YtfjcibkgbalkaaaDoor.QRiseL Go.Proofs.YtfjcibkgbalkaaaDoor.QOrd Go.Proofs.YtfjcibkgbalkaaaDoor.Q9Mail Go.Proofs.YtfjcibkgbalkaaaDoor.QLoop Go.Proofs.YtfjcibkgbalkaaaDoor.PMail

def goodM (l : List Mail) : Bool := riseL 20 okM ltM l
theorem isTime_eq (l : List Mail) (hl : l.length ≤ 9223372036854775807) : GiIsTimetable.P l = some (goodM l) := by
  simp only [GiIsTimetable.P, letK, iteK_if]
  by_cases h12 : l.length ≤ 20
  · rw [if_neg (by simp; omega), rise_loopV (ok := okM) (lt := ltM) (no := false)]
    · unfold goodM riseL; cases riseTo okM ltM l l.length <;> simp [h12, GiIsTimetable.e0]
    · intro k nx s hs
      have hi : idx l (k : Int) = some s := by rw [idx_nat, hs]
      have hk : k < l.length := (List.getElem?_eq_some_iff.1 hs).1
      simp only [GiIsTimetable.l0, hi, Option.bind_some, unMail, isMail_eq, letK, joinK, appK, iteK_if]
      refine ⟨fun h => by simp [h], fun h => ⟨fun h0 => by subst h0; simp [h], fun h0 r hr hokr => ?_⟩⟩
      rw [idx_pred h0 (by omega) hr]
      have hk0 : (0 : Int) < (k : Int) := by omega
      have hk1 : ¬ k = 0 := by omega
      obtain ⟨c, hc, hcc⟩ := compare_eq hokr h
      have he : ∀ x : Mail, Mail.mk x.leave x.from_ x.to_ x.arrive = x := fun x => rfl
      simp only [Option.bind_some, he, hc, h, ltM]
      exact ⟨fun hlt => by
        have : ¬ 0 ≤ c := by rw [hcc]; have := of_decide_eq_true hlt; omega
        simp [hk0, hk1, this], fun hge => by
        have : 0 ≤ c := by rw [hcc]; have := of_decide_eq_false hge; omega
        simp [hk0, hk1, this]⟩
  · rw [if_pos (by simp; omega)]; unfold goodM riseL; simp [h12]
theorem l9Good_eq (l : List Mail) (hl : l.length ≤ 9223372036854775807) : GsL9Good.P l = some (goodM l) := by
  simp only [GsL9Good.P]
  rw [rise_loopV (ok := okM) (lt := ltM) (no := false)]
  · unfold goodM riseL; simp only [GsL9Good.e0, letK]
    by_cases h12 : l.length ≤ 20
    · have : (l.length : Int) ≤ 20 := by omega
      cases riseTo okM ltM l l.length <;> simp [h12, this]
    · have : ¬ (l.length : Int) ≤ 20 := by omega
      cases riseTo okM ltM l l.length <;> simp [h12, this]
  · intro k nx s hs
    have hi : idx l (k : Int) = some s := by rw [idx_nat, hs]
    have hk : k < l.length := (List.getElem?_eq_some_iff.1 hs).1
    simp only [GsL9Good.l0, hi, Option.bind_some, unMail, l9One_eq, letK, joinK, appK, iteK_if]
    refine ⟨fun h => by simp [h], fun h => ⟨fun h0 => by subst h0; simp [h], fun h0 r hr hokr => ?_⟩⟩
    rw [idx_pred h0 (by omega) hr]
    have hk0 : (0 : Int) < (k : Int) := by omega
    have hk1 : ¬ k = 0 := by omega
    have he : ∀ x : Mail, Mail.mk x.leave x.from_ x.to_ x.arrive = x := fun x => rfl
    simp only [Option.bind_some, he, code_eq hokr, code_eq h, h, ltM]
    exact ⟨fun hlt => by
      have : ¬ codeM s ≤ codeM r := by have := of_decide_eq_true hlt; omega
      simp [hk0, hk1, this], fun hge => by
      have : codeM s ≤ codeM r := by have := of_decide_eq_false hge; omega
      simp [hk0, hk1, this]⟩
def askM (l : List Mail) (o m : Int) : Bool := goodM l && inB o 0 9 && inB m 0 9999
theorem canBegin_eq (l : List Mail) (hl : l.length ≤ 9223372036854775807) (o m : Int) : GiCanBegin.P l o m = some (askM l o m) := by
  simp only [GiCanBegin.P, isTime_eq l hl, isOffice_eq, isMinute_eq, Option.bind_some, joinK, appK, iteK_if, askM]
  cases goodM l <;> cases inB o 0 9 <;> simp
theorem l9Asked_eq (l : List Mail) (hl : l.length ≤ 9223372036854775807) (o m : Int) : GsL9Asked.P l o m = some (askM l o m) := by
  simp only [GsL9Asked.P, l9Good_eq l hl, l9Office_eq, l9Minute_eq, Option.bind_some, joinK, appK, iteK_if, askM]
  cases goodM l <;> cases inB o 0 9 <;> simp
theorem m_ok {l : List Mail} (h : goodM l = true) {k : Nat} {x : Mail} (hx : l[k]? = some x) : okM x = true := riseL_ok h hx
theorem m_mem {l : List Mail} (h : goodM l = true) {x : Mail} (hx : x ∈ l) : okM x = true := riseL_mem h hx
theorem m_len {l : List Mail} (h : goodM l = true) : l.length ≤ 20 := riseL_len h
theorem m_leave {l : List Mail} (h : goodM l = true) {i j : Nat} {x y : Mail} (hij : i < j) (hx : l[i]? = some x) (hy : l[j]? = some y) : x.leave ≤ y.leave := by
  have := riseL_rel (fun a b => a.leave ≤ b.leave) (fun a b ha hb hlt => by
    have h1 := okM_of ha
    have h2 := okM_of hb
    have h3 := of_decide_eq_true hlt
    unfold codeM at h3
    omega) (fun a b c h1 h2 => Int.le_trans h1 h2) h hij hx hy
  exact this
theorem ask_of {l : List Mail} {o m : Int} (h : askM l o m = true) : goodM l = true ∧ (0 ≤ o ∧ o ≤ 9) ∧ (0 ≤ m ∧ m ≤ 9999) := by
  unfold askM at h
  simp only [Bool.and_eq_true] at h
  exact ⟨h.1.1, inB_of h.1.2, inB_of h.2⟩
end Go.Proofs.YtfjcibkgbalkaaaDoor.Q9List

/- Chapter 9: mails and routes: the plain functions of the program and of the reference agree, and the laws answer true. (Q9Dual) No condition but those of each theorem. -/
namespace Go.Proofs.YtfjcibkgbalkaaaDoor.Q9Dual
set_option linter.unusedVariables false
set_option linter.unusedSimpArgs false
open Go.RowKit
open Go.Proofs.YtfjcibkgbalkaaaDoor.GoP Go.Proofs.YtfjcibkgbalkaaaDoor.PlainStamp Go.Proofs.YtfjcibkgbalkaaaDoor.QBase Go.Proofs.YtfjcibkgbalkaaaDoor.Q9Arr Go.Proofs.YtfjcibkgbalkaaaDoor.Q9List Go.Proofs.YtfjcibkgbalkaaaDoor.Q9Mail Go.Proofs.YtfjcibkgbalkaaaDoor.QLoop Go.Proofs.YtfjcibkgbalkaaaDoor.PMail Go.Proofs.YtfjcibkgbalkaaaDoor.PIntA10

/-- a mail that can be reached takes its minute on -/
def stepE (s : List Int) (x : Mail) : List Int := if at_ s x.from_ ≤ x.leave then s.set x.to_.toNat (min (at_ s x.to_) x.arrive) else s
def startE (o m : Int) : List Int := (List.replicate 10 10000).set o.toNat m
def earlyM (l : List Mail) (o m : Int) : List Int := l.foldl stepE (startE o m)
/-- a mail from whose end one still comes in time tells the minute at which it leaves -/
def stepL (x : Mail) (t : List Int) : List Int := if x.arrive ≤ at_ t x.to_ then t.set x.from_.toNat (max (at_ t x.from_) x.leave) else t
def startL (o m : Int) : List Int := (List.replicate 10 (-1)).set o.toNat m
def lateM (l : List Mail) (o m : Int) : List Int := l.foldr stepL (startL o m)
theorem stepE_len {s : List Int} {x : Mail} : (stepE s x).length = s.length := by unfold stepE; split <;> simp
theorem stepL_len {s : List Int} {x : Mail} : (stepL x s).length = s.length := by unfold stepL; split <;> simp
theorem foldE_len (l : List Mail) : ∀ {s : List Int}, (l.foldl stepE s).length = s.length := by
  induction l with
  | nil => intro s; rfl
  | cons x l ih => intro s; rw [List.foldl_cons, ih, stepE_len]
theorem foldL_len (l : List Mail) {t : List Int} : (l.foldr stepL t).length = t.length := by
  induction l with
  | nil => rfl
  | cons x l ih => rw [List.foldr_cons, stepL_len, ih]
theorem startE_len (o m : Int) : (startE o m).length = 10 := by simp [startE]
theorem startL_len (o m : Int) : (startL o m).length = 10 := by simp [startL]
theorem early_len (l : List Mail) (o m : Int) : (earlyM l o m).length = 10 := by unfold earlyM; rw [foldE_len, startE_len]
theorem late_len (l : List Mail) (o m : Int) : (lateM l o m).length = 10 := by unfold lateM; rw [foldL_len, startL_len]
theorem startE_at {o m i : Int} (ho : 0 ≤ o ∧ o ≤ 9) (hi : 0 ≤ i ∧ i ≤ 9) : at_ (startE o m) i = if i = o then m else 10000 := by
  unfold startE; rw [at_set (by simp) ho hi, at_rep hi]
theorem startL_at {o m i : Int} (ho : 0 ≤ o ∧ o ≤ 9) (hi : 0 ≤ i ∧ i ≤ 9) : at_ (startL o m) i = if i = o then m else -1 := by
  unfold startL; rw [at_set (by simp) ho hi, at_rep hi]
theorem stepE_at {s : List Int} {x : Mail} {i : Int} (hs : s.length = 10) (hx : okM x = true) (hi : 0 ≤ i ∧ i ≤ 9) : at_ (stepE s x) i = if at_ s x.from_ ≤ x.leave ∧ i = x.to_ then min (at_ s i) x.arrive else at_ s i := by
  unfold stepE
  by_cases h : at_ s x.from_ ≤ x.leave
  · rw [if_pos h, at_set hs (okM_of hx).2.1 hi]
    by_cases e : i = x.to_
    · rw [if_pos e, if_pos ⟨h, e⟩, e]
    · rw [if_neg e, if_neg (fun q => e q.2)]
  · rw [if_neg h, if_neg (fun q => h q.1)]
theorem stepL_at {t : List Int} {x : Mail} {i : Int} (hs : t.length = 10) (hx : okM x = true) (hi : 0 ≤ i ∧ i ≤ 9) : at_ (stepL x t) i = if x.arrive ≤ at_ t x.to_ ∧ i = x.from_ then max (at_ t i) x.leave else at_ t i := by
  unfold stepL
  by_cases h : x.arrive ≤ at_ t x.to_
  · rw [if_pos h, at_set hs (okM_of hx).1 hi]
    by_cases e : i = x.from_
    · rw [if_pos e, if_pos ⟨h, e⟩, e]
    · rw [if_neg e, if_neg (fun q => e q.2)]
  · rw [if_neg h, if_neg (fun q => h q.1)]
/-- at some office one is not later than one may be -/
def meets (s t : List Int) : Prop := ∃ i, (0 ≤ i ∧ i ≤ 9) ∧ at_ s i ≤ at_ t i
theorem meets_step {s t : List Int} {x : Mail} (hs : s.length = 10) (ht : t.length = 10) (hx : okM x = true) : meets (stepE s x) t ↔ meets s (stepL x t) := by
  have hm := okM_of hx
  constructor
  · rintro ⟨i, hi, h⟩
    rw [stepE_at hs hx hi] at h
    split at h
    · rename_i hc
      by_cases h1 : at_ s i ≤ at_ t i
      · refine ⟨i, hi, ?_⟩; rw [stepL_at ht hx hi]; split <;> omega
      · refine ⟨x.from_, hm.1, ?_⟩
        rw [stepL_at ht hx hm.1, if_pos ⟨by rw [← hc.2]; omega, rfl⟩]
        have := hc.1; omega
    · refine ⟨i, hi, ?_⟩; rw [stepL_at ht hx hi]; split <;> omega
  · rintro ⟨i, hi, h⟩
    rw [stepL_at ht hx hi] at h
    split at h
    · rename_i hc
      by_cases h1 : at_ s i ≤ at_ t i
      · refine ⟨i, hi, ?_⟩; rw [stepE_at hs hx hi]; split <;> omega
      · refine ⟨x.to_, hm.2.1, ?_⟩
        rw [stepE_at hs hx hm.2.1, if_pos ⟨by rw [← hc.2]; omega, rfl⟩]
        have := hc.1; omega
    · refine ⟨i, hi, ?_⟩; rw [stepE_at hs hx hi]; split <;> omega
theorem meets_all (l : List Mail) (hl : ∀ x ∈ l, okM x = true) : ∀ {s t : List Int}, s.length = 10 → t.length = 10 → (meets (l.foldl stepE s) t ↔ meets s (l.foldr stepL t)) := by
  induction l with
  | nil => intro s t _ _; exact Iff.rfl
  | cons x l ih =>
    intro s t hs ht
    rw [List.foldl_cons, List.foldr_cons, ih (fun y hy => hl y (List.mem_cons_of_mem _ hy)) (by rw [stepE_len, hs]) ht]
    exact meets_step hs (by rw [foldL_len, ht]) (hl x (List.mem_cons_self ..))
/-- no minute falls below the first, and none rises -/
theorem foldE_low (l : List Mail) (hl : ∀ x ∈ l, okM x = true) {m : Int} : ∀ {s : List Int}, s.length = 10 → (∀ i, 0 ≤ i ∧ i ≤ 9 → m ≤ at_ s i) → ∀ i, 0 ≤ i ∧ i ≤ 9 → m ≤ at_ (l.foldl stepE s) i := by
  induction l with
  | nil => intro s _ h; exact h
  | cons x l ih =>
    intro s hs h
    rw [List.foldl_cons]
    refine ih (fun y hy => hl y (List.mem_cons_of_mem _ hy)) (by rw [stepE_len, hs]) (fun i hi => ?_)
    have hx := hl x (List.mem_cons_self ..)
    have hm := okM_of hx
    rw [stepE_at hs hx hi]
    have h1 := h i hi
    have h2 := h x.from_ hm.1
    split <;> omega
theorem foldE_up (l : List Mail) (hl : ∀ x ∈ l, okM x = true) {i : Int} (hi : 0 ≤ i ∧ i ≤ 9) : ∀ {s : List Int}, s.length = 10 → at_ (l.foldl stepE s) i ≤ at_ s i := by
  induction l with
  | nil => intro s _; exact Int.le_refl _
  | cons x l ih =>
    intro s hs
    rw [List.foldl_cons]
    refine Int.le_trans (ih (fun y hy => hl y (List.mem_cons_of_mem _ hy)) (by rw [stepE_len, hs])) ?_
    rw [stepE_at hs (hl x (List.mem_cons_self ..)) hi]
    split <;> omega
theorem foldL_up (l : List Mail) (hl : ∀ x ∈ l, okM x = true) {i : Int} (hi : 0 ≤ i ∧ i ≤ 9) {t : List Int} (ht : t.length = 10) : at_ t i ≤ at_ (l.foldr stepL t) i := by
  induction l with
  | nil => exact Int.le_refl _
  | cons x l ih =>
    rw [List.foldr_cons, stepL_at (by rw [foldL_len, ht]) (hl x (List.mem_cons_self ..)) hi]
    have := ih (fun y hy => hl y (List.mem_cons_of_mem _ hy))
    split <;> omega
theorem foldL_top (l : List Mail) (hl : ∀ x ∈ l, okM x = true) {B : Int} (hB : ∀ x ∈ l, x.leave ≤ B) {i : Int} (hi : 0 ≤ i ∧ i ≤ 9) {t : List Int} (ht : t.length = 10) : at_ (l.foldr stepL t) i ≤ max (at_ t i) B := by
  induction l with
  | nil => simp only [List.foldr_nil]; omega
  | cons x l ih =>
    rw [List.foldr_cons, stepL_at (by rw [foldL_len, ht]) (hl x (List.mem_cons_self ..)) hi]
    have h1 := ih (fun y hy => hl y (List.mem_cons_of_mem _ hy)) (fun y hy => hB y (List.mem_cons_of_mem _ hy))
    have h2 := hB x (List.mem_cons_self ..)
    split <;> omega
theorem early_low {l : List Mail} (hg : goodM l = true) {o m i : Int} (ho : 0 ≤ o ∧ o ≤ 9) (hm : m ≤ 9999) (hi : 0 ≤ i ∧ i ≤ 9) : m ≤ at_ (earlyM l o m) i :=
  foldE_low l (fun x hx => m_mem hg hx) (startE_len o m) (fun j hj => by rw [startE_at ho hj]; split <;> omega) i hi
theorem early_up {l : List Mail} (hg : goodM l = true) {o m i : Int} (ho : 0 ≤ o ∧ o ≤ 9) (hi : 0 ≤ i ∧ i ≤ 9) : at_ (earlyM l o m) i ≤ if i = o then m else 10000 := by
  have := foldE_up l (fun x hx => m_mem hg hx) hi (startE_len o m)
  rw [startE_at ho hi] at this; exact this
theorem early_top {l : List Mail} (hg : goodM l = true) {o m i : Int} (ho : 0 ≤ o ∧ o ≤ 9) (hm : m ≤ 9999) (hi : 0 ≤ i ∧ i ≤ 9) : at_ (earlyM l o m) i ≤ 10000 := by
  have := early_up hg (m := m) ho hi
  split at this <;> omega
theorem late_top {l : List Mail} (hg : goodM l = true) {o m i : Int} (ho : 0 ≤ o ∧ o ≤ 9) (hm : m ≤ 9999) (hi : 0 ≤ i ∧ i ≤ 9) : at_ (lateM l o m) i ≤ 9999 := by
  have := foldL_top l (fun x hx => m_mem hg hx) (B := 9999) (fun x hx => by have := okM_of (m_mem hg hx); omega) hi (startL_len o m)
  rw [startL_at ho hi] at this
  unfold lateM; split at this <;> omega
/-- one comes in time exactly if one is not later than the latest minute -/
theorem dual {l : List Mail} (hg : goodM l = true) {o m p b : Int} (ho : 0 ≤ o ∧ o ≤ 9) (hp : 0 ≤ p ∧ p ≤ 9) (hm : 0 ≤ m ∧ m ≤ 9999) (hb : b ≤ 9999) : at_ (earlyM l o m) p ≤ b ↔ m ≤ at_ (lateM l p b) o := by
  have h := meets_all l (fun x hx => m_mem hg hx) (startE_len o m) (startL_len p b)
  constructor
  · intro h1
    obtain ⟨i, hi, h2⟩ := h.1 ⟨p, hp, by rw [startL_at hp hp, if_pos rfl]; exact h1⟩
    rw [startE_at ho hi] at h2
    split at h2
    · rename_i e; rw [e] at h2; exact h2
    · have := late_top hg hp hb hi
      unfold lateM at this; omega
  · intro h1
    obtain ⟨i, hi, h2⟩ := h.2 ⟨o, ho, by rw [startE_at ho ho, if_pos rfl]; exact h1⟩
    rw [startL_at hp hi] at h2
    split at h2
    · rename_i e; rw [e] at h2; exact h2
    · have := early_low hg ho hm.2 hi
      unfold earlyM at this; omega
end Go.Proofs.YtfjcibkgbalkaaaDoor.Q9Dual

