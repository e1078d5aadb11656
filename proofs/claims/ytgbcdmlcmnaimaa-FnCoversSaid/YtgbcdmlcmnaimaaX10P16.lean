/- Texts on which the proofs of several laws stand, one behind the other (16 of 20). No condition of their own. -/
import Derived.Test.YtgbcdmlcmnaimaaChecked
import Derived.Test.YtgbcdmlcmnaimaaX10P1
import Derived.Test.YtgbcdmlcmnaimaaX10P7
import Derived.Test.YtgbcdmlcmnaimaaX10P9
import Derived.Test.YtgbcdmlcmnaimaaX10P10
import Derived.Test.YtgbcdmlcmnaimaaX10P15
import Derived.Test.YtgbcdmlcmnaimaaX10P11
import Derived.Test.YtgbcdmlcmnaimaaX10P8
import Derived.WalkKit
import Derived.WalkSpells
import Derived.WalkLawsBesides
import Derived.BigQuiet
import Derived.OwnWalk
import Derived.Deep.LoopGhost
import Derived.Deep.QuietTactic
import Derived.IntWalk
import Derived.Lib.QuietBelow
import Derived.Deep.DeepCutAuto
import Derived.Test.YtgbcdmlcmnaimaaX10P13
import Derived.Test.YtgbcdmlcmnaimaaX10P12
import Derived.Test.YtgbcdmlcmnaimaaX10P14
set_option linter.unusedVariables false
set_option linter.unusedSimpArgs false
namespace Go.Proofs.Ytgbcdmlcmnaimaa.GlFnCovers
open Go.RowKit
open Go.Proofs.Ytgbcdmlcmnaimaa.Rowed Go.Proofs.Ytgbcdmlcmnaimaa.Turn Go.Proofs.Ytgbcdmlcmnaimaa.Aid Go.Proofs.Ytgbcdmlcmnaimaa.GoP Go.Proofs.Ytgbcdmlcmnaimaa.GoM

def q8  (s : Bool) : Option (Bool) :=
 letK s fun t_2q8 =>
 some t_2q8

def q7 (code : (List Int)) (tapes : List Int → GoC.Tape) (s : Unit) : Option (Bool) :=
 Option.bind (GsDrawIsCover.P tapes code) fun (t_192 : PCover.Cover) =>
 unCover t_192 fun (t_192_id : Int) (t_192_day : Int) (t_192_zone : Int) (t_192_grams : Int) (t_192_paid : Int) (t_192_from_ : Int) (t_192_to_ : Int) (t_192_leave : Int) (t_192_arrive : Int) =>
 Option.bind (GiIsCover.P (PCover.Cover.mk t_192_id t_192_day t_192_zone t_192_grams t_192_paid t_192_from_ t_192_to_ t_192_leave t_192_arrive)) fun (t_196 : Bool) =>
 Option.bind (GsIsCover.P (PCover.Cover.mk t_192_id t_192_day t_192_zone t_192_grams t_192_paid t_192_from_ t_192_to_ t_192_leave t_192_arrive)) fun (t_198 : Bool) =>
 letK (!(t_196 == t_198)) fun (t_199 : Bool) =>
 iteK t_199
 (some false)
 (Option.bind (GsDrawFaultText.P tapes code) fun (t_202 : Int) =>
 bind2 (GiFaultText.P t_202) fun (t_205a : ByteArray) (t_205b : Bool) =>
 bind2 (GsFaultText.P t_202) fun (t_212a : ByteArray) (t_212b : Bool) =>
 letK (t_205a.toList == t_212a.toList) fun (t_220 : Bool) =>
 joinK (fun (t_225 : Bool) =>
 q8  (t_225)) fun jt_225 => iteK t_220 (letK (t_205b == t_212b) fun (t_224 : Bool) =>
 appK jt_225 t_224) (appK jt_225 false))

def q6 (code : (List Int)) (fuel : Nat) (tapes : List Int → GoC.Tape) (t_5b : (List PMail.Mail)) (t_5c_id : Int) (t_5c_day : Int) (t_5c_zone : Int) (t_5c_grams : Int) (t_5c_paid : Int) (t_5c_from_ : Int) (t_5c_to_ : Int) (t_5c_leave : Int) (t_5c_arrive : Int) (t_142a : Int) (t_142b : Bool) (s : Bool) : Option (Bool) :=
 letK s fun t_172q6 =>
 iteK t_172q6
 (some false)
 (iteK t_142b
 (letK (IntKind.i64.wrap (t_5c_leave + t_142a)) fun (t_177 : Int) =>
 bind2 (GiRouteOn.P fuel t_5b (PCover.Cover.mk t_5c_id t_5c_day t_5c_zone t_5c_grams t_5c_paid t_5c_from_ t_5c_to_ t_177 t_5c_arrive)) fun (t_182a : (List Int)) (t_182b : Bool) =>
 letK (!t_182b) fun (t_189 : Bool) =>
 iteK t_189
 (some false)
 (q7 code tapes ()))
 (q7 code tapes ()))

def q4 (code : (List Int)) (fuel : Nat) (tapes : List Int → GoC.Tape) (t_5b : (List PMail.Mail)) (t_5c_id : Int) (t_5c_day : Int) (t_5c_zone : Int) (t_5c_grams : Int) (t_5c_paid : Int) (t_5c_from_ : Int) (t_5c_to_ : Int) (t_5c_leave : Int) (t_5c_arrive : Int) (t_68b : Bool) (s : Unit) : Option (Bool) :=
 bind2 (GiSpareMinutes.P fuel t_5b (PCover.Cover.mk t_5c_id t_5c_day t_5c_zone t_5c_grams t_5c_paid t_5c_from_ t_5c_to_ t_5c_leave t_5c_arrive)) fun (t_142a : Int) (t_142b : Bool) =>
 bind2 (GsSpareMinutes.P fuel t_5b (PCover.Cover.mk t_5c_id t_5c_day t_5c_zone t_5c_grams t_5c_paid t_5c_from_ t_5c_to_ t_5c_leave t_5c_arrive)) fun (t_150a : Int) (t_150b : Bool) =>
 letK (t_142a != t_150a) fun (t_158 : Bool) =>
 joinK (fun (t_163 : Bool) =>
 joinK (fun (t_168 : Bool) =>
 q6 code fuel tapes t_5b t_5c_id t_5c_day t_5c_zone t_5c_grams t_5c_paid t_5c_from_ t_5c_to_ t_5c_leave t_5c_arrive t_142a t_142b (t_168)) fun jt_168 => iteK t_163 (appK jt_168 true) (letK (!(t_142b == t_68b)) fun (t_167 : Bool) =>
 appK jt_168 t_167)) fun jt_163 => iteK t_158 (appK jt_163 true) (letK (!(t_142b == t_150b)) fun (t_162 : Bool) =>
 appK jt_163 t_162)

def q5 (code : (List Int)) (fuel : Nat) (tapes : List Int → GoC.Tape) (t_2 : Bool) (t_5a : (List PRate.Rate)) (t_5b : (List PMail.Mail)) (t_5c_id : Int) (t_5c_day : Int) (t_5c_zone : Int) (t_5c_grams : Int) (t_5c_paid : Int) (t_5c_from_ : Int) (t_5c_to_ : Int) (t_5c_leave : Int) (t_5c_arrive : Int) (t_17a : Int) (t_17b : Bool) (t_26a : Int) (t_26b : Bool) (t_63q0 : Bool) (t_43a : Int) (t_43b : Bool) (t_51a : Int) (t_51b : Bool) (t_83q1 : Bool) (t_68a : (List Int)) (t_68b : Bool) (t_76a : (List Int)) (t_76b : Bool) (t_104q2 : Bool) (t_121q3 : Bool) (t_117a : Int) (t_117b : Int) (t_117c : Bool) (s : Bool) : Option (Bool) :=
 letK s fun t_147q5 =>
 iteK t_147q5
 (some false)
 (q4 code fuel tapes t_5b t_5c_id t_5c_day t_5c_zone t_5c_grams t_5c_paid t_5c_from_ t_5c_to_ t_5c_leave t_5c_arrive t_68b ())

def q3 (code : (List Int)) (fuel : Nat) (tapes : List Int → GoC.Tape) (t_2 : Bool) (t_5a : (List PRate.Rate)) (t_5b : (List PMail.Mail)) (t_5c_id : Int) (t_5c_day : Int) (t_5c_zone : Int) (t_5c_grams : Int) (t_5c_paid : Int) (t_5c_from_ : Int) (t_5c_to_ : Int) (t_5c_leave : Int) (t_5c_arrive : Int) (t_17a : Int) (t_17b : Bool) (t_26a : Int) (t_26b : Bool) (t_63q0 : Bool) (t_43a : Int) (t_43b : Bool) (t_51a : Int) (t_51b : Bool) (t_83q1 : Bool) (t_68a : (List Int)) (t_68b : Bool) (t_76a : (List Int)) (t_76b : Bool) (t_104q2 : Bool) (s : Bool) : Option (Bool) :=
 letK s fun t_121q3 =>
 iteK t_121q3
 (some false)
 (iteK t_68b
 (bind3 (GiEndOfRoute.P t_5b t_5c_from_ t_5c_leave t_68a) fun (t_117a : Int) (t_117b : Int) (t_117c : Bool) =>
 letK (!t_117c) fun (t_126 : Bool) =>
 joinK (fun (t_132 : Bool) =>
 joinK (fun (t_138 : Bool) =>
 q5 code fuel tapes t_2 t_5a t_5b t_5c_id t_5c_day t_5c_zone t_5c_grams t_5c_paid t_5c_from_ t_5c_to_ t_5c_leave t_5c_arrive t_17a t_17b t_26a t_26b t_63q0 t_43a t_43b t_51a t_51b t_83q1 t_68a t_68b t_76a t_76b t_104q2 t_121q3 t_117a t_117b t_117c (t_138)) fun jt_138 => iteK t_132 (appK jt_138 true) (letK (decide (t_5c_arrive < t_117b)) fun (t_137 : Bool) =>
 appK jt_138 t_137)) fun jt_132 => iteK t_126 (appK jt_132 true) (letK (t_117a != t_5c_to_) fun (t_131 : Bool) =>
 appK jt_132 t_131))
 (q4 code fuel tapes t_5b t_5c_id t_5c_day t_5c_zone t_5c_grams t_5c_paid t_5c_from_ t_5c_to_ t_5c_leave t_5c_arrive t_68b ()))

def q2 (code : (List Int)) (fuel : Nat) (tapes : List Int → GoC.Tape) (t_2 : Bool) (t_5a : (List PRate.Rate)) (t_5b : (List PMail.Mail)) (t_5c_id : Int) (t_5c_day : Int) (t_5c_zone : Int) (t_5c_grams : Int) (t_5c_paid : Int) (t_5c_from_ : Int) (t_5c_to_ : Int) (t_5c_leave : Int) (t_5c_arrive : Int) (t_17a : Int) (t_17b : Bool) (t_26a : Int) (t_26b : Bool) (t_63q0 : Bool) (t_43a : Int) (t_43b : Bool) (t_51a : Int) (t_51b : Bool) (t_83q1 : Bool) (t_68a : (List Int)) (t_68b : Bool) (t_76a : (List Int)) (t_76b : Bool) (s : Bool) : Option (Bool) :=
 letK s fun t_104q2 =>
 iteK t_104q2
 (some false)
 (joinK (fun (t_96 : Bool) =>
 joinK (fun (t_108 : Bool) =>
 q3 code fuel tapes t_2 t_5a t_5b t_5c_id t_5c_day t_5c_zone t_5c_grams t_5c_paid t_5c_from_ t_5c_to_ t_5c_leave t_5c_arrive t_17a t_17b t_26a t_26b t_63q0 t_43a t_43b t_51a t_51b t_83q1 t_68a t_68b t_76a t_76b t_104q2 (t_108)) fun jt_108 => iteK t_96 (letK (!t_43b) fun (t_99 : Bool) =>
 joinK (fun (t_103 : Bool) =>
 joinK (fun (t_107 : Bool) =>
 appK jt_108 t_107) fun jt_107 => iteK t_103 (appK jt_107 true) (letK (!t_68b) fun (t_106 : Bool) =>
 appK jt_107 t_106)) fun jt_103 => iteK t_99 (appK jt_103 true) (letK (t_43a != 0) fun (t_102 : Bool) =>
 appK jt_103 t_102)) (appK jt_108 false)) fun jt_96 => iteK t_17b (letK (t_17a == 0) fun (t_95 : Bool) =>
 appK jt_96 t_95) (appK jt_96 false))

def q1 (code : (List Int)) (fuel : Nat) (tapes : List Int → GoC.Tape) (t_2 : Bool) (t_5a : (List PRate.Rate)) (t_5b : (List PMail.Mail)) (t_5c_id : Int) (t_5c_day : Int) (t_5c_zone : Int) (t_5c_grams : Int) (t_5c_paid : Int) (t_5c_from_ : Int) (t_5c_to_ : Int) (t_5c_leave : Int) (t_5c_arrive : Int) (t_17a : Int) (t_17b : Bool) (t_26a : Int) (t_26b : Bool) (t_63q0 : Bool) (t_43a : Int) (t_43b : Bool) (t_51a : Int) (t_51b : Bool) (s : Bool) : Option (Bool) :=
 letK s fun t_83q1 =>
 iteK t_83q1
 (some false)
 (bind2 (GiRouteOn.P fuel t_5b (PCover.Cover.mk t_5c_id t_5c_day t_5c_zone t_5c_grams t_5c_paid t_5c_from_ t_5c_to_ t_5c_leave t_5c_arrive)) fun (t_68a : (List Int)) (t_68b : Bool) =>
 bind2 (GsRouteOn.P fuel t_5b (PCover.Cover.mk t_5c_id t_5c_day t_5c_zone t_5c_grams t_5c_paid t_5c_from_ t_5c_to_ t_5c_leave t_5c_arrive)) fun (t_76a : (List Int)) (t_76b : Bool) =>
 letK (!(t_68b == t_76b)) fun (t_84 : Bool) =>
 joinK (fun (t_90 : Bool) =>
 q2 code fuel tapes t_2 t_5a t_5b t_5c_id t_5c_day t_5c_zone t_5c_grams t_5c_paid t_5c_from_ t_5c_to_ t_5c_leave t_5c_arrive t_17a t_17b t_26a t_26b t_63q0 t_43a t_43b t_51a t_51b t_83q1 t_68a t_68b t_76a t_76b (t_90)) fun jt_90 => iteK t_84 (appK jt_90 true) (Option.bind (GlVInts.P t_68a t_76a) fun (t_88 : Bool) =>
 letK (!t_88) fun (t_89 : Bool) =>
 appK jt_90 t_89))

def q0 (code : (List Int)) (fuel : Nat) (tapes : List Int → GoC.Tape) (t_2 : Bool) (t_5a : (List PRate.Rate)) (t_5b : (List PMail.Mail)) (t_5c_id : Int) (t_5c_day : Int) (t_5c_zone : Int) (t_5c_grams : Int) (t_5c_paid : Int) (t_5c_from_ : Int) (t_5c_to_ : Int) (t_5c_leave : Int) (t_5c_arrive : Int) (t_17a : Int) (t_17b : Bool) (t_26a : Int) (t_26b : Bool) (s : Bool) : Option (Bool) :=
 letK s fun t_63q0 =>
 iteK t_63q0
 (some false)
 (bind2 (GiDueOn.P t_5a (PCover.Cover.mk t_5c_id t_5c_day t_5c_zone t_5c_grams t_5c_paid t_5c_from_ t_5c_to_ t_5c_leave t_5c_arrive)) fun (t_43a : Int) (t_43b : Bool) =>
 bind2 (GsDueOn.P fuel t_5a (PCover.Cover.mk t_5c_id t_5c_day t_5c_zone t_5c_grams t_5c_paid t_5c_from_ t_5c_to_ t_5c_leave t_5c_arrive)) fun (t_51a : Int) (t_51b : Bool) =>
 letK (t_43a != t_51a) fun (t_59 : Bool) =>
 joinK (fun (t_64 : Bool) =>
 q1 code fuel tapes t_2 t_5a t_5b t_5c_id t_5c_day t_5c_zone t_5c_grams t_5c_paid t_5c_from_ t_5c_to_ t_5c_leave t_5c_arrive t_17a t_17b t_26a t_26b t_63q0 t_43a t_43b t_51a t_51b (t_64)) fun jt_64 => iteK t_59 (appK jt_64 true) (letK (!(t_43b == t_51b)) fun (t_63 : Bool) =>
 appK jt_64 t_63))

def P (fuel : Nat) (tapes : List Int → GoC.Tape) (code : (List Int)) : Option (Bool) :=
 Option.bind (GlVBig.P code) fun (t_2 : Bool) =>
 iteK t_2
 (some true)
 (bind3 (GsDrawFaultOf.P fuel tapes code) fun (t_5a : (List PRate.Rate)) (t_5b : (List PMail.Mail)) (t_5c : PCover.Cover) =>
 unCover t_5c fun (t_5c_id : Int) (t_5c_day : Int) (t_5c_zone : Int) (t_5c_grams : Int) (t_5c_paid : Int) (t_5c_from_ : Int) (t_5c_to_ : Int) (t_5c_leave : Int) (t_5c_arrive : Int) =>
 bind2 (GiFaultOf.P t_5a t_5b (PCover.Cover.mk t_5c_id t_5c_day t_5c_zone t_5c_grams t_5c_paid t_5c_from_ t_5c_to_ t_5c_leave t_5c_arrive)) fun (t_17a : Int) (t_17b : Bool) =>
 bind2 (GsFaultOf.P fuel t_5a t_5b (PCover.Cover.mk t_5c_id t_5c_day t_5c_zone t_5c_grams t_5c_paid t_5c_from_ t_5c_to_ t_5c_leave t_5c_arrive)) fun (t_26a : Int) (t_26b : Bool) =>
 letK (t_17a != t_26a) fun (t_34 : Bool) =>
 joinK (fun (t_39 : Bool) =>
 q0 code fuel tapes t_2 t_5a t_5b t_5c_id t_5c_day t_5c_zone t_5c_grams t_5c_paid t_5c_from_ t_5c_to_ t_5c_leave t_5c_arrive t_17a t_17b t_26a t_26b (t_39)) fun jt_39 => iteK t_34 (appK jt_39 true) (letK (!(t_17b == t_26b)) fun (t_38 : Bool) =>
 appK jt_39 t_38))

set_option maxRecDepth 100000 in
set_option maxHeartbeats 20000000 in
theorem C (fuel : Nat) (tapes : List Int → GoC.Tape) (code : (List Int)) (A0 : Option Addr) (c0 : Nat)  (w : World) (HE : Hid (GoC.Tells tapes)) (M0 : Hid (Cells w 1 A0 code.length (GoC.u8s code))) (N0 : Hid (code.length ≤ 9223372036854775807)) (V0 : Hid (∀ z ∈ code, 0 ≤ z ∧ z ≤ 255))  {r : Bool} (H : Hid (P fuel tapes code = some r)) :
  Calls Try.prog 3 #[.slice A0 code.length c0] w (Gives (.bool r) w) := by
 have HB := Lib.hid (Below.refl w.heap.size w); unfold P at H; have N0o := N0.out
 go_enter Try.func3, Try.ntmps3
 replace H := bind_hid H; obtain ⟨t_2, qt_2, H⟩ := H; go_wp2_with fail; go_at_call 5; refine (GlVBig.C (code) A0 c0 _   (Lib.hid (Cells.below M0.out HB.out)) N0 V0 qt_2).mono ?_; rintro h22 wt_2 ⟨rfl, bt_2⟩; have y13 := Lib.hid (Below.step HB.out bt_2); clear bt_2
 cases t_2 with
 | false =>
  replace H := ite_f H; replace H := bind3_hid H; obtain ⟨t_5a, t_5b, t_5c, qt_5, H⟩ := H; obtain ⟨s10, q10, t10, r10, o10, n10, v10, w10, p10⟩ := t_5c; replace H := unCover_hid H; go_wp2_with fail; go_at_call 6; refine (GsDrawFaultOf.C fuel tapes (code) A0 c0 _  HE (Lib.hid (Cells.below M0.out y13.out)) N0 V0 qt_5).mono ?_; rintro o22 wt_5 ⟨p12, m12, e11, f11, rfl, i17, r16, d0_1, bt_5⟩; unfold PCover.Cover.val; have k21 := Lib.hid d0_1; have b10 := Lib.hid (own_lower i17 y13.out.size); clear i17; have a10 := Lib.hid (own_lower r16 y13.out.size); clear r16; have c19 := Lib.hid (Below.step y13.out bt_5); clear bt_5; obtain ⟨x12, w12⟩ : ∃ x, wt_5.alloc (.cells #[.int .i64 s10, .int .i64 q10, .int .i64 t10, .int .i64 r10, .int .i64 o10, .int .i64 n10, .int .i64 v10, .int .i64 w10, .int .i64 p10] 27) = x := ⟨_, rfl⟩; have e14 : Below wt_5.heap.size wt_5 x12 := (by rw [← w12]; exact (Below.refl _ _).alloc (Nat.le_refl _) _); have o20 := Lib.hid (apart_fresh b10.out); have v20 := Lib.hid (apart_fresh a10.out); have h18 := Lib.hid (Below.step c19.out e14); replace b10 := Lib.hid (own_below b10.out e14); replace a10 := Lib.hid (own_below a10.out e14); clear e14; have e10 : x12.cell? ⟨wt_5.heap.size, 0, none⟩ = some (.int .i64 s10) := (by rw [← w12]; exact box_new _ _ _ 0 _ rfl); have h10 : x12.cell? ⟨wt_5.heap.size, 1, none⟩ = some (.int .i64 q10) := (by rw [← w12]; exact box_new _ _ _ 1 _ rfl); have f10 : x12.cell? ⟨wt_5.heap.size, 2, none⟩ = some (.int .i64 t10) := (by rw [← w12]; exact box_new _ _ _ 2 _ rfl); have m10 : x12.cell? ⟨wt_5.heap.size, 3, none⟩ = some (.int .i64 r10) := (by rw [← w12]; exact box_new _ _ _ 3 _ rfl); have k10 : x12.cell? ⟨wt_5.heap.size, 4, none⟩ = some (.int .i64 o10) := (by rw [← w12]; exact box_new _ _ _ 4 _ rfl); have g10 : x12.cell? ⟨wt_5.heap.size, 5, none⟩ = some (.int .i64 n10) := (by rw [← w12]; exact box_new _ _ _ 5 _ rfl); have j10 : x12.cell? ⟨wt_5.heap.size, 6, none⟩ = some (.int .i64 v10) := (by rw [← w12]; exact box_new _ _ _ 6 _ rfl); have l10 : x12.cell? ⟨wt_5.heap.size, 7, none⟩ = some (.int .i64 w10) := (by rw [← w12]; exact box_new _ _ _ 7 _ rfl); have i10 : x12.cell? ⟨wt_5.heap.size, 8, none⟩ = some (.int .i64 p10) := (by rw [← w12]; exact box_new _ _ _ 8 _ rfl); replace H := bind2_hid H; obtain ⟨v13, o13, b19, H⟩ := H; go_wp2_with fail; go_at_call 7; refine (GiFaultOf.C (t_5a) (t_5b) ((PCover.Cover.mk s10 q10 t10 r10 o10 n10 v10 w10 p10)) p12 m12 e11 f11 _   (Lib.hid (own_cells b10.out)) (Lib.hid (own_max b10.out)) (Lib.hid (own_cells a10.out)) (Lib.hid (own_max a10.out)) b19).mono ?_; rintro s20 v21 ⟨rfl, j12⟩; have e18 := Lib.hid (Below.step h18.out j12); replace e10 := cell_below j12 e10; replace h10 := cell_below j12 h10; replace f10 := cell_below j12 f10; replace m10 := cell_below j12 m10; replace k10 := cell_below j12 k10; replace g10 := cell_below j12 g10; replace j10 := cell_below j12 j10; replace l10 := cell_below j12 l10; replace i10 := cell_below j12 i10; replace b10 := Lib.hid (own_below b10.out j12); replace a10 := Lib.hid (own_below a10.out j12); clear j12; replace H := bind2_hid H; obtain ⟨s13, r13, z18, H⟩ := H; go_wp2_with fail; go_at_call 8; refine (GsFaultOf.C fuel (t_5a) (t_5b) ((PCover.Cover.mk s10 q10 t10 r10 o10 n10 v10 w10 p10)) p12 m12 e11 f11 _   (Lib.hid (own_cells b10.out)) (Lib.hid (own_max b10.out)) (Lib.hid (own_cells a10.out)) (Lib.hid (own_max a10.out)) z18).mono ?_; rintro y21 p22 ⟨rfl, k12⟩; have o16 := Lib.hid (Below.step e18.out k12); replace e10 := cell_below k12 e10; replace h10 := cell_below k12 h10; replace f10 := cell_below k12 f10; replace m10 := cell_below k12 m10; replace k10 := cell_below k12 k10; replace g10 := cell_below k12 g10; replace j10 := cell_below k12 j10; replace l10 := cell_below k12 l10; replace i10 := cell_below k12 i10; replace b10 := Lib.hid (own_below b10.out k12); replace a10 := Lib.hid (own_below a10.out k12); clear k12; go_upto_region 6 with fail
  go_cut [63] (fun v63_ wr => ∃ (z13 : Bool), v63_ = .bool z13 ∧ Hid (q0 code fuel tapes false t_5a t_5b s10 q10 t10 r10 o10 n10 v10 w10 p10 v13 o13 s13 r13 (z13) = some r) ∧ Hid (Below w.heap.size w wr) ∧ wr.cell? ⟨wt_5.heap.size, 0, none⟩ = some (.int .i64 s10) ∧ wr.cell? ⟨wt_5.heap.size, 1, none⟩ = some (.int .i64 q10) ∧ wr.cell? ⟨wt_5.heap.size, 2, none⟩ = some (.int .i64 t10) ∧ wr.cell? ⟨wt_5.heap.size, 3, none⟩ = some (.int .i64 r10) ∧ wr.cell? ⟨wt_5.heap.size, 4, none⟩ = some (.int .i64 o10) ∧ wr.cell? ⟨wt_5.heap.size, 5, none⟩ = some (.int .i64 n10) ∧ wr.cell? ⟨wt_5.heap.size, 6, none⟩ = some (.int .i64 v10) ∧ wr.cell? ⟨wt_5.heap.size, 7, none⟩ = some (.int .i64 w10) ∧ wr.cell? ⟨wt_5.heap.size, 8, none⟩ = some (.int .i64 p10) ∧ Hid (wr.ownsRow w.heap.size 92 5 (.slice p12 t_5a.length m12) t_5a.length (PRate.flat t_5a)) ∧ Hid (wr.ownsRow w.heap.size 77 4 (.slice e11 t_5b.length f11) t_5b.length (PMail.flat t_5b)))
  case first =>
   as_aux_lemma =>
    replace H := let_hid H; obtain ⟨t_34, b23, H⟩ := H; replace H := join_hid H
    cases t_34 with
    | false =>
     replace H := ite_f H; replace H := let_hid H; obtain ⟨t_38, n21, H⟩ := H; replace H := app_hid H; go_wp2_with fail
     go_meet
     case rel => exact ⟨_, rfl, H, o16, e10, h10, f10, m10, k10, g10, j10, l10, i10, b10, a10⟩
    | true =>
     replace H := ite_t H; replace H := app_hid H; go_wp2_with fail
     go_meet
     case rel => exact ⟨_, rfl, H, o16, e10, h10, f10, m10, k10, g10, j10, l10, i10, b10, a10⟩
  case rest =>
   as_aux_lemma =>
    obtain ⟨z13, rfl, H, x15, e10, h10, f10, m10, k10, g10, j10, l10, i10, b10, a10⟩ := hcut; rename World => wq0; unfold q0 at H; replace H := let_hid H; obtain ⟨_, rfl, H⟩ := H
    cases z13 with
    | false =>
     replace H := ite_f H; replace H := bind2_hid H; obtain ⟨g14, w13, r19, H⟩ := H; go_wp2_with fail; go_at_call 9; refine (GiDueOn.C (t_5a) ((PCover.Cover.mk s10 q10 t10 r10 o10 n10 v10 w10 p10)) p12 m12 _   (Lib.hid (own_cells b10.out)) (Lib.hid (own_max b10.out)) r19).mono ?_; rintro s21 f21 ⟨rfl, n12⟩; have c18 := Lib.hid (Below.step x15.out n12); replace e10 := cell_below n12 e10; replace h10 := cell_below n12 h10; replace f10 := cell_below n12 f10; replace m10 := cell_below n12 m10; replace k10 := cell_below n12 k10; replace g10 := cell_below n12 g10; replace j10 := cell_below n12 j10; replace l10 := cell_below n12 l10; replace i10 := cell_below n12 i10; replace b10 := Lib.hid (own_below b10.out n12); replace a10 := Lib.hid (own_below a10.out n12); clear n12; replace H := bind2_hid H; obtain ⟨i14, j14, t19, H⟩ := H; go_wp2_with fail; go_at_call 10; refine (GsDueOn.C fuel (t_5a) ((PCover.Cover.mk s10 q10 t10 r10 o10 n10 v10 w10 p10)) p12 m12 _   (Lib.hid (own_cells b10.out)) (Lib.hid (own_max b10.out)) t19).mono ?_; rintro j22 s22 ⟨rfl, q12⟩; have a16 := Lib.hid (Below.step c18.out q12); replace e10 := cell_below q12 e10; replace h10 := cell_below q12 h10; replace f10 := cell_below q12 f10; replace m10 := cell_below q12 m10; replace k10 := cell_below q12 k10; replace g10 := cell_below q12 g10; replace j10 := cell_below q12 j10; replace l10 := cell_below q12 l10; replace i10 := cell_below q12 i10; replace b10 := Lib.hid (own_below b10.out q12); replace a10 := Lib.hid (own_below a10.out q12); clear q12; go_upto_region 10 with fail
     go_cut [83] (fun v83_ wr => ∃ (a14 : Bool), v83_ = .bool a14 ∧ Hid (q1 code fuel tapes false t_5a t_5b s10 q10 t10 r10 o10 n10 v10 w10 p10 v13 o13 s13 r13 false g14 w13 i14 j14 (a14) = some r) ∧ Hid (Below w.heap.size w wr) ∧ wr.cell? ⟨wt_5.heap.size, 0, none⟩ = some (.int .i64 s10) ∧ wr.cell? ⟨wt_5.heap.size, 1, none⟩ = some (.int .i64 q10) ∧ wr.cell? ⟨wt_5.heap.size, 2, none⟩ = some (.int .i64 t10) ∧ wr.cell? ⟨wt_5.heap.size, 3, none⟩ = some (.int .i64 r10) ∧ wr.cell? ⟨wt_5.heap.size, 4, none⟩ = some (.int .i64 o10) ∧ wr.cell? ⟨wt_5.heap.size, 5, none⟩ = some (.int .i64 n10) ∧ wr.cell? ⟨wt_5.heap.size, 6, none⟩ = some (.int .i64 v10) ∧ wr.cell? ⟨wt_5.heap.size, 7, none⟩ = some (.int .i64 w10) ∧ wr.cell? ⟨wt_5.heap.size, 8, none⟩ = some (.int .i64 p10) ∧ Hid (wr.ownsRow w.heap.size 92 5 (.slice p12 t_5a.length m12) t_5a.length (PRate.flat t_5a)) ∧ Hid (wr.ownsRow w.heap.size 77 4 (.slice e11 t_5b.length f11) t_5b.length (PMail.flat t_5b)))
     case first =>
      as_aux_lemma =>
       replace H := let_hid H; obtain ⟨t_59, d22, H⟩ := H; replace H := join_hid H
       cases t_59 with
       | false =>
        replace H := ite_f H; replace H := let_hid H; obtain ⟨t_63, n20, H⟩ := H; replace H := app_hid H; go_wp2_with fail
        go_meet
        case rel => exact ⟨_, rfl, H, a16, e10, h10, f10, m10, k10, g10, j10, l10, i10, b10, a10⟩
       | true =>
        replace H := ite_t H; replace H := app_hid H; go_wp2_with fail
        go_meet
        case rel => exact ⟨_, rfl, H, a16, e10, h10, f10, m10, k10, g10, j10, l10, i10, b10, a10⟩
     case rest =>
      as_aux_lemma =>
       obtain ⟨a14, rfl, H, z14, e10, h10, f10, m10, k10, g10, j10, l10, i10, b10, a10⟩ := hcut; rename World => wq1; unfold q1 at H; replace H := let_hid H; obtain ⟨_, rfl, H⟩ := H
       cases a14 with
       | false =>
        replace H := ite_f H; replace H := bind2_hid H; obtain ⟨x10, q13, i19, H⟩ := H; go_wp2_with fail; go_at_call 11; refine (GiRouteOn.C fuel (t_5b) ((PCover.Cover.mk s10 q10 t10 r10 o10 n10 v10 w10 p10)) e11 f11 _   (Lib.hid (own_cells a10.out)) (Lib.hid (own_max a10.out)) i19).mono ?_; rintro b21 e20 ⟨z12, y12, rfl, x13, o12⟩; have d21 := Lib.hid (apart_call x13 b10.out); have r22 := Lib.hid (apart_call x13 a10.out); have c21 := Lib.hid (apart_callbox x13 e10); have c10 := Lib.hid (own_lower x13 z14.out.size); clear x13; have g16 := Lib.hid (Below.step z14.out o12); replace e10 := cell_below o12 e10; replace h10 := cell_below o12 h10; replace f10 := cell_below o12 f10; replace m10 := cell_below o12 m10; replace k10 := cell_below o12 k10; replace g10 := cell_below o12 g10; replace j10 := cell_below o12 j10; replace l10 := cell_below o12 l10; replace i10 := cell_below o12 i10; replace b10 := Lib.hid (own_below b10.out o12); replace a10 := Lib.hid (own_below a10.out o12); clear o12; replace H := bind2_hid H; obtain ⟨z10, d15, e19, H⟩ := H; go_wp2_with fail; go_at_call 12; refine (GsRouteOn.C fuel (t_5b) ((PCover.Cover.mk s10 q10 t10 r10 o10 n10 v10 w10 p10)) e11 f11 _   (Lib.hid (own_cells a10.out)) (Lib.hid (own_max a10.out)) e19).mono ?_; rintro d20 j20 ⟨c13, d13, rfl, p13, h12⟩; have p21 := Lib.hid (apart_call p13 b10.out); have l20 := Lib.hid (apart_call p13 a10.out); have i22 := Lib.hid (apart_call p13 c10.out); have h20 := Lib.hid (apart_callbox p13 e10); have d10 := Lib.hid (own_lower p13 g16.out.size); clear p13; have y16 := Lib.hid (Below.step g16.out h12); replace e10 := cell_below h12 e10; replace h10 := cell_below h12 h10; replace f10 := cell_below h12 f10; replace m10 := cell_below h12 m10; replace k10 := cell_below h12 k10; replace g10 := cell_below h12 g10; replace j10 := cell_below h12 j10; replace l10 := cell_below h12 l10; replace i10 := cell_below h12 i10; replace b10 := Lib.hid (own_below b10.out h12); replace a10 := Lib.hid (own_below a10.out h12); replace c10 := Lib.hid (own_below c10.out h12); clear h12; go_upto_region 14 with fail
        go_cut [104] (fun v104_ wr => ∃ (h14 : Bool), v104_ = .bool h14 ∧ Hid (q2 code fuel tapes false t_5a t_5b s10 q10 t10 r10 o10 n10 v10 w10 p10 v13 o13 s13 r13 false g14 w13 i14 j14 false x10 q13 z10 d15 (h14) = some r) ∧ Hid (Below w.heap.size w wr) ∧ wr.cell? ⟨wt_5.heap.size, 0, none⟩ = some (.int .i64 s10) ∧ wr.cell? ⟨wt_5.heap.size, 1, none⟩ = some (.int .i64 q10) ∧ wr.cell? ⟨wt_5.heap.size, 2, none⟩ = some (.int .i64 t10) ∧ wr.cell? ⟨wt_5.heap.size, 3, none⟩ = some (.int .i64 r10) ∧ wr.cell? ⟨wt_5.heap.size, 4, none⟩ = some (.int .i64 o10) ∧ wr.cell? ⟨wt_5.heap.size, 5, none⟩ = some (.int .i64 n10) ∧ wr.cell? ⟨wt_5.heap.size, 6, none⟩ = some (.int .i64 v10) ∧ wr.cell? ⟨wt_5.heap.size, 7, none⟩ = some (.int .i64 w10) ∧ wr.cell? ⟨wt_5.heap.size, 8, none⟩ = some (.int .i64 p10) ∧ Hid (wr.ownsRow w.heap.size 92 5 (.slice p12 t_5a.length m12) t_5a.length (PRate.flat t_5a)) ∧ Hid (wr.ownsRow w.heap.size 77 4 (.slice e11 t_5b.length f11) t_5b.length (PMail.flat t_5b)) ∧ Hid (wr.ownsRow w.heap.size 3 1 (.slice z12 x10.length y12) x10.length (HelpInt.iv x10)) ∧ Hid (wr.ownsRow w.heap.size 3 1 (.slice c13 z10.length d13) z10.length (HelpInt.iv z10)))
        case first =>
         as_aux_lemma =>
          replace H := let_hid H; obtain ⟨t_84, i21, H⟩ := H; replace H := join_hid H
          cases t_84 with
          | false =>
           replace H := ite_f H; replace H := bind_hid H; obtain ⟨t_88, j19, H⟩ := H; go_wp2_with fail; go_at_call 13; refine (GlVInts.C (x10) (z10) z12 y12 c13 d13 _   (Lib.hid (own_cells c10.out)) (Lib.hid (own_max c10.out)) (Lib.hid (own_cells d10.out)) (Lib.hid (own_max d10.out)) j19).mono ?_; rintro q22 m22 ⟨rfl, h11⟩; have s16 := Lib.hid (Below.step y16.out h11); replace e10 := cell_below h11 e10; replace h10 := cell_below h11 h10; replace f10 := cell_below h11 f10; replace m10 := cell_below h11 m10; replace k10 := cell_below h11 k10; replace g10 := cell_below h11 g10; replace j10 := cell_below h11 j10; replace l10 := cell_below h11 l10; replace i10 := cell_below h11 i10; replace b10 := Lib.hid (own_below b10.out h11); replace a10 := Lib.hid (own_below a10.out h11); replace c10 := Lib.hid (own_below c10.out h11); replace d10 := Lib.hid (own_below d10.out h11); clear h11
           cases t_88 with
           | false =>
            replace H := let_hid H; obtain ⟨t_89, q14, H⟩ := H; obtain rfl : t_89 = true := q14.symm; replace H := app_hid H; go_wp2_with fail
            go_meet
            case rel => exact ⟨_, rfl, H, s16, e10, h10, f10, m10, k10, g10, j10, l10, i10, b10, a10, c10, d10⟩
           | true =>
            replace H := let_hid H; obtain ⟨t_89, q14, H⟩ := H; obtain rfl : t_89 = false := q14.symm; replace H := app_hid H; go_wp2_with fail
            go_meet
            case rel => exact ⟨_, rfl, H, s16, e10, h10, f10, m10, k10, g10, j10, l10, i10, b10, a10, c10, d10⟩
          | true =>
           replace H := ite_t H; replace H := app_hid H; go_wp2_with fail
           go_meet
           case rel => exact ⟨_, rfl, H, y16, e10, h10, f10, m10, k10, g10, j10, l10, i10, b10, a10, c10, d10⟩
        case rest =>
         as_aux_lemma =>
          obtain ⟨h14, rfl, H, k13, e10, h10, f10, m10, k10, g10, j10, l10, i10, b10, a10, c10, d10⟩ := hcut; rename World => wq2; unfold q2 at H; replace H := let_hid H; obtain ⟨_, rfl, H⟩ := H
          cases h14 with
          | false =>
           replace H := ite_f H; go_upto_region 16 with fail
           go_cut [121] (fun v121_ wr => ∃ (c14 : Bool), v121_ = .bool c14 ∧ Hid (q3 code fuel tapes false t_5a t_5b s10 q10 t10 r10 o10 n10 v10 w10 p10 v13 o13 s13 r13 false g14 w13 i14 j14 false x10 q13 z10 d15 false (c14) = some r) ∧ Hid (Below w.heap.size w wr) ∧ wr.cell? ⟨wt_5.heap.size, 0, none⟩ = some (.int .i64 s10) ∧ wr.cell? ⟨wt_5.heap.size, 1, none⟩ = some (.int .i64 q10) ∧ wr.cell? ⟨wt_5.heap.size, 2, none⟩ = some (.int .i64 t10) ∧ wr.cell? ⟨wt_5.heap.size, 3, none⟩ = some (.int .i64 r10) ∧ wr.cell? ⟨wt_5.heap.size, 4, none⟩ = some (.int .i64 o10) ∧ wr.cell? ⟨wt_5.heap.size, 5, none⟩ = some (.int .i64 n10) ∧ wr.cell? ⟨wt_5.heap.size, 6, none⟩ = some (.int .i64 v10) ∧ wr.cell? ⟨wt_5.heap.size, 7, none⟩ = some (.int .i64 w10) ∧ wr.cell? ⟨wt_5.heap.size, 8, none⟩ = some (.int .i64 p10) ∧ Hid (wr.ownsRow w.heap.size 92 5 (.slice p12 t_5a.length m12) t_5a.length (PRate.flat t_5a)) ∧ Hid (wr.ownsRow w.heap.size 77 4 (.slice e11 t_5b.length f11) t_5b.length (PMail.flat t_5b)) ∧ Hid (wr.ownsRow w.heap.size 3 1 (.slice z12 x10.length y12) x10.length (HelpInt.iv x10)) ∧ Hid (wr.ownsRow w.heap.size 3 1 (.slice c13 z10.length d13) z10.length (HelpInt.iv z10)))
           case first =>
            as_aux_lemma =>
             replace H := join_hid H
             cases o13 with
             | false =>
              replace H := ite_f H; replace H := app_hid H; replace H := join_hid H; replace H := ite_f H; replace H := app_hid H; go_wp2_with fail
              go_meet
              case rel => exact ⟨_, rfl, H, k13, e10, h10, f10, m10, k10, g10, j10, l10, i10, b10, a10, c10, d10⟩
             | true =>
              replace H := ite_t H; replace H := let_hid H; obtain ⟨t_95, m20, H⟩ := H; replace H := app_hid H; replace H := join_hid H
              cases t_95 with
              | false =>
               replace H := ite_f H; replace H := app_hid H; go_wp2_with fail
               go_meet
               case rel => exact ⟨_, rfl, H, k13, e10, h10, f10, m10, k10, g10, j10, l10, i10, b10, a10, c10, d10⟩
              | true =>
               replace H := ite_t H
               cases w13 with
               | false =>
                replace H := let_hid H; obtain ⟨t_99, k15, H⟩ := H; obtain rfl : t_99 = true := k15.symm; replace H := join_hid H; replace H := ite_t H; replace H := app_hid H; replace H := join_hid H; replace H := ite_t H; replace H := app_hid H; replace H := app_hid H; go_wp2_with fail
                go_meet
                case rel => exact ⟨_, rfl, H, k13, e10, h10, f10, m10, k10, g10, j10, l10, i10, b10, a10, c10, d10⟩
               | true =>
                replace H := let_hid H; obtain ⟨t_99, k15, H⟩ := H; obtain rfl : t_99 = false := k15.symm; replace H := join_hid H; replace H := ite_f H; replace H := let_hid H; obtain ⟨w17, p20, H⟩ := H; replace H := app_hid H; replace H := join_hid H
                cases w17 with
                | false =>
                 replace H := ite_f H
                 cases q13 with
                 | false =>
                  replace H := let_hid H; obtain ⟨t14, p14, H⟩ := H; obtain rfl : t14 = true := p14.symm; replace H := app_hid H; replace H := app_hid H; go_wp2_with fail
                  go_meet
                  case rel => exact ⟨_, rfl, H, k13, e10, h10, f10, m10, k10, g10, j10, l10, i10, b10, a10, c10, d10⟩
                 | true =>
                  replace H := let_hid H; obtain ⟨t14, p14, H⟩ := H; obtain rfl : t14 = false := p14.symm; replace H := app_hid H; replace H := app_hid H; go_wp2_with fail
                  go_meet
                  case rel => exact ⟨_, rfl, H, k13, e10, h10, f10, m10, k10, g10, j10, l10, i10, b10, a10, c10, d10⟩
                | true =>
                 replace H := ite_t H; replace H := app_hid H; replace H := app_hid H; go_wp2_with fail
                 go_meet
                 case rel => exact ⟨_, rfl, H, k13, e10, h10, f10, m10, k10, g10, j10, l10, i10, b10, a10, c10, d10⟩
           case rest =>
            as_aux_lemma =>
             obtain ⟨c14, rfl, H, b15, e10, h10, f10, m10, k10, g10, j10, l10, i10, b10, a10, c10, d10⟩ := hcut; rename World => wq3; unfold q3 at H; replace H := let_hid H; obtain ⟨_, rfl, H⟩ := H
             cases c14 with
             | false =>
              replace H := ite_f H; go_upto_if 122 with fail
              go_cut [] (fun  wr => Hid (q4 code fuel tapes t_5b s10 q10 t10 r10 o10 n10 v10 w10 p10 q13 () = some r) ∧ Hid (Below w.heap.size w wr) ∧ wr.cell? ⟨wt_5.heap.size, 0, none⟩ = some (.int .i64 s10) ∧ wr.cell? ⟨wt_5.heap.size, 1, none⟩ = some (.int .i64 q10) ∧ wr.cell? ⟨wt_5.heap.size, 2, none⟩ = some (.int .i64 t10) ∧ wr.cell? ⟨wt_5.heap.size, 3, none⟩ = some (.int .i64 r10) ∧ wr.cell? ⟨wt_5.heap.size, 4, none⟩ = some (.int .i64 o10) ∧ wr.cell? ⟨wt_5.heap.size, 5, none⟩ = some (.int .i64 n10) ∧ wr.cell? ⟨wt_5.heap.size, 6, none⟩ = some (.int .i64 v10) ∧ wr.cell? ⟨wt_5.heap.size, 7, none⟩ = some (.int .i64 w10) ∧ wr.cell? ⟨wt_5.heap.size, 8, none⟩ = some (.int .i64 p10) ∧ Hid (wr.ownsRow w.heap.size 92 5 (.slice p12 t_5a.length m12) t_5a.length (PRate.flat t_5a)) ∧ Hid (wr.ownsRow w.heap.size 77 4 (.slice e11 t_5b.length f11) t_5b.length (PMail.flat t_5b)) ∧ Hid (wr.ownsRow w.heap.size 3 1 (.slice z12 x10.length y12) x10.length (HelpInt.iv x10)) ∧ Hid (wr.ownsRow w.heap.size 3 1 (.slice c13 z10.length d13) z10.length (HelpInt.iv z10)))
              case first =>
               as_aux_lemma =>
                cases q13 with
                | false =>
                 replace H := ite_f H; go_wp2_with fail
                 go_meet
                 case rel => exact ⟨H, b15, e10, h10, f10, m10, k10, g10, j10, l10, i10, b10, a10, c10, d10⟩
                | true =>
                 replace H := ite_t H; replace H := bind3_hid H; obtain ⟨q19, d19, d16, k18, H⟩ := H; go_wp2_with fail; go_at_call 14; refine (GiEndOfRoute.C (t_5b) (n10) (w10) (x10) e11 f11 z12 y12 _   (Lib.hid (own_cells a10.out)) (Lib.hid (own_max a10.out)) (Lib.hid (own_cells c10.out)) (Lib.hid (own_max c10.out)) k18).mono ?_; rintro y20 f20 ⟨rfl, g11⟩; have x14 := Lib.hid (Below.step b15.out g11); replace e10 := cell_below g11 e10; replace h10 := cell_below g11 h10; replace f10 := cell_below g11 f10; replace m10 := cell_below g11 m10; replace k10 := cell_below g11 k10; replace g10 := cell_below g11 g10; replace j10 := cell_below g11 j10; replace l10 := cell_below g11 l10; replace i10 := cell_below g11 i10; replace b10 := Lib.hid (own_below b10.out g11); replace a10 := Lib.hid (own_below a10.out g11); replace c10 := Lib.hid (own_below c10.out g11); replace d10 := Lib.hid (own_below d10.out g11); clear g11; go_upto_region 20 with fail
                 go_cut [147] (fun v147_ wr => ∃ (l14 : Bool), v147_ = .bool l14 ∧ Hid (q5 code fuel tapes false t_5a t_5b s10 q10 t10 r10 o10 n10 v10 w10 p10 v13 o13 s13 r13 false g14 w13 i14 j14 false x10 true z10 d15 false false q19 d19 d16 (l14) = some r) ∧ Hid (Below w.heap.size w wr) ∧ wr.cell? ⟨wt_5.heap.size, 0, none⟩ = some (.int .i64 s10) ∧ wr.cell? ⟨wt_5.heap.size, 1, none⟩ = some (.int .i64 q10) ∧ wr.cell? ⟨wt_5.heap.size, 2, none⟩ = some (.int .i64 t10) ∧ wr.cell? ⟨wt_5.heap.size, 3, none⟩ = some (.int .i64 r10) ∧ wr.cell? ⟨wt_5.heap.size, 4, none⟩ = some (.int .i64 o10) ∧ wr.cell? ⟨wt_5.heap.size, 5, none⟩ = some (.int .i64 n10) ∧ wr.cell? ⟨wt_5.heap.size, 6, none⟩ = some (.int .i64 v10) ∧ wr.cell? ⟨wt_5.heap.size, 7, none⟩ = some (.int .i64 w10) ∧ wr.cell? ⟨wt_5.heap.size, 8, none⟩ = some (.int .i64 p10) ∧ Hid (wr.ownsRow w.heap.size 92 5 (.slice p12 t_5a.length m12) t_5a.length (PRate.flat t_5a)) ∧ Hid (wr.ownsRow w.heap.size 77 4 (.slice e11 t_5b.length f11) t_5b.length (PMail.flat t_5b)) ∧ Hid (wr.ownsRow w.heap.size 3 1 (.slice z12 x10.length y12) x10.length (HelpInt.iv x10)) ∧ Hid (wr.ownsRow w.heap.size 3 1 (.slice c13 z10.length d13) z10.length (HelpInt.iv z10)))
                 case first =>
                  as_aux_lemma =>
                   cases d16 with
                   | false =>
                    replace H := let_hid H; obtain ⟨l15, j15, H⟩ := H; obtain rfl : l15 = true := j15.symm; replace H := join_hid H; replace H := ite_t H; replace H := app_hid H; replace H := join_hid H; replace H := ite_t H; replace H := app_hid H; go_wp2_with fail
                    go_meet
                    case rel => exact ⟨_, rfl, H, x14, e10, h10, f10, m10, k10, g10, j10, l10, i10, b10, a10, c10, d10⟩
                   | true =>
                    replace H := let_hid H; obtain ⟨l15, j15, H⟩ := H; obtain rfl : l15 = false := j15.symm; replace H := join_hid H; replace H := ite_f H; replace H := let_hid H; obtain ⟨p18, z22, H⟩ := H; replace H := app_hid H; replace H := join_hid H
                    cases p18 with
                    | false =>
                     replace H := ite_f H; replace H := let_hid H; obtain ⟨a23, g22, H⟩ := H; replace H := app_hid H; go_wp2_with fail
                     go_meet
                     case rel => exact ⟨_, rfl, H, x14, e10, h10, f10, m10, k10, g10, j10, l10, i10, b10, a10, c10, d10⟩
                    | true =>
                     replace H := ite_t H; replace H := app_hid H; go_wp2_with fail
                     go_meet
                     case rel => exact ⟨_, rfl, H, x14, e10, h10, f10, m10, k10, g10, j10, l10, i10, b10, a10, c10, d10⟩
                 case rest =>
                  as_aux_lemma =>
                   obtain ⟨l14, rfl, H, h16, e10, h10, f10, m10, k10, g10, j10, l10, i10, b10, a10, c10, d10⟩ := hcut; rename World => wq5; unfold q5 at H; replace H := let_hid H; obtain ⟨_, rfl, H⟩ := H
                   cases l14 with
                   | false =>
                    replace H := ite_f H; go_wp2_with fail
                    go_meet
                    case rel => exact ⟨H, h16, e10, h10, f10, m10, k10, g10, j10, l10, i10, b10, a10, c10, d10⟩
                   | true =>
                    replace H := ite_t H; obtain rfl := ret_hid H; go_wp2_with fail; go_ret; exact ⟨rfl, h16.out⟩
              case rest =>
               as_aux_lemma =>
                obtain ⟨H, l19, e10, h10, f10, m10, k10, g10, j10, l10, i10, b10, a10, c10, d10⟩ := hcut; rename World => wq4; unfold q4 at H; replace H := bind2_hid H; obtain ⟨r18, e16, s19, H⟩ := H; go_wp2_with fail; go_at_call 15; refine (GiSpareMinutes.C fuel (t_5b) ((PCover.Cover.mk s10 q10 t10 r10 o10 n10 v10 w10 p10)) e11 f11 _   (Lib.hid (own_cells a10.out)) (Lib.hid (own_max a10.out)) s19).mono ?_; rintro q21 g20 ⟨rfl, b12⟩; have i18 := Lib.hid (Below.step l19.out b12); replace e10 := cell_below b12 e10; replace h10 := cell_below b12 h10; replace f10 := cell_below b12 f10; replace m10 := cell_below b12 m10; replace k10 := cell_below b12 k10; replace g10 := cell_below b12 g10; replace j10 := cell_below b12 j10; replace l10 := cell_below b12 l10; replace i10 := cell_below b12 i10; replace b10 := Lib.hid (own_below b10.out b12); replace a10 := Lib.hid (own_below a10.out b12); replace c10 := Lib.hid (own_below c10.out b12); replace d10 := Lib.hid (own_below d10.out b12); clear b12; replace H := bind2_hid H; obtain ⟨f22, b22, k19, H⟩ := H; go_wp2_with fail; go_at_call 16; refine (GsSpareMinutes.C fuel (t_5b) ((PCover.Cover.mk s10 q10 t10 r10 o10 n10 v10 w10 p10)) e11 f11 _   (Lib.hid (own_cells a10.out)) (Lib.hid (own_max a10.out)) k19).mono ?_; rintro i20 c22 ⟨rfl, y11⟩; have c15 := Lib.hid (Below.step i18.out y11); replace e10 := cell_below y11 e10; replace h10 := cell_below y11 h10; replace f10 := cell_below y11 f10; replace m10 := cell_below y11 m10; replace k10 := cell_below y11 k10; replace g10 := cell_below y11 g10; replace j10 := cell_below y11 j10; replace l10 := cell_below y11 l10; replace i10 := cell_below y11 i10; replace b10 := Lib.hid (own_below b10.out y11); replace a10 := Lib.hid (own_below a10.out y11); replace c10 := Lib.hid (own_below c10.out y11); replace d10 := Lib.hid (own_below d10.out y11); clear y11; go_upto_region 24 with fail
                go_cut [172] (fun v172_ wr => ∃ (d14 : Bool), v172_ = .bool d14 ∧ Hid (q6 code fuel tapes t_5b s10 q10 t10 r10 o10 n10 v10 w10 p10 r18 e16 (d14) = some r) ∧ Hid (Below w.heap.size w wr) ∧ wr.cell? ⟨wt_5.heap.size, 0, none⟩ = some (.int .i64 s10) ∧ wr.cell? ⟨wt_5.heap.size, 1, none⟩ = some (.int .i64 q10) ∧ wr.cell? ⟨wt_5.heap.size, 2, none⟩ = some (.int .i64 t10) ∧ wr.cell? ⟨wt_5.heap.size, 3, none⟩ = some (.int .i64 r10) ∧ wr.cell? ⟨wt_5.heap.size, 4, none⟩ = some (.int .i64 o10) ∧ wr.cell? ⟨wt_5.heap.size, 5, none⟩ = some (.int .i64 n10) ∧ wr.cell? ⟨wt_5.heap.size, 6, none⟩ = some (.int .i64 v10) ∧ wr.cell? ⟨wt_5.heap.size, 7, none⟩ = some (.int .i64 w10) ∧ wr.cell? ⟨wt_5.heap.size, 8, none⟩ = some (.int .i64 p10) ∧ Hid (wr.ownsRow w.heap.size 92 5 (.slice p12 t_5a.length m12) t_5a.length (PRate.flat t_5a)) ∧ Hid (wr.ownsRow w.heap.size 77 4 (.slice e11 t_5b.length f11) t_5b.length (PMail.flat t_5b)) ∧ Hid (wr.ownsRow w.heap.size 3 1 (.slice z12 x10.length y12) x10.length (HelpInt.iv x10)) ∧ Hid (wr.ownsRow w.heap.size 3 1 (.slice c13 z10.length d13) z10.length (HelpInt.iv z10)))
                case first =>
                 as_aux_lemma =>
                  replace H := let_hid H; obtain ⟨v17, b20, H⟩ := H; replace H := join_hid H
                  cases v17 with
                  | false =>
                   replace H := ite_f H; replace H := let_hid H; obtain ⟨q18, x21, H⟩ := H; replace H := app_hid H; replace H := join_hid H
                   cases q18 with
                   | false =>
                    replace H := ite_f H; replace H := let_hid H; obtain ⟨z21, y22, H⟩ := H; replace H := app_hid H; go_wp2_with fail
                    go_meet
                    case rel => exact ⟨_, rfl, H, c15, e10, h10, f10, m10, k10, g10, j10, l10, i10, b10, a10, c10, d10⟩
                   | true =>
                    replace H := ite_t H; replace H := app_hid H; go_wp2_with fail
                    go_meet
                    case rel => exact ⟨_, rfl, H, c15, e10, h10, f10, m10, k10, g10, j10, l10, i10, b10, a10, c10, d10⟩
                  | true =>
                   replace H := ite_t H; replace H := app_hid H; replace H := join_hid H; replace H := ite_t H; replace H := app_hid H; go_wp2_with fail
                   go_meet
                   case rel => exact ⟨_, rfl, H, c15, e10, h10, f10, m10, k10, g10, j10, l10, i10, b10, a10, c10, d10⟩
                case rest =>
                 as_aux_lemma =>
                  obtain ⟨d14, rfl, H, k14, e10, h10, f10, m10, k10, g10, j10, l10, i10, b10, a10, c10, d10⟩ := hcut; rename World => wq6; unfold q6 at H; replace H := let_hid H; obtain ⟨_, rfl, H⟩ := H
                  cases d14 with
                  | false =>
                   replace H := ite_f H; go_upto_if 173 with fail
                   go_cut [] (fun  wr => Hid (q7 code tapes () = some r) ∧ Hid (Below w.heap.size w wr) ∧ wr.cell? ⟨wt_5.heap.size, 0, none⟩ = some (.int .i64 s10) ∧ wr.cell? ⟨wt_5.heap.size, 1, none⟩ = some (.int .i64 q10) ∧ wr.cell? ⟨wt_5.heap.size, 2, none⟩ = some (.int .i64 t10) ∧ wr.cell? ⟨wt_5.heap.size, 3, none⟩ = some (.int .i64 r10) ∧ wr.cell? ⟨wt_5.heap.size, 4, none⟩ = some (.int .i64 o10) ∧ wr.cell? ⟨wt_5.heap.size, 5, none⟩ = some (.int .i64 n10) ∧ wr.cell? ⟨wt_5.heap.size, 6, none⟩ = some (.int .i64 v10) ∧ wr.cell? ⟨wt_5.heap.size, 7, none⟩ = some (.int .i64 w10) ∧ wr.cell? ⟨wt_5.heap.size, 8, none⟩ = some (.int .i64 p10) ∧ Hid (wr.ownsRow w.heap.size 92 5 (.slice p12 t_5a.length m12) t_5a.length (PRate.flat t_5a)) ∧ Hid (wr.ownsRow w.heap.size 77 4 (.slice e11 t_5b.length f11) t_5b.length (PMail.flat t_5b)) ∧ Hid (wr.ownsRow w.heap.size 3 1 (.slice z12 x10.length y12) x10.length (HelpInt.iv x10)) ∧ Hid (wr.ownsRow w.heap.size 3 1 (.slice c13 z10.length d13) z10.length (HelpInt.iv z10)))
                   case first =>
                    as_aux_lemma =>
                     cases e16 with
                     | false =>
                      replace H := ite_f H; go_wp2_with fail
                      go_meet
                      case rel => exact ⟨H, k14, e10, h10, f10, m10, k10, g10, j10, l10, i10, b10, a10, c10, d10⟩
                     | true =>
                      replace H := ite_t H; obtain ⟨l12, t12⟩ : ∃ x, wq6.alloc (.cells #[.int .i64 s10, .int .i64 q10, .int .i64 t10, .int .i64 r10, .int .i64 o10, .int .i64 n10, .int .i64 v10, .int .i64 w10, .int .i64 p10] 27) = x := ⟨_, rfl⟩; have c12 : Below wq6.heap.size wq6 l12 := (by rw [← t12]; exact (Below.refl _ _).alloc (Nat.le_refl _) _); have n19 := Lib.hid (apart_fresh b10.out); have f19 := Lib.hid (apart_fresh a10.out); have v18 := Lib.hid (apart_fresh c10.out); have p19 := Lib.hid (apart_fresh d10.out); have a13 := Lib.hid (apart_box e10); have c16 := Lib.hid (Below.step k14.out c12); have z16 := cell_below c12 e10; have l16 := cell_below c12 h10; have w15 := cell_below c12 f10; have s15 := cell_below c12 m10; have q15 := cell_below c12 k10; have k17 := cell_below c12 g10; have j16 := cell_below c12 j10; have d17 := cell_below c12 l10; have q17 := cell_below c12 i10; replace b10 := Lib.hid (own_below b10.out c12); replace a10 := Lib.hid (own_below a10.out c12); replace c10 := Lib.hid (own_below c10.out c12); replace d10 := Lib.hid (own_below d10.out c12); clear c12; have t18 : l12.cell? ⟨wq6.heap.size, 0, none⟩ = some (.int .i64 s10) := (by rw [← t12]; exact box_new _ _ _ 0 _ rfl); have f18 : l12.cell? ⟨wq6.heap.size, 1, none⟩ = some (.int .i64 q10) := (by rw [← t12]; exact box_new _ _ _ 1 _ rfl); have s17 : l12.cell? ⟨wq6.heap.size, 2, none⟩ = some (.int .i64 t10) := (by rw [← t12]; exact box_new _ _ _ 2 _ rfl); have h19 : l12.cell? ⟨wq6.heap.size, 3, none⟩ = some (.int .i64 r10) := (by rw [← t12]; exact box_new _ _ _ 3 _ rfl); have z17 : l12.cell? ⟨wq6.heap.size, 4, none⟩ = some (.int .i64 o10) := (by rw [← t12]; exact box_new _ _ _ 4 _ rfl); have m18 : l12.cell? ⟨wq6.heap.size, 5, none⟩ = some (.int .i64 n10) := (by rw [← t12]; exact box_new _ _ _ 5 _ rfl); have d18 : l12.cell? ⟨wq6.heap.size, 6, none⟩ = some (.int .i64 v10) := (by rw [← t12]; exact box_new _ _ _ 6 _ rfl); have g19 : l12.cell? ⟨wq6.heap.size, 7, none⟩ = some (.int .i64 w10) := (by rw [← t12]; exact box_new _ _ _ 7 _ rfl); have t17 : l12.cell? ⟨wq6.heap.size, 8, none⟩ = some (.int .i64 p10) := (by rw [← t12]; exact box_new _ _ _ 8 _ rfl); have b14 : Hid (l12.ownsRow w.heap.size 27 9 (.slice (some ⟨wq6.heap.size, 0, none⟩) 1 1) 1 [.int .i64 s10, .int .i64 q10, .int .i64 t10, .int .i64 r10, .int .i64 o10, .int .i64 n10, .int .i64 v10, .int .i64 w10, .int .i64 p10]) := Lib.hid (by rw [← t12]; exact own_laid (n := 1) k14.out.size rfl rfl (by unfold maxLen; omega)); replace H := let_hid H; obtain ⟨t13, w22, H⟩ := H; obtain ⟨r12, n17⟩ : ∃ x, (l12).setCell ⟨wq6.heap.size, 7, none⟩ (.int .i64 t13) = x := ⟨_, rfl⟩; have x18 := b14.out.frozenAt 7; have a15 := Lib.hid (own_stores [(7, .int .i64 t13)] b14.out); have s12 : Hid (r12.ownsRow w.heap.size 27 9 (.slice (some ⟨wq6.heap.size, 0, none⟩) 1 1) 1 [.int .i64 s10, .int .i64 q10, .int .i64 t10, .int .i64 r10, .int .i64 o10, .int .i64 n10, .int .i64 v10, .int .i64 t13, .int .i64 p10]) := Lib.hid (by rw [← n17]; exact a15.out.1); have l11 : Hid (l12.grownBy r12 (Value.slice (some ⟨wq6.heap.size, 0, none⟩) 1 1).ownBlock) := Lib.hid (by rw [← n17]; exact a15.out.2); have n16 := Lib.hid (c16.out.grown l11.out c16.out.size (fun q hq => (b14.out.lt q hq).1)); clear a15; have f14 := cell_other z16 l11.out a13.out; have y14 := cell_other l16 l11.out a13.out; have e15 := cell_other w15 l11.out a13.out; have s14 := cell_other s15 l11.out a13.out; have w14 := cell_other q15 l11.out a13.out; have g15 := cell_other k17 l11.out a13.out; have n14 := cell_other j16 l11.out a13.out; have o14 := cell_other d17 l11.out a13.out; have f15 := cell_other q17 l11.out a13.out; replace b10 := Lib.hid (own_other b10.out l11.out n19.out); replace a10 := Lib.hid (own_other a10.out l11.out f19.out); replace c10 := Lib.hid (own_other c10.out l11.out v18.out); replace d10 := Lib.hid (own_other d10.out l11.out p19.out); clear b14 l11; have r14 : r12.cell? ⟨wq6.heap.size, 0, none⟩ = some (.int .i64 s10) := s12.out.cells rfl 0 _ rfl
                      have t16 : r12.cell? ⟨wq6.heap.size, 1, none⟩ = some (.int .i64 q10) := s12.out.cells rfl 1 _ rfl; have j17 : r12.cell? ⟨wq6.heap.size, 2, none⟩ = some (.int .i64 t10) := s12.out.cells rfl 2 _ rfl; have p16 : r12.cell? ⟨wq6.heap.size, 3, none⟩ = some (.int .i64 r10) := s12.out.cells rfl 3 _ rfl; have m16 : r12.cell? ⟨wq6.heap.size, 4, none⟩ = some (.int .i64 o10) := s12.out.cells rfl 4 _ rfl; have k16 : r12.cell? ⟨wq6.heap.size, 5, none⟩ = some (.int .i64 n10) := s12.out.cells rfl 5 _ rfl; have x16 : r12.cell? ⟨wq6.heap.size, 6, none⟩ = some (.int .i64 v10) := s12.out.cells rfl 6 _ rfl; have z15 : r12.cell? ⟨wq6.heap.size, 7, none⟩ = some (.int .i64 t13) := s12.out.cells rfl 7 _ rfl; have n15 : r12.cell? ⟨wq6.heap.size, 8, none⟩ = some (.int .i64 p10) := s12.out.cells rfl 8 _ rfl; replace H := bind2_hid H; obtain ⟨z19, w18, x17, H⟩ := H; go_wp2_with fail; clear e10 h10 f10 m10 k10 g10 j10 l10 i10 x18 z16 l16 w15 s15 q15 k17 j16 d17 q17 t18 f18 s17 h19 z17 m18 d18 g19 t17; go_at_call 11; refine (GiRouteOn.C fuel (t_5b) ((PCover.Cover.mk s10 q10 t10 r10 o10 n10 v10 t13 p10)) e11 f11 _   (Lib.hid (own_cells a10.out)) (Lib.hid (own_max a10.out)) x17).mono ?_; rintro a22 e22 ⟨x20, k20, rfl, b13, y10⟩; have m21 := Lib.hid (apart_call b13 b10.out); have g21 := Lib.hid (apart_call b13 a10.out); have l22 := Lib.hid (apart_call b13 c10.out); have c20 := Lib.hid (apart_call b13 d10.out); have h21 := Lib.hid (apart_callbox b13 f14); have k22 := Lib.hid (apart_callbox b13 r14); have v22 := Lib.hid (own_lower b13 n16.out.size); clear b13; have g17 := Lib.hid (Below.step n16.out y10); replace f14 := cell_below y10 f14; replace y14 := cell_below y10 y14; replace e15 := cell_below y10 e15; replace s14 := cell_below y10 s14; replace w14 := cell_below y10 w14; replace g15 := cell_below y10 g15; replace n14 := cell_below y10 n14; replace o14 := cell_below y10 o14; replace f15 := cell_below y10 f15; replace r14 := cell_below y10 r14; replace t16 := cell_below y10 t16; replace j17 := cell_below y10 j17; replace p16 := cell_below y10 p16; replace m16 := cell_below y10 m16; replace k16 := cell_below y10 k16; replace x16 := cell_below y10 x16; replace z15 := cell_below y10 z15; replace n15 := cell_below y10 n15; replace b10 := Lib.hid (own_below b10.out y10); replace a10 := Lib.hid (own_below a10.out y10); replace c10 := Lib.hid (own_below c10.out y10); replace d10 := Lib.hid (own_below d10.out y10); replace s12 := Lib.hid (own_below s12.out y10); clear y10
                      cases w18 with
                      | false =>
                       replace H := let_hid H; obtain ⟨h15, i15, H⟩ := H; obtain rfl : h15 = true := i15.symm; replace H := ite_t H; obtain rfl := ret_hid H; go_wp2_with fail; go_ret; exact ⟨rfl, g17.out⟩
                      | true =>
                       replace H := let_hid H; obtain ⟨h15, i15, H⟩ := H; obtain rfl : h15 = false := i15.symm; replace H := ite_f H; go_wp2_with fail
                       go_meet
                       case rel => exact ⟨H, g17, f14, y14, e15, s14, w14, g15, n14, o14, f15, b10, a10, c10, d10⟩
                   case rest =>
                    as_aux_lemma =>
                     obtain ⟨H, i16, e10, h10, f10, m10, k10, g10, j10, l10, i10, b10, a10, c10, d10⟩ := hcut; rename World => wq7; unfold q7 at H; replace H := bind_hid H; obtain ⟨m19, o18, H⟩ := H; obtain ⟨m13, j13, l13, e13, n13, f13, h13, i13, g13⟩ := m19; replace H := unCover_hid H; go_wp2_with fail; go_at_call 17; refine (GsDrawIsCover.C tapes (code) A0 c0 _  HE (Lib.hid (Cells.below M0.out i16.out)) N0 V0 o18).mono ?_; rintro t22 d11 ⟨rfl, j11⟩; unfold PCover.Cover.val; have a18 := Lib.hid (Below.step i16.out j11); replace e10 := cell_below j11 e10; replace h10 := cell_below j11 h10; replace f10 := cell_below j11 f10; replace m10 := cell_below j11 m10; replace k10 := cell_below j11 k10; replace g10 := cell_below j11 g10; replace j10 := cell_below j11 j10; replace l10 := cell_below j11 l10; replace i10 := cell_below j11 i10; replace b10 := Lib.hid (own_below b10.out j11); replace a10 := Lib.hid (own_below a10.out j11); replace c10 := Lib.hid (own_below c10.out j11); replace d10 := Lib.hid (own_below d10.out j11); clear j11; obtain ⟨i12, v12⟩ : ∃ x, d11.alloc (.cells #[.int .i64 m13, .int .i64 j13, .int .i64 l13, .int .i64 e13, .int .i64 n13, .int .i64 f13, .int .i64 h13, .int .i64 i13, .int .i64 g13] 27) = x := ⟨_, rfl⟩; have g12 : Below d11.heap.size d11 i12 := (by rw [← v12]; exact (Below.refl _ _).alloc (Nat.le_refl _) _); have z20 := Lib.hid (apart_fresh b10.out); have r21 := Lib.hid (apart_fresh a10.out); have a20 := Lib.hid (apart_fresh c10.out); have l21 := Lib.hid (apart_fresh d10.out); have w19 := Lib.hid (Below.step a18.out g12); have x11 := cell_below g12 e10; have m11 := cell_below g12 h10; have i11 := cell_below g12 f10; have q11 := cell_below g12 m10; have v11 := cell_below g12 k10; have r11 := cell_below g12 g10; have t11 := cell_below g12 j10; have w11 := cell_below g12 l10; have o11 := cell_below g12 i10; replace b10 := Lib.hid (own_below b10.out g12); replace a10 := Lib.hid (own_below a10.out g12); replace c10 := Lib.hid (own_below c10.out g12); replace d10 := Lib.hid (own_below d10.out g12); clear g12; have p11 : i12.cell? ⟨d11.heap.size, 0, none⟩ = some (.int .i64 m13) := (by rw [← v12]; exact box_new _ _ _ 0 _ rfl); have z11 : i12.cell? ⟨d11.heap.size, 1, none⟩ = some (.int .i64 j13) := (by rw [← v12]; exact box_new _ _ _ 1 _ rfl); have e12 : i12.cell? ⟨d11.heap.size, 2, none⟩ = some (.int .i64 l13) := (by rw [← v12]; exact box_new _ _ _ 2 _ rfl); have s11 : i12.cell? ⟨d11.heap.size, 3, none⟩ = some (.int .i64 e13) := (by rw [← v12]; exact box_new _ _ _ 3 _ rfl); have a12 : i12.cell? ⟨d11.heap.size, 4, none⟩ = some (.int .i64 n13) := (by rw [← v12]; exact box_new _ _ _ 4 _ rfl); have f12 : i12.cell? ⟨d11.heap.size, 5, none⟩ = some (.int .i64 f13) := (by rw [← v12]; exact box_new _ _ _ 5 _ rfl); have d12 : i12.cell? ⟨d11.heap.size, 6, none⟩ = some (.int .i64 h13) := (by rw [← v12]; exact box_new _ _ _ 6 _ rfl); have n11 : i12.cell? ⟨d11.heap.size, 7, none⟩ = some (.int .i64 i13) := (by rw [← v12]; exact box_new _ _ _ 7 _ rfl); have k11 : i12.cell? ⟨d11.heap.size, 8, none⟩ = some (.int .i64 g13) := (by rw [← v12]; exact box_new _ _ _ 8 _ rfl); go_wp2_with fail; clear e10 h10 f10 m10 k10 g10 j10 l10 i10; have v16 := Lib.hid x11; replace x11 := cell_regrown x11; have b17 := Lib.hid m11; replace m11 := cell_regrown m11; have r15 := Lib.hid i11; replace i11 := cell_regrown i11; have e17 := Lib.hid q11; replace q11 := cell_regrown q11; have y15 := Lib.hid v11; replace v11 := cell_regrown v11; have h17 := Lib.hid r11; replace r11 := cell_regrown r11; have v15 := Lib.hid t11; replace t11 := cell_regrown t11; have m15 := Lib.hid w11; replace w11 := cell_regrown w11; have o15 := Lib.hid o11; replace o11 := cell_regrown o11; have q16 := Lib.hid p11; replace p11 := cell_regrown p11; have c17 := Lib.hid z11; replace z11 := cell_regrown z11; have f16 := Lib.hid e12; replace e12 := cell_regrown e12; have p15 := Lib.hid s11; replace s11 := cell_regrown s11; have a17 := Lib.hid a12
                     replace a12 := cell_regrown a12; have b16 := Lib.hid f12; replace f12 := cell_regrown f12; have p17 := Lib.hid d12; replace d12 := cell_regrown d12; have m17 := Lib.hid n11; replace n11 := cell_regrown n11; have f17 := Lib.hid k11; replace k11 := cell_regrown k11; replace H := bind_hid H; obtain ⟨a19, g18, H⟩ := H; have o17 : ∀ d os, Calls Try.prog 18 #[.agg #[.int .i64 m13, .int .i64 j13, .int .i64 l13, .int .i64 e13, .int .i64 n13, .int .i64 f13, .int .i64 h13, .int .i64 i13, .int .i64 g13]] (Go.Sort.grow (redrawn i12 d) os) fun e w'' => e = .returned (.bool a19) ∧ ∃ p : Regrown, w'' = Go.Sort.grow (redrawn i12 p.d) p.os := fun d os => Calls.regrown_of (GiIsCover.C ((PCover.Cover.mk m13 j13 l13 e13 n13 f13 h13 i13 g13))  _    g18); replace H := bind_hid H; obtain ⟨j18, n18, H⟩ := H; have t15 : ∀ d os, Calls Try.prog 19 #[.agg #[.int .i64 m13, .int .i64 j13, .int .i64 l13, .int .i64 e13, .int .i64 n13, .int .i64 f13, .int .i64 h13, .int .i64 i13, .int .i64 g13]] (Go.Sort.grow (redrawn i12 d) os) fun e w'' => e = .returned (.bool j18) ∧ ∃ p : Regrown, w'' = Go.Sort.grow (redrawn i12 p.d) p.os := fun d os => Calls.regrown_of (GsIsCover.C ((PCover.Cover.mk m13 j13 l13 e13 n13 f13 h13 i13 g13))  _    n18); replace H := let_hid H; obtain ⟨b18, q20, H⟩ := H; refine wp_region_quiet_below (by kernel_rfl) (by kernel_rfl) ?_
                     repeat (go_big_quiet_step (first | (go_at_call 18; exact o17 _ _) | (go_at_call 19; exact t15 _ _)))
                     refine wpQuiet_nil ?_; intro Y33 hY33; replace hY33 := below_class hY33; clear o17 t15; replace x11 := v16.out; clear v16; replace m11 := b17.out; clear b17; replace i11 := r15.out; clear r15; replace q11 := e17.out; clear e17; replace v11 := y15.out; clear y15; replace r11 := h17.out; clear h17; replace t11 := v15.out; clear v15; replace w11 := m15.out; clear m15; replace o11 := o15.out; clear o15; replace p11 := q16.out; clear q16; replace z11 := c17.out; clear c17; replace e12 := f16.out; clear f16; replace s11 := p15.out; clear p15; replace a12 := a17.out; clear a17; replace f12 := b16.out; clear b16; replace d12 := p17.out; clear p17; replace n11 := m17.out; clear m17; replace k11 := f17.out; clear f17; have m14 := Lib.hid (Below.step w19.out hY33); replace x11 := cell_below hY33 x11; replace m11 := cell_below hY33 m11; replace i11 := cell_below hY33 i11; replace q11 := cell_below hY33 q11; replace v11 := cell_below hY33 v11; replace r11 := cell_below hY33 r11; replace t11 := cell_below hY33 t11; replace w11 := cell_below hY33 w11; replace o11 := cell_below hY33 o11; replace p11 := cell_below hY33 p11; replace z11 := cell_below hY33 z11; replace e12 := cell_below hY33 e12; replace s11 := cell_below hY33 s11; replace a12 := cell_below hY33 a12; replace f12 := cell_below hY33 f12; replace d12 := cell_below hY33 d12; replace n11 := cell_below hY33 n11; replace k11 := cell_below hY33 k11; replace b10 := Lib.hid (own_below b10.out hY33); replace a10 := Lib.hid (own_below a10.out hY33); replace c10 := Lib.hid (own_below c10.out hY33); replace d10 := Lib.hid (own_below d10.out hY33); clear hY33
                     cases b18 with
                     | false =>
                      replace H := ite_f H; replace H := bind_hid H; obtain ⟨l17, s18, H⟩ := H; go_wp2_with fail; go_at_call 20; refine (GsDrawFaultText.C tapes (code) A0 c0 _  HE (Lib.hid (Cells.below M0.out m14.out)) N0 V0 s18).mono ?_; rintro e21 x19 ⟨rfl, a11⟩; have y17 := Lib.hid (Below.step m14.out a11); replace x11 := cell_below a11 x11; replace m11 := cell_below a11 m11; replace i11 := cell_below a11 i11; replace q11 := cell_below a11 q11; replace v11 := cell_below a11 v11; replace r11 := cell_below a11 r11; replace t11 := cell_below a11 t11; replace w11 := cell_below a11 w11; replace o11 := cell_below a11 o11; replace p11 := cell_below a11 p11; replace z11 := cell_below a11 z11; replace e12 := cell_below a11 e12; replace s11 := cell_below a11 s11; replace a12 := cell_below a11 a12; replace f12 := cell_below a11 f12; replace d12 := cell_below a11 d12; replace n11 := cell_below a11 n11; replace k11 := cell_below a11 k11; replace b10 := Lib.hid (own_below b10.out a11); replace a10 := Lib.hid (own_below a10.out a11); replace c10 := Lib.hid (own_below c10.out a11); replace d10 := Lib.hid (own_below d10.out a11); clear a11; replace H := bind2_hid H; obtain ⟨t20, y19, v19, H⟩ := H; go_wp2_with fail; go_at_call 21; refine (GiFaultText.C (l17)  _    v19).mono ?_; rintro o21 r20 ⟨rfl, c11⟩; have o19 := Lib.hid (Below.step y17.out c11); replace x11 := cell_below c11 x11; replace m11 := cell_below c11 m11; replace i11 := cell_below c11 i11; replace q11 := cell_below c11 q11; replace v11 := cell_below c11 v11; replace r11 := cell_below c11 r11; replace t11 := cell_below c11 t11; replace w11 := cell_below c11 w11; replace o11 := cell_below c11 o11; replace p11 := cell_below c11 p11; replace z11 := cell_below c11 z11; replace e12 := cell_below c11 e12; replace s11 := cell_below c11 s11; replace a12 := cell_below c11 a12; replace f12 := cell_below c11 f12; replace d12 := cell_below c11 d12; replace n11 := cell_below c11 n11; replace k11 := cell_below c11 k11; replace b10 := Lib.hid (own_below b10.out c11); replace a10 := Lib.hid (own_below a10.out c11); replace c10 := Lib.hid (own_below c10.out c11); replace d10 := Lib.hid (own_below d10.out c11); clear c11; replace H := bind2_hid H; obtain ⟨w21, a21, l18, H⟩ := H; go_wp2_with fail; go_at_call 22; refine (GsFaultText.C (l17)  _    l18).mono ?_; rintro x22 n22 ⟨rfl, b11⟩; have w16 := Lib.hid (Below.step o19.out b11); replace x11 := cell_below b11 x11; replace m11 := cell_below b11 m11; replace i11 := cell_below b11 i11; replace q11 := cell_below b11 q11; replace v11 := cell_below b11 v11; replace r11 := cell_below b11 r11; replace t11 := cell_below b11 t11; replace w11 := cell_below b11 w11; replace o11 := cell_below b11 o11; replace p11 := cell_below b11 p11; replace z11 := cell_below b11 z11; replace e12 := cell_below b11 e12; replace s11 := cell_below b11 s11; replace a12 := cell_below b11 a12; replace f12 := cell_below b11 f12; replace d12 := cell_below b11 d12; replace n11 := cell_below b11 n11; replace k11 := cell_below b11 k11; replace b10 := Lib.hid (own_below b10.out b11); replace a10 := Lib.hid (own_below a10.out b11); replace c10 := Lib.hid (own_below c10.out b11); replace d10 := Lib.hid (own_below d10.out b11); clear b11; go_upto_region 38 with fail
                      go_cut [2] (fun v2_ wr => ∃ (v14 : Bool), v2_ = .bool v14 ∧ Hid (q8  (v14) = some r) ∧ Hid (Below w.heap.size w wr) ∧ wr.cell? ⟨wt_5.heap.size, 0, none⟩ = some (.int .i64 s10) ∧ wr.cell? ⟨wt_5.heap.size, 1, none⟩ = some (.int .i64 q10) ∧ wr.cell? ⟨wt_5.heap.size, 2, none⟩ = some (.int .i64 t10) ∧ wr.cell? ⟨wt_5.heap.size, 3, none⟩ = some (.int .i64 r10) ∧ wr.cell? ⟨wt_5.heap.size, 4, none⟩ = some (.int .i64 o10) ∧ wr.cell? ⟨wt_5.heap.size, 5, none⟩ = some (.int .i64 n10) ∧ wr.cell? ⟨wt_5.heap.size, 6, none⟩ = some (.int .i64 v10) ∧ wr.cell? ⟨wt_5.heap.size, 7, none⟩ = some (.int .i64 w10) ∧ wr.cell? ⟨wt_5.heap.size, 8, none⟩ = some (.int .i64 p10) ∧ wr.cell? ⟨d11.heap.size, 0, none⟩ = some (.int .i64 m13) ∧ wr.cell? ⟨d11.heap.size, 1, none⟩ = some (.int .i64 j13) ∧ wr.cell? ⟨d11.heap.size, 2, none⟩ = some (.int .i64 l13) ∧ wr.cell? ⟨d11.heap.size, 3, none⟩ = some (.int .i64 e13) ∧ wr.cell? ⟨d11.heap.size, 4, none⟩ = some (.int .i64 n13) ∧ wr.cell? ⟨d11.heap.size, 5, none⟩ = some (.int .i64 f13) ∧ wr.cell? ⟨d11.heap.size, 6, none⟩ = some (.int .i64 h13) ∧ wr.cell? ⟨d11.heap.size, 7, none⟩ = some (.int .i64 i13) ∧ wr.cell? ⟨d11.heap.size, 8, none⟩ = some (.int .i64 g13) ∧ Hid (wr.ownsRow w.heap.size 92 5 (.slice p12 t_5a.length m12) t_5a.length (PRate.flat t_5a)) ∧ Hid (wr.ownsRow w.heap.size 77 4 (.slice e11 t_5b.length f11) t_5b.length (PMail.flat t_5b)) ∧ Hid (wr.ownsRow w.heap.size 3 1 (.slice z12 x10.length y12) x10.length (HelpInt.iv x10)) ∧ Hid (wr.ownsRow w.heap.size 3 1 (.slice c13 z10.length d13) z10.length (HelpInt.iv z10)))
                      case first =>
                       as_aux_lemma =>
                        replace H := let_hid H; obtain ⟨y18, w20, H⟩ := H; replace H := join_hid H
                        cases y18 with
                        | false =>
                         replace H := ite_f H; replace H := app_hid H; go_wp2_with fail
                         go_meet
                         case rel => exact ⟨_, rfl, H, w16, x11, m11, i11, q11, v11, r11, t11, w11, o11, p11, z11, e12, s11, a12, f12, d12, n11, k11, b10, a10, c10, d10⟩
                        | true =>
                         replace H := ite_t H; replace H := let_hid H; obtain ⟨j21, t21, H⟩ := H; replace H := app_hid H; go_wp2_with fail
                         go_meet
                         case rel => exact ⟨_, rfl, H, w16, x11, m11, i11, q11, v11, r11, t11, w11, o11, p11, z11, e12, s11, a12, f12, d12, n11, k11, b10, a10, c10, d10⟩
                      case rest =>
                       as_aux_lemma =>
                        obtain ⟨v14, rfl, H, r17, x11, m11, i11, q11, v11, r11, t11, w11, o11, p11, z11, e12, s11, a12, f12, d12, n11, k11, b10, a10, c10, d10⟩ := hcut; rename World => wq8; unfold q8 at H; replace H := let_hid H; obtain ⟨_, rfl, H⟩ := H; obtain rfl := ret_hid H; go_wp2_with fail; go_ret; exact ⟨rfl, r17.out⟩
                     | true =>
                      replace H := ite_t H; obtain rfl := ret_hid H; go_wp2_with fail; go_ret; exact ⟨rfl, m14.out⟩
                  | true =>
                   replace H := ite_t H; obtain rfl := ret_hid H; go_wp2_with fail; go_ret; exact ⟨rfl, k14.out⟩
             | true =>
              replace H := ite_t H; obtain rfl := ret_hid H; go_wp2_with fail; go_ret; exact ⟨rfl, b15.out⟩
          | true =>
           replace H := ite_t H; obtain rfl := ret_hid H; go_wp2_with fail; go_ret; exact ⟨rfl, k13.out⟩
       | true =>
        replace H := ite_t H; obtain rfl := ret_hid H; go_wp2_with fail; go_ret; exact ⟨rfl, z14.out⟩
    | true =>
     replace H := ite_t H; obtain rfl := ret_hid H; go_wp2_with fail; go_ret; exact ⟨rfl, x15.out⟩
 | true =>
  replace H := ite_t H; obtain rfl := ret_hid H; go_wp2_with fail; go_ret; exact ⟨rfl, y13.out⟩
end Go.Proofs.Ytgbcdmlcmnaimaa.GlFnCovers

namespace Go.Proofs.Ytgbcdmlcmnaimaa.Q10Text
open Go.RowKit
open Go.Proofs.Ytgbcdmlcmnaimaa.GoP Go.Proofs.Ytgbcdmlcmnaimaa.PlainStamp Go.Proofs.Ytgbcdmlcmnaimaa.QBase Go.Proofs.Ytgbcdmlcmnaimaa.QLoop

theorem text_same (n : Int) : ∃ a b, GiFaultText.P n = some (a, b) ∧ GsFaultText.P n = some (a, b) := by
  simp only [GiFaultText.P, GsFaultText.P, within_eq, l1In_eq, Option.bind_some, letK, iteK_if]
  cases hb : inB n 0 5 with
  | false => exact ⟨_, _, rfl, rfl⟩
  | true =>
    have h := inB_of hb
    obtain ⟨k, rfl⟩ : ∃ k : Nat, n = (k : Int) := ⟨n.toNat, by omega⟩
    simp only [Bool.not_true, Bool.false_eq_true, if_false, idx_nat]
    have hk : k < 6 := by omega
    rcases k with _ | _ | _ | _ | _ | _ | k
    · exact ⟨_, _, rfl, rfl⟩
    · exact ⟨_, _, rfl, rfl⟩
    · exact ⟨_, _, rfl, rfl⟩
    · exact ⟨_, _, rfl, rfl⟩
    · exact ⟨_, _, rfl, rfl⟩
    · exact ⟨_, _, rfl, rfl⟩
    · omega
end Go.Proofs.Ytgbcdmlcmnaimaa.Q10Text

namespace Go.Proofs.Ytgbcdmlcmnaimaa.Q9Leave
open Go.RowKit
open Go.Proofs.Ytgbcdmlcmnaimaa.GoP Go.Proofs.Ytgbcdmlcmnaimaa.PlainStamp Go.Proofs.Ytgbcdmlcmnaimaa.QBase Go.Proofs.Ytgbcdmlcmnaimaa.Q9Late Go.Proofs.Ytgbcdmlcmnaimaa.Q9Early Go.Proofs.Ytgbcdmlcmnaimaa.QFoldS Go.Proofs.Ytgbcdmlcmnaimaa.Q9Cand Go.Proofs.Ytgbcdmlcmnaimaa.Q9Dual Go.Proofs.Ytgbcdmlcmnaimaa.Q9Arr Go.Proofs.Ytgbcdmlcmnaimaa.Q9List Go.Proofs.Ytgbcdmlcmnaimaa.Q9Mail Go.Proofs.Ytgbcdmlcmnaimaa.QUp Go.Proofs.Ytgbcdmlcmnaimaa.QAll Go.Proofs.Ytgbcdmlcmnaimaa.QLoop Go.Proofs.Ytgbcdmlcmnaimaa.PMail Go.Proofs.Ytgbcdmlcmnaimaa.PIntA10

def leaveRes (l : List Mail) (o p b : Int) : Int × Bool := if goodM l = true ∧ inB o 0 9 = true ∧ inB p 0 9 = true ∧ o ≠ p ∧ inB b 0 9999 = true ∧ at_ (lateM l p b) o ≠ -1 then (at_ (lateM l p b) o, true) else (0, false)
theorem leave_test {l : List Mail} (hg : goodM l = true) {o p b : Int} (hp : 0 ≤ p ∧ p ≤ 9) (hb : 0 ≤ b ∧ b ≤ 9999) {k : Nat} {x : Mail} (hx : l[k]? = some x) :
    (x.from_ = o ∧ x.arrive ≤ b ∧ at_ (earlyM l x.to_ x.arrive) p ≤ b) ↔ x.from_ = o ∧ x.arrive ≤ at_ (lateM (l.drop (k + 1)) p b) x.to_ := by
  have hm := okM_of (m_ok hg hx)
  rw [dual hg hm.2.1 hp (by omega) hb.2, ← late_behind hg hx p b]
  constructor
  · rintro ⟨h1, _, h2⟩; exact ⟨h1, h2⟩
  · rintro ⟨h1, h2⟩
    refine ⟨h1, ?_, h2⟩
    have h3 := (dual hg hm.2.1 hp (by omega) hb.2).2 h2
    have h4 := early_low hg hm.2.1 (m := x.arrive) (by omega) hp
    omega
/-- what is told by the last mail that leads on -/
theorem leave_last {l : List Mail} (hg : goodM l = true) {o p b : Int} {k : Nat} {x : Mail} (hx : l[k]? = some x) (h1 : x.from_ = o) (h2 : x.arrive ≤ at_ (lateM (l.drop (k + 1)) p b) x.to_) (h3 : at_ (lateM (l.drop (k + 1)) p b) o = -1) : at_ (lateM l p b) o = x.leave := by
  have hok := m_ok hg hx
  have hm := okM_of hok
  have hd := late_len (l.drop (k + 1)) p b
  subst h1
  have hs : at_ (stepL x (lateM (l.drop (k + 1)) p b)) x.from_ = x.leave := by
    rw [stepL_at hd hok hm.1, if_pos ⟨h2, rfl⟩, h3]; omega
  have hmem : ∀ y ∈ l.take k, okM y = true := fun y hy => m_mem hg (List.mem_of_mem_take hy)
  have h5 := foldL_up (l.take k) hmem hm.1 (t := stepL x (lateM (l.drop (k + 1)) p b)) (by rw [stepL_len, hd])
  have h6 := foldL_top (l.take k) hmem (aheadM hg hx) hm.1 (t := stepL x (lateM (l.drop (k + 1)) p b)) (by rw [stepL_len, hd])
  rw [late_cut hx p b]
  omega
theorem leave_spec {fuel : Nat} (l : List Mail) (hl : l.length ≤ 9223372036854775807) (o p b : Int) (hf : 20 < fuel) : GsLatestLeave.P fuel l o p b = some (leaveRes l o p b) := by
  simp only [GsLatestLeave.P, l9Asked_eq l hl, l9Office_eq, Option.bind_some, letK, joinK, appK, iteK_if]
  cases ha : askM l o b with
  | false =>
    have : leaveRes l o p b = (0, false) := by
      unfold leaveRes; rw [if_neg]
      rintro ⟨h1, h2, _, _, h3, _⟩
      unfold askM at ha; rw [h1, h2, h3] at ha; exact absurd ha (by simp)
    simp [this]
  | true =>
    obtain ⟨hg, ho, hb⟩ := ask_of ha
    have ha' := ha
    unfold askM at ha'
    simp only [Bool.and_eq_true] at ha'
    obtain ⟨⟨_, ho1⟩, hb1⟩ := ha'
    cases hp : inB p 0 9 with
    | false => simp [leaveRes, hp]
    | true =>
      have hp2 := inB_of hp
      by_cases he : o = p
      · simp [he, leaveRes]
      · have he2 : (o == p) = false := by simpa using he
        have hlen := m_len hg
        simp only [Bool.not_true, Bool.false_eq_true, if_false, he2]
        rw [wrap_in (by omega) (by omega)]
        refine lp_is (n := l.length) _ (fun k (s : Int) => s = (l.length : Int) - 1 - (k : Int) ∧ at_ (lateM (l.drop (l.length - k)) p b) o = -1) ?_ ?_ fuel 0 _ (by omega) (by omega) ?_
        · rintro k s nx hk ⟨rfl, hI⟩ hn
          have hq : l.length - k - 1 < l.length := by omega
          obtain ⟨x, hx⟩ : ∃ x, l[l.length - k - 1]? = some x := ⟨_, List.getElem?_eq_getElem hq⟩
          have hxe : l[l.length - k - 1] = x := by rw [List.getElem?_eq_getElem hq] at hx; exact Option.some.inj hx
          have hi : idx l ((l.length : Int) - 1 - (k : Int)) = some x := by
            rw [show (l.length : Int) - 1 - (k : Int) = ((l.length - k - 1 : Nat) : Int) by omega, idx_nat, hx]
          have hok := m_ok hg hx
          have hm := okM_of hok
          have hd : lateM (l.drop (l.length - (k + 1))) p b = stepL x (lateM (l.drop (l.length - k)) p b) := by
            unfold lateM
            rw [show l.length - (k + 1) = l.length - k - 1 by omega, List.drop_eq_getElem_cons hq, List.foldr_cons, hxe, show l.length - k - 1 + 1 = l.length - k by omega]
          have ht := leave_test hg hp2 hb hx (o := o)
          have hll := leave_last hg hx (o := o) (p := p) (b := b)
          rw [show l.length - k - 1 + 1 = l.length - k by omega] at ht hll
          have h0 : (0 : Int) ≤ (l.length : Int) - 1 - (k : Int) := by omega
          have hn2 := fun h => hn ((l.length : Int) - 1 - (k : Int) - 1) ⟨by omega, h⟩
          have ht1 := times_eq hg hm.2.1 x.arrive
          have hat := stepL_at (i := o) (late_len (l.drop (l.length - k)) p b) hok ho
          rw [hd] at hn2
          clear hx hxe hd
          obtain ⟨a, c, d, e⟩ := x
          dsimp only at hm ht hll ht1 hat
          have no : ¬ (c = o ∧ e ≤ b ∧ at_ (earlyM l d e) p ≤ b) → at_ (stepL ⟨a, c, d, e⟩ (lateM (l.drop (l.length - k)) p b)) o = -1 := by
            intro h
            rw [hat, if_neg (fun q => h (ht.2 ⟨q.2.symm, q.1⟩)), hI]
          simp only [GsLatestLeave.l0, letK, decide_eq_true h0, iteK_if, if_true, hi, Option.bind_some, unMail, joinK, appK]
          rw [wrap_in (by omega) (by omega)]
          by_cases h1 : c = o
          · by_cases h2 : e ≤ b
            · simp only [beq_iff_eq, h1, if_true, decide_eq_true h2, ht1, Option.bind_some, idx_at (early_len l d e) hp2]
              by_cases h3 : at_ (earlyM l d e) p ≤ b
              · have h4 := hll h1 (ht.1 ⟨h1, h2, h3⟩).2 hI
                have h5 : ¬ a = -1 := by omega
                simp [h3, leaveRes, hg, ho1, hp, he, hb1, h4, h5]
              · simp only [decide_eq_false h3, Bool.false_eq_true, if_false]
                exact hn2 (no (fun q => h3 q.2.2))
            · simp only [beq_iff_eq, h1, if_true, decide_eq_false h2, Bool.false_eq_true, if_false]
              exact hn2 (no (fun q => h2 q.2.1))
          · have h1' : (c == o) = false := by simpa using h1
            simp only [h1', Bool.false_eq_true, if_false]
            exact hn2 (no (fun q => h1 q.1))
        · rintro s nx ⟨rfl, hI⟩
          have h0 : ¬ (0 : Int) ≤ (l.length : Int) - 1 - (l.length : Int) := by omega
          rw [Nat.sub_self, List.drop_zero] at hI
          simp only [GsLatestLeave.l0, letK, decide_eq_false h0, iteK_if, Bool.false_eq_true, if_false, appK, GsLatestLeave.e0]
          simp [leaveRes, hI]
        · refine ⟨by simp, ?_⟩
          rw [Nat.sub_zero, List.drop_length]
          show at_ (startL p b) o = -1
          rw [startL_at hp2 ho, if_neg he]
end Go.Proofs.Ytgbcdmlcmnaimaa.Q9Leave

namespace Go.Proofs.Ytgbcdmlcmnaimaa.Q10Spare
open Go.RowKit
open Go.Proofs.Ytgbcdmlcmnaimaa.GoP Go.Proofs.Ytgbcdmlcmnaimaa.PlainStamp Go.Proofs.Ytgbcdmlcmnaimaa.QBase Go.Proofs.Ytgbcdmlcmnaimaa.Q10Cover Go.Proofs.Ytgbcdmlcmnaimaa.Q9Leave Go.Proofs.Ytgbcdmlcmnaimaa.Q9Late Go.Proofs.Ytgbcdmlcmnaimaa.Q9Dual Go.Proofs.Ytgbcdmlcmnaimaa.Q9Arr Go.Proofs.Ytgbcdmlcmnaimaa.Q9List Go.Proofs.Ytgbcdmlcmnaimaa.QLoop Go.Proofs.Ytgbcdmlcmnaimaa.PCover Go.Proofs.Ytgbcdmlcmnaimaa.PMail Go.Proofs.Ytgbcdmlcmnaimaa.PIntA10

def spareRes (ms : List Mail) (x : Cover) : Int × Bool := if (goodM ms && okC x && decide (x.leave ≤ at_ (lateM ms x.to_ x.arrive) x.from_)) = true then (at_ (lateM ms x.to_ x.arrive) x.from_ - x.leave, true) else (0, false)
theorem spare_impl {fuel : Nat} {ms : List Mail} (hl : ms.length ≤ 9223372036854775807) (x : Cover) (hf : 20 < fuel) : GiSpareMinutes.P fuel ms x = some (spareRes ms x) := by
  have e1 := isCover_eq x
  have hof := fun h => okC_of (x := x) h
  obtain ⟨a, b, c, d, e, f, g, h, i⟩ := x
  simp only [GiSpareMinutes.P, unCover, isTime_eq ms hl, e1, Option.bind_some, letK, joinK, appK, iteK_if, spareRes]
  cases hm : goodM ms with
  | false => simp
  | true =>
    cases hc : okC ⟨a, b, c, d, e, f, g, h, i⟩ with
    | false => simp
    | true =>
      have ho := hof hc
      dsimp only at ho
      have htop := late_top hm (o := g) (m := i) (i := f) (by omega) (by omega) (by omega)
      simp only [Bool.not_true, Bool.false_eq_true, if_false, latest_eq hm (show 0 ≤ g ∧ g ≤ 9 by omega) i hf, Option.bind_some, un_eq, ten (late_len ms g i), idx_at (late_len ms g i) (show 0 ≤ f ∧ f ≤ 9 by omega)]
      by_cases h0 : h ≤ at_ (lateM ms g i) f
      · have h1 : ¬ at_ (lateM ms g i) f < h := by omega
        rw [wrap_in (by omega) (by omega)]
        simp [h0, h1]
      · have h1 : at_ (lateM ms g i) f < h := by omega
        simp [h0, h1]
theorem spare_spec {fuel : Nat} {ms : List Mail} (hl : ms.length ≤ 9223372036854775807) (x : Cover) (hf : 20 < fuel) : GsSpareMinutes.P fuel ms x = some (spareRes ms x) := by
  have e1 := l10One_eq x
  have hof := fun h => okC_of (x := x) h
  have e2 := leave_spec (fuel := fuel) ms hl x.from_ x.to_ x.arrive hf
  obtain ⟨a, b, c, d, e, f, g, h, i⟩ := x
  dsimp only at e2
  simp only [GsSpareMinutes.P, unCover, l9Good_eq ms hl, e1, e2, Option.bind_some, letK, joinK, appK, iteK_if, spareRes]
  cases hm : goodM ms with
  | false => simp
  | true =>
    cases hc : okC ⟨a, b, c, d, e, f, g, h, i⟩ with
    | false => simp
    | true =>
      have ho := hof hc
      dsimp only at ho
      have htop := late_top hm (o := g) (m := i) (i := f) (by omega) (by omega) (by omega)
      have b1 : inB f 0 9 = true := by unfold inB; simp; omega
      have b2 : inB g 0 9 = true := by unfold inB; simp; omega
      have b3 : inB i 0 9999 = true := by unfold inB; simp; omega
      have hfg : f ≠ g := ho.2.2.2.2.2.1
      have hL : leaveRes ms f g i = if at_ (lateM ms g i) f = -1 then (0, false) else (at_ (lateM ms g i) f, true) := by
        unfold leaveRes
        by_cases hn : at_ (lateM ms g i) f = -1
        · rw [if_pos hn, if_neg (fun q => q.2.2.2.2.2 hn)]
        · rw [if_neg hn, if_pos ⟨hm, b1, b2, hfg, b3, hn⟩]
      simp only [hL]
      by_cases hn : at_ (lateM ms g i) f = -1
      · have h1 : ¬ h ≤ at_ (lateM ms g i) f := by omega
        simp [bind2, h1, hn]
        omega
      · rw [if_neg hn]
        simp only [bind2_some, Bool.not_true, Bool.false_eq_true, if_false]
        by_cases h0 : h ≤ at_ (lateM ms g i) f
        · have h1 : ¬ at_ (lateM ms g i) f < h := by omega
          rw [wrap_in (by omega) (by omega)]
          simp [h0, h1]
        · have h1 : at_ (lateM ms g i) f < h := by omega
          simp [h0, h1]
end Go.Proofs.Ytgbcdmlcmnaimaa.Q10Spare

namespace Go.Proofs.Ytgbcdmlcmnaimaa.Q5Most
open Go.RowKit
open Go.Proofs.Ytgbcdmlcmnaimaa.GoP Go.Proofs.Ytgbcdmlcmnaimaa.PlainStamp Go.Proofs.Ytgbcdmlcmnaimaa.QBase Go.Proofs.Ytgbcdmlcmnaimaa.QLoop

theorem most_is (a b : Int) : GsL1Most.P a b = some (max a b) := by
  simp only [GsL1Most.P, letK, iteK_if]
  by_cases h : b < a
  · rw [if_pos (by simpa using h)]; congr 1; omega
  · rw [if_neg (by simpa using h)]; congr 1; omega
end Go.Proofs.Ytgbcdmlcmnaimaa.Q5Most

namespace Go.Proofs.Ytgbcdmlcmnaimaa.Q10Due
open Go.RowKit
open Go.Proofs.Ytgbcdmlcmnaimaa.GoP Go.Proofs.Ytgbcdmlcmnaimaa.PlainStamp Go.Proofs.Ytgbcdmlcmnaimaa.QBase Go.Proofs.Ytgbcdmlcmnaimaa.Q10Fault Go.Proofs.Ytgbcdmlcmnaimaa.Q10Cover Go.Proofs.Ytgbcdmlcmnaimaa.Q8For Go.Proofs.Ytgbcdmlcmnaimaa.Q8List Go.Proofs.Ytgbcdmlcmnaimaa.Q8Rate Go.Proofs.Ytgbcdmlcmnaimaa.Q5Most Go.Proofs.Ytgbcdmlcmnaimaa.QLoop Go.Proofs.Ytgbcdmlcmnaimaa.PCover Go.Proofs.Ytgbcdmlcmnaimaa.PRate

def dueRes (rs : List Rate) (x : Cover) : Int × Bool := if (okRs rs && okC x && decide (rateC rs x ≠ 0)) = true then (2 * max (rateC rs x - x.paid) 0, true) else (0, false)
theorem due_impl (rs : List Rate) (x : Cover) (hr : rs.length ≤ 9223372036854775807) : GiDueOn.P rs x = some (dueRes rs x) := by
  have e1 := isCover_eq x
  have ht : GiRateOfCover.P rs x = some (rateC rs x) := by
    obtain ⟨a, b, c, d, e, f, g, h, i⟩ := x
    simp only [GiRateOfCover.P, unCover, rateOn_eq, Option.bind_some, letK, rateC]
  have hle := fun h => rateC_le (rs := rs) h x
  have hof := fun h => okC_of (x := x) h
  obtain ⟨a, b, c, d, e, f, g, h, i⟩ := x
  simp only [GiDueOn.P, unCover, areRates_eq rs hr, e1, ht, Option.bind_some, letK, joinK, appK, iteK_if, dueRes]
  cases ha : okRs rs with
  | false => simp
  | true =>
    cases hc : okC ⟨a, b, c, d, e, f, g, h, i⟩ with
    | false => simp
    | true =>
      have hl := hle ha
      have ho := hof hc
      dsimp only at ho
      rw [wrap_in (x := rateC rs ⟨a, b, c, d, e, f, g, h, i⟩ - e) (by omega) (by omega), wrap_in (by omega) (by omega)]
      by_cases h0 : rateC rs ⟨a, b, c, d, e, f, g, h, i⟩ = 0 <;> simp [h0]
theorem due_spec {fuel : Nat} (rs : List Rate) (x : Cover) (hr : rs.length ≤ 9223372036854775807) (hf : 17 < fuel) : GsDueOn.P fuel rs x = some (dueRes rs x) := by
  have e1 := l10One_eq x
  have ht : GsL8For.P rs x.day x.zone x.grams = some (rateC rs x) := l8For_eq _ _ _ _
  have hle := fun h => rateC_le (rs := rs) h x
  have hof := fun h => okC_of (x := x) h
  obtain ⟨a, b, c, d, e, f, g, h, i⟩ := x
  dsimp only at ht
  simp only [GsDueOn.P, unCover, l8Good_eq rs hr hf, e1, ht, Option.bind_some, letK, joinK, appK, iteK_if, dueRes, most_is]
  cases ha : okRs rs with
  | false => simp
  | true =>
    cases hc : okC ⟨a, b, c, d, e, f, g, h, i⟩ with
    | false => simp
    | true =>
      have hl := hle ha
      have ho := hof hc
      dsimp only at ho
      rw [wrap_in (x := rateC rs ⟨a, b, c, d, e, f, g, h, i⟩ - e) (by omega) (by omega), wrap_in (by omega) (by omega), show max 0 (rateC rs ⟨a, b, c, d, e, f, g, h, i⟩ - e) = max (rateC rs ⟨a, b, c, d, e, f, g, h, i⟩ - e) 0 by omega]
      by_cases h0 : rateC rs ⟨a, b, c, d, e, f, g, h, i⟩ = 0 <;> simp [h0]
end Go.Proofs.Ytgbcdmlcmnaimaa.Q10Due

namespace Go.Proofs.Ytgbcdmlcmnaimaa.QL10FnCovers
open Go.RowKit
open Go.Proofs.Ytgbcdmlcmnaimaa.GoP Go.Proofs.Ytgbcdmlcmnaimaa.PlainStamp Go.Proofs.Ytgbcdmlcmnaimaa.QBase Go.Proofs.Ytgbcdmlcmnaimaa.Q10DrawsF Go.Proofs.Ytgbcdmlcmnaimaa.QDraw Go.Proofs.Ytgbcdmlcmnaimaa.Q10Text Go.Proofs.Ytgbcdmlcmnaimaa.Q10Spare Go.Proofs.Ytgbcdmlcmnaimaa.Q10Route Go.Proofs.Ytgbcdmlcmnaimaa.Q10Due Go.Proofs.Ytgbcdmlcmnaimaa.Q10FaultOf Go.Proofs.Ytgbcdmlcmnaimaa.Q10Fault Go.Proofs.Ytgbcdmlcmnaimaa.Q10Cover Go.Proofs.Ytgbcdmlcmnaimaa.Q8List Go.Proofs.Ytgbcdmlcmnaimaa.Q9End Go.Proofs.Ytgbcdmlcmnaimaa.Q9Best Go.Proofs.Ytgbcdmlcmnaimaa.Q9At Go.Proofs.Ytgbcdmlcmnaimaa.Q9Late Go.Proofs.Ytgbcdmlcmnaimaa.Q9Early Go.Proofs.Ytgbcdmlcmnaimaa.Q9Dual Go.Proofs.Ytgbcdmlcmnaimaa.Q9Arr Go.Proofs.Ytgbcdmlcmnaimaa.Q9List Go.Proofs.Ytgbcdmlcmnaimaa.QVInts Go.Proofs.Ytgbcdmlcmnaimaa.QLoop Go.Proofs.Ytgbcdmlcmnaimaa.PCover Go.Proofs.Ytgbcdmlcmnaimaa.PRate Go.Proofs.Ytgbcdmlcmnaimaa.PMail

theorem q7_yes {tapes : List Int → GoC.Tape} (ht : GoC.Tells tapes) (code : List Int) : GlFnCovers.q7 code tapes () = some true := by
  obtain ⟨x, e⟩ := drawIs_ok ht code
  obtain ⟨n, e2⟩ := drawText_ok ht code
  obtain ⟨a, b, h1, h2⟩ := text_same n
  have i1 := isCover_eq x
  have i2 : GsIsCover.P x = some (okC x) := by
    have := l10One_eq x
    obtain ⟨a, b, c, d, e, f, g, h, i⟩ := x
    simp only [GsIsCover.P, unCover, this, Option.bind_some]
  obtain ⟨x0, x1, x2, x3, x4, x5, x6, x7, x8⟩ := x
  simp [GlFnCovers.q7, GlFnCovers.q8, e, unCover, i1, i2, e2, h1, h2, bind2, letK, joinK, appK, iteK_if]
theorem law_covers {fuel : Nat} {tapes : List Int → GoC.Tape} (ht : GoC.Tells tapes) (code : List Int) (hf : 1048577 ≤ fuel) : GlFnCovers.P fuel tapes code = some true := by
  simp only [GlFnCovers.P, GlVBig.P, Option.bind_some, letK, iteK_if]
  by_cases hb : (65536 : Int) < (code.length : Int)
  · rw [if_pos (by simpa using hb)]
  · rw [if_neg (by simpa using hb)]
    obtain ⟨rs, ms, x, e, hr, hm⟩ := drawFault_ok ht code fuel hf
    have h7 := q7_yes ht code
    have i1 := faultOf_impl rs ms x (by omega) (by omega)
    have i2 := faultOf_spec (fuel := fuel) rs ms x (by omega) (by omega) (by omega)
    have i3 := due_impl rs x (by omega)
    have i4 := due_spec (fuel := fuel) rs x (by omega) (by omega)
    obtain ⟨r, ok, i5, i6, hlen, hok, hend, hnil⟩ := route_both (fuel := fuel) (ms := ms) (by omega) x (by omega)
    have i7 := spare_impl (fuel := fuel) (ms := ms) (by omega) x (by omega)
    have i8 := spare_spec (fuel := fuel) (ms := ms) (by omega) x (by omega)
    have hfr := fault_range rs ms x
    cases hfine : ok with
    | false =>
      rw [hfine] at i5 i6 hok
      have s1 : spareRes ms x = (0, false) := by
        unfold spareRes
        rw [if_neg]
        intro h
        simp only [Bool.and_eq_true, decide_eq_true_eq] at h
        obtain ⟨⟨hg, hc⟩, hle⟩ := h
        have ho := okC_of hc
        have := (dual hg (o := x.from_) (m := x.leave) (p := x.to_) (b := x.arrive) (by omega) (by omega) (by omega) (by omega)).2 hle
        rw [hg, hc] at hok
        have h2 : endV ms x ≤ x.arrive := this
        simp [h2] at hok
      rw [s1] at i7 i8
      have f1 : faultRes rs ms x = (0, false) ∨ ∃ v, faultRes rs ms x = (v, true) ∧ v ≠ 0 := by
        unfold faultRes askB
        cases hA : okRs rs with
        | false => left; simp
        | true =>
          cases hB : goodM ms with
          | false => left; simp
          | true =>
            cases hC : okC x with
            | false => left; simp
            | true =>
              right
              refine ⟨_, by simp; rfl, ?_⟩
              rw [hB, hC] at hok
              have hgt : ¬ endV ms x ≤ x.arrive := by intro h; simp [h] at hok
              unfold faultV
              repeat' split
              all_goals omega
      obtain ⟨⟨d, dk⟩, hd⟩ : ∃ z, z = dueRes rs x := ⟨_, rfl⟩
      rw [← hd] at i3 i4
      rcases f1 with f1 | ⟨v, f1, hv⟩
      · rw [f1] at i1 i2
        obtain ⟨x0, x1, x2, x3, x4, x5, x6, x7, x8⟩ := x
        simp [GlFnCovers.q0, GlFnCovers.q1, GlFnCovers.q2, GlFnCovers.q3, GlFnCovers.q4, GlFnCovers.q5, GlFnCovers.q6, e, bind3, unCover, i1, i2, i3, i4, i5, i6, i7, i8, bind2, vInts_self, h7, letK, joinK, appK, iteK_if]
      · rw [f1] at i1 i2
        obtain ⟨x0, x1, x2, x3, x4, x5, x6, x7, x8⟩ := x
        simp [GlFnCovers.q0, GlFnCovers.q1, GlFnCovers.q2, GlFnCovers.q3, GlFnCovers.q4, GlFnCovers.q5, GlFnCovers.q6, e, bind3, unCover, i1, i2, i3, i4, i5, i6, i7, i8, bind2, vInts_self, h7, hv, letK, joinK, appK, iteK_if]
    | true =>
      rw [hfine] at i5 i6 hok
      have hE := hend hfine
      have hall : goodM ms = true ∧ okC x = true ∧ endV ms x ≤ x.arrive := by
        have h := hok.symm
        simp only [Bool.and_eq_true, decide_eq_true_eq] at h
        exact ⟨h.1.1, h.1.2, h.2⟩
      obtain ⟨hg, hc, hle⟩ := hall
      have ho := okC_of hc
      have hdual := dual hg (o := x.from_) (m := x.leave) (p := x.to_) (b := x.arrive) (by omega) (by omega) (by omega) (by omega)
      have hlate := hdual.1 hle
      obtain ⟨v, hv⟩ : ∃ v, v = at_ (lateM ms x.to_ x.arrive) x.from_ := ⟨_, rfl⟩
      rw [← hv] at hlate
      have htop := late_top hg (o := x.to_) (m := x.arrive) (i := x.from_) (by omega) (by omega) (by omega)
      rw [← hv] at htop
      have s1 : spareRes ms x = (v - x.leave, true) := by
        unfold spareRes
        rw [← hv, hg, hc, if_pos (by simp [hlate])]
      rw [s1] at i7 i8
      have hask : askM ms x.from_ x.leave = true := by unfold askM; rw [hg]; unfold inB; simp; omega
      have i9 := Q9End.end_impl ms (by omega) x.from_ x.leave r
      have r9 : endA ms x.from_ x.leave r = (x.to_, endV ms x, true) := by simp [endA, hask, hE]
      rw [r9] at i9
      have d2 := (dual hg (o := x.from_) (m := v) (p := x.to_) (b := x.arrive) (by omega) (by omega) (by omega) (by omega)).2 (by rw [hv]; exact Int.le_refl _)
      have low2 := early_low hg (o := x.from_) (m := v) (i := x.to_) (by omega) (by omega) (by omega)
      have hc2 : okC ⟨x.id, x.day, x.zone, x.grams, x.paid, x.from_, x.to_, v, x.arrive⟩ = true := by
        have h := hc
        simp only [okC, Bool.and_eq_true, decide_eq_true_eq] at h ⊢
        obtain ⟨⟨⟨h1, h2⟩, h3⟩, h4⟩ := h
        refine ⟨⟨⟨h1, ?_⟩, h3⟩, by omega⟩
        unfold inB; simp; omega
      obtain ⟨r2, ok2, j5, _, _, hok2, _, _⟩ := route_both (fuel := fuel) (ms := ms) (by omega) ⟨x.id, x.day, x.zone, x.grams, x.paid, x.from_, x.to_, v, x.arrive⟩ (by omega)
      have hok3 : ok2 = true := by
        rw [hok2, hg, hc2]
        have : endV ms ⟨x.id, x.day, x.zone, x.grams, x.paid, x.from_, x.to_, v, x.arrive⟩ ≤ x.arrive := d2
        simp [this]
      subst hok3
      have hw : IntKind.i64.wrap (x.leave + (v - x.leave)) = v := by rw [wrap_in (by omega) (by omega)]; omega
      have hna : ¬ x.arrive < endV ms x := by omega
      obtain ⟨⟨q, qk⟩, hq⟩ : ∃ z, z = faultRes rs ms x := ⟨_, rfl⟩
      have hdue : q = 0 → qk = true → dueRes rs x = (0, true) := by
        intro h0 h1
        rw [h0, h1] at hq
        unfold faultRes askB at hq
        cases hA : okRs rs with
        | false => rw [hA] at hq; simp at hq
        | true =>
          rw [hA, hg, hc] at hq
          simp only [Bool.and_self, if_true, Prod.mk.injEq, and_true] at hq
          unfold faultV at hq
          unfold dueRes
          rw [hA, hc]
          by_cases k1 : rateC rs x = 0
          · rw [if_pos k1] at hq; omega
          · by_cases k2 : x.paid < rateC rs x
            · rw [if_neg k1, if_pos k2] at hq; omega
            · simp [k1]; omega
      rw [← hq] at i1 i2
      obtain ⟨⟨d, dk⟩, hd⟩ : ∃ z, z = dueRes rs x := ⟨_, rfl⟩
      rw [← hd] at i3 i4 hdue
      obtain ⟨x0, x1, x2, x3, x4, x5, x6, x7, x8⟩ := x
      dsimp only at i9 j5 hw hna
      have fin : (qk && (q == 0) && (!dk || (d != 0) || !true)) = false := by
        cases qk with
        | false => rfl
        | true =>
          by_cases h0 : q = 0
          · obtain ⟨rfl, rfl⟩ := Prod.mk.inj (hdue h0 rfl); simp
          · simp [h0]
      cases qk with
      | false => simp [GlFnCovers.q0, GlFnCovers.q1, GlFnCovers.q2, GlFnCovers.q3, GlFnCovers.q4, GlFnCovers.q5, GlFnCovers.q6, e, bind3, unCover, i1, i2, i3, i4, i5, i6, i7, i8, i9, j5, hw, hna, bind2, vInts_self, h7, letK, joinK, appK, iteK_if]
      | true =>
        by_cases h0 : q = 0
        · obtain ⟨rfl, rfl⟩ := Prod.mk.inj (hdue h0 rfl)
          simp [GlFnCovers.q0, GlFnCovers.q1, GlFnCovers.q2, GlFnCovers.q3, GlFnCovers.q4, GlFnCovers.q5, GlFnCovers.q6, e, bind3, unCover, i1, i2, i3, i4, i5, i6, i7, i8, i9, j5, hw, hna, bind2, vInts_self, h7, h0, letK, joinK, appK, iteK_if]
        · simp [GlFnCovers.q0, GlFnCovers.q1, GlFnCovers.q2, GlFnCovers.q3, GlFnCovers.q4, GlFnCovers.q5, GlFnCovers.q6, e, bind3, unCover, i1, i2, i3, i4, i5, i6, i7, i8, i9, j5, hw, hna, bind2, vInts_self, h7, h0, letK, joinK, appK, iteK_if]
end Go.Proofs.Ytgbcdmlcmnaimaa.QL10FnCovers

