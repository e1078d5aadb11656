/- Texts on which the proofs of several laws stand, one behind the other (15 of 18). No condition of their own. -/
import Derived.Test.YtgbcdmlcmnaimaaChecked
import Derived.Test.YtgbcdmlcmnaimaaX10P1
import Derived.Test.YtgbcdmlcmnaimaaX10P7
import Derived.Test.YtgbcdmlcmnaimaaX10P9
import Derived.Test.YtgbcdmlcmnaimaaX10P10
import Derived.Test.YtgbcdmlcmnaimaaX10P14
import Derived.Test.YtgbcdmlcmnaimaaX10P11
import Derived.Test.YtgbcdmlcmnaimaaX10P8
import Derived.WalkKit
import Derived.WalkSpells
import Derived.WalkLawsBesides
import Derived.BigQuiet
import Derived.OwnWalk
import Derived.Deep.LoopGhost
import Derived.Deep.QuietTactic
import Derived.IntWalk
import Derived.Lib.QuietBelow
import Derived.Deep.DeepCutAuto
import Derived.Test.YtgbcdmlcmnaimaaX10P13
import Derived.Test.YtgbcdmlcmnaimaaX10P12
set_option linter.unusedVariables false
set_option linter.unusedSimpArgs false
namespace Go.Proofs.Ytgbcdmlcmnaimaa.GlFnCovers
open Go.RowKit
open Go.Proofs.Ytgbcdmlcmnaimaa.Rowed Go.Proofs.Ytgbcdmlcmnaimaa.Turn Go.Proofs.Ytgbcdmlcmnaimaa.Aid Go.Proofs.Ytgbcdmlcmnaimaa.GoP Go.Proofs.Ytgbcdmlcmnaimaa.GoM

def q8  (s : Bool) : Option (Bool) :=
 letK s fun t_2q8 =>
 some t_2q8

def q7 (code : (List Int)) (tapes : List Int → GoC.Tape) (s : Unit) : Option (Bool) :=
 Option.bind (GsDrawIsCover.P tapes code) fun (t_192 : PCover.Cover) =>
 unCover t_192 fun (t_192_id : Int) (t_192_day : Int) (t_192_zone : Int) (t_192_grams : Int) (t_192_paid : Int) (t_192_from_ : Int) (t_192_to_ : Int) (t_192_leave : Int) (t_192_arrive : Int) =>
 Option.bind (GiIsCover.P (PCover.Cover.mk t_192_id t_192_day t_192_zone t_192_grams t_192_paid t_192_from_ t_192_to_ t_192_leave t_192_arrive)) fun (t_196 : Bool) =>
 Option.bind (GsIsCover.P (PCover.Cover.mk t_192_id t_192_day t_192_zone t_192_grams t_192_paid t_192_from_ t_192_to_ t_192_leave t_192_arrive)) fun (t_198 : Bool) =>
 letK (!(t_196 == t_198)) fun (t_199 : Bool) =>
 iteK t_199
 (some false)
 (Option.bind (GsDrawFaultText.P tapes code) fun (t_202 : Int) =>
 bind2 (GiFaultText.P t_202) fun (t_205a : ByteArray) (t_205b : Bool) =>
 bind2 (GsFaultText.P t_202) fun (t_212a : ByteArray) (t_212b : Bool) =>
 letK (t_205a.toList == t_212a.toList) fun (t_220 : Bool) =>
 joinK (fun (t_225 : Bool) =>
 q8  (t_225)) fun jt_225 => iteK t_220 (letK (t_205b == t_212b) fun (t_224 : Bool) =>
 appK jt_225 t_224) (appK jt_225 false))

def q6 (code : (List Int)) (fuel : Nat) (tapes : List Int → GoC.Tape) (t_5b : (List PMail.Mail)) (t_5c_id : Int) (t_5c_day : Int) (t_5c_zone : Int) (t_5c_grams : Int) (t_5c_paid : Int) (t_5c_from_ : Int) (t_5c_to_ : Int) (t_5c_leave : Int) (t_5c_arrive : Int) (t_142a : Int) (t_142b : Bool) (s : Bool) : Option (Bool) :=
 letK s fun t_172q6 =>
 iteK t_172q6
 (some false)
 (iteK t_142b
 (letK (IntKind.i64.wrap (t_5c_leave + t_142a)) fun (t_177 : Int) =>
 bind2 (GiRouteOn.P fuel t_5b (PCover.Cover.mk t_5c_id t_5c_day t_5c_zone t_5c_grams t_5c_paid t_5c_from_ t_5c_to_ t_177 t_5c_arrive)) fun (t_182a : (List Int)) (t_182b : Bool) =>
 letK (!t_182b) fun (t_189 : Bool) =>
 iteK t_189
 (some false)
 (q7 code tapes ()))
 (q7 code tapes ()))

def q4 (code : (List Int)) (fuel : Nat) (tapes : List Int → GoC.Tape) (t_5b : (List PMail.Mail)) (t_5c_id : Int) (t_5c_day : Int) (t_5c_zone : Int) (t_5c_grams : Int) (t_5c_paid : Int) (t_5c_from_ : Int) (t_5c_to_ : Int) (t_5c_leave : Int) (t_5c_arrive : Int) (t_68b : Bool) (s : Unit) : Option (Bool) :=
 bind2 (GiSpareMinutes.P fuel t_5b (PCover.Cover.mk t_5c_id t_5c_day t_5c_zone t_5c_grams t_5c_paid t_5c_from_ t_5c_to_ t_5c_leave t_5c_arrive)) fun (t_142a : Int) (t_142b : Bool) =>
 bind2 (GsSpareMinutes.P fuel t_5b (PCover.Cover.mk t_5c_id t_5c_day t_5c_zone t_5c_grams t_5c_paid t_5c_from_ t_5c_to_ t_5c_leave t_5c_arrive)) fun (t_150a : Int) (t_150b : Bool) =>
 letK (t_142a != t_150a) fun (t_158 : Bool) =>
 joinK (fun (t_163 : Bool) =>
 joinK (fun (t_168 : Bool) =>
 q6 code fuel tapes t_5b t_5c_id t_5c_day t_5c_zone t_5c_grams t_5c_paid t_5c_from_ t_5c_to_ t_5c_leave t_5c_arrive t_142a t_142b (t_168)) fun jt_168 => iteK t_163 (appK jt_168 true) (letK (!(t_142b == t_68b)) fun (t_167 : Bool) =>
 appK jt_168 t_167)) fun jt_163 => iteK t_158 (appK jt_163 true) (letK (!(t_142b == t_150b)) fun (t_162 : Bool) =>
 appK jt_163 t_162)

def q5 (code : (List Int)) (fuel : Nat) (tapes : List Int → GoC.Tape) (t_2 : Bool) (t_5a : (List PRate.Rate)) (t_5b : (List PMail.Mail)) (t_5c_id : Int) (t_5c_day : Int) (t_5c_zone : Int) (t_5c_grams : Int) (t_5c_paid : Int) (t_5c_from_ : Int) (t_5c_to_ : Int) (t_5c_leave : Int) (t_5c_arrive : Int) (t_17a : Int) (t_17b : Bool) (t_26a : Int) (t_26b : Bool) (t_63q0 : Bool) (t_43a : Int) (t_43b : Bool) (t_51a : Int) (t_51b : Bool) (t_83q1 : Bool) (t_68a : (List Int)) (t_68b : Bool) (t_76a : (List Int)) (t_76b : Bool) (t_104q2 : Bool) (t_121q3 : Bool) (t_117a : Int) (t_117b : Int) (t_117c : Bool) (s : Bool) : Option (Bool) :=
 letK s fun t_147q5 =>
 iteK t_147q5
 (some false)
 (q4 code fuel tapes t_5b t_5c_id t_5c_day t_5c_zone t_5c_grams t_5c_paid t_5c_from_ t_5c_to_ t_5c_leave t_5c_arrive t_68b ())

def q3 (code : (List Int)) (fuel : Nat) (tapes : List Int → GoC.Tape) (t_2 : Bool) (t_5a : (List PRate.Rate)) (t_5b : (List PMail.Mail)) (t_5c_id : Int) (t_5c_day : Int) (t_5c_zone : Int) (t_5c_grams : Int) (t_5c_paid : Int) (t_5c_from_ : Int) (t_5c_to_ : Int) (t_5c_leave : Int) (t_5c_arrive : Int) (t_17a : Int) (t_17b : Bool) (t_26a : Int) (t_26b : Bool) (t_63q0 : Bool) (t_43a : Int) (t_43b : Bool) (t_51a : Int) (t_51b : Bool) (t_83q1 : Bool) (t_68a : (List Int)) (t_68b : Bool) (t_76a : (List Int)) (t_76b : Bool) (t_104q2 : Bool) (s : Bool) : Option (Bool) :=
 letK s fun t_121q3 =>
 iteK t_121q3
 (some false)
 (iteK t_68b
 (bind3 (GiEndOfRoute.P t_5b t_5c_from_ t_5c_leave t_68a) fun (t_117a : Int) (t_117b : Int) (t_117c : Bool) =>
 letK (!t_117c) fun (t_126 : Bool) =>
 joinK (fun (t_132 : Bool) =>
 joinK (fun (t_138 : Bool) =>
 q5 code fuel tapes t_2 t_5a t_5b t_5c_id t_5c_day t_5c_zone t_5c_grams t_5c_paid t_5c_from_ t_5c_to_ t_5c_leave t_5c_arrive t_17a t_17b t_26a t_26b t_63q0 t_43a t_43b t_51a t_51b t_83q1 t_68a t_68b t_76a t_76b t_104q2 t_121q3 t_117a t_117b t_117c (t_138)) fun jt_138 => iteK t_132 (appK jt_138 true) (letK (decide (t_5c_arrive < t_117b)) fun (t_137 : Bool) =>
 appK jt_138 t_137)) fun jt_132 => iteK t_126 (appK jt_132 true) (letK (t_117a != t_5c_to_) fun (t_131 : Bool) =>
 appK jt_132 t_131))
 (q4 code fuel tapes t_5b t_5c_id t_5c_day t_5c_zone t_5c_grams t_5c_paid t_5c_from_ t_5c_to_ t_5c_leave t_5c_arrive t_68b ()))

def q2 (code : (List Int)) (fuel : Nat) (tapes : List Int → GoC.Tape) (t_2 : Bool) (t_5a : (List PRate.Rate)) (t_5b : (List PMail.Mail)) (t_5c_id : Int) (t_5c_day : Int) (t_5c_zone : Int) (t_5c_grams : Int) (t_5c_paid : Int) (t_5c_from_ : Int) (t_5c_to_ : Int) (t_5c_leave : Int) (t_5c_arrive : Int) (t_17a : Int) (t_17b : Bool) (t_26a : Int) (t_26b : Bool) (t_63q0 : Bool) (t_43a : Int) (t_43b : Bool) (t_51a : Int) (t_51b : Bool) (t_83q1 : Bool) (t_68a : (List Int)) (t_68b : Bool) (t_76a : (List Int)) (t_76b : Bool) (s : Bool) : Option (Bool) :=
 letK s fun t_104q2 =>
 iteK t_104q2
 (some false)
 (joinK (fun (t_96 : Bool) =>
 joinK (fun (t_108 : Bool) =>
 q3 code fuel tapes t_2 t_5a t_5b t_5c_id t_5c_day t_5c_zone t_5c_grams t_5c_paid t_5c_from_ t_5c_to_ t_5c_leave t_5c_arrive t_17a t_17b t_26a t_26b t_63q0 t_43a t_43b t_51a t_51b t_83q1 t_68a t_68b t_76a t_76b t_104q2 (t_108)) fun jt_108 => iteK t_96 (letK (!t_43b) fun (t_99 : Bool) =>
 joinK (fun (t_103 : Bool) =>
 joinK (fun (t_107 : Bool) =>
 appK jt_108 t_107) fun jt_107 => iteK t_103 (appK jt_107 true) (letK (!t_68b) fun (t_106 : Bool) =>
 appK jt_107 t_106)) fun jt_103 => iteK t_99 (appK jt_103 true) (letK (t_43a != 0) fun (t_102 : Bool) =>
 appK jt_103 t_102)) (appK jt_108 false)) fun jt_96 => iteK t_17b (letK (t_17a == 0) fun (t_95 : Bool) =>
 appK jt_96 t_95) (appK jt_96 false))

def q1 (code : (List Int)) (fuel : Nat) (tapes : List Int → GoC.Tape) (t_2 : Bool) (t_5a : (List PRate.Rate)) (t_5b : (List PMail.Mail)) (t_5c_id : Int) (t_5c_day : Int) (t_5c_zone : Int) (t_5c_grams : Int) (t_5c_paid : Int) (t_5c_from_ : Int) (t_5c_to_ : Int) (t_5c_leave : Int) (t_5c_arrive : Int) (t_17a : Int) (t_17b : Bool) (t_26a : Int) (t_26b : Bool) (t_63q0 : Bool) (t_43a : Int) (t_43b : Bool) (t_51a : Int) (t_51b : Bool) (s : Bool) : Option (Bool) :=
 letK s fun t_83q1 =>
 iteK t_83q1
 (some false)
 (bind2 (GiRouteOn.P fuel t_5b (PCover.Cover.mk t_5c_id t_5c_day t_5c_zone t_5c_grams t_5c_paid t_5c_from_ t_5c_to_ t_5c_leave t_5c_arrive)) fun (t_68a : (List Int)) (t_68b : Bool) =>
 bind2 (GsRouteOn.P fuel t_5b (PCover.Cover.mk t_5c_id t_5c_day t_5c_zone t_5c_grams t_5c_paid t_5c_from_ t_5c_to_ t_5c_leave t_5c_arrive)) fun (t_76a : (List Int)) (t_76b : Bool) =>
 letK (!(t_68b == t_76b)) fun (t_84 : Bool) =>
 joinK (fun (t_90 : Bool) =>
 q2 code fuel tapes t_2 t_5a t_5b t_5c_id t_5c_day t_5c_zone t_5c_grams t_5c_paid t_5c_from_ t_5c_to_ t_5c_leave t_5c_arrive t_17a t_17b t_26a t_26b t_63q0 t_43a t_43b t_51a t_51b t_83q1 t_68a t_68b t_76a t_76b (t_90)) fun jt_90 => iteK t_84 (appK jt_90 true) (Option.bind (GlVInts.P t_68a t_76a) fun (t_88 : Bool) =>
 letK (!t_88) fun (t_89 : Bool) =>
 appK jt_90 t_89))

def q0 (code : (List Int)) (fuel : Nat) (tapes : List Int → GoC.Tape) (t_2 : Bool) (t_5a : (List PRate.Rate)) (t_5b : (List PMail.Mail)) (t_5c_id : Int) (t_5c_day : Int) (t_5c_zone : Int) (t_5c_grams : Int) (t_5c_paid : Int) (t_5c_from_ : Int) (t_5c_to_ : Int) (t_5c_leave : Int) (t_5c_arrive : Int) (t_17a : Int) (t_17b : Bool) (t_26a : Int) (t_26b : Bool) (s : Bool) : Option (Bool) :=
 letK s fun t_63q0 =>
 iteK t_63q0
 (some false)
 (bind2 (GiDueOn.P t_5a (PCover.Cover.mk t_5c_id t_5c_day t_5c_zone t_5c_grams t_5c_paid t_5c_from_ t_5c_to_ t_5c_leave t_5c_arrive)) fun (t_43a : Int) (t_43b : Bool) =>
 bind2 (GsDueOn.P fuel t_5a (PCover.Cover.mk t_5c_id t_5c_day t_5c_zone t_5c_grams t_5c_paid t_5c_from_ t_5c_to_ t_5c_leave t_5c_arrive)) fun (t_51a : Int) (t_51b : Bool) =>
 letK (t_43a != t_51a) fun (t_59 : Bool) =>
 joinK (fun (t_64 : Bool) =>
 q1 code fuel tapes t_2 t_5a t_5b t_5c_id t_5c_day t_5c_zone t_5c_grams t_5c_paid t_5c_from_ t_5c_to_ t_5c_leave t_5c_arrive t_17a t_17b t_26a t_26b t_63q0 t_43a t_43b t_51a t_51b (t_64)) fun jt_64 => iteK t_59 (appK jt_64 true) (letK (!(t_43b == t_51b)) fun (t_63 : Bool) =>
 appK jt_64 t_63))

def P (fuel : Nat) (tapes : List Int → GoC.Tape) (code : (List Int)) : Option (Bool) :=
 Option.bind (GlVBig.P code) fun (t_2 : Bool) =>
 iteK t_2
 (some true)
 (bind3 (GsDrawFaultOf.P fuel tapes code) fun (t_5a : (List PRate.Rate)) (t_5b : (List PMail.Mail)) (t_5c : PCover.Cover) =>
 unCover t_5c fun (t_5c_id : Int) (t_5c_day : Int) (t_5c_zone : Int) (t_5c_grams : Int) (t_5c_paid : Int) (t_5c_from_ : Int) (t_5c_to_ : Int) (t_5c_leave : Int) (t_5c_arrive : Int) =>
 bind2 (GiFaultOf.P t_5a t_5b (PCover.Cover.mk t_5c_id t_5c_day t_5c_zone t_5c_grams t_5c_paid t_5c_from_ t_5c_to_ t_5c_leave t_5c_arrive)) fun (t_17a : Int) (t_17b : Bool) =>
 bind2 (GsFaultOf.P fuel t_5a t_5b (PCover.Cover.mk t_5c_id t_5c_day t_5c_zone t_5c_grams t_5c_paid t_5c_from_ t_5c_to_ t_5c_leave t_5c_arrive)) fun (t_26a : Int) (t_26b : Bool) =>
 letK (t_17a != t_26a) fun (t_34 : Bool) =>
 joinK (fun (t_39 : Bool) =>
 q0 code fuel tapes t_2 t_5a t_5b t_5c_id t_5c_day t_5c_zone t_5c_grams t_5c_paid t_5c_from_ t_5c_to_ t_5c_leave t_5c_arrive t_17a t_17b t_26a t_26b (t_39)) fun jt_39 => iteK t_34 (appK jt_39 true) (letK (!(t_17b == t_26b)) fun (t_38 : Bool) =>
 appK jt_39 t_38))

set_option maxRecDepth 100000 in
set_option maxHeartbeats 20000000 in
theorem C (fuel : Nat) (tapes : List Int → GoC.Tape) (code : (List Int)) (A0 : Option Addr) (c0 : Nat)  (w : World) (HE : Hid (GoC.Tells tapes)) (M0 : Hid (Cells w 1 A0 code.length (GoC.u8s code))) (N0 : Hid (code.length ≤ 9223372036854775807)) (V0 : Hid (∀ z ∈ code, 0 ≤ z ∧ z ≤ 255))  {r : Bool} (H : Hid (P fuel tapes code = some r)) :
  Calls Try.prog 3 #[.slice A0 code.length c0] w (Gives (.bool r) w) := by
 have HB := Lib.hid (Below.refl w.heap.size w); unfold P at H; have N0o := N0.out
 go_enter Try.func3, Try.ntmps3
 replace H := bind_hid H; obtain ⟨t_2, qt_2, H⟩ := H; go_wp2_with fail; go_at_call 5; refine (GlVBig.C (code) A0 c0 _   (Lib.hid (Cells.below M0.out HB.out)) N0 V0 qt_2).mono ?_; rintro k20 wt_2 ⟨rfl, bt_2⟩; have v13 := Lib.hid (Below.step HB.out bt_2); clear bt_2
 cases t_2 with
 | false =>
  replace H := ite_f H; replace H := bind3_hid H; obtain ⟨t_5a, t_5b, t_5c, qt_5, H⟩ := H; obtain ⟨p10, s10, r10, t10, v10, n10, q10, w10, o10⟩ := t_5c; replace H := unCover_hid H; go_wp2_with fail; go_at_call 6; refine (GsDrawFaultOf.C fuel tapes (code) A0 c0 _  HE (Lib.hid (Cells.below M0.out v13.out)) N0 V0 qt_5).mono ?_; rintro t22 wt_5 ⟨k12, j12, f11, e11, rfl, q17, i17, d0_1, bt_5⟩; unfold PCover.Cover.val; have e22 := Lib.hid d0_1; have b10 := Lib.hid (own_lower q17 v13.out.size); clear q17; have a10 := Lib.hid (own_lower i17 v13.out.size); clear i17; have l19 := Lib.hid (Below.step v13.out bt_5); clear bt_5; obtain ⟨w12, x12⟩ : ∃ x, wt_5.alloc (.cells #[.int .i64 p10, .int .i64 s10, .int .i64 r10, .int .i64 t10, .int .i64 v10, .int .i64 n10, .int .i64 q10, .int .i64 w10, .int .i64 o10] 27) = x := ⟨_, rfl⟩; have a14 : Below wt_5.heap.size wt_5 w12 := (by rw [← x12]; exact (Below.refl _ _).alloc (Nat.le_refl _) _); have r21 := Lib.hid (apart_fresh b10.out); have m21 := Lib.hid (apart_fresh a10.out); have b18 := Lib.hid (Below.step l19.out a14); replace b10 := Lib.hid (own_below b10.out a14); replace a10 := Lib.hid (own_below a10.out a14); clear a14; have e10 : w12.cell? ⟨wt_5.heap.size, 0, none⟩ = some (.int .i64 p10) := (by rw [← x12]; exact box_new _ _ _ 0 _ rfl); have f10 : w12.cell? ⟨wt_5.heap.size, 1, none⟩ = some (.int .i64 s10) := (by rw [← x12]; exact box_new _ _ _ 1 _ rfl); have l10 : w12.cell? ⟨wt_5.heap.size, 2, none⟩ = some (.int .i64 r10) := (by rw [← x12]; exact box_new _ _ _ 2 _ rfl); have k10 : w12.cell? ⟨wt_5.heap.size, 3, none⟩ = some (.int .i64 t10) := (by rw [← x12]; exact box_new _ _ _ 3 _ rfl); have g10 : w12.cell? ⟨wt_5.heap.size, 4, none⟩ = some (.int .i64 v10) := (by rw [← x12]; exact box_new _ _ _ 4 _ rfl); have m10 : w12.cell? ⟨wt_5.heap.size, 5, none⟩ = some (.int .i64 n10) := (by rw [← x12]; exact box_new _ _ _ 5 _ rfl); have i10 : w12.cell? ⟨wt_5.heap.size, 6, none⟩ = some (.int .i64 q10) := (by rw [← x12]; exact box_new _ _ _ 6 _ rfl); have j10 : w12.cell? ⟨wt_5.heap.size, 7, none⟩ = some (.int .i64 w10) := (by rw [← x12]; exact box_new _ _ _ 7 _ rfl); have h10 : w12.cell? ⟨wt_5.heap.size, 8, none⟩ = some (.int .i64 o10) := (by rw [← x12]; exact box_new _ _ _ 8 _ rfl); replace H := bind2_hid H; obtain ⟨q13, p13, c18, H⟩ := H; go_wp2_with fail; go_at_call 7; refine (GiFaultOf.C (t_5a) (t_5b) ((PCover.Cover.mk p10 s10 r10 t10 v10 n10 q10 w10 o10)) k12 j12 f11 e11 _   (Lib.hid (own_cells b10.out)) (Lib.hid (own_max b10.out)) (Lib.hid (own_cells a10.out)) (Lib.hid (own_max a10.out)) c18).mono ?_; rintro s22 y22 ⟨rfl, q12⟩; have z17 := Lib.hid (Below.step b18.out q12); replace e10 := cell_below q12 e10; replace f10 := cell_below q12 f10; replace l10 := cell_below q12 l10; replace k10 := cell_below q12 k10; replace g10 := cell_below q12 g10; replace m10 := cell_below q12 m10; replace i10 := cell_below q12 i10; replace j10 := cell_below q12 j10; replace h10 := cell_below q12 h10; replace b10 := Lib.hid (own_below b10.out q12); replace a10 := Lib.hid (own_below a10.out q12); clear q12; replace H := bind2_hid H; obtain ⟨r13, w13, c19, H⟩ := H; go_wp2_with fail; go_at_call 8; refine (GsFaultOf.C fuel (t_5a) (t_5b) ((PCover.Cover.mk p10 s10 r10 t10 v10 n10 q10 w10 o10)) k12 j12 f11 e11 _   (Lib.hid (own_cells b10.out)) (Lib.hid (own_max b10.out)) (Lib.hid (own_cells a10.out)) (Lib.hid (own_max a10.out)) c19).mono ?_; rintro w20 i22 ⟨rfl, p12⟩; have o15 := Lib.hid (Below.step z17.out p12); replace e10 := cell_below p12 e10; replace f10 := cell_below p12 f10; replace l10 := cell_below p12 l10; replace k10 := cell_below p12 k10; replace g10 := cell_below p12 g10; replace m10 := cell_below p12 m10; replace i10 := cell_below p12 i10; replace j10 := cell_below p12 j10; replace h10 := cell_below p12 h10; replace b10 := Lib.hid (own_below b10.out p12); replace a10 := Lib.hid (own_below a10.out p12); clear p12; go_upto_region 6 with fail
  go_cut [63] (fun v63_ wr => ∃ (b14 : Bool), v63_ = .bool b14 ∧ Hid (q0 code fuel tapes false t_5a t_5b p10 s10 r10 t10 v10 n10 q10 w10 o10 q13 p13 r13 w13 (b14) = some r) ∧ Hid (Below w.heap.size w wr) ∧ wr.cell? ⟨wt_5.heap.size, 0, none⟩ = some (.int .i64 p10) ∧ wr.cell? ⟨wt_5.heap.size, 1, none⟩ = some (.int .i64 s10) ∧ wr.cell? ⟨wt_5.heap.size, 2, none⟩ = some (.int .i64 r10) ∧ wr.cell? ⟨wt_5.heap.size, 3, none⟩ = some (.int .i64 t10) ∧ wr.cell? ⟨wt_5.heap.size, 4, none⟩ = some (.int .i64 v10) ∧ wr.cell? ⟨wt_5.heap.size, 5, none⟩ = some (.int .i64 n10) ∧ wr.cell? ⟨wt_5.heap.size, 6, none⟩ = some (.int .i64 q10) ∧ wr.cell? ⟨wt_5.heap.size, 7, none⟩ = some (.int .i64 w10) ∧ wr.cell? ⟨wt_5.heap.size, 8, none⟩ = some (.int .i64 o10) ∧ Hid (wr.ownsRow w.heap.size 92 5 (.slice k12 t_5a.length j12) t_5a.length (PRate.flat t_5a)) ∧ Hid (wr.ownsRow w.heap.size 77 4 (.slice f11 t_5b.length e11) t_5b.length (PMail.flat t_5b)))
  case first =>
   as_aux_lemma =>
    replace H := let_hid H; obtain ⟨t_34, t20, H⟩ := H; replace H := join_hid H
    cases t_34 with
    | false =>
     replace H := ite_f H; replace H := let_hid H; obtain ⟨t_38, h20, H⟩ := H; replace H := app_hid H; go_wp2_with fail
     go_meet
     case rel => exact ⟨_, rfl, H, o15, e10, f10, l10, k10, g10, m10, i10, j10, h10, b10, a10⟩
    | true =>
     replace H := ite_t H; replace H := app_hid H; go_wp2_with fail
     go_meet
     case rel => exact ⟨_, rfl, H, o15, e10, f10, l10, k10, g10, m10, i10, j10, h10, b10, a10⟩
  case rest =>
   as_aux_lemma =>
    obtain ⟨b14, rfl, H, q16, e10, f10, l10, k10, g10, m10, i10, j10, h10, b10, a10⟩ := hcut; rename World => wq0; unfold q0 at H; replace H := let_hid H; obtain ⟨_, rfl, H⟩ := H
    cases b14 with
    | false =>
     replace H := ite_f H; replace H := bind2_hid H; obtain ⟨k14, y13, p19, H⟩ := H; go_wp2_with fail; go_at_call 9; refine (GiDueOn.C (t_5a) ((PCover.Cover.mk p10 s10 r10 t10 v10 n10 q10 w10 o10)) k12 j12 _   (Lib.hid (own_cells b10.out)) (Lib.hid (own_max b10.out)) p19).mono ?_; rintro i21 n22 ⟨rfl, l12⟩; have e18 := Lib.hid (Below.step q16.out l12); replace e10 := cell_below l12 e10; replace f10 := cell_below l12 f10; replace l10 := cell_below l12 l10; replace k10 := cell_below l12 k10; replace g10 := cell_below l12 g10; replace m10 := cell_below l12 m10; replace i10 := cell_below l12 i10; replace j10 := cell_below l12 j10; replace h10 := cell_below l12 h10; replace b10 := Lib.hid (own_below b10.out l12); replace a10 := Lib.hid (own_below a10.out l12); clear l12; replace H := bind2_hid H; obtain ⟨f14, g14, a18, H⟩ := H; go_wp2_with fail; go_at_call 10; refine (GsDueOn.C fuel (t_5a) ((PCover.Cover.mk p10 s10 r10 t10 v10 n10 q10 w10 o10)) k12 j12 _   (Lib.hid (own_cells b10.out)) (Lib.hid (own_max b10.out)) a18).mono ?_; rintro v20 p21 ⟨rfl, m12⟩; have m16 := Lib.hid (Below.step e18.out m12); replace e10 := cell_below m12 e10; replace f10 := cell_below m12 f10; replace l10 := cell_below m12 l10; replace k10 := cell_below m12 k10; replace g10 := cell_below m12 g10; replace m10 := cell_below m12 m10; replace i10 := cell_below m12 i10; replace j10 := cell_below m12 j10; replace h10 := cell_below m12 h10; replace b10 := Lib.hid (own_below b10.out m12); replace a10 := Lib.hid (own_below a10.out m12); clear m12; go_upto_region 10 with fail
     go_cut [83] (fun v83_ wr => ∃ (e14 : Bool), v83_ = .bool e14 ∧ Hid (q1 code fuel tapes false t_5a t_5b p10 s10 r10 t10 v10 n10 q10 w10 o10 q13 p13 r13 w13 false k14 y13 f14 g14 (e14) = some r) ∧ Hid (Below w.heap.size w wr) ∧ wr.cell? ⟨wt_5.heap.size, 0, none⟩ = some (.int .i64 p10) ∧ wr.cell? ⟨wt_5.heap.size, 1, none⟩ = some (.int .i64 s10) ∧ wr.cell? ⟨wt_5.heap.size, 2, none⟩ = some (.int .i64 r10) ∧ wr.cell? ⟨wt_5.heap.size, 3, none⟩ = some (.int .i64 t10) ∧ wr.cell? ⟨wt_5.heap.size, 4, none⟩ = some (.int .i64 v10) ∧ wr.cell? ⟨wt_5.heap.size, 5, none⟩ = some (.int .i64 n10) ∧ wr.cell? ⟨wt_5.heap.size, 6, none⟩ = some (.int .i64 q10) ∧ wr.cell? ⟨wt_5.heap.size, 7, none⟩ = some (.int .i64 w10) ∧ wr.cell? ⟨wt_5.heap.size, 8, none⟩ = some (.int .i64 o10) ∧ Hid (wr.ownsRow w.heap.size 92 5 (.slice k12 t_5a.length j12) t_5a.length (PRate.flat t_5a)) ∧ Hid (wr.ownsRow w.heap.size 77 4 (.slice f11 t_5b.length e11) t_5b.length (PMail.flat t_5b)))
     case first =>
      as_aux_lemma =>
       replace H := let_hid H; obtain ⟨t_59, f22, H⟩ := H; replace H := join_hid H
       cases t_59 with
       | false =>
        replace H := ite_f H; replace H := let_hid H; obtain ⟨t_63, x20, H⟩ := H; replace H := app_hid H; go_wp2_with fail
        go_meet
        case rel => exact ⟨_, rfl, H, m16, e10, f10, l10, k10, g10, m10, i10, j10, h10, b10, a10⟩
       | true =>
        replace H := ite_t H; replace H := app_hid H; go_wp2_with fail
        go_meet
        case rel => exact ⟨_, rfl, H, m16, e10, f10, l10, k10, g10, m10, i10, j10, h10, b10, a10⟩
     case rest =>
      as_aux_lemma =>
       obtain ⟨e14, rfl, H, e15, e10, f10, l10, k10, g10, m10, i10, j10, h10, b10, a10⟩ := hcut; rename World => wq1; unfold q1 at H; replace H := let_hid H; obtain ⟨_, rfl, H⟩ := H
       cases e14 with
       | false =>
        replace H := ite_f H; replace H := bind2_hid H; obtain ⟨x10, s13, q18, H⟩ := H; go_wp2_with fail; go_at_call 11; refine (GiRouteOn.C fuel (t_5b) ((PCover.Cover.mk p10 s10 r10 t10 v10 n10 q10 w10 o10)) f11 e11 _   (Lib.hid (own_cells a10.out)) (Lib.hid (own_max a10.out)) q18).mono ?_; rintro v22 s21 ⟨z12, y12, rfl, t13, o12⟩; have c20 := Lib.hid (apart_call t13 b10.out); have p20 := Lib.hid (apart_call t13 a10.out); have g20 := Lib.hid (apart_callbox t13 e10); have c10 := Lib.hid (own_lower t13 e15.out.size); clear t13; have z16 := Lib.hid (Below.step e15.out o12); replace e10 := cell_below o12 e10; replace f10 := cell_below o12 f10; replace l10 := cell_below o12 l10; replace k10 := cell_below o12 k10; replace g10 := cell_below o12 g10; replace m10 := cell_below o12 m10; replace i10 := cell_below o12 i10; replace j10 := cell_below o12 j10; replace h10 := cell_below o12 h10; replace b10 := Lib.hid (own_below b10.out o12); replace a10 := Lib.hid (own_below a10.out o12); clear o12; replace H := bind2_hid H; obtain ⟨z10, d15, r19, H⟩ := H; go_wp2_with fail; go_at_call 12; refine (GsRouteOn.C fuel (t_5b) ((PCover.Cover.mk p10 s10 r10 t10 v10 n10 q10 w10 o10)) f11 e11 _   (Lib.hid (own_cells a10.out)) (Lib.hid (own_max a10.out)) r19).mono ?_; rintro t21 i20 ⟨d13, b13, rfl, o13, i12⟩; have e21 := Lib.hid (apart_call o13 b10.out); have h21 := Lib.hid (apart_call o13 a10.out); have l20 := Lib.hid (apart_call o13 c10.out); have o22 := Lib.hid (apart_callbox o13 e10); have d10 := Lib.hid (own_lower o13 z16.out.size); clear o13; have p17 := Lib.hid (Below.step z16.out i12); replace e10 := cell_below i12 e10; replace f10 := cell_below i12 f10; replace l10 := cell_below i12 l10; replace k10 := cell_below i12 k10; replace g10 := cell_below i12 g10; replace m10 := cell_below i12 m10; replace i10 := cell_below i12 i10; replace j10 := cell_below i12 j10; replace h10 := cell_below i12 h10; replace b10 := Lib.hid (own_below b10.out i12); replace a10 := Lib.hid (own_below a10.out i12); replace c10 := Lib.hid (own_below c10.out i12); clear i12; go_upto_region 14 with fail
        go_cut [104] (fun v104_ wr => ∃ (i14 : Bool), v104_ = .bool i14 ∧ Hid (q2 code fuel tapes false t_5a t_5b p10 s10 r10 t10 v10 n10 q10 w10 o10 q13 p13 r13 w13 false k14 y13 f14 g14 false x10 s13 z10 d15 (i14) = some r) ∧ Hid (Below w.heap.size w wr) ∧ wr.cell? ⟨wt_5.heap.size, 0, none⟩ = some (.int .i64 p10) ∧ wr.cell? ⟨wt_5.heap.size, 1, none⟩ = some (.int .i64 s10) ∧ wr.cell? ⟨wt_5.heap.size, 2, none⟩ = some (.int .i64 r10) ∧ wr.cell? ⟨wt_5.heap.size, 3, none⟩ = some (.int .i64 t10) ∧ wr.cell? ⟨wt_5.heap.size, 4, none⟩ = some (.int .i64 v10) ∧ wr.cell? ⟨wt_5.heap.size, 5, none⟩ = some (.int .i64 n10) ∧ wr.cell? ⟨wt_5.heap.size, 6, none⟩ = some (.int .i64 q10) ∧ wr.cell? ⟨wt_5.heap.size, 7, none⟩ = some (.int .i64 w10) ∧ wr.cell? ⟨wt_5.heap.size, 8, none⟩ = some (.int .i64 o10) ∧ Hid (wr.ownsRow w.heap.size 92 5 (.slice k12 t_5a.length j12) t_5a.length (PRate.flat t_5a)) ∧ Hid (wr.ownsRow w.heap.size 77 4 (.slice f11 t_5b.length e11) t_5b.length (PMail.flat t_5b)) ∧ Hid (wr.ownsRow w.heap.size 3 1 (.slice z12 x10.length y12) x10.length (HelpInt.iv x10)) ∧ Hid (wr.ownsRow w.heap.size 3 1 (.slice d13 z10.length b13) z10.length (HelpInt.iv z10)))
        case first =>
         as_aux_lemma =>
          replace H := let_hid H; obtain ⟨t_84, r22, H⟩ := H; replace H := join_hid H
          cases t_84 with
          | false =>
           replace H := ite_f H; replace H := bind_hid H; obtain ⟨t_88, y18, H⟩ := H; go_wp2_with fail; go_at_call 13; refine (GlVInts.C (x10) (z10) z12 y12 d13 b13 _   (Lib.hid (own_cells c10.out)) (Lib.hid (own_max c10.out)) (Lib.hid (own_cells d10.out)) (Lib.hid (own_max d10.out)) y18).mono ?_; rintro k22 x21 ⟨rfl, o11⟩; have z15 := Lib.hid (Below.step p17.out o11); replace e10 := cell_below o11 e10; replace f10 := cell_below o11 f10; replace l10 := cell_below o11 l10; replace k10 := cell_below o11 k10; replace g10 := cell_below o11 g10; replace m10 := cell_below o11 m10; replace i10 := cell_below o11 i10; replace j10 := cell_below o11 j10; replace h10 := cell_below o11 h10; replace b10 := Lib.hid (own_below b10.out o11); replace a10 := Lib.hid (own_below a10.out o11); replace c10 := Lib.hid (own_below c10.out o11); replace d10 := Lib.hid (own_below d10.out o11); clear o11
           cases t_88 with
           | false =>
            replace H := let_hid H; obtain ⟨t_89, s14, H⟩ := H; obtain rfl : t_89 = true := s14.symm; replace H := app_hid H; go_wp2_with fail
            go_meet
            case rel => exact ⟨_, rfl, H, z15, e10, f10, l10, k10, g10, m10, i10, j10, h10, b10, a10, c10, d10⟩
           | true =>
            replace H := let_hid H; obtain ⟨t_89, s14, H⟩ := H; obtain rfl : t_89 = false := s14.symm; replace H := app_hid H; go_wp2_with fail
            go_meet
            case rel => exact ⟨_, rfl, H, z15, e10, f10, l10, k10, g10, m10, i10, j10, h10, b10, a10, c10, d10⟩
          | true =>
           replace H := ite_t H; replace H := app_hid H; go_wp2_with fail
           go_meet
           case rel => exact ⟨_, rfl, H, p17, e10, f10, l10, k10, g10, m10, i10, j10, h10, b10, a10, c10, d10⟩
        case rest =>
         as_aux_lemma =>
          obtain ⟨i14, rfl, H, j13, e10, f10, l10, k10, g10, m10, i10, j10, h10, b10, a10, c10, d10⟩ := hcut; rename World => wq2; unfold q2 at H; replace H := let_hid H; obtain ⟨_, rfl, H⟩ := H
          cases i14 with
          | false =>
           replace H := ite_f H; go_upto_region 16 with fail
           go_cut [121] (fun v121_ wr => ∃ (c14 : Bool), v121_ = .bool c14 ∧ Hid (q3 code fuel tapes false t_5a t_5b p10 s10 r10 t10 v10 n10 q10 w10 o10 q13 p13 r13 w13 false k14 y13 f14 g14 false x10 s13 z10 d15 false (c14) = some r) ∧ Hid (Below w.heap.size w wr) ∧ wr.cell? ⟨wt_5.heap.size, 0, none⟩ = some (.int .i64 p10) ∧ wr.cell? ⟨wt_5.heap.size, 1, none⟩ = some (.int .i64 s10) ∧ wr.cell? ⟨wt_5.heap.size, 2, none⟩ = some (.int .i64 r10) ∧ wr.cell? ⟨wt_5.heap.size, 3, none⟩ = some (.int .i64 t10) ∧ wr.cell? ⟨wt_5.heap.size, 4, none⟩ = some (.int .i64 v10) ∧ wr.cell? ⟨wt_5.heap.size, 5, none⟩ = some (.int .i64 n10) ∧ wr.cell? ⟨wt_5.heap.size, 6, none⟩ = some (.int .i64 q10) ∧ wr.cell? ⟨wt_5.heap.size, 7, none⟩ = some (.int .i64 w10) ∧ wr.cell? ⟨wt_5.heap.size, 8, none⟩ = some (.int .i64 o10) ∧ Hid (wr.ownsRow w.heap.size 92 5 (.slice k12 t_5a.length j12) t_5a.length (PRate.flat t_5a)) ∧ Hid (wr.ownsRow w.heap.size 77 4 (.slice f11 t_5b.length e11) t_5b.length (PMail.flat t_5b)) ∧ Hid (wr.ownsRow w.heap.size 3 1 (.slice z12 x10.length y12) x10.length (HelpInt.iv x10)) ∧ Hid (wr.ownsRow w.heap.size 3 1 (.slice d13 z10.length b13) z10.length (HelpInt.iv z10)))
           case first =>
            as_aux_lemma =>
             replace H := join_hid H
             cases p13 with
             | false =>
              replace H := ite_f H; replace H := app_hid H; replace H := join_hid H; replace H := ite_f H; replace H := app_hid H; go_wp2_with fail
              go_meet
              case rel => exact ⟨_, rfl, H, j13, e10, f10, l10, k10, g10, m10, i10, j10, h10, b10, a10, c10, d10⟩
             | true =>
              replace H := ite_t H; replace H := let_hid H; obtain ⟨t_95, b21, H⟩ := H; replace H := app_hid H; replace H := join_hid H
              cases t_95 with
              | false =>
               replace H := ite_f H; replace H := app_hid H; go_wp2_with fail
               go_meet
               case rel => exact ⟨_, rfl, H, j13, e10, f10, l10, k10, g10, m10, i10, j10, h10, b10, a10, c10, d10⟩
              | true =>
               replace H := ite_t H
               cases y13 with
               | false =>
                replace H := let_hid H; obtain ⟨t_99, n14, H⟩ := H; obtain rfl : t_99 = true := n14.symm; replace H := join_hid H; replace H := ite_t H; replace H := app_hid H; replace H := join_hid H; replace H := ite_t H; replace H := app_hid H; replace H := app_hid H; go_wp2_with fail
                go_meet
                case rel => exact ⟨_, rfl, H, j13, e10, f10, l10, k10, g10, m10, i10, j10, h10, b10, a10, c10, d10⟩
               | true =>
                replace H := let_hid H; obtain ⟨t_99, n14, H⟩ := H; obtain rfl : t_99 = false := n14.symm; replace H := join_hid H; replace H := ite_f H; replace H := let_hid H; obtain ⟨g19, q22, H⟩ := H; replace H := app_hid H; replace H := join_hid H
                cases g19 with
                | false =>
                 replace H := ite_f H
                 cases s13 with
                 | false =>
                  replace H := let_hid H; obtain ⟨t14, c15, H⟩ := H; obtain rfl : t14 = true := c15.symm; replace H := app_hid H; replace H := app_hid H; go_wp2_with fail
                  go_meet
                  case rel => exact ⟨_, rfl, H, j13, e10, f10, l10, k10, g10, m10, i10, j10, h10, b10, a10, c10, d10⟩
                 | true =>
                  replace H := let_hid H; obtain ⟨t14, c15, H⟩ := H; obtain rfl : t14 = false := c15.symm; replace H := app_hid H; replace H := app_hid H; go_wp2_with fail
                  go_meet
                  case rel => exact ⟨_, rfl, H, j13, e10, f10, l10, k10, g10, m10, i10, j10, h10, b10, a10, c10, d10⟩
                | true =>
                 replace H := ite_t H; replace H := app_hid H; replace H := app_hid H; go_wp2_with fail
                 go_meet
                 case rel => exact ⟨_, rfl, H, j13, e10, f10, l10, k10, g10, m10, i10, j10, h10, b10, a10, c10, d10⟩
           case rest =>
            as_aux_lemma =>
             obtain ⟨c14, rfl, H, y14, e10, f10, l10, k10, g10, m10, i10, j10, h10, b10, a10, c10, d10⟩ := hcut; rename World => wq3; unfold q3 at H; replace H := let_hid H; obtain ⟨_, rfl, H⟩ := H
             cases c14 with
             | false =>
              replace H := ite_f H; go_upto_if 122 with fail
              go_cut [] (fun  wr => Hid (q4 code fuel tapes t_5b p10 s10 r10 t10 v10 n10 q10 w10 o10 s13 () = some r) ∧ Hid (Below w.heap.size w wr) ∧ wr.cell? ⟨wt_5.heap.size, 0, none⟩ = some (.int .i64 p10) ∧ wr.cell? ⟨wt_5.heap.size, 1, none⟩ = some (.int .i64 s10) ∧ wr.cell? ⟨wt_5.heap.size, 2, none⟩ = some (.int .i64 r10) ∧ wr.cell? ⟨wt_5.heap.size, 3, none⟩ = some (.int .i64 t10) ∧ wr.cell? ⟨wt_5.heap.size, 4, none⟩ = some (.int .i64 v10) ∧ wr.cell? ⟨wt_5.heap.size, 5, none⟩ = some (.int .i64 n10) ∧ wr.cell? ⟨wt_5.heap.size, 6, none⟩ = some (.int .i64 q10) ∧ wr.cell? ⟨wt_5.heap.size, 7, none⟩ = some (.int .i64 w10) ∧ wr.cell? ⟨wt_5.heap.size, 8, none⟩ = some (.int .i64 o10) ∧ Hid (wr.ownsRow w.heap.size 92 5 (.slice k12 t_5a.length j12) t_5a.length (PRate.flat t_5a)) ∧ Hid (wr.ownsRow w.heap.size 77 4 (.slice f11 t_5b.length e11) t_5b.length (PMail.flat t_5b)) ∧ Hid (wr.ownsRow w.heap.size 3 1 (.slice z12 x10.length y12) x10.length (HelpInt.iv x10)) ∧ Hid (wr.ownsRow w.heap.size 3 1 (.slice d13 z10.length b13) z10.length (HelpInt.iv z10)))
              case first =>
               as_aux_lemma =>
                cases s13 with
                | false =>
                 replace H := ite_f H; go_wp2_with fail
                 go_meet
                 case rel => exact ⟨H, y14, e10, f10, l10, k10, g10, m10, i10, j10, h10, b10, a10, c10, d10⟩
                | true =>
                 replace H := ite_t H; replace H := bind3_hid H; obtain ⟨t18, o18, g16, m19, H⟩ := H; go_wp2_with fail; go_at_call 14; refine (GiEndOfRoute.C (t_5b) (n10) (w10) (x10) f11 e11 z12 y12 _   (Lib.hid (own_cells a10.out)) (Lib.hid (own_max a10.out)) (Lib.hid (own_cells c10.out)) (Lib.hid (own_max c10.out)) m19).mono ?_; rintro c22 a22 ⟨rfl, k11⟩; have p14 := Lib.hid (Below.step y14.out k11); replace e10 := cell_below k11 e10; replace f10 := cell_below k11 f10; replace l10 := cell_below k11 l10; replace k10 := cell_below k11 k10; replace g10 := cell_below k11 g10; replace m10 := cell_below k11 m10; replace i10 := cell_below k11 i10; replace j10 := cell_below k11 j10; replace h10 := cell_below k11 h10; replace b10 := Lib.hid (own_below b10.out k11); replace a10 := Lib.hid (own_below a10.out k11); replace c10 := Lib.hid (own_below c10.out k11); replace d10 := Lib.hid (own_below d10.out k11); clear k11; go_upto_region 20 with fail
                 go_cut [147] (fun v147_ wr => ∃ (l14 : Bool), v147_ = .bool l14 ∧ Hid (q5 code fuel tapes false t_5a t_5b p10 s10 r10 t10 v10 n10 q10 w10 o10 q13 p13 r13 w13 false k14 y13 f14 g14 false x10 true z10 d15 false false t18 o18 g16 (l14) = some r) ∧ Hid (Below w.heap.size w wr) ∧ wr.cell? ⟨wt_5.heap.size, 0, none⟩ = some (.int .i64 p10) ∧ wr.cell? ⟨wt_5.heap.size, 1, none⟩ = some (.int .i64 s10) ∧ wr.cell? ⟨wt_5.heap.size, 2, none⟩ = some (.int .i64 r10) ∧ wr.cell? ⟨wt_5.heap.size, 3, none⟩ = some (.int .i64 t10) ∧ wr.cell? ⟨wt_5.heap.size, 4, none⟩ = some (.int .i64 v10) ∧ wr.cell? ⟨wt_5.heap.size, 5, none⟩ = some (.int .i64 n10) ∧ wr.cell? ⟨wt_5.heap.size, 6, none⟩ = some (.int .i64 q10) ∧ wr.cell? ⟨wt_5.heap.size, 7, none⟩ = some (.int .i64 w10) ∧ wr.cell? ⟨wt_5.heap.size, 8, none⟩ = some (.int .i64 o10) ∧ Hid (wr.ownsRow w.heap.size 92 5 (.slice k12 t_5a.length j12) t_5a.length (PRate.flat t_5a)) ∧ Hid (wr.ownsRow w.heap.size 77 4 (.slice f11 t_5b.length e11) t_5b.length (PMail.flat t_5b)) ∧ Hid (wr.ownsRow w.heap.size 3 1 (.slice z12 x10.length y12) x10.length (HelpInt.iv x10)) ∧ Hid (wr.ownsRow w.heap.size 3 1 (.slice d13 z10.length b13) z10.length (HelpInt.iv z10)))
                 case first =>
                  as_aux_lemma =>
                   cases g16 with
                   | false =>
                    replace H := let_hid H; obtain ⟨z14, m14, H⟩ := H; obtain rfl : z14 = true := m14.symm; replace H := join_hid H; replace H := ite_t H; replace H := app_hid H; replace H := join_hid H; replace H := ite_t H; replace H := app_hid H; go_wp2_with fail
                    go_meet
                    case rel => exact ⟨_, rfl, H, p14, e10, f10, l10, k10, g10, m10, i10, j10, h10, b10, a10, c10, d10⟩
                   | true =>
                    replace H := let_hid H; obtain ⟨z14, m14, H⟩ := H; obtain rfl : z14 = false := m14.symm; replace H := join_hid H; replace H := ite_f H; replace H := let_hid H; obtain ⟨d18, j21, H⟩ := H; replace H := app_hid H; replace H := join_hid H
                    cases d18 with
                    | false =>
                     replace H := ite_f H; replace H := let_hid H; obtain ⟨o21, j20, H⟩ := H; replace H := app_hid H; go_wp2_with fail
                     go_meet
                     case rel => exact ⟨_, rfl, H, p14, e10, f10, l10, k10, g10, m10, i10, j10, h10, b10, a10, c10, d10⟩
                    | true =>
                     replace H := ite_t H; replace H := app_hid H; go_wp2_with fail
                     go_meet
                     case rel => exact ⟨_, rfl, H, p14, e10, f10, l10, k10, g10, m10, i10, j10, h10, b10, a10, c10, d10⟩
                 case rest =>
                  as_aux_lemma =>
                   obtain ⟨l14, rfl, H, a16, e10, f10, l10, k10, g10, m10, i10, j10, h10, b10, a10, c10, d10⟩ := hcut; rename World => wq5; unfold q5 at H; replace H := let_hid H; obtain ⟨_, rfl, H⟩ := H
                   cases l14 with
                   | false =>
                    replace H := ite_f H; go_wp2_with fail
                    go_meet
                    case rel => exact ⟨H, a16, e10, f10, l10, k10, g10, m10, i10, j10, h10, b10, a10, c10, d10⟩
                   | true =>
                    replace H := ite_t H; obtain rfl := ret_hid H; go_wp2_with fail; go_ret; exact ⟨rfl, a16.out⟩
              case rest =>
               as_aux_lemma =>
                obtain ⟨H, s19, e10, f10, l10, k10, g10, m10, i10, j10, h10, b10, a10, c10, d10⟩ := hcut; rename World => wq4; unfold q4 at H; replace H := bind2_hid H; obtain ⟨n18, x16, l18, H⟩ := H; go_wp2_with fail; go_at_call 15; refine (GiSpareMinutes.C fuel (t_5b) ((PCover.Cover.mk p10 s10 r10 t10 v10 n10 q10 w10 o10)) f11 e11 _   (Lib.hid (own_cells a10.out)) (Lib.hid (own_max a10.out)) l18).mono ?_; rintro l22 l21 ⟨rfl, w11⟩; have x17 := Lib.hid (Below.step s19.out w11); replace e10 := cell_below w11 e10; replace f10 := cell_below w11 f10; replace l10 := cell_below w11 l10; replace k10 := cell_below w11 k10; replace g10 := cell_below w11 g10; replace m10 := cell_below w11 m10; replace i10 := cell_below w11 i10; replace j10 := cell_below w11 j10; replace h10 := cell_below w11 h10; replace b10 := Lib.hid (own_below b10.out w11); replace a10 := Lib.hid (own_below a10.out w11); replace c10 := Lib.hid (own_below c10.out w11); replace d10 := Lib.hid (own_below d10.out w11); clear w11; replace H := bind2_hid H; obtain ⟨g21, d21, r18, H⟩ := H; go_wp2_with fail; go_at_call 16; refine (GsSpareMinutes.C fuel (t_5b) ((PCover.Cover.mk p10 s10 r10 t10 v10 n10 q10 w10 o10)) f11 e11 _   (Lib.hid (own_cells a10.out)) (Lib.hid (own_max a10.out)) r18).mono ?_; rintro x19 y21 ⟨rfl, s11⟩; have r14 := Lib.hid (Below.step x17.out s11); replace e10 := cell_below s11 e10; replace f10 := cell_below s11 f10; replace l10 := cell_below s11 l10; replace k10 := cell_below s11 k10; replace g10 := cell_below s11 g10; replace m10 := cell_below s11 m10; replace i10 := cell_below s11 i10; replace j10 := cell_below s11 j10; replace h10 := cell_below s11 h10; replace b10 := Lib.hid (own_below b10.out s11); replace a10 := Lib.hid (own_below a10.out s11); replace c10 := Lib.hid (own_below c10.out s11); replace d10 := Lib.hid (own_below d10.out s11); clear s11; go_upto_region 24 with fail
                go_cut [172] (fun v172_ wr => ∃ (j14 : Bool), v172_ = .bool j14 ∧ Hid (q6 code fuel tapes t_5b p10 s10 r10 t10 v10 n10 q10 w10 o10 n18 x16 (j14) = some r) ∧ Hid (Below w.heap.size w wr) ∧ wr.cell? ⟨wt_5.heap.size, 0, none⟩ = some (.int .i64 p10) ∧ wr.cell? ⟨wt_5.heap.size, 1, none⟩ = some (.int .i64 s10) ∧ wr.cell? ⟨wt_5.heap.size, 2, none⟩ = some (.int .i64 r10) ∧ wr.cell? ⟨wt_5.heap.size, 3, none⟩ = some (.int .i64 t10) ∧ wr.cell? ⟨wt_5.heap.size, 4, none⟩ = some (.int .i64 v10) ∧ wr.cell? ⟨wt_5.heap.size, 5, none⟩ = some (.int .i64 n10) ∧ wr.cell? ⟨wt_5.heap.size, 6, none⟩ = some (.int .i64 q10) ∧ wr.cell? ⟨wt_5.heap.size, 7, none⟩ = some (.int .i64 w10) ∧ wr.cell? ⟨wt_5.heap.size, 8, none⟩ = some (.int .i64 o10) ∧ Hid (wr.ownsRow w.heap.size 92 5 (.slice k12 t_5a.length j12) t_5a.length (PRate.flat t_5a)) ∧ Hid (wr.ownsRow w.heap.size 77 4 (.slice f11 t_5b.length e11) t_5b.length (PMail.flat t_5b)) ∧ Hid (wr.ownsRow w.heap.size 3 1 (.slice z12 x10.length y12) x10.length (HelpInt.iv x10)) ∧ Hid (wr.ownsRow w.heap.size 3 1 (.slice d13 z10.length b13) z10.length (HelpInt.iv z10)))
                case first =>
                 as_aux_lemma =>
                  replace H := let_hid H; obtain ⟨j18, s20, H⟩ := H; replace H := join_hid H
                  cases j18 with
                  | false =>
                   replace H := ite_f H; replace H := let_hid H; obtain ⟨m18, a20, H⟩ := H; replace H := app_hid H; replace H := join_hid H
                   cases m18 with
                   | false =>
                    replace H := ite_f H; replace H := let_hid H; obtain ⟨z19, z21, H⟩ := H; replace H := app_hid H; go_wp2_with fail
                    go_meet
                    case rel => exact ⟨_, rfl, H, r14, e10, f10, l10, k10, g10, m10, i10, j10, h10, b10, a10, c10, d10⟩
                   | true =>
                    replace H := ite_t H; replace H := app_hid H; go_wp2_with fail
                    go_meet
                    case rel => exact ⟨_, rfl, H, r14, e10, f10, l10, k10, g10, m10, i10, j10, h10, b10, a10, c10, d10⟩
                  | true =>
                   replace H := ite_t H; replace H := app_hid H; replace H := join_hid H; replace H := ite_t H; replace H := app_hid H; go_wp2_with fail
                   go_meet
                   case rel => exact ⟨_, rfl, H, r14, e10, f10, l10, k10, g10, m10, i10, j10, h10, b10, a10, c10, d10⟩
                case rest =>
                 as_aux_lemma =>
                  obtain ⟨j14, rfl, H, d14, e10, f10, l10, k10, g10, m10, i10, j10, h10, b10, a10, c10, d10⟩ := hcut; rename World => wq6; unfold q6 at H; replace H := let_hid H; obtain ⟨_, rfl, H⟩ := H
                  cases j14 with
                  | false =>
                   replace H := ite_f H; go_upto_if 173 with fail
                   go_cut [] (fun  wr => Hid (q7 code tapes () = some r) ∧ Hid (Below w.heap.size w wr) ∧ wr.cell? ⟨wt_5.heap.size, 0, none⟩ = some (.int .i64 p10) ∧ wr.cell? ⟨wt_5.heap.size, 1, none⟩ = some (.int .i64 s10) ∧ wr.cell? ⟨wt_5.heap.size, 2, none⟩ = some (.int .i64 r10) ∧ wr.cell? ⟨wt_5.heap.size, 3, none⟩ = some (.int .i64 t10) ∧ wr.cell? ⟨wt_5.heap.size, 4, none⟩ = some (.int .i64 v10) ∧ wr.cell? ⟨wt_5.heap.size, 5, none⟩ = some (.int .i64 n10) ∧ wr.cell? ⟨wt_5.heap.size, 6, none⟩ = some (.int .i64 q10) ∧ wr.cell? ⟨wt_5.heap.size, 7, none⟩ = some (.int .i64 w10) ∧ wr.cell? ⟨wt_5.heap.size, 8, none⟩ = some (.int .i64 o10) ∧ Hid (wr.ownsRow w.heap.size 92 5 (.slice k12 t_5a.length j12) t_5a.length (PRate.flat t_5a)) ∧ Hid (wr.ownsRow w.heap.size 77 4 (.slice f11 t_5b.length e11) t_5b.length (PMail.flat t_5b)) ∧ Hid (wr.ownsRow w.heap.size 3 1 (.slice z12 x10.length y12) x10.length (HelpInt.iv x10)) ∧ Hid (wr.ownsRow w.heap.size 3 1 (.slice d13 z10.length b13) z10.length (HelpInt.iv z10)))
                   case first =>
                    as_aux_lemma =>
                     cases x16 with
                     | false =>
                      replace H := ite_f H; go_wp2_with fail
                      go_meet
                      case rel => exact ⟨H, d14, e10, f10, l10, k10, g10, m10, i10, j10, h10, b10, a10, c10, d10⟩
                     | true =>
                      replace H := ite_t H; obtain ⟨n12, s12⟩ : ∃ x, wq6.alloc (.cells #[.int .i64 p10, .int .i64 s10, .int .i64 r10, .int .i64 t10, .int .i64 v10, .int .i64 n10, .int .i64 q10, .int .i64 w10, .int .i64 o10] 27) = x := ⟨_, rfl⟩; have t11 : Below wq6.heap.size wq6 n12 := (by rw [← s12]; exact (Below.refl _ _).alloc (Nat.le_refl _) _); have f18 := Lib.hid (apart_fresh b10.out); have b19 := Lib.hid (apart_fresh a10.out); have v17 := Lib.hid (apart_fresh c10.out); have z18 := Lib.hid (apart_fresh d10.out); have a13 := Lib.hid (apart_box e10); have q15 := Lib.hid (Below.step d14.out t11); have l17 := cell_below t11 e10; have a17 := cell_below t11 f10; have b16 := cell_below t11 l10; have w15 := cell_below t11 k10; have c16 := cell_below t11 g10; have e16 := cell_below t11 m10; have e17 := cell_below t11 i10; have y16 := cell_below t11 j10; have p16 := cell_below t11 h10; replace b10 := Lib.hid (own_below b10.out t11); replace a10 := Lib.hid (own_below a10.out t11); replace c10 := Lib.hid (own_below c10.out t11); replace d10 := Lib.hid (own_below d10.out t11); clear t11; have a19 : n12.cell? ⟨wq6.heap.size, 0, none⟩ = some (.int .i64 p10) := (by rw [← s12]; exact box_new _ _ _ 0 _ rfl); have d19 : n12.cell? ⟨wq6.heap.size, 1, none⟩ = some (.int .i64 s10) := (by rw [← s12]; exact box_new _ _ _ 1 _ rfl); have t17 : n12.cell? ⟨wq6.heap.size, 2, none⟩ = some (.int .i64 r10) := (by rw [← s12]; exact box_new _ _ _ 2 _ rfl); have r17 : n12.cell? ⟨wq6.heap.size, 3, none⟩ = some (.int .i64 t10) := (by rw [← s12]; exact box_new _ _ _ 3 _ rfl); have n19 : n12.cell? ⟨wq6.heap.size, 4, none⟩ = some (.int .i64 v10) := (by rw [← s12]; exact box_new _ _ _ 4 _ rfl); have w17 : n12.cell? ⟨wq6.heap.size, 5, none⟩ = some (.int .i64 n10) := (by rw [← s12]; exact box_new _ _ _ 5 _ rfl); have v18 : n12.cell? ⟨wq6.heap.size, 6, none⟩ = some (.int .i64 q10) := (by rw [← s12]; exact box_new _ _ _ 6 _ rfl); have i19 : n12.cell? ⟨wq6.heap.size, 7, none⟩ = some (.int .i64 w10) := (by rw [← s12]; exact box_new _ _ _ 7 _ rfl); have q19 : n12.cell? ⟨wq6.heap.size, 8, none⟩ = some (.int .i64 o10) := (by rw [← s12]; exact box_new _ _ _ 8 _ rfl); have h14 : Hid (n12.ownsRow w.heap.size 27 9 (.slice (some ⟨wq6.heap.size, 0, none⟩) 1 1) 1 [.int .i64 p10, .int .i64 s10, .int .i64 r10, .int .i64 t10, .int .i64 v10, .int .i64 n10, .int .i64 q10, .int .i64 w10, .int .i64 o10]) := Lib.hid (by rw [← s12]; exact own_laid (n := 1) d14.out.size rfl rfl (by unfold maxLen; omega)); replace H := let_hid H; obtain ⟨x13, f21, H⟩ := H; obtain ⟨r12, l16⟩ : ∃ x, (n12).setCell ⟨wq6.heap.size, 7, none⟩ (.int .i64 x13) = x := ⟨_, rfl⟩; have w19 := h14.out.frozenAt 7; have v14 := Lib.hid (own_stores [(7, .int .i64 x13)] h14.out); have t12 : Hid (r12.ownsRow w.heap.size 27 9 (.slice (some ⟨wq6.heap.size, 0, none⟩) 1 1) 1 [.int .i64 p10, .int .i64 s10, .int .i64 r10, .int .i64 t10, .int .i64 v10, .int .i64 n10, .int .i64 q10, .int .i64 x13, .int .i64 o10]) := Lib.hid (by rw [← l16]; exact v14.out.1); have q11 : Hid (n12.grownBy r12 (Value.slice (some ⟨wq6.heap.size, 0, none⟩) 1 1).ownBlock) := Lib.hid (by rw [← l16]; exact v14.out.2); have y15 := Lib.hid (q15.out.grown q11.out q15.out.size (fun q hq => (h14.out.lt q hq).1)); clear v14; have z13 := cell_other l17 q11.out a13.out; have o14 := cell_other a17 q11.out a13.out; have w14 := cell_other b16 q11.out a13.out; have b15 := cell_other w15 q11.out a13.out; have k15 := cell_other c16 q11.out a13.out; have g15 := cell_other e16 q11.out a13.out; have j15 := cell_other e17 q11.out a13.out; have q14 := cell_other y16 q11.out a13.out; have h15 := cell_other p16 q11.out a13.out; replace b10 := Lib.hid (own_other b10.out q11.out f18.out); replace a10 := Lib.hid (own_other a10.out q11.out b19.out); replace c10 := Lib.hid (own_other c10.out q11.out v17.out); replace d10 := Lib.hid (own_other d10.out q11.out z18.out); clear h14 q11; have a15 : r12.cell? ⟨wq6.heap.size, 0, none⟩ = some (.int .i64 p10) := t12.out.cells rfl 0 _ rfl
                      have x15 : r12.cell? ⟨wq6.heap.size, 1, none⟩ = some (.int .i64 s10) := t12.out.cells rfl 1 _ rfl; have h16 : r12.cell? ⟨wq6.heap.size, 2, none⟩ = some (.int .i64 r10) := t12.out.cells rfl 2 _ rfl; have r16 : r12.cell? ⟨wq6.heap.size, 3, none⟩ = some (.int .i64 t10) := t12.out.cells rfl 3 _ rfl; have v15 : r12.cell? ⟨wq6.heap.size, 4, none⟩ = some (.int .i64 v10) := t12.out.cells rfl 4 _ rfl; have r15 : r12.cell? ⟨wq6.heap.size, 5, none⟩ = some (.int .i64 n10) := t12.out.cells rfl 5 _ rfl; have k17 : r12.cell? ⟨wq6.heap.size, 6, none⟩ = some (.int .i64 q10) := t12.out.cells rfl 6 _ rfl; have d17 : r12.cell? ⟨wq6.heap.size, 7, none⟩ = some (.int .i64 x13) := t12.out.cells rfl 7 _ rfl; have f16 : r12.cell? ⟨wq6.heap.size, 8, none⟩ = some (.int .i64 o10) := t12.out.cells rfl 8 _ rfl; replace H := bind2_hid H; obtain ⟨r20, t19, y17, H⟩ := H; go_wp2_with fail; clear e10 f10 l10 k10 g10 m10 i10 j10 h10 w19 l17 a17 b16 w15 c16 e16 e17 y16 p16 a19 d19 t17 r17 n19 w17 v18 i19 q19; go_at_call 11; refine (GiRouteOn.C fuel (t_5b) ((PCover.Cover.mk p10 s10 r10 t10 v10 n10 q10 x13 o10)) f11 e11 _   (Lib.hid (own_cells a10.out)) (Lib.hid (own_max a10.out)) y17).mono ?_; rintro x22 w22 ⟨a21, z22, rfl, c13, y10⟩; have a23 := Lib.hid (apart_call c13 b10.out); have g22 := Lib.hid (apart_call c13 a10.out); have y19 := Lib.hid (apart_call c13 c10.out); have n21 := Lib.hid (apart_call c13 d10.out); have d22 := Lib.hid (apart_callbox c13 z13); have b23 := Lib.hid (apart_callbox c13 a15); have m20 := Lib.hid (own_lower c13 y15.out.size); clear c13; have j16 := Lib.hid (Below.step y15.out y10); replace z13 := cell_below y10 z13; replace o14 := cell_below y10 o14; replace w14 := cell_below y10 w14; replace b15 := cell_below y10 b15; replace k15 := cell_below y10 k15; replace g15 := cell_below y10 g15; replace j15 := cell_below y10 j15; replace q14 := cell_below y10 q14; replace h15 := cell_below y10 h15; replace a15 := cell_below y10 a15; replace x15 := cell_below y10 x15; replace h16 := cell_below y10 h16; replace r16 := cell_below y10 r16; replace v15 := cell_below y10 v15; replace r15 := cell_below y10 r15; replace k17 := cell_below y10 k17; replace d17 := cell_below y10 d17; replace f16 := cell_below y10 f16; replace b10 := Lib.hid (own_below b10.out y10); replace a10 := Lib.hid (own_below a10.out y10); replace c10 := Lib.hid (own_below c10.out y10); replace d10 := Lib.hid (own_below d10.out y10); replace t12 := Lib.hid (own_below t12.out y10); clear y10
                      cases t19 with
                      | false =>
                       replace H := let_hid H; obtain ⟨l15, f15, H⟩ := H; obtain rfl : l15 = true := f15.symm; replace H := ite_t H; obtain rfl := ret_hid H; go_wp2_with fail; go_ret; exact ⟨rfl, j16.out⟩
                      | true =>
                       replace H := let_hid H; obtain ⟨l15, f15, H⟩ := H; obtain rfl : l15 = false := f15.symm; replace H := ite_f H; go_wp2_with fail
                       go_meet
                       case rel => exact ⟨H, j16, z13, o14, w14, b15, k15, g15, j15, q14, h15, b10, a10, c10, d10⟩
                   case rest =>
                    as_aux_lemma =>
                     obtain ⟨H, m17, e10, f10, l10, k10, g10, m10, i10, j10, h10, b10, a10, c10, d10⟩ := hcut; rename World => wq7; unfold q7 at H; replace H := bind_hid H; obtain ⟨k18, f19, H⟩ := H; obtain ⟨e13, i13, g13, m13, h13, l13, f13, k13, n13⟩ := k18; replace H := unCover_hid H; go_wp2_with fail; go_at_call 17; refine (GsDrawIsCover.C tapes (code) A0 c0 _  HE (Lib.hid (Cells.below M0.out m17.out)) N0 V0 f19).mono ?_; rintro z20 d11 ⟨rfl, n11⟩; unfold PCover.Cover.val; have x18 := Lib.hid (Below.step m17.out n11); replace e10 := cell_below n11 e10; replace f10 := cell_below n11 f10; replace l10 := cell_below n11 l10; replace k10 := cell_below n11 k10; replace g10 := cell_below n11 g10; replace m10 := cell_below n11 m10; replace i10 := cell_below n11 i10; replace j10 := cell_below n11 j10; replace h10 := cell_below n11 h10; replace b10 := Lib.hid (own_below b10.out n11); replace a10 := Lib.hid (own_below a10.out n11); replace c10 := Lib.hid (own_below c10.out n11); replace d10 := Lib.hid (own_below d10.out n11); clear n11; obtain ⟨h12, v12⟩ : ∃ x, d11.alloc (.cells #[.int .i64 e13, .int .i64 i13, .int .i64 g13, .int .i64 m13, .int .i64 h13, .int .i64 l13, .int .i64 f13, .int .i64 k13, .int .i64 n13] 27) = x := ⟨_, rfl⟩; have m11 : Below d11.heap.size d11 h12 := (by rw [← v12]; exact (Below.refl _ _).alloc (Nat.le_refl _) _); have b20 := Lib.hid (apart_fresh b10.out); have w21 := Lib.hid (apart_fresh a10.out); have b22 := Lib.hid (apart_fresh c10.out); have o20 := Lib.hid (apart_fresh d10.out); have w18 := Lib.hid (Below.step x18.out m11); have v11 := cell_below m11 e10; have l11 := cell_below m11 f10; have i11 := cell_below m11 l10; have g12 := cell_below m11 k10; have p11 := cell_below m11 g10; have e12 := cell_below m11 m10; have z11 := cell_below m11 i10; have b12 := cell_below m11 j10; have y11 := cell_below m11 h10; replace b10 := Lib.hid (own_below b10.out m11); replace a10 := Lib.hid (own_below a10.out m11); replace c10 := Lib.hid (own_below c10.out m11); replace d10 := Lib.hid (own_below d10.out m11); clear m11; have g11 : h12.cell? ⟨d11.heap.size, 0, none⟩ = some (.int .i64 e13) := (by rw [← v12]; exact box_new _ _ _ 0 _ rfl); have h11 : h12.cell? ⟨d11.heap.size, 1, none⟩ = some (.int .i64 i13) := (by rw [← v12]; exact box_new _ _ _ 1 _ rfl); have a12 : h12.cell? ⟨d11.heap.size, 2, none⟩ = some (.int .i64 g13) := (by rw [← v12]; exact box_new _ _ _ 2 _ rfl); have x11 : h12.cell? ⟨d11.heap.size, 3, none⟩ = some (.int .i64 m13) := (by rw [← v12]; exact box_new _ _ _ 3 _ rfl); have f12 : h12.cell? ⟨d11.heap.size, 4, none⟩ = some (.int .i64 h13) := (by rw [← v12]; exact box_new _ _ _ 4 _ rfl); have r11 : h12.cell? ⟨d11.heap.size, 5, none⟩ = some (.int .i64 l13) := (by rw [← v12]; exact box_new _ _ _ 5 _ rfl); have c12 : h12.cell? ⟨d11.heap.size, 6, none⟩ = some (.int .i64 f13) := (by rw [← v12]; exact box_new _ _ _ 6 _ rfl); have j11 : h12.cell? ⟨d11.heap.size, 7, none⟩ = some (.int .i64 k13) := (by rw [← v12]; exact box_new _ _ _ 7 _ rfl); have d12 : h12.cell? ⟨d11.heap.size, 8, none⟩ = some (.int .i64 n13) := (by rw [← v12]; exact box_new _ _ _ 8 _ rfl); go_wp2_with fail; clear e10 f10 l10 k10 g10 m10 i10 j10 h10; have s16 := Lib.hid v11; replace v11 := cell_regrown v11; have s15 := Lib.hid l11; replace l11 := cell_regrown l11; have b17 := Lib.hid i11; replace i11 := cell_regrown i11; have f17 := Lib.hid g12; replace g12 := cell_regrown g12; have k16 := Lib.hid p11; replace p11 := cell_regrown p11; have n17 := Lib.hid e12; replace e12 := cell_regrown e12; have n16 := Lib.hid z11; replace z11 := cell_regrown z11; have g17 := Lib.hid b12; replace b12 := cell_regrown b12; have i16 := Lib.hid y11; replace y11 := cell_regrown y11; have o17 := Lib.hid g11; replace g11 := cell_regrown g11; have j17 := Lib.hid h11; replace h11 := cell_regrown h11; have p15 := Lib.hid a12; replace a12 := cell_regrown a12; have v16 := Lib.hid x11; replace x11 := cell_regrown x11; have d16 := Lib.hid f12
                     replace f12 := cell_regrown f12; have t15 := Lib.hid r11; replace r11 := cell_regrown r11; have t16 := Lib.hid c12; replace c12 := cell_regrown c12; have n15 := Lib.hid j11; replace j11 := cell_regrown j11; have h17 := Lib.hid d12; replace d12 := cell_regrown d12; replace H := bind_hid H; obtain ⟨o19, v19, H⟩ := H; have m15 : ∀ d os, Calls Try.prog 18 #[.agg #[.int .i64 e13, .int .i64 i13, .int .i64 g13, .int .i64 m13, .int .i64 h13, .int .i64 l13, .int .i64 f13, .int .i64 k13, .int .i64 n13]] (Go.Sort.grow (redrawn h12 d) os) fun e w'' => e = .returned (.bool o19) ∧ ∃ p : Regrown, w'' = Go.Sort.grow (redrawn h12 p.d) p.os := fun d os => Calls.regrown_of (GiIsCover.C ((PCover.Cover.mk e13 i13 g13 m13 h13 l13 f13 k13 n13))  _    v19); replace H := bind_hid H; obtain ⟨h19, j19, H⟩ := H; have w16 : ∀ d os, Calls Try.prog 19 #[.agg #[.int .i64 e13, .int .i64 i13, .int .i64 g13, .int .i64 m13, .int .i64 h13, .int .i64 l13, .int .i64 f13, .int .i64 k13, .int .i64 n13]] (Go.Sort.grow (redrawn h12 d) os) fun e w'' => e = .returned (.bool h19) ∧ ∃ p : Regrown, w'' = Go.Sort.grow (redrawn h12 p.d) p.os := fun d os => Calls.regrown_of (GsIsCover.C ((PCover.Cover.mk e13 i13 g13 m13 h13 l13 f13 k13 n13))  _    j19); replace H := let_hid H; obtain ⟨e19, y20, H⟩ := H; refine wp_region_quiet_below (by kernel_rfl) (by kernel_rfl) ?_
                     repeat (go_big_quiet_step (first | (go_at_call 18; exact m15 _ _) | (go_at_call 19; exact w16 _ _)))
                     refine wpQuiet_nil ?_; intro Y33 hY33; replace hY33 := below_class hY33; clear m15 w16; replace v11 := s16.out; clear s16; replace l11 := s15.out; clear s15; replace i11 := b17.out; clear b17; replace g12 := f17.out; clear f17; replace p11 := k16.out; clear k16; replace e12 := n17.out; clear n17; replace z11 := n16.out; clear n16; replace b12 := g17.out; clear g17; replace y11 := i16.out; clear i16; replace g11 := o17.out; clear o17; replace h11 := j17.out; clear j17; replace a12 := p15.out; clear p15; replace x11 := v16.out; clear v16; replace f12 := d16.out; clear d16; replace r11 := t15.out; clear t15; replace c12 := t16.out; clear t16; replace j11 := n15.out; clear n15; replace d12 := h17.out; clear h17; have i15 := Lib.hid (Below.step w18.out hY33); replace v11 := cell_below hY33 v11; replace l11 := cell_below hY33 l11; replace i11 := cell_below hY33 i11; replace g12 := cell_below hY33 g12; replace p11 := cell_below hY33 p11; replace e12 := cell_below hY33 e12; replace z11 := cell_below hY33 z11; replace b12 := cell_below hY33 b12; replace y11 := cell_below hY33 y11; replace g11 := cell_below hY33 g11; replace h11 := cell_below hY33 h11; replace a12 := cell_below hY33 a12; replace x11 := cell_below hY33 x11; replace f12 := cell_below hY33 f12; replace r11 := cell_below hY33 r11; replace c12 := cell_below hY33 c12; replace j11 := cell_below hY33 j11; replace d12 := cell_below hY33 d12; replace b10 := Lib.hid (own_below b10.out hY33); replace a10 := Lib.hid (own_below a10.out hY33); replace c10 := Lib.hid (own_below c10.out hY33); replace d10 := Lib.hid (own_below d10.out hY33); clear hY33
                     cases e19 with
                     | false =>
                      replace H := ite_f H; replace H := bind_hid H; obtain ⟨o16, k19, H⟩ := H; go_wp2_with fail; go_at_call 20; refine (GsDrawFaultText.C tapes (code) A0 c0 _  HE (Lib.hid (Cells.below M0.out i15.out)) N0 V0 k19).mono ?_; rintro h22 q20 ⟨rfl, c11⟩; have i18 := Lib.hid (Below.step i15.out c11); replace v11 := cell_below c11 v11; replace l11 := cell_below c11 l11; replace i11 := cell_below c11 i11; replace g12 := cell_below c11 g12; replace p11 := cell_below c11 p11; replace e12 := cell_below c11 e12; replace z11 := cell_below c11 z11; replace b12 := cell_below c11 b12; replace y11 := cell_below c11 y11; replace g11 := cell_below c11 g11; replace h11 := cell_below c11 h11; replace a12 := cell_below c11 a12; replace x11 := cell_below c11 x11; replace f12 := cell_below c11 f12; replace r11 := cell_below c11 r11; replace c12 := cell_below c11 c12; replace j11 := cell_below c11 j11; replace d12 := cell_below c11 d12; replace b10 := Lib.hid (own_below b10.out c11); replace a10 := Lib.hid (own_below a10.out c11); replace c10 := Lib.hid (own_below c10.out c11); replace d10 := Lib.hid (own_below d10.out c11); clear c11; replace H := bind2_hid H; obtain ⟨f20, n20, p18, H⟩ := H; go_wp2_with fail; go_at_call 21; refine (GiFaultText.C (o16)  _    p18).mono ?_; rintro m22 d20 ⟨rfl, b11⟩; have s18 := Lib.hid (Below.step i18.out b11); replace v11 := cell_below b11 v11; replace l11 := cell_below b11 l11; replace i11 := cell_below b11 i11; replace g12 := cell_below b11 g12; replace p11 := cell_below b11 p11; replace e12 := cell_below b11 e12; replace z11 := cell_below b11 z11; replace b12 := cell_below b11 b12; replace y11 := cell_below b11 y11; replace g11 := cell_below b11 g11; replace h11 := cell_below b11 h11; replace a12 := cell_below b11 a12; replace x11 := cell_below b11 x11; replace f12 := cell_below b11 f12; replace r11 := cell_below b11 r11; replace c12 := cell_below b11 c12; replace j11 := cell_below b11 j11; replace d12 := cell_below b11 d12; replace b10 := Lib.hid (own_below b10.out b11); replace a10 := Lib.hid (own_below a10.out b11); replace c10 := Lib.hid (own_below c10.out b11); replace d10 := Lib.hid (own_below d10.out b11); clear b11; replace H := bind2_hid H; obtain ⟨k21, c21, h18, H⟩ := H; go_wp2_with fail; go_at_call 22; refine (GsFaultText.C (o16)  _    h18).mono ?_; rintro v21 p22 ⟨rfl, a11⟩; have c17 := Lib.hid (Below.step s18.out a11); replace v11 := cell_below a11 v11; replace l11 := cell_below a11 l11; replace i11 := cell_below a11 i11; replace g12 := cell_below a11 g12; replace p11 := cell_below a11 p11; replace e12 := cell_below a11 e12; replace z11 := cell_below a11 z11; replace b12 := cell_below a11 b12; replace y11 := cell_below a11 y11; replace g11 := cell_below a11 g11; replace h11 := cell_below a11 h11; replace a12 := cell_below a11 a12; replace x11 := cell_below a11 x11; replace f12 := cell_below a11 f12; replace r11 := cell_below a11 r11; replace c12 := cell_below a11 c12; replace j11 := cell_below a11 j11; replace d12 := cell_below a11 d12; replace b10 := Lib.hid (own_below b10.out a11); replace a10 := Lib.hid (own_below a10.out a11); replace c10 := Lib.hid (own_below c10.out a11); replace d10 := Lib.hid (own_below d10.out a11); clear a11; go_upto_region 38 with fail
                      go_cut [2] (fun v2_ wr => ∃ (x14 : Bool), v2_ = .bool x14 ∧ Hid (q8  (x14) = some r) ∧ Hid (Below w.heap.size w wr) ∧ wr.cell? ⟨wt_5.heap.size, 0, none⟩ = some (.int .i64 p10) ∧ wr.cell? ⟨wt_5.heap.size, 1, none⟩ = some (.int .i64 s10) ∧ wr.cell? ⟨wt_5.heap.size, 2, none⟩ = some (.int .i64 r10) ∧ wr.cell? ⟨wt_5.heap.size, 3, none⟩ = some (.int .i64 t10) ∧ wr.cell? ⟨wt_5.heap.size, 4, none⟩ = some (.int .i64 v10) ∧ wr.cell? ⟨wt_5.heap.size, 5, none⟩ = some (.int .i64 n10) ∧ wr.cell? ⟨wt_5.heap.size, 6, none⟩ = some (.int .i64 q10) ∧ wr.cell? ⟨wt_5.heap.size, 7, none⟩ = some (.int .i64 w10) ∧ wr.cell? ⟨wt_5.heap.size, 8, none⟩ = some (.int .i64 o10) ∧ wr.cell? ⟨d11.heap.size, 0, none⟩ = some (.int .i64 e13) ∧ wr.cell? ⟨d11.heap.size, 1, none⟩ = some (.int .i64 i13) ∧ wr.cell? ⟨d11.heap.size, 2, none⟩ = some (.int .i64 g13) ∧ wr.cell? ⟨d11.heap.size, 3, none⟩ = some (.int .i64 m13) ∧ wr.cell? ⟨d11.heap.size, 4, none⟩ = some (.int .i64 h13) ∧ wr.cell? ⟨d11.heap.size, 5, none⟩ = some (.int .i64 l13) ∧ wr.cell? ⟨d11.heap.size, 6, none⟩ = some (.int .i64 f13) ∧ wr.cell? ⟨d11.heap.size, 7, none⟩ = some (.int .i64 k13) ∧ wr.cell? ⟨d11.heap.size, 8, none⟩ = some (.int .i64 n13) ∧ Hid (wr.ownsRow w.heap.size 92 5 (.slice k12 t_5a.length j12) t_5a.length (PRate.flat t_5a)) ∧ Hid (wr.ownsRow w.heap.size 77 4 (.slice f11 t_5b.length e11) t_5b.length (PMail.flat t_5b)) ∧ Hid (wr.ownsRow w.heap.size 3 1 (.slice z12 x10.length y12) x10.length (HelpInt.iv x10)) ∧ Hid (wr.ownsRow w.heap.size 3 1 (.slice d13 z10.length b13) z10.length (HelpInt.iv z10)))
                      case first =>
                       as_aux_lemma =>
                        replace H := let_hid H; obtain ⟨s17, j22, H⟩ := H; replace H := join_hid H
                        cases s17 with
                        | false =>
                         replace H := ite_f H; replace H := app_hid H; go_wp2_with fail
                         go_meet
                         case rel => exact ⟨_, rfl, H, c17, v11, l11, i11, g12, p11, e12, z11, b12, y11, g11, h11, a12, x11, f12, r11, c12, j11, d12, b10, a10, c10, d10⟩
                        | true =>
                         replace H := ite_t H; replace H := let_hid H; obtain ⟨q21, e20, H⟩ := H; replace H := app_hid H; go_wp2_with fail
                         go_meet
                         case rel => exact ⟨_, rfl, H, c17, v11, l11, i11, g12, p11, e12, z11, b12, y11, g11, h11, a12, x11, f12, r11, c12, j11, d12, b10, a10, c10, d10⟩
                      case rest =>
                       as_aux_lemma =>
                        obtain ⟨x14, rfl, H, g18, v11, l11, i11, g12, p11, e12, z11, b12, y11, g11, h11, a12, x11, f12, r11, c12, j11, d12, b10, a10, c10, d10⟩ := hcut; rename World => wq8; unfold q8 at H; replace H := let_hid H; obtain ⟨_, rfl, H⟩ := H; obtain rfl := ret_hid H; go_wp2_with fail; go_ret; exact ⟨rfl, g18.out⟩
                     | true =>
                      replace H := ite_t H; obtain rfl := ret_hid H; go_wp2_with fail; go_ret; exact ⟨rfl, i15.out⟩
                  | true =>
                   replace H := ite_t H; obtain rfl := ret_hid H; go_wp2_with fail; go_ret; exact ⟨rfl, d14.out⟩
             | true =>
              replace H := ite_t H; obtain rfl := ret_hid H; go_wp2_with fail; go_ret; exact ⟨rfl, y14.out⟩
          | true =>
           replace H := ite_t H; obtain rfl := ret_hid H; go_wp2_with fail; go_ret; exact ⟨rfl, j13.out⟩
       | true =>
        replace H := ite_t H; obtain rfl := ret_hid H; go_wp2_with fail; go_ret; exact ⟨rfl, e15.out⟩
    | true =>
     replace H := ite_t H; obtain rfl := ret_hid H; go_wp2_with fail; go_ret; exact ⟨rfl, q16.out⟩
 | true =>
  replace H := ite_t H; obtain rfl := ret_hid H; go_wp2_with fail; go_ret; exact ⟨rfl, v13.out⟩
end Go.Proofs.Ytgbcdmlcmnaimaa.GlFnCovers

namespace Go.Proofs.Ytgbcdmlcmnaimaa.Q10Text
open Go.RowKit
open Go.Proofs.Ytgbcdmlcmnaimaa.GoP Go.Proofs.Ytgbcdmlcmnaimaa.PlainStamp Go.Proofs.Ytgbcdmlcmnaimaa.QBase Go.Proofs.Ytgbcdmlcmnaimaa.QLoop

theorem text_same (n : Int) : ∃ a b, GiFaultText.P n = some (a, b) ∧ GsFaultText.P n = some (a, b) := by
  simp only [GiFaultText.P, GsFaultText.P, within_eq, l1In_eq, Option.bind_some, letK, iteK_if]
  cases hb : inB n 0 5 with
  | false => exact ⟨_, _, rfl, rfl⟩
  | true =>
    have h := inB_of hb
    obtain ⟨k, rfl⟩ : ∃ k : Nat, n = (k : Int) := ⟨n.toNat, by omega⟩
    simp only [Bool.not_true, Bool.false_eq_true, if_false, idx_nat]
    have hk : k < 6 := by omega
    rcases k with _ | _ | _ | _ | _ | _ | k
    · exact ⟨_, _, rfl, rfl⟩
    · exact ⟨_, _, rfl, rfl⟩
    · exact ⟨_, _, rfl, rfl⟩
    · exact ⟨_, _, rfl, rfl⟩
    · exact ⟨_, _, rfl, rfl⟩
    · exact ⟨_, _, rfl, rfl⟩
    · omega
end Go.Proofs.Ytgbcdmlcmnaimaa.Q10Text

namespace Go.Proofs.Ytgbcdmlcmnaimaa.Q9Leave
open Go.RowKit
open Go.Proofs.Ytgbcdmlcmnaimaa.GoP Go.Proofs.Ytgbcdmlcmnaimaa.PlainStamp Go.Proofs.Ytgbcdmlcmnaimaa.QBase Go.Proofs.Ytgbcdmlcmnaimaa.Q9Late Go.Proofs.Ytgbcdmlcmnaimaa.Q9Early Go.Proofs.Ytgbcdmlcmnaimaa.QFoldS Go.Proofs.Ytgbcdmlcmnaimaa.Q9Cand Go.Proofs.Ytgbcdmlcmnaimaa.Q9Dual Go.Proofs.Ytgbcdmlcmnaimaa.Q9Arr Go.Proofs.Ytgbcdmlcmnaimaa.Q9List Go.Proofs.Ytgbcdmlcmnaimaa.Q9Mail Go.Proofs.Ytgbcdmlcmnaimaa.QUp Go.Proofs.Ytgbcdmlcmnaimaa.QAll Go.Proofs.Ytgbcdmlcmnaimaa.QLoop Go.Proofs.Ytgbcdmlcmnaimaa.PMail Go.Proofs.Ytgbcdmlcmnaimaa.PIntA10

def leaveRes (l : List Mail) (o p b : Int) : Int × Bool := if goodM l = true ∧ inB o 0 9 = true ∧ inB p 0 9 = true ∧ o ≠ p ∧ inB b 0 9999 = true ∧ at_ (lateM l p b) o ≠ -1 then (at_ (lateM l p b) o, true) else (0, false)
theorem leave_test {l : List Mail} (hg : goodM l = true) {o p b : Int} (hp : 0 ≤ p ∧ p ≤ 9) (hb : 0 ≤ b ∧ b ≤ 9999) {k : Nat} {x : Mail} (hx : l[k]? = some x) :
    (x.from_ = o ∧ x.arrive ≤ b ∧ at_ (earlyM l x.to_ x.arrive) p ≤ b) ↔ x.from_ = o ∧ x.arrive ≤ at_ (lateM (l.drop (k + 1)) p b) x.to_ := by
  have hm := okM_of (m_ok hg hx)
  rw [dual hg hm.2.1 hp (by omega) hb.2, ← late_behind hg hx p b]
  constructor
  · rintro ⟨h1, _, h2⟩; exact ⟨h1, h2⟩
  · rintro ⟨h1, h2⟩
    refine ⟨h1, ?_, h2⟩
    have h3 := (dual hg hm.2.1 hp (by omega) hb.2).2 h2
    have h4 := early_low hg hm.2.1 (m := x.arrive) (by omega) hp
    omega
/-- what is told by the last mail that leads on -/
theorem leave_last {l : List Mail} (hg : goodM l = true) {o p b : Int} {k : Nat} {x : Mail} (hx : l[k]? = some x) (h1 : x.from_ = o) (h2 : x.arrive ≤ at_ (lateM (l.drop (k + 1)) p b) x.to_) (h3 : at_ (lateM (l.drop (k + 1)) p b) o = -1) : at_ (lateM l p b) o = x.leave := by
  have hok := m_ok hg hx
  have hm := okM_of hok
  have hd := late_len (l.drop (k + 1)) p b
  subst h1
  have hs : at_ (stepL x (lateM (l.drop (k + 1)) p b)) x.from_ = x.leave := by
    rw [stepL_at hd hok hm.1, if_pos ⟨h2, rfl⟩, h3]; omega
  have hmem : ∀ y ∈ l.take k, okM y = true := fun y hy => m_mem hg (List.mem_of_mem_take hy)
  have h5 := foldL_up (l.take k) hmem hm.1 (t := stepL x (lateM (l.drop (k + 1)) p b)) (by rw [stepL_len, hd])
  have h6 := foldL_top (l.take k) hmem (aheadM hg hx) hm.1 (t := stepL x (lateM (l.drop (k + 1)) p b)) (by rw [stepL_len, hd])
  rw [late_cut hx p b]
  omega
theorem leave_spec {fuel : Nat} (l : List Mail) (hl : l.length ≤ 9223372036854775807) (o p b : Int) (hf : 20 < fuel) : GsLatestLeave.P fuel l o p b = some (leaveRes l o p b) := by
  simp only [GsLatestLeave.P, l9Asked_eq l hl, l9Office_eq, Option.bind_some, letK, joinK, appK, iteK_if]
  cases ha : askM l o b with
  | false =>
    have : leaveRes l o p b = (0, false) := by
      unfold leaveRes; rw [if_neg]
      rintro ⟨h1, h2, _, _, h3, _⟩
      unfold askM at ha; rw [h1, h2, h3] at ha; exact absurd ha (by simp)
    simp [this]
  | true =>
    obtain ⟨hg, ho, hb⟩ := ask_of ha
    have ha' := ha
    unfold askM at ha'
    simp only [Bool.and_eq_true] at ha'
    obtain ⟨⟨_, ho1⟩, hb1⟩ := ha'
    cases hp : inB p 0 9 with
    | false => simp [leaveRes, hp]
    | true =>
      have hp2 := inB_of hp
      by_cases he : o = p
      · simp [he, leaveRes]
      · have he2 : (o == p) = false := by simpa using he
        have hlen := m_len hg
        simp only [Bool.not_true, Bool.false_eq_true, if_false, he2]
        rw [wrap_in (by omega) (by omega)]
        refine lp_is (n := l.length) _ (fun k (s : Int) => s = (l.length : Int) - 1 - (k : Int) ∧ at_ (lateM (l.drop (l.length - k)) p b) o = -1) ?_ ?_ fuel 0 _ (by omega) (by omega) ?_
        · rintro k s nx hk ⟨rfl, hI⟩ hn
          have hq : l.length - k - 1 < l.length := by omega
          obtain ⟨x, hx⟩ : ∃ x, l[l.length - k - 1]? = some x := ⟨_, List.getElem?_eq_getElem hq⟩
          have hxe : l[l.length - k - 1] = x := by rw [List.getElem?_eq_getElem hq] at hx; exact Option.some.inj hx
          have hi : idx l ((l.length : Int) - 1 - (k : Int)) = some x := by
            rw [show (l.length : Int) - 1 - (k : Int) = ((l.length - k - 1 : Nat) : Int) by omega, idx_nat, hx]
          have hok := m_ok hg hx
          have hm := okM_of hok
          have hd : lateM (l.drop (l.length - (k + 1))) p b = stepL x (lateM (l.drop (l.length - k)) p b) := by
            unfold lateM
            rw [show l.length - (k + 1) = l.length - k - 1 by omega, List.drop_eq_getElem_cons hq, List.foldr_cons, hxe, show l.length - k - 1 + 1 = l.length - k by omega]
          have ht := leave_test hg hp2 hb hx (o := o)
          have hll := leave_last hg hx (o := o) (p := p) (b := b)
          rw [show l.length - k - 1 + 1 = l.length - k by omega] at ht hll
          have h0 : (0 : Int) ≤ (l.length : Int) - 1 - (k : Int) := by omega
          have hn2 := fun h => hn ((l.length : Int) - 1 - (k : Int) - 1) ⟨by omega, h⟩
          have ht1 := times_eq hg hm.2.1 x.arrive
          have hat := stepL_at (i := o) (late_len (l.drop (l.length - k)) p b) hok ho
          rw [hd] at hn2
          clear hx hxe hd
          obtain ⟨a, c, d, e⟩ := x
          dsimp only at hm ht hll ht1 hat
          have no : ¬ (c = o ∧ e ≤ b ∧ at_ (earlyM l d e) p ≤ b) → at_ (stepL ⟨a, c, d, e⟩ (lateM (l.drop (l.length - k)) p b)) o = -1 := by
            intro h
            rw [hat, if_neg (fun q => h (ht.2 ⟨q.2.symm, q.1⟩)), hI]
          simp only [GsLatestLeave.l0, letK, decide_eq_true h0, iteK_if, if_true, hi, Option.bind_some, unMail, joinK, appK]
          rw [wrap_in (by omega) (by omega)]
          by_cases h1 : c = o
          · by_cases h2 : e ≤ b
            · simp only [beq_iff_eq, h1, if_true, decide_eq_true h2, ht1, Option.bind_some, idx_at (early_len l d e) hp2]
              by_cases h3 : at_ (earlyM l d e) p ≤ b
              · have h4 := hll h1 (ht.1 ⟨h1, h2, h3⟩).2 hI
                have h5 : ¬ a = -1 := by omega
                simp [h3, leaveRes, hg, ho1, hp, he, hb1, h4, h5]
              · simp only [decide_eq_false h3, Bool.false_eq_true, if_false]
                exact hn2 (no (fun q => h3 q.2.2))
            · simp only [beq_iff_eq, h1, if_true, decide_eq_false h2, Bool.false_eq_true, if_false]
              exact hn2 (no (fun q => h2 q.2.1))
          · have h1' : (c == o) = false := by simpa using h1
            simp only [h1', Bool.false_eq_true, if_false]
            exact hn2 (no (fun q => h1 q.1))
        · rintro s nx ⟨rfl, hI⟩
          have h0 : ¬ (0 : Int) ≤ (l.length : Int) - 1 - (l.length : Int) := by omega
          rw [Nat.sub_self, List.drop_zero] at hI
          simp only [GsLatestLeave.l0, letK, decide_eq_false h0, iteK_if, Bool.false_eq_true, if_false, appK, GsLatestLeave.e0]
          simp [leaveRes, hI]
        · refine ⟨by simp, ?_⟩
          rw [Nat.sub_zero, List.drop_length]
          show at_ (startL p b) o = -1
          rw [startL_at hp2 ho, if_neg he]
end Go.Proofs.Ytgbcdmlcmnaimaa.Q9Leave

namespace Go.Proofs.Ytgbcdmlcmnaimaa.Q10Spare
open Go.RowKit
open Go.Proofs.Ytgbcdmlcmnaimaa.GoP Go.Proofs.Ytgbcdmlcmnaimaa.PlainStamp Go.Proofs.Ytgbcdmlcmnaimaa.QBase Go.Proofs.Ytgbcdmlcmnaimaa.Q10Cover Go.Proofs.Ytgbcdmlcmnaimaa.Q9Leave Go.Proofs.Ytgbcdmlcmnaimaa.Q9Late Go.Proofs.Ytgbcdmlcmnaimaa.Q9Dual Go.Proofs.Ytgbcdmlcmnaimaa.Q9Arr Go.Proofs.Ytgbcdmlcmnaimaa.Q9List Go.Proofs.Ytgbcdmlcmnaimaa.QLoop Go.Proofs.Ytgbcdmlcmnaimaa.PCover Go.Proofs.Ytgbcdmlcmnaimaa.PMail Go.Proofs.Ytgbcdmlcmnaimaa.PIntA10

def spareRes (ms : List Mail) (x : Cover) : Int × Bool := if (goodM ms && okC x && decide (x.leave ≤ at_ (lateM ms x.to_ x.arrive) x.from_)) = true then (at_ (lateM ms x.to_ x.arrive) x.from_ - x.leave, true) else (0, false)
theorem spare_impl {fuel : Nat} {ms : List Mail} (hl : ms.length ≤ 9223372036854775807) (x : Cover) (hf : 20 < fuel) : GiSpareMinutes.P fuel ms x = some (spareRes ms x) := by
  have e1 := isCover_eq x
  have hof := fun h => okC_of (x := x) h
  obtain ⟨a, b, c, d, e, f, g, h, i⟩ := x
  simp only [GiSpareMinutes.P, unCover, isTime_eq ms hl, e1, Option.bind_some, letK, joinK, appK, iteK_if, spareRes]
  cases hm : goodM ms with
  | false => simp
  | true =>
    cases hc : okC ⟨a, b, c, d, e, f, g, h, i⟩ with
    | false => simp
    | true =>
      have ho := hof hc
      dsimp only at ho
      have htop := late_top hm (o := g) (m := i) (i := f) (by omega) (by omega) (by omega)
      simp only [Bool.not_true, Bool.false_eq_true, if_false, latest_eq hm (show 0 ≤ g ∧ g ≤ 9 by omega) i hf, Option.bind_some, un_eq, ten (late_len ms g i), idx_at (late_len ms g i) (show 0 ≤ f ∧ f ≤ 9 by omega)]
      by_cases h0 : h ≤ at_ (lateM ms g i) f
      · have h1 : ¬ at_ (lateM ms g i) f < h := by omega
        rw [wrap_in (by omega) (by omega)]
        simp [h0, h1]
      · have h1 : at_ (lateM ms g i) f < h := by omega
        simp [h0, h1]
theorem spare_spec {fuel : Nat} {ms : List Mail} (hl : ms.length ≤ 9223372036854775807) (x : Cover) (hf : 20 < fuel) : GsSpareMinutes.P fuel ms x = some (spareRes ms x) := by
  have e1 := l10One_eq x
  have hof := fun h => okC_of (x := x) h
  have e2 := leave_spec (fuel := fuel) ms hl x.from_ x.to_ x.arrive hf
  obtain ⟨a, b, c, d, e, f, g, h, i⟩ := x
  dsimp only at e2
  simp only [GsSpareMinutes.P, unCover, l9Good_eq ms hl, e1, e2, Option.bind_some, letK, joinK, appK, iteK_if, spareRes]
  cases hm : goodM ms with
  | false => simp
  | true =>
    cases hc : okC ⟨a, b, c, d, e, f, g, h, i⟩ with
    | false => simp
    | true =>
      have ho := hof hc
      dsimp only at ho
      have htop := late_top hm (o := g) (m := i) (i := f) (by omega) (by omega) (by omega)
      have b1 : inB f 0 9 = true := by unfold inB; simp; omega
      have b2 : inB g 0 9 = true := by unfold inB; simp; omega
      have b3 : inB i 0 9999 = true := by unfold inB; simp; omega
      have hfg : f ≠ g := ho.2.2.2.2.2.1
      have hL : leaveRes ms f g i = if at_ (lateM ms g i) f = -1 then (0, false) else (at_ (lateM ms g i) f, true) := by
        unfold leaveRes
        by_cases hn : at_ (lateM ms g i) f = -1
        · rw [if_pos hn, if_neg (fun q => q.2.2.2.2.2 hn)]
        · rw [if_neg hn, if_pos ⟨hm, b1, b2, hfg, b3, hn⟩]
      simp only [hL]
      by_cases hn : at_ (lateM ms g i) f = -1
      · have h1 : ¬ h ≤ at_ (lateM ms g i) f := by omega
        simp [bind2, h1, hn]
        omega
      · rw [if_neg hn]
        simp only [bind2_some, Bool.not_true, Bool.false_eq_true, if_false]
        by_cases h0 : h ≤ at_ (lateM ms g i) f
        · have h1 : ¬ at_ (lateM ms g i) f < h := by omega
          rw [wrap_in (by omega) (by omega)]
          simp [h0, h1]
        · have h1 : at_ (lateM ms g i) f < h := by omega
          simp [h0, h1]
end Go.Proofs.Ytgbcdmlcmnaimaa.Q10Spare

namespace Go.Proofs.Ytgbcdmlcmnaimaa.Q5Most
open Go.RowKit
open Go.Proofs.Ytgbcdmlcmnaimaa.GoP Go.Proofs.Ytgbcdmlcmnaimaa.PlainStamp Go.Proofs.Ytgbcdmlcmnaimaa.QBase Go.Proofs.Ytgbcdmlcmnaimaa.QLoop

theorem most_is (a b : Int) : GsL1Most.P a b = some (max a b) := by
  simp only [GsL1Most.P, letK, iteK_if]
  by_cases h : b < a
  · rw [if_pos (by simpa using h)]; congr 1; omega
  · rw [if_neg (by simpa using h)]; congr 1; omega
end Go.Proofs.Ytgbcdmlcmnaimaa.Q5Most

namespace Go.Proofs.Ytgbcdmlcmnaimaa.Q10Due
open Go.RowKit
open Go.Proofs.Ytgbcdmlcmnaimaa.GoP Go.Proofs.Ytgbcdmlcmnaimaa.PlainStamp Go.Proofs.Ytgbcdmlcmnaimaa.QBase Go.Proofs.Ytgbcdmlcmnaimaa.Q10Fault Go.Proofs.Ytgbcdmlcmnaimaa.Q10Cover Go.Proofs.Ytgbcdmlcmnaimaa.Q8For Go.Proofs.Ytgbcdmlcmnaimaa.Q8List Go.Proofs.Ytgbcdmlcmnaimaa.Q8Rate Go.Proofs.Ytgbcdmlcmnaimaa.Q5Most Go.Proofs.Ytgbcdmlcmnaimaa.QLoop Go.Proofs.Ytgbcdmlcmnaimaa.PCover Go.Proofs.Ytgbcdmlcmnaimaa.PRate

def dueRes (rs : List Rate) (x : Cover) : Int × Bool := if (okRs rs && okC x && decide (rateC rs x ≠ 0)) = true then (2 * max (rateC rs x - x.paid) 0, true) else (0, false)
theorem due_impl (rs : List Rate) (x : Cover) (hr : rs.length ≤ 9223372036854775807) : GiDueOn.P rs x = some (dueRes rs x) := by
  have e1 := isCover_eq x
  have ht : GiRateOfCover.P rs x = some (rateC rs x) := by
    obtain ⟨a, b, c, d, e, f, g, h, i⟩ := x
    simp only [GiRateOfCover.P, unCover, rateOn_eq, Option.bind_some, letK, rateC]
  have hle := fun h => rateC_le (rs := rs) h x
  have hof := fun h => okC_of (x := x) h
  obtain ⟨a, b, c, d, e, f, g, h, i⟩ := x
  simp only [GiDueOn.P, unCover, areRates_eq rs hr, e1, ht, Option.bind_some, letK, joinK, appK, iteK_if, dueRes]
  cases ha : okRs rs with
  | false => simp
  | true =>
    cases hc : okC ⟨a, b, c, d, e, f, g, h, i⟩ with
    | false => simp
    | true =>
      have hl := hle ha
      have ho := hof hc
      dsimp only at ho
      rw [wrap_in (x := rateC rs ⟨a, b, c, d, e, f, g, h, i⟩ - e) (by omega) (by omega), wrap_in (by omega) (by omega)]
      by_cases h0 : rateC rs ⟨a, b, c, d, e, f, g, h, i⟩ = 0 <;> simp [h0]
theorem due_spec {fuel : Nat} (rs : List Rate) (x : Cover) (hr : rs.length ≤ 9223372036854775807) (hf : 17 < fuel) : GsDueOn.P fuel rs x = some (dueRes rs x) := by
  have e1 := l10One_eq x
  have ht : GsL8For.P rs x.day x.zone x.grams = some (rateC rs x) := l8For_eq _ _ _ _
  have hle := fun h => rateC_le (rs := rs) h x
  have hof := fun h => okC_of (x := x) h
  obtain ⟨a, b, c, d, e, f, g, h, i⟩ := x
  dsimp only at ht
  simp only [GsDueOn.P, unCover, l8Good_eq rs hr hf, e1, ht, Option.bind_some, letK, joinK, appK, iteK_if, dueRes, most_is]
  cases ha : okRs rs with
  | false => simp
  | true =>
    cases hc : okC ⟨a, b, c, d, e, f, g, h, i⟩ with
    | false => simp
    | true =>
      have hl := hle ha
      have ho := hof hc
      dsimp only at ho
      rw [wrap_in (x := rateC rs ⟨a, b, c, d, e, f, g, h, i⟩ - e) (by omega) (by omega), wrap_in (by omega) (by omega), show max 0 (rateC rs ⟨a, b, c, d, e, f, g, h, i⟩ - e) = max (rateC rs ⟨a, b, c, d, e, f, g, h, i⟩ - e) 0 by omega]
      by_cases h0 : rateC rs ⟨a, b, c, d, e, f, g, h, i⟩ = 0 <;> simp [h0]
end Go.Proofs.Ytgbcdmlcmnaimaa.Q10Due

namespace Go.Proofs.Ytgbcdmlcmnaimaa.QL10FnCovers
open Go.RowKit
open Go.Proofs.Ytgbcdmlcmnaimaa.GoP Go.Proofs.Ytgbcdmlcmnaimaa.PlainStamp Go.Proofs.Ytgbcdmlcmnaimaa.QBase Go.Proofs.Ytgbcdmlcmnaimaa.Q10DrawsF Go.Proofs.Ytgbcdmlcmnaimaa.QDraw Go.Proofs.Ytgbcdmlcmnaimaa.Q10Text Go.Proofs.Ytgbcdmlcmnaimaa.Q10Spare Go.Proofs.Ytgbcdmlcmnaimaa.Q10Route Go.Proofs.Ytgbcdmlcmnaimaa.Q10Due Go.Proofs.Ytgbcdmlcmnaimaa.Q10FaultOf Go.Proofs.Ytgbcdmlcmnaimaa.Q10Fault Go.Proofs.Ytgbcdmlcmnaimaa.Q10Cover Go.Proofs.Ytgbcdmlcmnaimaa.Q8List Go.Proofs.Ytgbcdmlcmnaimaa.Q9End Go.Proofs.Ytgbcdmlcmnaimaa.Q9Best Go.Proofs.Ytgbcdmlcmnaimaa.Q9At Go.Proofs.Ytgbcdmlcmnaimaa.Q9Late Go.Proofs.Ytgbcdmlcmnaimaa.Q9Early Go.Proofs.Ytgbcdmlcmnaimaa.Q9Dual Go.Proofs.Ytgbcdmlcmnaimaa.Q9Arr Go.Proofs.Ytgbcdmlcmnaimaa.Q9List Go.Proofs.Ytgbcdmlcmnaimaa.QVInts Go.Proofs.Ytgbcdmlcmnaimaa.QLoop Go.Proofs.Ytgbcdmlcmnaimaa.PCover Go.Proofs.Ytgbcdmlcmnaimaa.PRate Go.Proofs.Ytgbcdmlcmnaimaa.PMail

theorem q7_yes {tapes : List Int → GoC.Tape} (ht : GoC.Tells tapes) (code : List Int) : GlFnCovers.q7 code tapes () = some true := by
  obtain ⟨x, e⟩ := drawIs_ok ht code
  obtain ⟨n, e2⟩ := drawText_ok ht code
  obtain ⟨a, b, h1, h2⟩ := text_same n
  have i1 := isCover_eq x
  have i2 : GsIsCover.P x = some (okC x) := by
    have := l10One_eq x
    obtain ⟨a, b, c, d, e, f, g, h, i⟩ := x
    simp only [GsIsCover.P, unCover, this, Option.bind_some]
  obtain ⟨x0, x1, x2, x3, x4, x5, x6, x7, x8⟩ := x
  simp [GlFnCovers.q7, GlFnCovers.q8, e, unCover, i1, i2, e2, h1, h2, bind2, letK, joinK, appK, iteK_if]
theorem law_covers {fuel : Nat} {tapes : List Int → GoC.Tape} (ht : GoC.Tells tapes) (code : List Int) (hf : 1048577 ≤ fuel) : GlFnCovers.P fuel tapes code = some true := by
  simp only [GlFnCovers.P, GlVBig.P, Option.bind_some, letK, iteK_if]
  by_cases hb : (65536 : Int) < (code.length : Int)
  · rw [if_pos (by simpa using hb)]
  · rw [if_neg (by simpa using hb)]
    obtain ⟨rs, ms, x, e, hr, hm⟩ := drawFault_ok ht code fuel hf
    have h7 := q7_yes ht code
    have i1 := faultOf_impl rs ms x (by omega) (by omega)
    have i2 := faultOf_spec (fuel := fuel) rs ms x (by omega) (by omega) (by omega)
    have i3 := due_impl rs x (by omega)
    have i4 := due_spec (fuel := fuel) rs x (by omega) (by omega)
    obtain ⟨r, ok, i5, i6, hlen, hok, hend, hnil⟩ := route_both (fuel := fuel) (ms := ms) (by omega) x (by omega)
    have i7 := spare_impl (fuel := fuel) (ms := ms) (by omega) x (by omega)
    have i8 := spare_spec (fuel := fuel) (ms := ms) (by omega) x (by omega)
    have hfr := fault_range rs ms x
    cases hfine : ok with
    | false =>
      rw [hfine] at i5 i6 hok
      have s1 : spareRes ms x = (0, false) := by
        unfold spareRes
        rw [if_neg]
        intro h
        simp only [Bool.and_eq_true, decide_eq_true_eq] at h
        obtain ⟨⟨hg, hc⟩, hle⟩ := h
        have ho := okC_of hc
        have := (dual hg (o := x.from_) (m := x.leave) (p := x.to_) (b := x.arrive) (by omega) (by omega) (by omega) (by omega)).2 hle
        rw [hg, hc] at hok
        have h2 : endV ms x ≤ x.arrive := this
        simp [h2] at hok
      rw [s1] at i7 i8
      have f1 : faultRes rs ms x = (0, false) ∨ ∃ v, faultRes rs ms x = (v, true) ∧ v ≠ 0 := by
        unfold faultRes askB
        cases hA : okRs rs with
        | false => left; simp
        | true =>
          cases hB : goodM ms with
          | false => left; simp
          | true =>
            cases hC : okC x with
            | false => left; simp
            | true =>
              right
              refine ⟨_, by simp; rfl, ?_⟩
              rw [hB, hC] at hok
              have hgt : ¬ endV ms x ≤ x.arrive := by intro h; simp [h] at hok
              unfold faultV
              repeat' split
              all_goals omega
      obtain ⟨⟨d, dk⟩, hd⟩ : ∃ z, z = dueRes rs x := ⟨_, rfl⟩
      rw [← hd] at i3 i4
      rcases f1 with f1 | ⟨v, f1, hv⟩
      · rw [f1] at i1 i2
        obtain ⟨x0, x1, x2, x3, x4, x5, x6, x7, x8⟩ := x
        simp [GlFnCovers.q0, GlFnCovers.q1, GlFnCovers.q2, GlFnCovers.q3, GlFnCovers.q4, GlFnCovers.q5, GlFnCovers.q6, e, bind3, unCover, i1, i2, i3, i4, i5, i6, i7, i8, bind2, vInts_self, h7, letK, joinK, appK, iteK_if]
      · rw [f1] at i1 i2
        obtain ⟨x0, x1, x2, x3, x4, x5, x6, x7, x8⟩ := x
        simp [GlFnCovers.q0, GlFnCovers.q1, GlFnCovers.q2, GlFnCovers.q3, GlFnCovers.q4, GlFnCovers.q5, GlFnCovers.q6, e, bind3, unCover, i1, i2, i3, i4, i5, i6, i7, i8, bind2, vInts_self, h7, hv, letK, joinK, appK, iteK_if]
    | true =>
      rw [hfine] at i5 i6 hok
      have hE := hend hfine
      have hall : goodM ms = true ∧ okC x = true ∧ endV ms x ≤ x.arrive := by
        have h := hok.symm
        simp only [Bool.and_eq_true, decide_eq_true_eq] at h
        exact ⟨h.1.1, h.1.2, h.2⟩
      obtain ⟨hg, hc, hle⟩ := hall
      have ho := okC_of hc
      have hdual := dual hg (o := x.from_) (m := x.leave) (p := x.to_) (b := x.arrive) (by omega) (by omega) (by omega) (by omega)
      have hlate := hdual.1 hle
      obtain ⟨v, hv⟩ : ∃ v, v = at_ (lateM ms x.to_ x.arrive) x.from_ := ⟨_, rfl⟩
      rw [← hv] at hlate
      have htop := late_top hg (o := x.to_) (m := x.arrive) (i := x.from_) (by omega) (by omega) (by omega)
      rw [← hv] at htop
      have s1 : spareRes ms x = (v - x.leave, true) := by
        unfold spareRes
        rw [← hv, hg, hc, if_pos (by simp [hlate])]
      rw [s1] at i7 i8
      have hask : askM ms x.from_ x.leave = true := by unfold askM; rw [hg]; unfold inB; simp; omega
      have i9 := Q9End.end_impl ms (by omega) x.from_ x.leave r
      have r9 : endA ms x.from_ x.leave r = (x.to_, endV ms x, true) := by simp [endA, hask, hE]
      rw [r9] at i9
      have d2 := (dual hg (o := x.from_) (m := v) (p := x.to_) (b := x.arrive) (by omega) (by omega) (by omega) (by omega)).2 (by rw [hv]; exact Int.le_refl _)
      have low2 := early_low hg (o := x.from_) (m := v) (i := x.to_) (by omega) (by omega) (by omega)
      have hc2 : okC ⟨x.id, x.day, x.zone, x.grams, x.paid, x.from_, x.to_, v, x.arrive⟩ = true := by
        have h := hc
        simp only [okC, Bool.and_eq_true, decide_eq_true_eq] at h ⊢
        obtain ⟨⟨⟨h1, h2⟩, h3⟩, h4⟩ := h
        refine ⟨⟨⟨h1, ?_⟩, h3⟩, by omega⟩
        unfold inB; simp; omega
      obtain ⟨r2, ok2, j5, _, _, hok2, _, _⟩ := route_both (fuel := fuel) (ms := ms) (by omega) ⟨x.id, x.day, x.zone, x.grams, x.paid, x.from_, x.to_, v, x.arrive⟩ (by omega)
      have hok3 : ok2 = true := by
        rw [hok2, hg, hc2]
        have : endV ms ⟨x.id, x.day, x.zone, x.grams, x.paid, x.from_, x.to_, v, x.arrive⟩ ≤ x.arrive := d2
        simp [this]
      subst hok3
      have hw : IntKind.i64.wrap (x.leave + (v - x.leave)) = v := by rw [wrap_in (by omega) (by omega)]; omega
      have hna : ¬ x.arrive < endV ms x := by omega
      obtain ⟨⟨q, qk⟩, hq⟩ : ∃ z, z = faultRes rs ms x := ⟨_, rfl⟩
      have hdue : q = 0 → qk = true → dueRes rs x = (0, true) := by
        intro h0 h1
        rw [h0, h1] at hq
        unfold faultRes askB at hq
        cases hA : okRs rs with
        | false => rw [hA] at hq; simp at hq
        | true =>
          rw [hA, hg, hc] at hq
          simp only [Bool.and_self, if_true, Prod.mk.injEq, and_true] at hq
          unfold faultV at hq
          unfold dueRes
          rw [hA, hc]
          by_cases k1 : rateC rs x = 0
          · rw [if_pos k1] at hq; omega
          · by_cases k2 : x.paid < rateC rs x
            · rw [if_neg k1, if_pos k2] at hq; omega
            · simp [k1]; omega
      rw [← hq] at i1 i2
      obtain ⟨⟨d, dk⟩, hd⟩ : ∃ z, z = dueRes rs x := ⟨_, rfl⟩
      rw [← hd] at i3 i4 hdue
      obtain ⟨x0, x1, x2, x3, x4, x5, x6, x7, x8⟩ := x
      dsimp only at i9 j5 hw hna
      have fin : (qk && (q == 0) && (!dk || (d != 0) || !true)) = false := by
        cases qk with
        | false => rfl
        | true =>
          by_cases h0 : q = 0
          · obtain ⟨rfl, rfl⟩ := Prod.mk.inj (hdue h0 rfl); simp
          · simp [h0]
      cases qk with
      | false => simp [GlFnCovers.q0, GlFnCovers.q1, GlFnCovers.q2, GlFnCovers.q3, GlFnCovers.q4, GlFnCovers.q5, GlFnCovers.q6, e, bind3, unCover, i1, i2, i3, i4, i5, i6, i7, i8, i9, j5, hw, hna, bind2, vInts_self, h7, letK, joinK, appK, iteK_if]
      | true =>
        by_cases h0 : q = 0
        · obtain ⟨rfl, rfl⟩ := Prod.mk.inj (hdue h0 rfl)
          simp [GlFnCovers.q0, GlFnCovers.q1, GlFnCovers.q2, GlFnCovers.q3, GlFnCovers.q4, GlFnCovers.q5, GlFnCovers.q6, e, bind3, unCover, i1, i2, i3, i4, i5, i6, i7, i8, i9, j5, hw, hna, bind2, vInts_self, h7, h0, letK, joinK, appK, iteK_if]
        · simp [GlFnCovers.q0, GlFnCovers.q1, GlFnCovers.q2, GlFnCovers.q3, GlFnCovers.q4, GlFnCovers.q5, GlFnCovers.q6, e, bind3, unCover, i1, i2, i3, i4, i5, i6, i7, i8, i9, j5, hw, hna, bind2, vInts_self, h7, h0, letK, joinK, appK, iteK_if]
end Go.Proofs.Ytgbcdmlcmnaimaa.QL10FnCovers

