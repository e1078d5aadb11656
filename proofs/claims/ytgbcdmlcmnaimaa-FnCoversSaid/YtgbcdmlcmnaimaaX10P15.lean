/- Texts on which the proofs of several laws stand, one behind the other (15 of 18). No condition of their own. -/
import Derived.Test.YtgbcdmlcmnaimaaChecked
import Derived.Test.YtgbcdmlcmnaimaaX10P1
import Derived.Test.YtgbcdmlcmnaimaaX10P7
import Derived.Test.YtgbcdmlcmnaimaaX10P9
import Derived.Test.YtgbcdmlcmnaimaaX10P10
import Derived.Test.YtgbcdmlcmnaimaaX10P14
import Derived.Test.YtgbcdmlcmnaimaaX10P11
import Derived.Test.YtgbcdmlcmnaimaaX10P8
import Derived.WalkKit
import Derived.WalkSpells
import Derived.WalkLawsBesides
import Derived.BigQuiet
import Derived.OwnWalk
import Derived.Deep.LoopGhost
import Derived.Deep.QuietTactic
import Derived.IntWalk
import Derived.Lib.QuietBelow
import Derived.Deep.DeepCutAuto
import Derived.Test.YtgbcdmlcmnaimaaX10P13
import Derived.Test.YtgbcdmlcmnaimaaX10P12
set_option linter.unusedVariables false
set_option linter.unusedSimpArgs false
namespace Go.Proofs.Ytgbcdmlcmnaimaa.GlFnCovers
open Go.RowKit
open Go.Proofs.Ytgbcdmlcmnaimaa.Rowed Go.Proofs.Ytgbcdmlcmnaimaa.Turn Go.Proofs.Ytgbcdmlcmnaimaa.Aid Go.Proofs.Ytgbcdmlcmnaimaa.GoP Go.Proofs.Ytgbcdmlcmnaimaa.GoM

def q8  (s : Bool) : Option (Bool) :=
 letK s fun t_2q8 =>
 some t_2q8

def q7 (code : (List Int)) (tapes : List Int → GoC.Tape) (s : Unit) : Option (Bool) :=
 Option.bind (GsDrawIsCover.P tapes code) fun (t_192 : PCover.Cover) =>
 unCover t_192 fun (t_192_id : Int) (t_192_day : Int) (t_192_zone : Int) (t_192_grams : Int) (t_192_paid : Int) (t_192_from_ : Int) (t_192_to_ : Int) (t_192_leave : Int) (t_192_arrive : Int) =>
 Option.bind (GiIsCover.P (PCover.Cover.mk t_192_id t_192_day t_192_zone t_192_grams t_192_paid t_192_from_ t_192_to_ t_192_leave t_192_arrive)) fun (t_196 : Bool) =>
 Option.bind (GsIsCover.P (PCover.Cover.mk t_192_id t_192_day t_192_zone t_192_grams t_192_paid t_192_from_ t_192_to_ t_192_leave t_192_arrive)) fun (t_198 : Bool) =>
 letK (!(t_196 == t_198)) fun (t_199 : Bool) =>
 iteK t_199
 (some false)
 (Option.bind (GsDrawFaultText.P tapes code) fun (t_202 : Int) =>
 bind2 (GiFaultText.P t_202) fun (t_205a : ByteArray) (t_205b : Bool) =>
 bind2 (GsFaultText.P t_202) fun (t_212a : ByteArray) (t_212b : Bool) =>
 letK (t_205a.toList == t_212a.toList) fun (t_220 : Bool) =>
 joinK (fun (t_225 : Bool) =>
 q8  (t_225)) fun jt_225 => iteK t_220 (letK (t_205b == t_212b) fun (t_224 : Bool) =>
 appK jt_225 t_224) (appK jt_225 false))

def q6 (code : (List Int)) (fuel : Nat) (tapes : List Int → GoC.Tape) (t_5b : (List PMail.Mail)) (t_5c_id : Int) (t_5c_day : Int) (t_5c_zone : Int) (t_5c_grams : Int) (t_5c_paid : Int) (t_5c_from_ : Int) (t_5c_to_ : Int) (t_5c_leave : Int) (t_5c_arrive : Int) (t_142a : Int) (t_142b : Bool) (s : Bool) : Option (Bool) :=
 letK s fun t_172q6 =>
 iteK t_172q6
 (some false)
 (iteK t_142b
 (letK (IntKind.i64.wrap (t_5c_leave + t_142a)) fun (t_177 : Int) =>
 bind2 (GiRouteOn.P fuel t_5b (PCover.Cover.mk t_5c_id t_5c_day t_5c_zone t_5c_grams t_5c_paid t_5c_from_ t_5c_to_ t_177 t_5c_arrive)) fun (t_182a : (List Int)) (t_182b : Bool) =>
 letK (!t_182b) fun (t_189 : Bool) =>
 iteK t_189
 (some false)
 (q7 code tapes ()))
 (q7 code tapes ()))

def q4 (code : (List Int)) (fuel : Nat) (tapes : List Int → GoC.Tape) (t_5b : (List PMail.Mail)) (t_5c_id : Int) (t_5c_day : Int) (t_5c_zone : Int) (t_5c_grams : Int) (t_5c_paid : Int) (t_5c_from_ : Int) (t_5c_to_ : Int) (t_5c_leave : Int) (t_5c_arrive : Int) (t_68b : Bool) (s : Unit) : Option (Bool) :=
 bind2 (GiSpareMinutes.P fuel t_5b (PCover.Cover.mk t_5c_id t_5c_day t_5c_zone t_5c_grams t_5c_paid t_5c_from_ t_5c_to_ t_5c_leave t_5c_arrive)) fun (t_142a : Int) (t_142b : Bool) =>
 bind2 (GsSpareMinutes.P fuel t_5b (PCover.Cover.mk t_5c_id t_5c_day t_5c_zone t_5c_grams t_5c_paid t_5c_from_ t_5c_to_ t_5c_leave t_5c_arrive)) fun (t_150a : Int) (t_150b : Bool) =>
 letK (t_142a != t_150a) fun (t_158 : Bool) =>
 joinK (fun (t_163 : Bool) =>
 joinK (fun (t_168 : Bool) =>
 q6 code fuel tapes t_5b t_5c_id t_5c_day t_5c_zone t_5c_grams t_5c_paid t_5c_from_ t_5c_to_ t_5c_leave t_5c_arrive t_142a t_142b (t_168)) fun jt_168 => iteK t_163 (appK jt_168 true) (letK (!(t_142b == t_68b)) fun (t_167 : Bool) =>
 appK jt_168 t_167)) fun jt_163 => iteK t_158 (appK jt_163 true) (letK (!(t_142b == t_150b)) fun (t_162 : Bool) =>
 appK jt_163 t_162)

def q5 (code : (List Int)) (fuel : Nat) (tapes : List Int → GoC.Tape) (t_2 : Bool) (t_5a : (List PRate.Rate)) (t_5b : (List PMail.Mail)) (t_5c_id : Int) (t_5c_day : Int) (t_5c_zone : Int) (t_5c_grams : Int) (t_5c_paid : Int) (t_5c_from_ : Int) (t_5c_to_ : Int) (t_5c_leave : Int) (t_5c_arrive : Int) (t_17a : Int) (t_17b : Bool) (t_26a : Int) (t_26b : Bool) (t_63q0 : Bool) (t_43a : Int) (t_43b : Bool) (t_51a : Int) (t_51b : Bool) (t_83q1 : Bool) (t_68a : (List Int)) (t_68b : Bool) (t_76a : (List Int)) (t_76b : Bool) (t_104q2 : Bool) (t_121q3 : Bool) (t_117a : Int) (t_117b : Int) (t_117c : Bool) (s : Bool) : Option (Bool) :=
 letK s fun t_147q5 =>
 iteK t_147q5
 (some false)
 (q4 code fuel tapes t_5b t_5c_id t_5c_day t_5c_zone t_5c_grams t_5c_paid t_5c_from_ t_5c_to_ t_5c_leave t_5c_arrive t_68b ())

def q3 (code : (List Int)) (fuel : Nat) (tapes : List Int → GoC.Tape) (t_2 : Bool) (t_5a : (List PRate.Rate)) (t_5b : (List PMail.Mail)) (t_5c_id : Int) (t_5c_day : Int) (t_5c_zone : Int) (t_5c_grams : Int) (t_5c_paid : Int) (t_5c_from_ : Int) (t_5c_to_ : Int) (t_5c_leave : Int) (t_5c_arrive : Int) (t_17a : Int) (t_17b : Bool) (t_26a : Int) (t_26b : Bool) (t_63q0 : Bool) (t_43a : Int) (t_43b : Bool) (t_51a : Int) (t_51b : Bool) (t_83q1 : Bool) (t_68a : (List Int)) (t_68b : Bool) (t_76a : (List Int)) (t_76b : Bool) (t_104q2 : Bool) (s : Bool) : Option (Bool) :=
 letK s fun t_121q3 =>
 iteK t_121q3
 (some false)
 (iteK t_68b
 (bind3 (GiEndOfRoute.P t_5b t_5c_from_ t_5c_leave t_68a) fun (t_117a : Int) (t_117b : Int) (t_117c : Bool) =>
 letK (!t_117c) fun (t_126 : Bool) =>
 joinK (fun (t_132 : Bool) =>
 joinK (fun (t_138 : Bool) =>
 q5 code fuel tapes t_2 t_5a t_5b t_5c_id t_5c_day t_5c_zone t_5c_grams t_5c_paid t_5c_from_ t_5c_to_ t_5c_leave t_5c_arrive t_17a t_17b t_26a t_26b t_63q0 t_43a t_43b t_51a t_51b t_83q1 t_68a t_68b t_76a t_76b t_104q2 t_121q3 t_117a t_117b t_117c (t_138)) fun jt_138 => iteK t_132 (appK jt_138 true) (letK (decide (t_5c_arrive < t_117b)) fun (t_137 : Bool) =>
 appK jt_138 t_137)) fun jt_132 => iteK t_126 (appK jt_132 true) (letK (t_117a != t_5c_to_) fun (t_131 : Bool) =>
 appK jt_132 t_131))
 (q4 code fuel tapes t_5b t_5c_id t_5c_day t_5c_zone t_5c_grams t_5c_paid t_5c_from_ t_5c_to_ t_5c_leave t_5c_arrive t_68b ()))

def q2 (code : (List Int)) (fuel : Nat) (tapes : List Int → GoC.Tape) (t_2 : Bool) (t_5a : (List PRate.Rate)) (t_5b : (List PMail.Mail)) (t_5c_id : Int) (t_5c_day : Int) (t_5c_zone : Int) (t_5c_grams : Int) (t_5c_paid : Int) (t_5c_from_ : Int) (t_5c_to_ : Int) (t_5c_leave : Int) (t_5c_arrive : Int) (t_17a : Int) (t_17b : Bool) (t_26a : Int) (t_26b : Bool) (t_63q0 : Bool) (t_43a : Int) (t_43b : Bool) (t_51a : Int) (t_51b : Bool) (t_83q1 : Bool) (t_68a : (List Int)) (t_68b : Bool) (t_76a : (List Int)) (t_76b : Bool) (s : Bool) : Option (Bool) :=
 letK s fun t_104q2 =>
 iteK t_104q2
 (some false)
 (joinK (fun (t_96 : Bool) =>
 joinK (fun (t_108 : Bool) =>
 q3 code fuel tapes t_2 t_5a t_5b t_5c_id t_5c_day t_5c_zone t_5c_grams t_5c_paid t_5c_from_ t_5c_to_ t_5c_leave t_5c_arrive t_17a t_17b t_26a t_26b t_63q0 t_43a t_43b t_51a t_51b t_83q1 t_68a t_68b t_76a t_76b t_104q2 (t_108)) fun jt_108 => iteK t_96 (letK (!t_43b) fun (t_99 : Bool) =>
 joinK (fun (t_103 : Bool) =>
 joinK (fun (t_107 : Bool) =>
 appK jt_108 t_107) fun jt_107 => iteK t_103 (appK jt_107 true) (letK (!t_68b) fun (t_106 : Bool) =>
 appK jt_107 t_106)) fun jt_103 => iteK t_99 (appK jt_103 true) (letK (t_43a != 0) fun (t_102 : Bool) =>
 appK jt_103 t_102)) (appK jt_108 false)) fun jt_96 => iteK t_17b (letK (t_17a == 0) fun (t_95 : Bool) =>
 appK jt_96 t_95) (appK jt_96 false))

def q1 (code : (List Int)) (fuel : Nat) (tapes : List Int → GoC.Tape) (t_2 : Bool) (t_5a : (List PRate.Rate)) (t_5b : (List PMail.Mail)) (t_5c_id : Int) (t_5c_day : Int) (t_5c_zone : Int) (t_5c_grams : Int) (t_5c_paid : Int) (t_5c_from_ : Int) (t_5c_to_ : Int) (t_5c_leave : Int) (t_5c_arrive : Int) (t_17a : Int) (t_17b : Bool) (t_26a : Int) (t_26b : Bool) (t_63q0 : Bool) (t_43a : Int) (t_43b : Bool) (t_51a : Int) (t_51b : Bool) (s : Bool) : Option (Bool) :=
 letK s fun t_83q1 =>
 iteK t_83q1
 (some false)
 (bind2 (GiRouteOn.P fuel t_5b (PCover.Cover.mk t_5c_id t_5c_day t_5c_zone t_5c_grams t_5c_paid t_5c_from_ t_5c_to_ t_5c_leave t_5c_arrive)) fun (t_68a : (List Int)) (t_68b : Bool) =>
 bind2 (GsRouteOn.P fuel t_5b (PCover.Cover.mk t_5c_id t_5c_day t_5c_zone t_5c_grams t_5c_paid t_5c_from_ t_5c_to_ t_5c_leave t_5c_arrive)) fun (t_76a : (List Int)) (t_76b : Bool) =>
 letK (!(t_68b == t_76b)) fun (t_84 : Bool) =>
 joinK (fun (t_90 : Bool) =>
 q2 code fuel tapes t_2 t_5a t_5b t_5c_id t_5c_day t_5c_zone t_5c_grams t_5c_paid t_5c_from_ t_5c_to_ t_5c_leave t_5c_arrive t_17a t_17b t_26a t_26b t_63q0 t_43a t_43b t_51a t_51b t_83q1 t_68a t_68b t_76a t_76b (t_90)) fun jt_90 => iteK t_84 (appK jt_90 true) (Option.bind (GlVInts.P t_68a t_76a) fun (t_88 : Bool) =>
 letK (!t_88) fun (t_89 : Bool) =>
 appK jt_90 t_89))

def q0 (code : (List Int)) (fuel : Nat) (tapes : List Int → GoC.Tape) (t_2 : Bool) (t_5a : (List PRate.Rate)) (t_5b : (List PMail.Mail)) (t_5c_id : Int) (t_5c_day : Int) (t_5c_zone : Int) (t_5c_grams : Int) (t_5c_paid : Int) (t_5c_from_ : Int) (t_5c_to_ : Int) (t_5c_leave : Int) (t_5c_arrive : Int) (t_17a : Int) (t_17b : Bool) (t_26a : Int) (t_26b : Bool) (s : Bool) : Option (Bool) :=
 letK s fun t_63q0 =>
 iteK t_63q0
 (some false)
 (bind2 (GiDueOn.P t_5a (PCover.Cover.mk t_5c_id t_5c_day t_5c_zone t_5c_grams t_5c_paid t_5c_from_ t_5c_to_ t_5c_leave t_5c_arrive)) fun (t_43a : Int) (t_43b : Bool) =>
 bind2 (GsDueOn.P fuel t_5a (PCover.Cover.mk t_5c_id t_5c_day t_5c_zone t_5c_grams t_5c_paid t_5c_from_ t_5c_to_ t_5c_leave t_5c_arrive)) fun (t_51a : Int) (t_51b : Bool) =>
 letK (t_43a != t_51a) fun (t_59 : Bool) =>
 joinK (fun (t_64 : Bool) =>
 q1 code fuel tapes t_2 t_5a t_5b t_5c_id t_5c_day t_5c_zone t_5c_grams t_5c_paid t_5c_from_ t_5c_to_ t_5c_leave t_5c_arrive t_17a t_17b t_26a t_26b t_63q0 t_43a t_43b t_51a t_51b (t_64)) fun jt_64 => iteK t_59 (appK jt_64 true) (letK (!(t_43b == t_51b)) fun (t_63 : Bool) =>
 appK jt_64 t_63))

def P (fuel : Nat) (tapes : List Int → GoC.Tape) (code : (List Int)) : Option (Bool) :=
 Option.bind (GlVBig.P code) fun (t_2 : Bool) =>
 iteK t_2
 (some true)
 (bind3 (GsDrawFaultOf.P fuel tapes code) fun (t_5a : (List PRate.Rate)) (t_5b : (List PMail.Mail)) (t_5c : PCover.Cover) =>
 unCover t_5c fun (t_5c_id : Int) (t_5c_day : Int) (t_5c_zone : Int) (t_5c_grams : Int) (t_5c_paid : Int) (t_5c_from_ : Int) (t_5c_to_ : Int) (t_5c_leave : Int) (t_5c_arrive : Int) =>
 bind2 (GiFaultOf.P t_5a t_5b (PCover.Cover.mk t_5c_id t_5c_day t_5c_zone t_5c_grams t_5c_paid t_5c_from_ t_5c_to_ t_5c_leave t_5c_arrive)) fun (t_17a : Int) (t_17b : Bool) =>
 bind2 (GsFaultOf.P fuel t_5a t_5b (PCover.Cover.mk t_5c_id t_5c_day t_5c_zone t_5c_grams t_5c_paid t_5c_from_ t_5c_to_ t_5c_leave t_5c_arrive)) fun (t_26a : Int) (t_26b : Bool) =>
 letK (t_17a != t_26a) fun (t_34 : Bool) =>
 joinK (fun (t_39 : Bool) =>
 q0 code fuel tapes t_2 t_5a t_5b t_5c_id t_5c_day t_5c_zone t_5c_grams t_5c_paid t_5c_from_ t_5c_to_ t_5c_leave t_5c_arrive t_17a t_17b t_26a t_26b (t_39)) fun jt_39 => iteK t_34 (appK jt_39 true) (letK (!(t_17b == t_26b)) fun (t_38 : Bool) =>
 appK jt_39 t_38))

set_option maxRecDepth 100000 in
set_option maxHeartbeats 20000000 in
theorem C (fuel : Nat) (tapes : List Int → GoC.Tape) (code : (List Int)) (A0 : Option Addr) (c0 : Nat)  (w : World) (HE : Hid (GoC.Tells tapes)) (M0 : Hid (Cells w 1 A0 code.length (GoC.u8s code))) (N0 : Hid (code.length ≤ 9223372036854775807)) (V0 : Hid (∀ z ∈ code, 0 ≤ z ∧ z ≤ 255))  {r : Bool} (H : Hid (P fuel tapes code = some r)) :
  Calls Try.prog 3 #[.slice A0 code.length c0] w (Gives (.bool r) w) := by
 have HB := Lib.hid (Below.refl w.heap.size w); unfold P at H; have N0o := N0.out
 go_enter Try.func3, Try.ntmps3
 replace H := bind_hid H; obtain ⟨t_2, qt_2, H⟩ := H; go_wp2_with fail; go_at_call 5; refine (GlVBig.C (code) A0 c0 _   (Lib.hid (Cells.below M0.out HB.out)) N0 V0 qt_2).mono ?_; rintro y20 wt_2 ⟨rfl, bt_2⟩; have v13 := Lib.hid (Below.step HB.out bt_2); clear bt_2
 cases t_2 with
 | false =>
  replace H := ite_f H; replace H := bind3_hid H; obtain ⟨t_5a, t_5b, t_5c, qt_5, H⟩ := H; obtain ⟨o10, r10, v10, p10, s10, n10, q10, w10, t10⟩ := t_5c; replace H := unCover_hid H; go_wp2_with fail; go_at_call 6; refine (GsDrawFaultOf.C fuel tapes (code) A0 c0 _  HE (Lib.hid (Cells.below M0.out v13.out)) N0 V0 qt_5).mono ?_; rintro l21 wt_5 ⟨k12, j12, e11, f11, rfl, r16, r15, d0_1, bt_5⟩; unfold PCover.Cover.val; have v20 := Lib.hid d0_1; have b10 := Lib.hid (own_lower r16 v13.out.size); clear r16; have a10 := Lib.hid (own_lower r15 v13.out.size); clear r15; have g19 := Lib.hid (Below.step v13.out bt_5); clear bt_5; obtain ⟨v12, w12⟩ : ∃ x, wt_5.alloc (.cells #[.int .i64 o10, .int .i64 r10, .int .i64 v10, .int .i64 p10, .int .i64 s10, .int .i64 n10, .int .i64 q10, .int .i64 w10, .int .i64 t10] 27) = x := ⟨_, rfl⟩; have c14 : Below wt_5.heap.size wt_5 v12 := (by rw [← w12]; exact (Below.refl _ _).alloc (Nat.le_refl _) _); have c20 := Lib.hid (apart_fresh b10.out); have a23 := Lib.hid (apart_fresh a10.out); have p18 := Lib.hid (Below.step g19.out c14); replace b10 := Lib.hid (own_below b10.out c14); replace a10 := Lib.hid (own_below a10.out c14); clear c14; have d10 : v12.cell? ⟨wt_5.heap.size, 0, none⟩ = some (.int .i64 o10) := (by rw [← w12]; exact box_new _ _ _ 0 _ rfl); have i10 : v12.cell? ⟨wt_5.heap.size, 1, none⟩ = some (.int .i64 r10) := (by rw [← w12]; exact box_new _ _ _ 1 _ rfl); have k10 : v12.cell? ⟨wt_5.heap.size, 2, none⟩ = some (.int .i64 v10) := (by rw [← w12]; exact box_new _ _ _ 2 _ rfl); have f10 : v12.cell? ⟨wt_5.heap.size, 3, none⟩ = some (.int .i64 p10) := (by rw [← w12]; exact box_new _ _ _ 3 _ rfl); have m10 : v12.cell? ⟨wt_5.heap.size, 4, none⟩ = some (.int .i64 s10) := (by rw [← w12]; exact box_new _ _ _ 4 _ rfl); have g10 : v12.cell? ⟨wt_5.heap.size, 5, none⟩ = some (.int .i64 n10) := (by rw [← w12]; exact box_new _ _ _ 5 _ rfl); have j10 : v12.cell? ⟨wt_5.heap.size, 6, none⟩ = some (.int .i64 q10) := (by rw [← w12]; exact box_new _ _ _ 6 _ rfl); have l10 : v12.cell? ⟨wt_5.heap.size, 7, none⟩ = some (.int .i64 w10) := (by rw [← w12]; exact box_new _ _ _ 7 _ rfl); have h10 : v12.cell? ⟨wt_5.heap.size, 8, none⟩ = some (.int .i64 t10) := (by rw [← w12]; exact box_new _ _ _ 8 _ rfl); replace H := bind2_hid H; obtain ⟨x13, o13, d19, H⟩ := H; go_wp2_with fail; go_at_call 7; refine (GiFaultOf.C (t_5a) (t_5b) ((PCover.Cover.mk o10 r10 v10 p10 s10 n10 q10 w10 t10)) k12 j12 e11 f11 _   (Lib.hid (own_cells b10.out)) (Lib.hid (own_max b10.out)) (Lib.hid (own_cells a10.out)) (Lib.hid (own_max a10.out)) d19).mono ?_; rintro x22 k22 ⟨rfl, n12⟩; have c19 := Lib.hid (Below.step p18.out n12); replace d10 := cell_below n12 d10; replace i10 := cell_below n12 i10; replace k10 := cell_below n12 k10; replace f10 := cell_below n12 f10; replace m10 := cell_below n12 m10; replace g10 := cell_below n12 g10; replace j10 := cell_below n12 j10; replace l10 := cell_below n12 l10; replace h10 := cell_below n12 h10; replace b10 := Lib.hid (own_below b10.out n12); replace a10 := Lib.hid (own_below a10.out n12); clear n12; replace H := bind2_hid H; obtain ⟨w13, t13, r18, H⟩ := H; go_wp2_with fail; go_at_call 8; refine (GsFaultOf.C fuel (t_5a) (t_5b) ((PCover.Cover.mk o10 r10 v10 p10 s10 n10 q10 w10 t10)) k12 j12 e11 f11 _   (Lib.hid (own_cells b10.out)) (Lib.hid (own_max b10.out)) (Lib.hid (own_cells a10.out)) (Lib.hid (own_max a10.out)) r18).mono ?_; rintro z22 s20 ⟨rfl, o12⟩; have m16 := Lib.hid (Below.step c19.out o12); replace d10 := cell_below o12 d10; replace i10 := cell_below o12 i10; replace k10 := cell_below o12 k10; replace f10 := cell_below o12 f10; replace m10 := cell_below o12 m10; replace g10 := cell_below o12 g10; replace j10 := cell_below o12 j10; replace l10 := cell_below o12 l10; replace h10 := cell_below o12 h10; replace b10 := Lib.hid (own_below b10.out o12); replace a10 := Lib.hid (own_below a10.out o12); clear o12; go_upto_region 6 with fail
  go_cut [63] (fun v63_ wr => ∃ (z13 : Bool), v63_ = .bool z13 ∧ Hid (q0 code fuel tapes false t_5a t_5b o10 r10 v10 p10 s10 n10 q10 w10 t10 x13 o13 w13 t13 (z13) = some r) ∧ Hid (Below w.heap.size w wr) ∧ wr.cell? ⟨wt_5.heap.size, 0, none⟩ = some (.int .i64 o10) ∧ wr.cell? ⟨wt_5.heap.size, 1, none⟩ = some (.int .i64 r10) ∧ wr.cell? ⟨wt_5.heap.size, 2, none⟩ = some (.int .i64 v10) ∧ wr.cell? ⟨wt_5.heap.size, 3, none⟩ = some (.int .i64 p10) ∧ wr.cell? ⟨wt_5.heap.size, 4, none⟩ = some (.int .i64 s10) ∧ wr.cell? ⟨wt_5.heap.size, 5, none⟩ = some (.int .i64 n10) ∧ wr.cell? ⟨wt_5.heap.size, 6, none⟩ = some (.int .i64 q10) ∧ wr.cell? ⟨wt_5.heap.size, 7, none⟩ = some (.int .i64 w10) ∧ wr.cell? ⟨wt_5.heap.size, 8, none⟩ = some (.int .i64 t10) ∧ Hid (wr.ownsRow w.heap.size 92 5 (.slice k12 t_5a.length j12) t_5a.length (PRate.flat t_5a)) ∧ Hid (wr.ownsRow w.heap.size 77 4 (.slice e11 t_5b.length f11) t_5b.length (PMail.flat t_5b)))
  case first =>
   as_aux_lemma =>
    replace H := let_hid H; obtain ⟨t_34, n22, H⟩ := H; replace H := join_hid H
    cases t_34 with
    | false =>
     replace H := ite_f H; replace H := let_hid H; obtain ⟨t_38, o21, H⟩ := H; replace H := app_hid H; go_wp2_with fail
     go_meet
     case rel => exact ⟨_, rfl, H, m16, d10, i10, k10, f10, m10, g10, j10, l10, h10, b10, a10⟩
    | true =>
     replace H := ite_t H; replace H := app_hid H; go_wp2_with fail
     go_meet
     case rel => exact ⟨_, rfl, H, m16, d10, i10, k10, f10, m10, g10, j10, l10, h10, b10, a10⟩
  case rest =>
   as_aux_lemma =>
    obtain ⟨z13, rfl, H, q17, d10, i10, k10, f10, m10, g10, j10, l10, h10, b10, a10⟩ := hcut; rename World => wq0; unfold q0 at H; replace H := let_hid H; obtain ⟨_, rfl, H⟩ := H
    cases z13 with
    | false =>
     replace H := ite_f H; replace H := bind2_hid H; obtain ⟨k14, r13, y17, H⟩ := H; go_wp2_with fail; go_at_call 9; refine (GiDueOn.C (t_5a) ((PCover.Cover.mk o10 r10 v10 p10 s10 n10 q10 w10 t10)) k12 j12 _   (Lib.hid (own_cells b10.out)) (Lib.hid (own_max b10.out)) y17).mono ?_; rintro q20 v21 ⟨rfl, q12⟩; have o18 := Lib.hid (Below.step q17.out q12); replace d10 := cell_below q12 d10; replace i10 := cell_below q12 i10; replace k10 := cell_below q12 k10; replace f10 := cell_below q12 f10; replace m10 := cell_below q12 m10; replace g10 := cell_below q12 g10; replace j10 := cell_below q12 j10; replace l10 := cell_below q12 l10; replace h10 := cell_below q12 h10; replace b10 := Lib.hid (own_below b10.out q12); replace a10 := Lib.hid (own_below a10.out q12); clear q12; replace H := bind2_hid H; obtain ⟨d14, a14, i18, H⟩ := H; go_wp2_with fail; go_at_call 10; refine (GsDueOn.C fuel (t_5a) ((PCover.Cover.mk o10 r10 v10 p10 s10 n10 q10 w10 t10)) k12 j12 _   (Lib.hid (own_cells b10.out)) (Lib.hid (own_max b10.out)) i18).mono ?_; rintro o20 k20 ⟨rfl, l12⟩; have b17 := Lib.hid (Below.step o18.out l12); replace d10 := cell_below l12 d10; replace i10 := cell_below l12 i10; replace k10 := cell_below l12 k10; replace f10 := cell_below l12 f10; replace m10 := cell_below l12 m10; replace g10 := cell_below l12 g10; replace j10 := cell_below l12 j10; replace l10 := cell_below l12 l10; replace h10 := cell_below l12 h10; replace b10 := Lib.hid (own_below b10.out l12); replace a10 := Lib.hid (own_below a10.out l12); clear l12; go_upto_region 10 with fail
     go_cut [83] (fun v83_ wr => ∃ (j14 : Bool), v83_ = .bool j14 ∧ Hid (q1 code fuel tapes false t_5a t_5b o10 r10 v10 p10 s10 n10 q10 w10 t10 x13 o13 w13 t13 false k14 r13 d14 a14 (j14) = some r) ∧ Hid (Below w.heap.size w wr) ∧ wr.cell? ⟨wt_5.heap.size, 0, none⟩ = some (.int .i64 o10) ∧ wr.cell? ⟨wt_5.heap.size, 1, none⟩ = some (.int .i64 r10) ∧ wr.cell? ⟨wt_5.heap.size, 2, none⟩ = some (.int .i64 v10) ∧ wr.cell? ⟨wt_5.heap.size, 3, none⟩ = some (.int .i64 p10) ∧ wr.cell? ⟨wt_5.heap.size, 4, none⟩ = some (.int .i64 s10) ∧ wr.cell? ⟨wt_5.heap.size, 5, none⟩ = some (.int .i64 n10) ∧ wr.cell? ⟨wt_5.heap.size, 6, none⟩ = some (.int .i64 q10) ∧ wr.cell? ⟨wt_5.heap.size, 7, none⟩ = some (.int .i64 w10) ∧ wr.cell? ⟨wt_5.heap.size, 8, none⟩ = some (.int .i64 t10) ∧ Hid (wr.ownsRow w.heap.size 92 5 (.slice k12 t_5a.length j12) t_5a.length (PRate.flat t_5a)) ∧ Hid (wr.ownsRow w.heap.size 77 4 (.slice e11 t_5b.length f11) t_5b.length (PMail.flat t_5b)))
     case first =>
      as_aux_lemma =>
       replace H := let_hid H; obtain ⟨t_59, i21, H⟩ := H; replace H := join_hid H
       cases t_59 with
       | false =>
        replace H := ite_f H; replace H := let_hid H; obtain ⟨t_63, b22, H⟩ := H; replace H := app_hid H; go_wp2_with fail
        go_meet
        case rel => exact ⟨_, rfl, H, b17, d10, i10, k10, f10, m10, g10, j10, l10, h10, b10, a10⟩
       | true =>
        replace H := ite_t H; replace H := app_hid H; go_wp2_with fail
        go_meet
        case rel => exact ⟨_, rfl, H, b17, d10, i10, k10, f10, m10, g10, j10, l10, h10, b10, a10⟩
     case rest =>
      as_aux_lemma =>
       obtain ⟨j14, rfl, H, z14, d10, i10, k10, f10, m10, g10, j10, l10, h10, b10, a10⟩ := hcut; rename World => wq1; unfold q1 at H; replace H := let_hid H; obtain ⟨_, rfl, H⟩ := H
       cases j14 with
       | false =>
        replace H := ite_f H; replace H := bind2_hid H; obtain ⟨x10, q13, r17, H⟩ := H; go_wp2_with fail; go_at_call 11; refine (GiRouteOn.C fuel (t_5b) ((PCover.Cover.mk o10 r10 v10 p10 s10 n10 q10 w10 t10)) e11 f11 _   (Lib.hid (own_cells a10.out)) (Lib.hid (own_max a10.out)) r17).mono ?_; rintro y21 j22 ⟨a13, z12, rfl, y13, p12⟩; have b20 := Lib.hid (apart_call y13 b10.out); have o22 := Lib.hid (apart_call y13 a10.out); have g20 := Lib.hid (apart_callbox y13 d10); have c10 := Lib.hid (own_lower y13 z14.out.size); clear y13; have j16 := Lib.hid (Below.step z14.out p12); replace d10 := cell_below p12 d10; replace i10 := cell_below p12 i10; replace k10 := cell_below p12 k10; replace f10 := cell_below p12 f10; replace m10 := cell_below p12 m10; replace g10 := cell_below p12 g10; replace j10 := cell_below p12 j10; replace l10 := cell_below p12 l10; replace h10 := cell_below p12 h10; replace b10 := Lib.hid (own_below b10.out p12); replace a10 := Lib.hid (own_below a10.out p12); clear p12; replace H := bind2_hid H; obtain ⟨y10, w14, h19, H⟩ := H; go_wp2_with fail; go_at_call 12; refine (GsRouteOn.C fuel (t_5b) ((PCover.Cover.mk o10 r10 v10 p10 s10 n10 q10 w10 t10)) e11 f11 _   (Lib.hid (own_cells a10.out)) (Lib.hid (own_max a10.out)) h19).mono ?_; rintro e22 d20 ⟨d13, c13, rfl, p13, i12⟩; have x19 := Lib.hid (apart_call p13 b10.out); have p21 := Lib.hid (apart_call p13 a10.out); have c22 := Lib.hid (apart_call p13 c10.out); have b21 := Lib.hid (apart_callbox p13 d10); have e10 := Lib.hid (own_lower p13 j16.out.size); clear p13; have l16 := Lib.hid (Below.step j16.out i12); replace d10 := cell_below i12 d10; replace i10 := cell_below i12 i10; replace k10 := cell_below i12 k10; replace f10 := cell_below i12 f10; replace m10 := cell_below i12 m10; replace g10 := cell_below i12 g10; replace j10 := cell_below i12 j10; replace l10 := cell_below i12 l10; replace h10 := cell_below i12 h10; replace b10 := Lib.hid (own_below b10.out i12); replace a10 := Lib.hid (own_below a10.out i12); replace c10 := Lib.hid (own_below c10.out i12); clear i12; go_upto_region 14 with fail
        go_cut [104] (fun v104_ wr => ∃ (l14 : Bool), v104_ = .bool l14 ∧ Hid (q2 code fuel tapes false t_5a t_5b o10 r10 v10 p10 s10 n10 q10 w10 t10 x13 o13 w13 t13 false k14 r13 d14 a14 false x10 q13 y10 w14 (l14) = some r) ∧ Hid (Below w.heap.size w wr) ∧ wr.cell? ⟨wt_5.heap.size, 0, none⟩ = some (.int .i64 o10) ∧ wr.cell? ⟨wt_5.heap.size, 1, none⟩ = some (.int .i64 r10) ∧ wr.cell? ⟨wt_5.heap.size, 2, none⟩ = some (.int .i64 v10) ∧ wr.cell? ⟨wt_5.heap.size, 3, none⟩ = some (.int .i64 p10) ∧ wr.cell? ⟨wt_5.heap.size, 4, none⟩ = some (.int .i64 s10) ∧ wr.cell? ⟨wt_5.heap.size, 5, none⟩ = some (.int .i64 n10) ∧ wr.cell? ⟨wt_5.heap.size, 6, none⟩ = some (.int .i64 q10) ∧ wr.cell? ⟨wt_5.heap.size, 7, none⟩ = some (.int .i64 w10) ∧ wr.cell? ⟨wt_5.heap.size, 8, none⟩ = some (.int .i64 t10) ∧ Hid (wr.ownsRow w.heap.size 92 5 (.slice k12 t_5a.length j12) t_5a.length (PRate.flat t_5a)) ∧ Hid (wr.ownsRow w.heap.size 77 4 (.slice e11 t_5b.length f11) t_5b.length (PMail.flat t_5b)) ∧ Hid (wr.ownsRow w.heap.size 3 1 (.slice a13 x10.length z12) x10.length (HelpInt.iv x10)) ∧ Hid (wr.ownsRow w.heap.size 3 1 (.slice d13 y10.length c13) y10.length (HelpInt.iv y10)))
        case first =>
         as_aux_lemma =>
          replace H := let_hid H; obtain ⟨t_84, z21, H⟩ := H; replace H := join_hid H
          cases t_84 with
          | false =>
           replace H := ite_f H; replace H := bind_hid H; obtain ⟨t_88, v17, H⟩ := H; go_wp2_with fail; go_at_call 13; refine (GlVInts.C (x10) (y10) a13 z12 d13 c13 _   (Lib.hid (own_cells c10.out)) (Lib.hid (own_max c10.out)) (Lib.hid (own_cells e10.out)) (Lib.hid (own_max e10.out)) v17).mono ?_; rintro l20 i22 ⟨rfl, e12⟩; have h16 := Lib.hid (Below.step l16.out e12); replace d10 := cell_below e12 d10; replace i10 := cell_below e12 i10; replace k10 := cell_below e12 k10; replace f10 := cell_below e12 f10; replace m10 := cell_below e12 m10; replace g10 := cell_below e12 g10; replace j10 := cell_below e12 j10; replace l10 := cell_below e12 l10; replace h10 := cell_below e12 h10; replace b10 := Lib.hid (own_below b10.out e12); replace a10 := Lib.hid (own_below a10.out e12); replace c10 := Lib.hid (own_below c10.out e12); replace e10 := Lib.hid (own_below e10.out e12); clear e12
           cases t_88 with
           | false =>
            replace H := let_hid H; obtain ⟨t_89, p14, H⟩ := H; obtain rfl : t_89 = true := p14.symm; replace H := app_hid H; go_wp2_with fail
            go_meet
            case rel => exact ⟨_, rfl, H, h16, d10, i10, k10, f10, m10, g10, j10, l10, h10, b10, a10, c10, e10⟩
           | true =>
            replace H := let_hid H; obtain ⟨t_89, p14, H⟩ := H; obtain rfl : t_89 = false := p14.symm; replace H := app_hid H; go_wp2_with fail
            go_meet
            case rel => exact ⟨_, rfl, H, h16, d10, i10, k10, f10, m10, g10, j10, l10, h10, b10, a10, c10, e10⟩
          | true =>
           replace H := ite_t H; replace H := app_hid H; go_wp2_with fail
           go_meet
           case rel => exact ⟨_, rfl, H, l16, d10, i10, k10, f10, m10, g10, j10, l10, h10, b10, a10, c10, e10⟩
        case rest =>
         as_aux_lemma =>
          obtain ⟨l14, rfl, H, h13, d10, i10, k10, f10, m10, g10, j10, l10, h10, b10, a10, c10, e10⟩ := hcut; rename World => wq2; unfold q2 at H; replace H := let_hid H; obtain ⟨_, rfl, H⟩ := H
          cases l14 with
          | false =>
           replace H := ite_f H; go_upto_region 16 with fail
           go_cut [121] (fun v121_ wr => ∃ (b14 : Bool), v121_ = .bool b14 ∧ Hid (q3 code fuel tapes false t_5a t_5b o10 r10 v10 p10 s10 n10 q10 w10 t10 x13 o13 w13 t13 false k14 r13 d14 a14 false x10 q13 y10 w14 false (b14) = some r) ∧ Hid (Below w.heap.size w wr) ∧ wr.cell? ⟨wt_5.heap.size, 0, none⟩ = some (.int .i64 o10) ∧ wr.cell? ⟨wt_5.heap.size, 1, none⟩ = some (.int .i64 r10) ∧ wr.cell? ⟨wt_5.heap.size, 2, none⟩ = some (.int .i64 v10) ∧ wr.cell? ⟨wt_5.heap.size, 3, none⟩ = some (.int .i64 p10) ∧ wr.cell? ⟨wt_5.heap.size, 4, none⟩ = some (.int .i64 s10) ∧ wr.cell? ⟨wt_5.heap.size, 5, none⟩ = some (.int .i64 n10) ∧ wr.cell? ⟨wt_5.heap.size, 6, none⟩ = some (.int .i64 q10) ∧ wr.cell? ⟨wt_5.heap.size, 7, none⟩ = some (.int .i64 w10) ∧ wr.cell? ⟨wt_5.heap.size, 8, none⟩ = some (.int .i64 t10) ∧ Hid (wr.ownsRow w.heap.size 92 5 (.slice k12 t_5a.length j12) t_5a.length (PRate.flat t_5a)) ∧ Hid (wr.ownsRow w.heap.size 77 4 (.slice e11 t_5b.length f11) t_5b.length (PMail.flat t_5b)) ∧ Hid (wr.ownsRow w.heap.size 3 1 (.slice a13 x10.length z12) x10.length (HelpInt.iv x10)) ∧ Hid (wr.ownsRow w.heap.size 3 1 (.slice d13 y10.length c13) y10.length (HelpInt.iv y10)))
           case first =>
            as_aux_lemma =>
             replace H := join_hid H
             cases o13 with
             | false =>
              replace H := ite_f H; replace H := app_hid H; replace H := join_hid H; replace H := ite_f H; replace H := app_hid H; go_wp2_with fail
              go_meet
              case rel => exact ⟨_, rfl, H, h13, d10, i10, k10, f10, m10, g10, j10, l10, h10, b10, a10, c10, e10⟩
             | true =>
              replace H := ite_t H; replace H := let_hid H; obtain ⟨t_95, t22, H⟩ := H; replace H := app_hid H; replace H := join_hid H
              cases t_95 with
              | false =>
               replace H := ite_f H; replace H := app_hid H; go_wp2_with fail
               go_meet
               case rel => exact ⟨_, rfl, H, h13, d10, i10, k10, f10, m10, g10, j10, l10, h10, b10, a10, c10, e10⟩
              | true =>
               replace H := ite_t H
               cases r13 with
               | false =>
                replace H := let_hid H; obtain ⟨t_99, g15, H⟩ := H; obtain rfl : t_99 = true := g15.symm; replace H := join_hid H; replace H := ite_t H; replace H := app_hid H; replace H := join_hid H; replace H := ite_t H; replace H := app_hid H; replace H := app_hid H; go_wp2_with fail
                go_meet
                case rel => exact ⟨_, rfl, H, h13, d10, i10, k10, f10, m10, g10, j10, l10, h10, b10, a10, c10, e10⟩
               | true =>
                replace H := let_hid H; obtain ⟨t_99, g15, H⟩ := H; obtain rfl : t_99 = false := g15.symm; replace H := join_hid H; replace H := ite_f H; replace H := let_hid H; obtain ⟨j19, k21, H⟩ := H; replace H := app_hid H; replace H := join_hid H
                cases j19 with
                | false =>
                 replace H := ite_f H
                 cases q13 with
                 | false =>
                  replace H := let_hid H; obtain ⟨k15, r14, H⟩ := H; obtain rfl : k15 = true := r14.symm; replace H := app_hid H; replace H := app_hid H; go_wp2_with fail
                  go_meet
                  case rel => exact ⟨_, rfl, H, h13, d10, i10, k10, f10, m10, g10, j10, l10, h10, b10, a10, c10, e10⟩
                 | true =>
                  replace H := let_hid H; obtain ⟨k15, r14, H⟩ := H; obtain rfl : k15 = false := r14.symm; replace H := app_hid H; replace H := app_hid H; go_wp2_with fail
                  go_meet
                  case rel => exact ⟨_, rfl, H, h13, d10, i10, k10, f10, m10, g10, j10, l10, h10, b10, a10, c10, e10⟩
                | true =>
                 replace H := ite_t H; replace H := app_hid H; replace H := app_hid H; go_wp2_with fail
                 go_meet
                 case rel => exact ⟨_, rfl, H, h13, d10, i10, k10, f10, m10, g10, j10, l10, h10, b10, a10, c10, e10⟩
           case rest =>
            as_aux_lemma =>
             obtain ⟨b14, rfl, H, l15, d10, i10, k10, f10, m10, g10, j10, l10, h10, b10, a10, c10, e10⟩ := hcut; rename World => wq3; unfold q3 at H; replace H := let_hid H; obtain ⟨_, rfl, H⟩ := H
             cases b14 with
             | false =>
              replace H := ite_f H; go_upto_if 122 with fail
              go_cut [] (fun  wr => Hid (q4 code fuel tapes t_5b o10 r10 v10 p10 s10 n10 q10 w10 t10 q13 () = some r) ∧ Hid (Below w.heap.size w wr) ∧ wr.cell? ⟨wt_5.heap.size, 0, none⟩ = some (.int .i64 o10) ∧ wr.cell? ⟨wt_5.heap.size, 1, none⟩ = some (.int .i64 r10) ∧ wr.cell? ⟨wt_5.heap.size, 2, none⟩ = some (.int .i64 v10) ∧ wr.cell? ⟨wt_5.heap.size, 3, none⟩ = some (.int .i64 p10) ∧ wr.cell? ⟨wt_5.heap.size, 4, none⟩ = some (.int .i64 s10) ∧ wr.cell? ⟨wt_5.heap.size, 5, none⟩ = some (.int .i64 n10) ∧ wr.cell? ⟨wt_5.heap.size, 6, none⟩ = some (.int .i64 q10) ∧ wr.cell? ⟨wt_5.heap.size, 7, none⟩ = some (.int .i64 w10) ∧ wr.cell? ⟨wt_5.heap.size, 8, none⟩ = some (.int .i64 t10) ∧ Hid (wr.ownsRow w.heap.size 92 5 (.slice k12 t_5a.length j12) t_5a.length (PRate.flat t_5a)) ∧ Hid (wr.ownsRow w.heap.size 77 4 (.slice e11 t_5b.length f11) t_5b.length (PMail.flat t_5b)) ∧ Hid (wr.ownsRow w.heap.size 3 1 (.slice a13 x10.length z12) x10.length (HelpInt.iv x10)) ∧ Hid (wr.ownsRow w.heap.size 3 1 (.slice d13 y10.length c13) y10.length (HelpInt.iv y10)))
              case first =>
               as_aux_lemma =>
                cases q13 with
                | false =>
                 replace H := ite_f H; go_wp2_with fail
                 go_meet
                 case rel => exact ⟨H, l15, d10, i10, k10, f10, m10, g10, j10, l10, h10, b10, a10, c10, e10⟩
                | true =>
                 replace H := ite_t H; replace H := bind3_hid H; obtain ⟨w17, l19, i17, r19, H⟩ := H; go_wp2_with fail; go_at_call 14; refine (GiEndOfRoute.C (t_5b) (n10) (w10) (x10) e11 f11 a13 z12 _   (Lib.hid (own_cells a10.out)) (Lib.hid (own_max a10.out)) (Lib.hid (own_cells c10.out)) (Lib.hid (own_max c10.out)) r19).mono ?_; rintro z20 g22 ⟨rfl, j11⟩; have b15 := Lib.hid (Below.step l15.out j11); replace d10 := cell_below j11 d10; replace i10 := cell_below j11 i10; replace k10 := cell_below j11 k10; replace f10 := cell_below j11 f10; replace m10 := cell_below j11 m10; replace g10 := cell_below j11 g10; replace j10 := cell_below j11 j10; replace l10 := cell_below j11 l10; replace h10 := cell_below j11 h10; replace b10 := Lib.hid (own_below b10.out j11); replace a10 := Lib.hid (own_below a10.out j11); replace c10 := Lib.hid (own_below c10.out j11); replace e10 := Lib.hid (own_below e10.out j11); clear j11; go_upto_region 20 with fail
                 go_cut [147] (fun v147_ wr => ∃ (e14 : Bool), v147_ = .bool e14 ∧ Hid (q5 code fuel tapes false t_5a t_5b o10 r10 v10 p10 s10 n10 q10 w10 t10 x13 o13 w13 t13 false k14 r13 d14 a14 false x10 true y10 w14 false false w17 l19 i17 (e14) = some r) ∧ Hid (Below w.heap.size w wr) ∧ wr.cell? ⟨wt_5.heap.size, 0, none⟩ = some (.int .i64 o10) ∧ wr.cell? ⟨wt_5.heap.size, 1, none⟩ = some (.int .i64 r10) ∧ wr.cell? ⟨wt_5.heap.size, 2, none⟩ = some (.int .i64 v10) ∧ wr.cell? ⟨wt_5.heap.size, 3, none⟩ = some (.int .i64 p10) ∧ wr.cell? ⟨wt_5.heap.size, 4, none⟩ = some (.int .i64 s10) ∧ wr.cell? ⟨wt_5.heap.size, 5, none⟩ = some (.int .i64 n10) ∧ wr.cell? ⟨wt_5.heap.size, 6, none⟩ = some (.int .i64 q10) ∧ wr.cell? ⟨wt_5.heap.size, 7, none⟩ = some (.int .i64 w10) ∧ wr.cell? ⟨wt_5.heap.size, 8, none⟩ = some (.int .i64 t10) ∧ Hid (wr.ownsRow w.heap.size 92 5 (.slice k12 t_5a.length j12) t_5a.length (PRate.flat t_5a)) ∧ Hid (wr.ownsRow w.heap.size 77 4 (.slice e11 t_5b.length f11) t_5b.length (PMail.flat t_5b)) ∧ Hid (wr.ownsRow w.heap.size 3 1 (.slice a13 x10.length z12) x10.length (HelpInt.iv x10)) ∧ Hid (wr.ownsRow w.heap.size 3 1 (.slice d13 y10.length c13) y10.length (HelpInt.iv y10)))
                 case first =>
                  as_aux_lemma =>
                   cases i17 with
                   | false =>
                    replace H := let_hid H; obtain ⟨x14, f15, H⟩ := H; obtain rfl : x14 = true := f15.symm; replace H := join_hid H; replace H := ite_t H; replace H := app_hid H; replace H := join_hid H; replace H := ite_t H; replace H := app_hid H; go_wp2_with fail
                    go_meet
                    case rel => exact ⟨_, rfl, H, b15, d10, i10, k10, f10, m10, g10, j10, l10, h10, b10, a10, c10, e10⟩
                   | true =>
                    replace H := let_hid H; obtain ⟨x14, f15, H⟩ := H; obtain rfl : x14 = false := f15.symm; replace H := join_hid H; replace H := ite_f H; replace H := let_hid H; obtain ⟨n18, h20, H⟩ := H; replace H := app_hid H; replace H := join_hid H
                    cases n18 with
                    | false =>
                     replace H := ite_f H; replace H := let_hid H; obtain ⟨e20, r22, H⟩ := H; replace H := app_hid H; go_wp2_with fail
                     go_meet
                     case rel => exact ⟨_, rfl, H, b15, d10, i10, k10, f10, m10, g10, j10, l10, h10, b10, a10, c10, e10⟩
                    | true =>
                     replace H := ite_t H; replace H := app_hid H; go_wp2_with fail
                     go_meet
                     case rel => exact ⟨_, rfl, H, b15, d10, i10, k10, f10, m10, g10, j10, l10, h10, b10, a10, c10, e10⟩
                 case rest =>
                  as_aux_lemma =>
                   obtain ⟨e14, rfl, H, v15, d10, i10, k10, f10, m10, g10, j10, l10, h10, b10, a10, c10, e10⟩ := hcut; rename World => wq5; unfold q5 at H; replace H := let_hid H; obtain ⟨_, rfl, H⟩ := H
                   cases e14 with
                   | false =>
                    replace H := ite_f H; go_wp2_with fail
                    go_meet
                    case rel => exact ⟨H, v15, d10, i10, k10, f10, m10, g10, j10, l10, h10, b10, a10, c10, e10⟩
                   | true =>
                    replace H := ite_t H; obtain rfl := ret_hid H; go_wp2_with fail; go_ret; exact ⟨rfl, v15.out⟩
              case rest =>
               as_aux_lemma =>
                obtain ⟨H, v19, d10, i10, k10, f10, m10, g10, j10, l10, h10, b10, a10, c10, e10⟩ := hcut; rename World => wq4; unfold q4 at H; replace H := bind2_hid H; obtain ⟨i19, k16, b18, H⟩ := H; go_wp2_with fail; go_at_call 15; refine (GiSpareMinutes.C fuel (t_5b) ((PCover.Cover.mk o10 r10 v10 p10 s10 n10 q10 w10 t10)) e11 f11 _   (Lib.hid (own_cells a10.out)) (Lib.hid (own_max a10.out)) b18).mono ?_; rintro t21 m21 ⟨rfl, k11⟩; have v18 := Lib.hid (Below.step v19.out k11); replace d10 := cell_below k11 d10; replace i10 := cell_below k11 i10; replace k10 := cell_below k11 k10; replace f10 := cell_below k11 f10; replace m10 := cell_below k11 m10; replace g10 := cell_below k11 g10; replace j10 := cell_below k11 j10; replace l10 := cell_below k11 l10; replace h10 := cell_below k11 h10; replace b10 := Lib.hid (own_below b10.out k11); replace a10 := Lib.hid (own_below a10.out k11); replace c10 := Lib.hid (own_below c10.out k11); replace e10 := Lib.hid (own_below e10.out k11); clear k11; replace H := bind2_hid H; obtain ⟨p20, v22, c18, H⟩ := H; go_wp2_with fail; go_at_call 16; refine (GsSpareMinutes.C fuel (t_5b) ((PCover.Cover.mk o10 r10 v10 p10 s10 n10 q10 w10 t10)) e11 f11 _   (Lib.hid (own_cells a10.out)) (Lib.hid (own_max a10.out)) c18).mono ?_; rintro n20 a20 ⟨rfl, d12⟩; have q14 := Lib.hid (Below.step v18.out d12); replace d10 := cell_below d12 d10; replace i10 := cell_below d12 i10; replace k10 := cell_below d12 k10; replace f10 := cell_below d12 f10; replace m10 := cell_below d12 m10; replace g10 := cell_below d12 g10; replace j10 := cell_below d12 j10; replace l10 := cell_below d12 l10; replace h10 := cell_below d12 h10; replace b10 := Lib.hid (own_below b10.out d12); replace a10 := Lib.hid (own_below a10.out d12); replace c10 := Lib.hid (own_below c10.out d12); replace e10 := Lib.hid (own_below e10.out d12); clear d12; go_upto_region 24 with fail
                go_cut [172] (fun v172_ wr => ∃ (f14 : Bool), v172_ = .bool f14 ∧ Hid (q6 code fuel tapes t_5b o10 r10 v10 p10 s10 n10 q10 w10 t10 i19 k16 (f14) = some r) ∧ Hid (Below w.heap.size w wr) ∧ wr.cell? ⟨wt_5.heap.size, 0, none⟩ = some (.int .i64 o10) ∧ wr.cell? ⟨wt_5.heap.size, 1, none⟩ = some (.int .i64 r10) ∧ wr.cell? ⟨wt_5.heap.size, 2, none⟩ = some (.int .i64 v10) ∧ wr.cell? ⟨wt_5.heap.size, 3, none⟩ = some (.int .i64 p10) ∧ wr.cell? ⟨wt_5.heap.size, 4, none⟩ = some (.int .i64 s10) ∧ wr.cell? ⟨wt_5.heap.size, 5, none⟩ = some (.int .i64 n10) ∧ wr.cell? ⟨wt_5.heap.size, 6, none⟩ = some (.int .i64 q10) ∧ wr.cell? ⟨wt_5.heap.size, 7, none⟩ = some (.int .i64 w10) ∧ wr.cell? ⟨wt_5.heap.size, 8, none⟩ = some (.int .i64 t10) ∧ Hid (wr.ownsRow w.heap.size 92 5 (.slice k12 t_5a.length j12) t_5a.length (PRate.flat t_5a)) ∧ Hid (wr.ownsRow w.heap.size 77 4 (.slice e11 t_5b.length f11) t_5b.length (PMail.flat t_5b)) ∧ Hid (wr.ownsRow w.heap.size 3 1 (.slice a13 x10.length z12) x10.length (HelpInt.iv x10)) ∧ Hid (wr.ownsRow w.heap.size 3 1 (.slice d13 y10.length c13) y10.length (HelpInt.iv y10)))
                case first =>
                 as_aux_lemma =>
                  replace H := let_hid H; obtain ⟨t17, c21, H⟩ := H; replace H := join_hid H
                  cases t17 with
                  | false =>
                   replace H := ite_f H; replace H := let_hid H; obtain ⟨q19, q22, H⟩ := H; replace H := app_hid H; replace H := join_hid H
                   cases q19 with
                   | false =>
                    replace H := ite_f H; replace H := let_hid H; obtain ⟨x20, x21, H⟩ := H; replace H := app_hid H; go_wp2_with fail
                    go_meet
                    case rel => exact ⟨_, rfl, H, q14, d10, i10, k10, f10, m10, g10, j10, l10, h10, b10, a10, c10, e10⟩
                   | true =>
                    replace H := ite_t H; replace H := app_hid H; go_wp2_with fail
                    go_meet
                    case rel => exact ⟨_, rfl, H, q14, d10, i10, k10, f10, m10, g10, j10, l10, h10, b10, a10, c10, e10⟩
                  | true =>
                   replace H := ite_t H; replace H := app_hid H; replace H := join_hid H; replace H := ite_t H; replace H := app_hid H; go_wp2_with fail
                   go_meet
                   case rel => exact ⟨_, rfl, H, q14, d10, i10, k10, f10, m10, g10, j10, l10, h10, b10, a10, c10, e10⟩
                case rest =>
                 as_aux_lemma =>
                  obtain ⟨f14, rfl, H, h14, d10, i10, k10, f10, m10, g10, j10, l10, h10, b10, a10, c10, e10⟩ := hcut; rename World => wq6; unfold q6 at H; replace H := let_hid H; obtain ⟨_, rfl, H⟩ := H
                  cases f14 with
                  | false =>
                   replace H := ite_f H; go_upto_if 173 with fail
                   go_cut [] (fun  wr => Hid (q7 code tapes () = some r) ∧ Hid (Below w.heap.size w wr) ∧ wr.cell? ⟨wt_5.heap.size, 0, none⟩ = some (.int .i64 o10) ∧ wr.cell? ⟨wt_5.heap.size, 1, none⟩ = some (.int .i64 r10) ∧ wr.cell? ⟨wt_5.heap.size, 2, none⟩ = some (.int .i64 v10) ∧ wr.cell? ⟨wt_5.heap.size, 3, none⟩ = some (.int .i64 p10) ∧ wr.cell? ⟨wt_5.heap.size, 4, none⟩ = some (.int .i64 s10) ∧ wr.cell? ⟨wt_5.heap.size, 5, none⟩ = some (.int .i64 n10) ∧ wr.cell? ⟨wt_5.heap.size, 6, none⟩ = some (.int .i64 q10) ∧ wr.cell? ⟨wt_5.heap.size, 7, none⟩ = some (.int .i64 w10) ∧ wr.cell? ⟨wt_5.heap.size, 8, none⟩ = some (.int .i64 t10) ∧ Hid (wr.ownsRow w.heap.size 92 5 (.slice k12 t_5a.length j12) t_5a.length (PRate.flat t_5a)) ∧ Hid (wr.ownsRow w.heap.size 77 4 (.slice e11 t_5b.length f11) t_5b.length (PMail.flat t_5b)) ∧ Hid (wr.ownsRow w.heap.size 3 1 (.slice a13 x10.length z12) x10.length (HelpInt.iv x10)) ∧ Hid (wr.ownsRow w.heap.size 3 1 (.slice d13 y10.length c13) y10.length (HelpInt.iv y10)))
                   case first =>
                    as_aux_lemma =>
                     cases k16 with
                     | false =>
                      replace H := ite_f H; go_wp2_with fail
                      go_meet
                      case rel => exact ⟨H, h14, d10, i10, k10, f10, m10, g10, j10, l10, h10, b10, a10, c10, e10⟩
                     | true =>
                      replace H := ite_t H; obtain ⟨m12, t12⟩ : ∃ x, wq6.alloc (.cells #[.int .i64 o10, .int .i64 r10, .int .i64 v10, .int .i64 p10, .int .i64 s10, .int .i64 n10, .int .i64 q10, .int .i64 w10, .int .i64 t10] 27) = x := ⟨_, rfl⟩; have h11 : Below wq6.heap.size wq6 m12 := (by rw [← t12]; exact (Below.refl _ _).alloc (Nat.le_refl _) _); have g18 := Lib.hid (apart_fresh b10.out); have m19 := Lib.hid (apart_fresh a10.out); have z17 := Lib.hid (apart_fresh c10.out); have k19 := Lib.hid (apart_fresh e10.out); have y12 := Lib.hid (apart_box d10); have t15 := Lib.hid (Below.step h14.out h11); have d16 := cell_below h11 d10; have m17 := cell_below h11 i10; have b16 := cell_below h11 k10; have c16 := cell_below h11 f10; have g17 := cell_below h11 m10; have p15 := cell_below h11 g10; have i16 := cell_below h11 j10; have v16 := cell_below h11 l10; have w16 := cell_below h11 h10; replace b10 := Lib.hid (own_below b10.out h11); replace a10 := Lib.hid (own_below a10.out h11); replace c10 := Lib.hid (own_below c10.out h11); replace e10 := Lib.hid (own_below e10.out h11); clear h11; have h18 : m12.cell? ⟨wq6.heap.size, 0, none⟩ = some (.int .i64 o10) := (by rw [← t12]; exact box_new _ _ _ 0 _ rfl); have k18 : m12.cell? ⟨wq6.heap.size, 1, none⟩ = some (.int .i64 r10) := (by rw [← t12]; exact box_new _ _ _ 1 _ rfl); have a18 : m12.cell? ⟨wq6.heap.size, 2, none⟩ = some (.int .i64 v10) := (by rw [← t12]; exact box_new _ _ _ 2 _ rfl); have e18 : m12.cell? ⟨wq6.heap.size, 3, none⟩ = some (.int .i64 p10) := (by rw [← t12]; exact box_new _ _ _ 3 _ rfl); have s19 : m12.cell? ⟨wq6.heap.size, 4, none⟩ = some (.int .i64 s10) := (by rw [← t12]; exact box_new _ _ _ 4 _ rfl); have q18 : m12.cell? ⟨wq6.heap.size, 5, none⟩ = some (.int .i64 n10) := (by rw [← t12]; exact box_new _ _ _ 5 _ rfl); have w19 : m12.cell? ⟨wq6.heap.size, 6, none⟩ = some (.int .i64 q10) := (by rw [← t12]; exact box_new _ _ _ 6 _ rfl); have s17 : m12.cell? ⟨wq6.heap.size, 7, none⟩ = some (.int .i64 w10) := (by rw [← t12]; exact box_new _ _ _ 7 _ rfl); have z18 : m12.cell? ⟨wq6.heap.size, 8, none⟩ = some (.int .i64 t10) := (by rw [← t12]; exact box_new _ _ _ 8 _ rfl); have i14 : Hid (m12.ownsRow w.heap.size 27 9 (.slice (some ⟨wq6.heap.size, 0, none⟩) 1 1) 1 [.int .i64 o10, .int .i64 r10, .int .i64 v10, .int .i64 p10, .int .i64 s10, .int .i64 n10, .int .i64 q10, .int .i64 w10, .int .i64 t10]) := Lib.hid (by rw [← t12]; exact own_laid (n := 1) h14.out.size rfl rfl (by unfold maxLen; omega)); replace H := let_hid H; obtain ⟨s13, m22, H⟩ := H; obtain ⟨s12, a16⟩ : ∃ x, (m12).setCell ⟨wq6.heap.size, 7, none⟩ (.int .i64 s13) = x := ⟨_, rfl⟩; have w18 := i14.out.frozenAt 7; have h15 := Lib.hid (own_stores [(7, .int .i64 s13)] i14.out); have r12 : Hid (s12.ownsRow w.heap.size 27 9 (.slice (some ⟨wq6.heap.size, 0, none⟩) 1 1) 1 [.int .i64 o10, .int .i64 r10, .int .i64 v10, .int .i64 p10, .int .i64 s10, .int .i64 n10, .int .i64 q10, .int .i64 s13, .int .i64 t10]) := Lib.hid (by rw [← a16]; exact h15.out.1); have q11 : Hid (m12.grownBy s12 (Value.slice (some ⟨wq6.heap.size, 0, none⟩) 1 1).ownBlock) := Lib.hid (by rw [← a16]; exact h15.out.2); have g16 := Lib.hid (t15.out.grown q11.out t15.out.size (fun q hq => (i14.out.lt q hq).1)); clear h15; have g14 := cell_other d16 q11.out y12.out; have d15 := cell_other m17 q11.out y12.out; have j15 := cell_other b16 q11.out y12.out; have n14 := cell_other c16 q11.out y12.out; have i15 := cell_other g17 q11.out y12.out; have v14 := cell_other p15 q11.out y12.out; have s14 := cell_other i16 q11.out y12.out; have y14 := cell_other v16 q11.out y12.out; have o14 := cell_other w16 q11.out y12.out; replace b10 := Lib.hid (own_other b10.out q11.out g18.out); replace a10 := Lib.hid (own_other a10.out q11.out m19.out); replace c10 := Lib.hid (own_other c10.out q11.out z17.out); replace e10 := Lib.hid (own_other e10.out q11.out k19.out); clear i14 q11; have t14 : s12.cell? ⟨wq6.heap.size, 0, none⟩ = some (.int .i64 o10) := r12.out.cells rfl 0 _ rfl
                      have w15 : s12.cell? ⟨wq6.heap.size, 1, none⟩ = some (.int .i64 r10) := r12.out.cells rfl 1 _ rfl; have d17 : s12.cell? ⟨wq6.heap.size, 2, none⟩ = some (.int .i64 v10) := r12.out.cells rfl 2 _ rfl; have o17 : s12.cell? ⟨wq6.heap.size, 3, none⟩ = some (.int .i64 p10) := r12.out.cells rfl 3 _ rfl; have n16 : s12.cell? ⟨wq6.heap.size, 4, none⟩ = some (.int .i64 s10) := r12.out.cells rfl 4 _ rfl; have e17 : s12.cell? ⟨wq6.heap.size, 5, none⟩ = some (.int .i64 n10) := r12.out.cells rfl 5 _ rfl; have a17 : s12.cell? ⟨wq6.heap.size, 6, none⟩ = some (.int .i64 q10) := r12.out.cells rfl 6 _ rfl; have y15 : s12.cell? ⟨wq6.heap.size, 7, none⟩ = some (.int .i64 s13) := r12.out.cells rfl 7 _ rfl; have s15 : s12.cell? ⟨wq6.heap.size, 8, none⟩ = some (.int .i64 t10) := r12.out.cells rfl 8 _ rfl; replace H := bind2_hid H; obtain ⟨f22, f18, o19, H⟩ := H; go_wp2_with fail; clear d10 i10 k10 f10 m10 g10 j10 l10 h10 w18 d16 m17 b16 c16 g17 p15 i16 v16 w16 h18 k18 a18 e18 s19 q18 w19 s17 z18; go_at_call 11; refine (GiRouteOn.C fuel (t_5b) ((PCover.Cover.mk o10 r10 v10 p10 s10 n10 q10 s13 t10)) e11 f11 _   (Lib.hid (own_cells a10.out)) (Lib.hid (own_max a10.out)) o19).mono ?_; rintro a21 a22 ⟨w22, j21, rfl, b13, z10⟩; have d21 := Lib.hid (apart_call b13 b10.out); have y22 := Lib.hid (apart_call b13 a10.out); have m20 := Lib.hid (apart_call b13 c10.out); have e21 := Lib.hid (apart_call b13 e10.out); have f20 := Lib.hid (apart_callbox b13 g14); have t20 := Lib.hid (apart_callbox b13 t14); have b23 := Lib.hid (own_lower b13 g16.out.size); clear b13; have n15 := Lib.hid (Below.step g16.out z10); replace g14 := cell_below z10 g14; replace d15 := cell_below z10 d15; replace j15 := cell_below z10 j15; replace n14 := cell_below z10 n14; replace i15 := cell_below z10 i15; replace v14 := cell_below z10 v14; replace s14 := cell_below z10 s14; replace y14 := cell_below z10 y14; replace o14 := cell_below z10 o14; replace t14 := cell_below z10 t14; replace w15 := cell_below z10 w15; replace d17 := cell_below z10 d17; replace o17 := cell_below z10 o17; replace n16 := cell_below z10 n16; replace e17 := cell_below z10 e17; replace a17 := cell_below z10 a17; replace y15 := cell_below z10 y15; replace s15 := cell_below z10 s15; replace b10 := Lib.hid (own_below b10.out z10); replace a10 := Lib.hid (own_below a10.out z10); replace c10 := Lib.hid (own_below c10.out z10); replace e10 := Lib.hid (own_below e10.out z10); replace r12 := Lib.hid (own_below r12.out z10); clear z10
                      cases f18 with
                      | false =>
                       replace H := let_hid H; obtain ⟨m14, e15, H⟩ := H; obtain rfl : m14 = true := e15.symm; replace H := ite_t H; obtain rfl := ret_hid H; go_wp2_with fail; go_ret; exact ⟨rfl, n15.out⟩
                      | true =>
                       replace H := let_hid H; obtain ⟨m14, e15, H⟩ := H; obtain rfl : m14 = false := e15.symm; replace H := ite_f H; go_wp2_with fail
                       go_meet
                       case rel => exact ⟨H, n15, g14, d15, j15, n14, i15, v14, s14, y14, o14, b10, a10, c10, e10⟩
                   case rest =>
                    as_aux_lemma =>
                     obtain ⟨H, f16, d10, i10, k10, f10, m10, g10, j10, l10, h10, b10, a10, c10, e10⟩ := hcut; rename World => wq7; unfold q7 at H; replace H := bind_hid H; obtain ⟨l18, b19, H⟩ := H; obtain ⟨n13, i13, m13, g13, j13, f13, e13, l13, k13⟩ := l18; replace H := unCover_hid H; go_wp2_with fail; go_at_call 17; refine (GsDrawIsCover.C tapes (code) A0 c0 _  HE (Lib.hid (Cells.below M0.out f16.out)) N0 V0 b19).mono ?_; rintro r21 d11 ⟨rfl, a12⟩; unfold PCover.Cover.val; have a19 := Lib.hid (Below.step f16.out a12); replace d10 := cell_below a12 d10; replace i10 := cell_below a12 i10; replace k10 := cell_below a12 k10; replace f10 := cell_below a12 f10; replace m10 := cell_below a12 m10; replace g10 := cell_below a12 g10; replace j10 := cell_below a12 j10; replace l10 := cell_below a12 l10; replace h10 := cell_below a12 h10; replace b10 := Lib.hid (own_below b10.out a12); replace a10 := Lib.hid (own_below a10.out a12); replace c10 := Lib.hid (own_below c10.out a12); replace e10 := Lib.hid (own_below e10.out a12); clear a12; obtain ⟨h12, x12⟩ : ∃ x, d11.alloc (.cells #[.int .i64 n13, .int .i64 i13, .int .i64 m13, .int .i64 g13, .int .i64 j13, .int .i64 f13, .int .i64 e13, .int .i64 l13, .int .i64 k13] 27) = x := ⟨_, rfl⟩; have g11 : Below d11.heap.size d11 h12 := (by rw [← x12]; exact (Below.refl _ _).alloc (Nat.le_refl _) _); have h21 := Lib.hid (apart_fresh b10.out); have n21 := Lib.hid (apart_fresh a10.out); have i20 := Lib.hid (apart_fresh c10.out); have g21 := Lib.hid (apart_fresh e10.out); have j18 := Lib.hid (Below.step a19.out g11); have l11 := cell_below g11 d10; have p11 := cell_below g11 i10; have m11 := cell_below g11 k10; have t11 := cell_below g11 f10; have v11 := cell_below g11 m10; have r11 := cell_below g11 g10; have o11 := cell_below g11 j10; have x11 := cell_below g11 l10; have c12 := cell_below g11 h10; replace b10 := Lib.hid (own_below b10.out g11); replace a10 := Lib.hid (own_below a10.out g11); replace c10 := Lib.hid (own_below c10.out g11); replace e10 := Lib.hid (own_below e10.out g11); clear g11; have g12 : h12.cell? ⟨d11.heap.size, 0, none⟩ = some (.int .i64 n13) := (by rw [← x12]; exact box_new _ _ _ 0 _ rfl); have b12 : h12.cell? ⟨d11.heap.size, 1, none⟩ = some (.int .i64 i13) := (by rw [← x12]; exact box_new _ _ _ 1 _ rfl); have w11 : h12.cell? ⟨d11.heap.size, 2, none⟩ = some (.int .i64 m13) := (by rw [← x12]; exact box_new _ _ _ 2 _ rfl); have y11 : h12.cell? ⟨d11.heap.size, 3, none⟩ = some (.int .i64 g13) := (by rw [← x12]; exact box_new _ _ _ 3 _ rfl); have z11 : h12.cell? ⟨d11.heap.size, 4, none⟩ = some (.int .i64 j13) := (by rw [← x12]; exact box_new _ _ _ 4 _ rfl); have f12 : h12.cell? ⟨d11.heap.size, 5, none⟩ = some (.int .i64 f13) := (by rw [← x12]; exact box_new _ _ _ 5 _ rfl); have s11 : h12.cell? ⟨d11.heap.size, 6, none⟩ = some (.int .i64 e13) := (by rw [← x12]; exact box_new _ _ _ 6 _ rfl); have i11 : h12.cell? ⟨d11.heap.size, 7, none⟩ = some (.int .i64 l13) := (by rw [← x12]; exact box_new _ _ _ 7 _ rfl); have n11 : h12.cell? ⟨d11.heap.size, 8, none⟩ = some (.int .i64 k13) := (by rw [← x12]; exact box_new _ _ _ 8 _ rfl); go_wp2_with fail; clear d10 i10 k10 f10 m10 g10 j10 l10 h10; have s16 := Lib.hid l11; replace l11 := cell_regrown l11; have h17 := Lib.hid p11; replace p11 := cell_regrown p11; have e16 := Lib.hid m11; replace m11 := cell_regrown m11; have t16 := Lib.hid t11; replace t11 := cell_regrown t11; have z16 := Lib.hid v11; replace v11 := cell_regrown v11; have p16 := Lib.hid r11; replace r11 := cell_regrown r11; have c17 := Lib.hid o11; replace o11 := cell_regrown o11; have q16 := Lib.hid x11; replace x11 := cell_regrown x11; have z15 := Lib.hid c12; replace c12 := cell_regrown c12; have y16 := Lib.hid g12; replace g12 := cell_regrown g12; have n17 := Lib.hid b12; replace b12 := cell_regrown b12; have q15 := Lib.hid w11; replace w11 := cell_regrown w11; have l17 := Lib.hid y11; replace y11 := cell_regrown y11; have o16 := Lib.hid z11
                     replace z11 := cell_regrown z11; have k17 := Lib.hid f12; replace f12 := cell_regrown f12; have x15 := Lib.hid s11; replace s11 := cell_regrown s11; have x16 := Lib.hid i11; replace i11 := cell_regrown i11; have p17 := Lib.hid n11; replace n11 := cell_regrown n11; replace H := bind_hid H; obtain ⟨t19, x17, H⟩ := H; have o15 : ∀ d os, Calls Try.prog 18 #[.agg #[.int .i64 n13, .int .i64 i13, .int .i64 m13, .int .i64 g13, .int .i64 j13, .int .i64 f13, .int .i64 e13, .int .i64 l13, .int .i64 k13]] (Go.Sort.grow (redrawn h12 d) os) fun e w'' => e = .returned (.bool t19) ∧ ∃ p : Regrown, w'' = Go.Sort.grow (redrawn h12 p.d) p.os := fun d os => Calls.regrown_of (GiIsCover.C ((PCover.Cover.mk n13 i13 m13 g13 j13 f13 e13 l13 k13))  _    x17); replace H := bind_hid H; obtain ⟨d18, m18, H⟩ := H; have f17 : ∀ d os, Calls Try.prog 19 #[.agg #[.int .i64 n13, .int .i64 i13, .int .i64 m13, .int .i64 g13, .int .i64 j13, .int .i64 f13, .int .i64 e13, .int .i64 l13, .int .i64 k13]] (Go.Sort.grow (redrawn h12 d) os) fun e w'' => e = .returned (.bool d18) ∧ ∃ p : Regrown, w'' = Go.Sort.grow (redrawn h12 p.d) p.os := fun d os => Calls.regrown_of (GsIsCover.C ((PCover.Cover.mk n13 i13 m13 g13 j13 f13 e13 l13 k13))  _    m18); replace H := let_hid H; obtain ⟨y18, f21, H⟩ := H; refine wp_region_quiet_below (by kernel_rfl) (by kernel_rfl) ?_
                     repeat (go_big_quiet_step (first | (go_at_call 18; exact o15 _ _) | (go_at_call 19; exact f17 _ _)))
                     refine wpQuiet_nil ?_; intro Y33 hY33; replace hY33 := below_class hY33; clear o15 f17; replace l11 := s16.out; clear s16; replace p11 := h17.out; clear h17; replace m11 := e16.out; clear e16; replace t11 := t16.out; clear t16; replace v11 := z16.out; clear z16; replace r11 := p16.out; clear p16; replace o11 := c17.out; clear c17; replace x11 := q16.out; clear q16; replace c12 := z15.out; clear z15; replace g12 := y16.out; clear y16; replace b12 := n17.out; clear n17; replace w11 := q15.out; clear q15; replace y11 := l17.out; clear l17; replace z11 := o16.out; clear o16; replace f12 := k17.out; clear k17; replace s11 := x15.out; clear x15; replace i11 := x16.out; clear x16; replace n11 := p17.out; clear p17; have a15 := Lib.hid (Below.step j18.out hY33); replace l11 := cell_below hY33 l11; replace p11 := cell_below hY33 p11; replace m11 := cell_below hY33 m11; replace t11 := cell_below hY33 t11; replace v11 := cell_below hY33 v11; replace r11 := cell_below hY33 r11; replace o11 := cell_below hY33 o11; replace x11 := cell_below hY33 x11; replace c12 := cell_below hY33 c12; replace g12 := cell_below hY33 g12; replace b12 := cell_below hY33 b12; replace w11 := cell_below hY33 w11; replace y11 := cell_below hY33 y11; replace z11 := cell_below hY33 z11; replace f12 := cell_below hY33 f12; replace s11 := cell_below hY33 s11; replace i11 := cell_below hY33 i11; replace n11 := cell_below hY33 n11; replace b10 := Lib.hid (own_below b10.out hY33); replace a10 := Lib.hid (own_below a10.out hY33); replace c10 := Lib.hid (own_below c10.out hY33); replace e10 := Lib.hid (own_below e10.out hY33); clear hY33
                     cases y18 with
                     | false =>
                      replace H := ite_f H; replace H := bind_hid H; obtain ⟨j17, x18, H⟩ := H; go_wp2_with fail; go_at_call 20; refine (GsDrawFaultText.C tapes (code) A0 c0 _  HE (Lib.hid (Cells.below M0.out a15.out)) N0 V0 x18).mono ?_; rintro s22 w20 ⟨rfl, b11⟩; have f19 := Lib.hid (Below.step a15.out b11); replace l11 := cell_below b11 l11; replace p11 := cell_below b11 p11; replace m11 := cell_below b11 m11; replace t11 := cell_below b11 t11; replace v11 := cell_below b11 v11; replace r11 := cell_below b11 r11; replace o11 := cell_below b11 o11; replace x11 := cell_below b11 x11; replace c12 := cell_below b11 c12; replace g12 := cell_below b11 g12; replace b12 := cell_below b11 b12; replace w11 := cell_below b11 w11; replace y11 := cell_below b11 y11; replace z11 := cell_below b11 z11; replace f12 := cell_below b11 f12; replace s11 := cell_below b11 s11; replace i11 := cell_below b11 i11; replace n11 := cell_below b11 n11; replace b10 := Lib.hid (own_below b10.out b11); replace a10 := Lib.hid (own_below a10.out b11); replace c10 := Lib.hid (own_below c10.out b11); replace e10 := Lib.hid (own_below e10.out b11); clear b11; replace H := bind2_hid H; obtain ⟨y19, s21, t18, H⟩ := H; go_wp2_with fail; go_at_call 21; refine (GiFaultText.C (j17)  _    t18).mono ?_; rintro d22 h22 ⟨rfl, c11⟩; have n19 := Lib.hid (Below.step f19.out c11); replace l11 := cell_below c11 l11; replace p11 := cell_below c11 p11; replace m11 := cell_below c11 m11; replace t11 := cell_below c11 t11; replace v11 := cell_below c11 v11; replace r11 := cell_below c11 r11; replace o11 := cell_below c11 o11; replace x11 := cell_below c11 x11; replace c12 := cell_below c11 c12; replace g12 := cell_below c11 g12; replace b12 := cell_below c11 b12; replace w11 := cell_below c11 w11; replace y11 := cell_below c11 y11; replace z11 := cell_below c11 z11; replace f12 := cell_below c11 f12; replace s11 := cell_below c11 s11; replace i11 := cell_below c11 i11; replace n11 := cell_below c11 n11; replace b10 := Lib.hid (own_below b10.out c11); replace a10 := Lib.hid (own_below a10.out c11); replace c10 := Lib.hid (own_below c10.out c11); replace e10 := Lib.hid (own_below e10.out c11); clear c11; replace H := bind2_hid H; obtain ⟨w21, q21, s18, H⟩ := H; go_wp2_with fail; go_at_call 22; refine (GsFaultText.C (j17)  _    s18).mono ?_; rintro j20 p22 ⟨rfl, a11⟩; have m15 := Lib.hid (Below.step n19.out a11); replace l11 := cell_below a11 l11; replace p11 := cell_below a11 p11; replace m11 := cell_below a11 m11; replace t11 := cell_below a11 t11; replace v11 := cell_below a11 v11; replace r11 := cell_below a11 r11; replace o11 := cell_below a11 o11; replace x11 := cell_below a11 x11; replace c12 := cell_below a11 c12; replace g12 := cell_below a11 g12; replace b12 := cell_below a11 b12; replace w11 := cell_below a11 w11; replace y11 := cell_below a11 y11; replace z11 := cell_below a11 z11; replace f12 := cell_below a11 f12; replace s11 := cell_below a11 s11; replace i11 := cell_below a11 i11; replace n11 := cell_below a11 n11; replace b10 := Lib.hid (own_below b10.out a11); replace a10 := Lib.hid (own_below a10.out a11); replace c10 := Lib.hid (own_below c10.out a11); replace e10 := Lib.hid (own_below e10.out a11); clear a11; go_upto_region 38 with fail
                      go_cut [2] (fun v2_ wr => ∃ (c15 : Bool), v2_ = .bool c15 ∧ Hid (q8  (c15) = some r) ∧ Hid (Below w.heap.size w wr) ∧ wr.cell? ⟨wt_5.heap.size, 0, none⟩ = some (.int .i64 o10) ∧ wr.cell? ⟨wt_5.heap.size, 1, none⟩ = some (.int .i64 r10) ∧ wr.cell? ⟨wt_5.heap.size, 2, none⟩ = some (.int .i64 v10) ∧ wr.cell? ⟨wt_5.heap.size, 3, none⟩ = some (.int .i64 p10) ∧ wr.cell? ⟨wt_5.heap.size, 4, none⟩ = some (.int .i64 s10) ∧ wr.cell? ⟨wt_5.heap.size, 5, none⟩ = some (.int .i64 n10) ∧ wr.cell? ⟨wt_5.heap.size, 6, none⟩ = some (.int .i64 q10) ∧ wr.cell? ⟨wt_5.heap.size, 7, none⟩ = some (.int .i64 w10) ∧ wr.cell? ⟨wt_5.heap.size, 8, none⟩ = some (.int .i64 t10) ∧ wr.cell? ⟨d11.heap.size, 0, none⟩ = some (.int .i64 n13) ∧ wr.cell? ⟨d11.heap.size, 1, none⟩ = some (.int .i64 i13) ∧ wr.cell? ⟨d11.heap.size, 2, none⟩ = some (.int .i64 m13) ∧ wr.cell? ⟨d11.heap.size, 3, none⟩ = some (.int .i64 g13) ∧ wr.cell? ⟨d11.heap.size, 4, none⟩ = some (.int .i64 j13) ∧ wr.cell? ⟨d11.heap.size, 5, none⟩ = some (.int .i64 f13) ∧ wr.cell? ⟨d11.heap.size, 6, none⟩ = some (.int .i64 e13) ∧ wr.cell? ⟨d11.heap.size, 7, none⟩ = some (.int .i64 l13) ∧ wr.cell? ⟨d11.heap.size, 8, none⟩ = some (.int .i64 k13) ∧ Hid (wr.ownsRow w.heap.size 92 5 (.slice k12 t_5a.length j12) t_5a.length (PRate.flat t_5a)) ∧ Hid (wr.ownsRow w.heap.size 77 4 (.slice e11 t_5b.length f11) t_5b.length (PMail.flat t_5b)) ∧ Hid (wr.ownsRow w.heap.size 3 1 (.slice a13 x10.length z12) x10.length (HelpInt.iv x10)) ∧ Hid (wr.ownsRow w.heap.size 3 1 (.slice d13 y10.length c13) y10.length (HelpInt.iv y10)))
                      case first =>
                       as_aux_lemma =>
                        replace H := let_hid H; obtain ⟨p19, l22, H⟩ := H; replace H := join_hid H
                        cases p19 with
                        | false =>
                         replace H := ite_f H; replace H := app_hid H; go_wp2_with fail
                         go_meet
                         case rel => exact ⟨_, rfl, H, m15, l11, p11, m11, t11, v11, r11, o11, x11, c12, g12, b12, w11, y11, z11, f12, s11, i11, n11, b10, a10, c10, e10⟩
                        | true =>
                         replace H := ite_t H; replace H := let_hid H; obtain ⟨z19, r20, H⟩ := H; replace H := app_hid H; go_wp2_with fail
                         go_meet
                         case rel => exact ⟨_, rfl, H, m15, l11, p11, m11, t11, v11, r11, o11, x11, c12, g12, b12, w11, y11, z11, f12, s11, i11, n11, b10, a10, c10, e10⟩
                      case rest =>
                       as_aux_lemma =>
                        obtain ⟨c15, rfl, H, e19, l11, p11, m11, t11, v11, r11, o11, x11, c12, g12, b12, w11, y11, z11, f12, s11, i11, n11, b10, a10, c10, e10⟩ := hcut; rename World => wq8; unfold q8 at H; replace H := let_hid H; obtain ⟨_, rfl, H⟩ := H; obtain rfl := ret_hid H; go_wp2_with fail; go_ret; exact ⟨rfl, e19.out⟩
                     | true =>
                      replace H := ite_t H; obtain rfl := ret_hid H; go_wp2_with fail; go_ret; exact ⟨rfl, a15.out⟩
                  | true =>
                   replace H := ite_t H; obtain rfl := ret_hid H; go_wp2_with fail; go_ret; exact ⟨rfl, h14.out⟩
             | true =>
              replace H := ite_t H; obtain rfl := ret_hid H; go_wp2_with fail; go_ret; exact ⟨rfl, l15.out⟩
          | true =>
           replace H := ite_t H; obtain rfl := ret_hid H; go_wp2_with fail; go_ret; exact ⟨rfl, h13.out⟩
       | true =>
        replace H := ite_t H; obtain rfl := ret_hid H; go_wp2_with fail; go_ret; exact ⟨rfl, z14.out⟩
    | true =>
     replace H := ite_t H; obtain rfl := ret_hid H; go_wp2_with fail; go_ret; exact ⟨rfl, q17.out⟩
 | true =>
  replace H := ite_t H; obtain rfl := ret_hid H; go_wp2_with fail; go_ret; exact ⟨rfl, v13.out⟩
end Go.Proofs.Ytgbcdmlcmnaimaa.GlFnCovers

namespace Go.Proofs.Ytgbcdmlcmnaimaa.Q10Text
open Go.RowKit
open Go.Proofs.Ytgbcdmlcmnaimaa.GoP Go.Proofs.Ytgbcdmlcmnaimaa.PlainStamp Go.Proofs.Ytgbcdmlcmnaimaa.QBase Go.Proofs.Ytgbcdmlcmnaimaa.QLoop

theorem text_same (n : Int) : ∃ a b, GiFaultText.P n = some (a, b) ∧ GsFaultText.P n = some (a, b) := by
  simp only [GiFaultText.P, GsFaultText.P, within_eq, l1In_eq, Option.bind_some, letK, iteK_if]
  cases hb : inB n 0 5 with
  | false => exact ⟨_, _, rfl, rfl⟩
  | true =>
    have h := inB_of hb
    obtain ⟨k, rfl⟩ : ∃ k : Nat, n = (k : Int) := ⟨n.toNat, by omega⟩
    simp only [Bool.not_true, Bool.false_eq_true, if_false, idx_nat]
    have hk : k < 6 := by omega
    rcases k with _ | _ | _ | _ | _ | _ | k
    · exact ⟨_, _, rfl, rfl⟩
    · exact ⟨_, _, rfl, rfl⟩
    · exact ⟨_, _, rfl, rfl⟩
    · exact ⟨_, _, rfl, rfl⟩
    · exact ⟨_, _, rfl, rfl⟩
    · exact ⟨_, _, rfl, rfl⟩
    · omega
end Go.Proofs.Ytgbcdmlcmnaimaa.Q10Text

namespace Go.Proofs.Ytgbcdmlcmnaimaa.Q9Leave
open Go.RowKit
open Go.Proofs.Ytgbcdmlcmnaimaa.GoP Go.Proofs.Ytgbcdmlcmnaimaa.PlainStamp Go.Proofs.Ytgbcdmlcmnaimaa.QBase Go.Proofs.Ytgbcdmlcmnaimaa.Q9Late Go.Proofs.Ytgbcdmlcmnaimaa.Q9Early Go.Proofs.Ytgbcdmlcmnaimaa.QFoldS Go.Proofs.Ytgbcdmlcmnaimaa.Q9Cand Go.Proofs.Ytgbcdmlcmnaimaa.Q9Dual Go.Proofs.Ytgbcdmlcmnaimaa.Q9Arr Go.Proofs.Ytgbcdmlcmnaimaa.Q9List Go.Proofs.Ytgbcdmlcmnaimaa.Q9Mail Go.Proofs.Ytgbcdmlcmnaimaa.QUp Go.Proofs.Ytgbcdmlcmnaimaa.QAll Go.Proofs.Ytgbcdmlcmnaimaa.QLoop Go.Proofs.Ytgbcdmlcmnaimaa.PMail Go.Proofs.Ytgbcdmlcmnaimaa.PIntA10

def leaveRes (l : List Mail) (o p b : Int) : Int × Bool := if goodM l = true ∧ inB o 0 9 = true ∧ inB p 0 9 = true ∧ o ≠ p ∧ inB b 0 9999 = true ∧ at_ (lateM l p b) o ≠ -1 then (at_ (lateM l p b) o, true) else (0, false)
theorem leave_test {l : List Mail} (hg : goodM l = true) {o p b : Int} (hp : 0 ≤ p ∧ p ≤ 9) (hb : 0 ≤ b ∧ b ≤ 9999) {k : Nat} {x : Mail} (hx : l[k]? = some x) :
    (x.from_ = o ∧ x.arrive ≤ b ∧ at_ (earlyM l x.to_ x.arrive) p ≤ b) ↔ x.from_ = o ∧ x.arrive ≤ at_ (lateM (l.drop (k + 1)) p b) x.to_ := by
  have hm := okM_of (m_ok hg hx)
  rw [dual hg hm.2.1 hp (by omega) hb.2, ← late_behind hg hx p b]
  constructor
  · rintro ⟨h1, _, h2⟩; exact ⟨h1, h2⟩
  · rintro ⟨h1, h2⟩
    refine ⟨h1, ?_, h2⟩
    have h3 := (dual hg hm.2.1 hp (by omega) hb.2).2 h2
    have h4 := early_low hg hm.2.1 (m := x.arrive) (by omega) hp
    omega
/-- what is told by the last mail that leads on -/
theorem leave_last {l : List Mail} (hg : goodM l = true) {o p b : Int} {k : Nat} {x : Mail} (hx : l[k]? = some x) (h1 : x.from_ = o) (h2 : x.arrive ≤ at_ (lateM (l.drop (k + 1)) p b) x.to_) (h3 : at_ (lateM (l.drop (k + 1)) p b) o = -1) : at_ (lateM l p b) o = x.leave := by
  have hok := m_ok hg hx
  have hm := okM_of hok
  have hd := late_len (l.drop (k + 1)) p b
  subst h1
  have hs : at_ (stepL x (lateM (l.drop (k + 1)) p b)) x.from_ = x.leave := by
    rw [stepL_at hd hok hm.1, if_pos ⟨h2, rfl⟩, h3]; omega
  have hmem : ∀ y ∈ l.take k, okM y = true := fun y hy => m_mem hg (List.mem_of_mem_take hy)
  have h5 := foldL_up (l.take k) hmem hm.1 (t := stepL x (lateM (l.drop (k + 1)) p b)) (by rw [stepL_len, hd])
  have h6 := foldL_top (l.take k) hmem (aheadM hg hx) hm.1 (t := stepL x (lateM (l.drop (k + 1)) p b)) (by rw [stepL_len, hd])
  rw [late_cut hx p b]
  omega
theorem leave_spec {fuel : Nat} (l : List Mail) (hl : l.length ≤ 9223372036854775807) (o p b : Int) (hf : 20 < fuel) : GsLatestLeave.P fuel l o p b = some (leaveRes l o p b) := by
  simp only [GsLatestLeave.P, l9Asked_eq l hl, l9Office_eq, Option.bind_some, letK, joinK, appK, iteK_if]
  cases ha : askM l o b with
  | false =>
    have : leaveRes l o p b = (0, false) := by
      unfold leaveRes; rw [if_neg]
      rintro ⟨h1, h2, _, _, h3, _⟩
      unfold askM at ha; rw [h1, h2, h3] at ha; exact absurd ha (by simp)
    simp [this]
  | true =>
    obtain ⟨hg, ho, hb⟩ := ask_of ha
    have ha' := ha
    unfold askM at ha'
    simp only [Bool.and_eq_true] at ha'
    obtain ⟨⟨_, ho1⟩, hb1⟩ := ha'
    cases hp : inB p 0 9 with
    | false => simp [leaveRes, hp]
    | true =>
      have hp2 := inB_of hp
      by_cases he : o = p
      · simp [he, leaveRes]
      · have he2 : (o == p) = false := by simpa using he
        have hlen := m_len hg
        simp only [Bool.not_true, Bool.false_eq_true, if_false, he2]
        rw [wrap_in (by omega) (by omega)]
        refine lp_is (n := l.length) _ (fun k (s : Int) => s = (l.length : Int) - 1 - (k : Int) ∧ at_ (lateM (l.drop (l.length - k)) p b) o = -1) ?_ ?_ fuel 0 _ (by omega) (by omega) ?_
        · rintro k s nx hk ⟨rfl, hI⟩ hn
          have hq : l.length - k - 1 < l.length := by omega
          obtain ⟨x, hx⟩ : ∃ x, l[l.length - k - 1]? = some x := ⟨_, List.getElem?_eq_getElem hq⟩
          have hxe : l[l.length - k - 1] = x := by rw [List.getElem?_eq_getElem hq] at hx; exact Option.some.inj hx
          have hi : idx l ((l.length : Int) - 1 - (k : Int)) = some x := by
            rw [show (l.length : Int) - 1 - (k : Int) = ((l.length - k - 1 : Nat) : Int) by omega, idx_nat, hx]
          have hok := m_ok hg hx
          have hm := okM_of hok
          have hd : lateM (l.drop (l.length - (k + 1))) p b = stepL x (lateM (l.drop (l.length - k)) p b) := by
            unfold lateM
            rw [show l.length - (k + 1) = l.length - k - 1 by omega, List.drop_eq_getElem_cons hq, List.foldr_cons, hxe, show l.length - k - 1 + 1 = l.length - k by omega]
          have ht := leave_test hg hp2 hb hx (o := o)
          have hll := leave_last hg hx (o := o) (p := p) (b := b)
          rw [show l.length - k - 1 + 1 = l.length - k by omega] at ht hll
          have h0 : (0 : Int) ≤ (l.length : Int) - 1 - (k : Int) := by omega
          have hn2 := fun h => hn ((l.length : Int) - 1 - (k : Int) - 1) ⟨by omega, h⟩
          have ht1 := times_eq hg hm.2.1 x.arrive
          have hat := stepL_at (i := o) (late_len (l.drop (l.length - k)) p b) hok ho
          rw [hd] at hn2
          clear hx hxe hd
          obtain ⟨a, c, d, e⟩ := x
          dsimp only at hm ht hll ht1 hat
          have no : ¬ (c = o ∧ e ≤ b ∧ at_ (earlyM l d e) p ≤ b) → at_ (stepL ⟨a, c, d, e⟩ (lateM (l.drop (l.length - k)) p b)) o = -1 := by
            intro h
            rw [hat, if_neg (fun q => h (ht.2 ⟨q.2.symm, q.1⟩)), hI]
          simp only [GsLatestLeave.l0, letK, decide_eq_true h0, iteK_if, if_true, hi, Option.bind_some, unMail, joinK, appK]
          rw [wrap_in (by omega) (by omega)]
          by_cases h1 : c = o
          · by_cases h2 : e ≤ b
            · simp only [beq_iff_eq, h1, if_true, decide_eq_true h2, ht1, Option.bind_some, idx_at (early_len l d e) hp2]
              by_cases h3 : at_ (earlyM l d e) p ≤ b
              · have h4 := hll h1 (ht.1 ⟨h1, h2, h3⟩).2 hI
                have h5 : ¬ a = -1 := by omega
                simp [h3, leaveRes, hg, ho1, hp, he, hb1, h4, h5]
              · simp only [decide_eq_false h3, Bool.false_eq_true, if_false]
                exact hn2 (no (fun q => h3 q.2.2))
            · simp only [beq_iff_eq, h1, if_true, decide_eq_false h2, Bool.false_eq_true, if_false]
              exact hn2 (no (fun q => h2 q.2.1))
          · have h1' : (c == o) = false := by simpa using h1
            simp only [h1', Bool.false_eq_true, if_false]
            exact hn2 (no (fun q => h1 q.1))
        · rintro s nx ⟨rfl, hI⟩
          have h0 : ¬ (0 : Int) ≤ (l.length : Int) - 1 - (l.length : Int) := by omega
          rw [Nat.sub_self, List.drop_zero] at hI
          simp only [GsLatestLeave.l0, letK, decide_eq_false h0, iteK_if, Bool.false_eq_true, if_false, appK, GsLatestLeave.e0]
          simp [leaveRes, hI]
        · refine ⟨by simp, ?_⟩
          rw [Nat.sub_zero, List.drop_length]
          show at_ (startL p b) o = -1
          rw [startL_at hp2 ho, if_neg he]
end Go.Proofs.Ytgbcdmlcmnaimaa.Q9Leave

namespace Go.Proofs.Ytgbcdmlcmnaimaa.Q10Spare
open Go.RowKit
open Go.Proofs.Ytgbcdmlcmnaimaa.GoP Go.Proofs.Ytgbcdmlcmnaimaa.PlainStamp Go.Proofs.Ytgbcdmlcmnaimaa.QBase Go.Proofs.Ytgbcdmlcmnaimaa.Q10Cover Go.Proofs.Ytgbcdmlcmnaimaa.Q9Leave Go.Proofs.Ytgbcdmlcmnaimaa.Q9Late Go.Proofs.Ytgbcdmlcmnaimaa.Q9Dual Go.Proofs.Ytgbcdmlcmnaimaa.Q9Arr Go.Proofs.Ytgbcdmlcmnaimaa.Q9List Go.Proofs.Ytgbcdmlcmnaimaa.QLoop Go.Proofs.Ytgbcdmlcmnaimaa.PCover Go.Proofs.Ytgbcdmlcmnaimaa.PMail Go.Proofs.Ytgbcdmlcmnaimaa.PIntA10

def spareRes (ms : List Mail) (x : Cover) : Int × Bool := if (goodM ms && okC x && decide (x.leave ≤ at_ (lateM ms x.to_ x.arrive) x.from_)) = true then (at_ (lateM ms x.to_ x.arrive) x.from_ - x.leave, true) else (0, false)
theorem spare_impl {fuel : Nat} {ms : List Mail} (hl : ms.length ≤ 9223372036854775807) (x : Cover) (hf : 20 < fuel) : GiSpareMinutes.P fuel ms x = some (spareRes ms x) := by
  have e1 := isCover_eq x
  have hof := fun h => okC_of (x := x) h
  obtain ⟨a, b, c, d, e, f, g, h, i⟩ := x
  simp only [GiSpareMinutes.P, unCover, isTime_eq ms hl, e1, Option.bind_some, letK, joinK, appK, iteK_if, spareRes]
  cases hm : goodM ms with
  | false => simp
  | true =>
    cases hc : okC ⟨a, b, c, d, e, f, g, h, i⟩ with
    | false => simp
    | true =>
      have ho := hof hc
      dsimp only at ho
      have htop := late_top hm (o := g) (m := i) (i := f) (by omega) (by omega) (by omega)
      simp only [Bool.not_true, Bool.false_eq_true, if_false, latest_eq hm (show 0 ≤ g ∧ g ≤ 9 by omega) i hf, Option.bind_some, un_eq, ten (late_len ms g i), idx_at (late_len ms g i) (show 0 ≤ f ∧ f ≤ 9 by omega)]
      by_cases h0 : h ≤ at_ (lateM ms g i) f
      · have h1 : ¬ at_ (lateM ms g i) f < h := by omega
        rw [wrap_in (by omega) (by omega)]
        simp [h0, h1]
      · have h1 : at_ (lateM ms g i) f < h := by omega
        simp [h0, h1]
theorem spare_spec {fuel : Nat} {ms : List Mail} (hl : ms.length ≤ 9223372036854775807) (x : Cover) (hf : 20 < fuel) : GsSpareMinutes.P fuel ms x = some (spareRes ms x) := by
  have e1 := l10One_eq x
  have hof := fun h => okC_of (x := x) h
  have e2 := leave_spec (fuel := fuel) ms hl x.from_ x.to_ x.arrive hf
  obtain ⟨a, b, c, d, e, f, g, h, i⟩ := x
  dsimp only at e2
  simp only [GsSpareMinutes.P, unCover, l9Good_eq ms hl, e1, e2, Option.bind_some, letK, joinK, appK, iteK_if, spareRes]
  cases hm : goodM ms with
  | false => simp
  | true =>
    cases hc : okC ⟨a, b, c, d, e, f, g, h, i⟩ with
    | false => simp
    | true =>
      have ho := hof hc
      dsimp only at ho
      have htop := late_top hm (o := g) (m := i) (i := f) (by omega) (by omega) (by omega)
      have b1 : inB f 0 9 = true := by unfold inB; simp; omega
      have b2 : inB g 0 9 = true := by unfold inB; simp; omega
      have b3 : inB i 0 9999 = true := by unfold inB; simp; omega
      have hfg : f ≠ g := ho.2.2.2.2.2.1
      have hL : leaveRes ms f g i = if at_ (lateM ms g i) f = -1 then (0, false) else (at_ (lateM ms g i) f, true) := by
        unfold leaveRes
        by_cases hn : at_ (lateM ms g i) f = -1
        · rw [if_pos hn, if_neg (fun q => q.2.2.2.2.2 hn)]
        · rw [if_neg hn, if_pos ⟨hm, b1, b2, hfg, b3, hn⟩]
      simp only [hL]
      by_cases hn : at_ (lateM ms g i) f = -1
      · have h1 : ¬ h ≤ at_ (lateM ms g i) f := by omega
        simp [bind2, h1, hn]
        omega
      · rw [if_neg hn]
        simp only [bind2_some, Bool.not_true, Bool.false_eq_true, if_false]
        by_cases h0 : h ≤ at_ (lateM ms g i) f
        · have h1 : ¬ at_ (lateM ms g i) f < h := by omega
          rw [wrap_in (by omega) (by omega)]
          simp [h0, h1]
        · have h1 : at_ (lateM ms g i) f < h := by omega
          simp [h0, h1]
end Go.Proofs.Ytgbcdmlcmnaimaa.Q10Spare

namespace Go.Proofs.Ytgbcdmlcmnaimaa.Q5Most
open Go.RowKit
open Go.Proofs.Ytgbcdmlcmnaimaa.GoP Go.Proofs.Ytgbcdmlcmnaimaa.PlainStamp Go.Proofs.Ytgbcdmlcmnaimaa.QBase Go.Proofs.Ytgbcdmlcmnaimaa.QLoop

theorem most_is (a b : Int) : GsL1Most.P a b = some (max a b) := by
  simp only [GsL1Most.P, letK, iteK_if]
  by_cases h : b < a
  · rw [if_pos (by simpa using h)]; congr 1; omega
  · rw [if_neg (by simpa using h)]; congr 1; omega
end Go.Proofs.Ytgbcdmlcmnaimaa.Q5Most

namespace Go.Proofs.Ytgbcdmlcmnaimaa.Q10Due
open Go.RowKit
open Go.Proofs.Ytgbcdmlcmnaimaa.GoP Go.Proofs.Ytgbcdmlcmnaimaa.PlainStamp Go.Proofs.Ytgbcdmlcmnaimaa.QBase Go.Proofs.Ytgbcdmlcmnaimaa.Q10Fault Go.Proofs.Ytgbcdmlcmnaimaa.Q10Cover Go.Proofs.Ytgbcdmlcmnaimaa.Q8For Go.Proofs.Ytgbcdmlcmnaimaa.Q8List Go.Proofs.Ytgbcdmlcmnaimaa.Q8Rate Go.Proofs.Ytgbcdmlcmnaimaa.Q5Most Go.Proofs.Ytgbcdmlcmnaimaa.QLoop Go.Proofs.Ytgbcdmlcmnaimaa.PCover Go.Proofs.Ytgbcdmlcmnaimaa.PRate

def dueRes (rs : List Rate) (x : Cover) : Int × Bool := if (okRs rs && okC x && decide (rateC rs x ≠ 0)) = true then (2 * max (rateC rs x - x.paid) 0, true) else (0, false)
theorem due_impl (rs : List Rate) (x : Cover) (hr : rs.length ≤ 9223372036854775807) : GiDueOn.P rs x = some (dueRes rs x) := by
  have e1 := isCover_eq x
  have ht : GiRateOfCover.P rs x = some (rateC rs x) := by
    obtain ⟨a, b, c, d, e, f, g, h, i⟩ := x
    simp only [GiRateOfCover.P, unCover, rateOn_eq, Option.bind_some, letK, rateC]
  have hle := fun h => rateC_le (rs := rs) h x
  have hof := fun h => okC_of (x := x) h
  obtain ⟨a, b, c, d, e, f, g, h, i⟩ := x
  simp only [GiDueOn.P, unCover, areRates_eq rs hr, e1, ht, Option.bind_some, letK, joinK, appK, iteK_if, dueRes]
  cases ha : okRs rs with
  | false => simp
  | true =>
    cases hc : okC ⟨a, b, c, d, e, f, g, h, i⟩ with
    | false => simp
    | true =>
      have hl := hle ha
      have ho := hof hc
      dsimp only at ho
      rw [wrap_in (x := rateC rs ⟨a, b, c, d, e, f, g, h, i⟩ - e) (by omega) (by omega), wrap_in (by omega) (by omega)]
      by_cases h0 : rateC rs ⟨a, b, c, d, e, f, g, h, i⟩ = 0 <;> simp [h0]
theorem due_spec {fuel : Nat} (rs : List Rate) (x : Cover) (hr : rs.length ≤ 9223372036854775807) (hf : 17 < fuel) : GsDueOn.P fuel rs x = some (dueRes rs x) := by
  have e1 := l10One_eq x
  have ht : GsL8For.P rs x.day x.zone x.grams = some (rateC rs x) := l8For_eq _ _ _ _
  have hle := fun h => rateC_le (rs := rs) h x
  have hof := fun h => okC_of (x := x) h
  obtain ⟨a, b, c, d, e, f, g, h, i⟩ := x
  dsimp only at ht
  simp only [GsDueOn.P, unCover, l8Good_eq rs hr hf, e1, ht, Option.bind_some, letK, joinK, appK, iteK_if, dueRes, most_is]
  cases ha : okRs rs with
  | false => simp
  | true =>
    cases hc : okC ⟨a, b, c, d, e, f, g, h, i⟩ with
    | false => simp
    | true =>
      have hl := hle ha
      have ho := hof hc
      dsimp only at ho
      rw [wrap_in (x := rateC rs ⟨a, b, c, d, e, f, g, h, i⟩ - e) (by omega) (by omega), wrap_in (by omega) (by omega), show max 0 (rateC rs ⟨a, b, c, d, e, f, g, h, i⟩ - e) = max (rateC rs ⟨a, b, c, d, e, f, g, h, i⟩ - e) 0 by omega]
      by_cases h0 : rateC rs ⟨a, b, c, d, e, f, g, h, i⟩ = 0 <;> simp [h0]
end Go.Proofs.Ytgbcdmlcmnaimaa.Q10Due

namespace Go.Proofs.Ytgbcdmlcmnaimaa.QL10FnCovers
open Go.RowKit
open Go.Proofs.Ytgbcdmlcmnaimaa.GoP Go.Proofs.Ytgbcdmlcmnaimaa.PlainStamp Go.Proofs.Ytgbcdmlcmnaimaa.QBase Go.Proofs.Ytgbcdmlcmnaimaa.Q10DrawsF Go.Proofs.Ytgbcdmlcmnaimaa.QDraw Go.Proofs.Ytgbcdmlcmnaimaa.Q10Text Go.Proofs.Ytgbcdmlcmnaimaa.Q10Spare Go.Proofs.Ytgbcdmlcmnaimaa.Q10Route Go.Proofs.Ytgbcdmlcmnaimaa.Q10Due Go.Proofs.Ytgbcdmlcmnaimaa.Q10FaultOf Go.Proofs.Ytgbcdmlcmnaimaa.Q10Fault Go.Proofs.Ytgbcdmlcmnaimaa.Q10Cover Go.Proofs.Ytgbcdmlcmnaimaa.Q8List Go.Proofs.Ytgbcdmlcmnaimaa.Q9End Go.Proofs.Ytgbcdmlcmnaimaa.Q9Best Go.Proofs.Ytgbcdmlcmnaimaa.Q9At Go.Proofs.Ytgbcdmlcmnaimaa.Q9Late Go.Proofs.Ytgbcdmlcmnaimaa.Q9Early Go.Proofs.Ytgbcdmlcmnaimaa.Q9Dual Go.Proofs.Ytgbcdmlcmnaimaa.Q9Arr Go.Proofs.Ytgbcdmlcmnaimaa.Q9List Go.Proofs.Ytgbcdmlcmnaimaa.QVInts Go.Proofs.Ytgbcdmlcmnaimaa.QLoop Go.Proofs.Ytgbcdmlcmnaimaa.PCover Go.Proofs.Ytgbcdmlcmnaimaa.PRate Go.Proofs.Ytgbcdmlcmnaimaa.PMail

theorem q7_yes {tapes : List Int → GoC.Tape} (ht : GoC.Tells tapes) (code : List Int) : GlFnCovers.q7 code tapes () = some true := by
  obtain ⟨x, e⟩ := drawIs_ok ht code
  obtain ⟨n, e2⟩ := drawText_ok ht code
  obtain ⟨a, b, h1, h2⟩ := text_same n
  have i1 := isCover_eq x
  have i2 : GsIsCover.P x = some (okC x) := by
    have := l10One_eq x
    obtain ⟨a, b, c, d, e, f, g, h, i⟩ := x
    simp only [GsIsCover.P, unCover, this, Option.bind_some]
  obtain ⟨x0, x1, x2, x3, x4, x5, x6, x7, x8⟩ := x
  simp [GlFnCovers.q7, GlFnCovers.q8, e, unCover, i1, i2, e2, h1, h2, bind2, letK, joinK, appK, iteK_if]
theorem law_covers {fuel : Nat} {tapes : List Int → GoC.Tape} (ht : GoC.Tells tapes) (code : List Int) (hf : 1048577 ≤ fuel) : GlFnCovers.P fuel tapes code = some true := by
  simp only [GlFnCovers.P, GlVBig.P, Option.bind_some, letK, iteK_if]
  by_cases hb : (65536 : Int) < (code.length : Int)
  · rw [if_pos (by simpa using hb)]
  · rw [if_neg (by simpa using hb)]
    obtain ⟨rs, ms, x, e, hr, hm⟩ := drawFault_ok ht code fuel hf
    have h7 := q7_yes ht code
    have i1 := faultOf_impl rs ms x (by omega) (by omega)
    have i2 := faultOf_spec (fuel := fuel) rs ms x (by omega) (by omega) (by omega)
    have i3 := due_impl rs x (by omega)
    have i4 := due_spec (fuel := fuel) rs x (by omega) (by omega)
    obtain ⟨r, ok, i5, i6, hlen, hok, hend, hnil⟩ := route_both (fuel := fuel) (ms := ms) (by omega) x (by omega)
    have i7 := spare_impl (fuel := fuel) (ms := ms) (by omega) x (by omega)
    have i8 := spare_spec (fuel := fuel) (ms := ms) (by omega) x (by omega)
    have hfr := fault_range rs ms x
    cases hfine : ok with
    | false =>
      rw [hfine] at i5 i6 hok
      have s1 : spareRes ms x = (0, false) := by
        unfold spareRes
        rw [if_neg]
        intro h
        simp only [Bool.and_eq_true, decide_eq_true_eq] at h
        obtain ⟨⟨hg, hc⟩, hle⟩ := h
        have ho := okC_of hc
        have := (dual hg (o := x.from_) (m := x.leave) (p := x.to_) (b := x.arrive) (by omega) (by omega) (by omega) (by omega)).2 hle
        rw [hg, hc] at hok
        have h2 : endV ms x ≤ x.arrive := this
        simp [h2] at hok
      rw [s1] at i7 i8
      have f1 : faultRes rs ms x = (0, false) ∨ ∃ v, faultRes rs ms x = (v, true) ∧ v ≠ 0 := by
        unfold faultRes askB
        cases hA : okRs rs with
        | false => left; simp
        | true =>
          cases hB : goodM ms with
          | false => left; simp
          | true =>
            cases hC : okC x with
            | false => left; simp
            | true =>
              right
              refine ⟨_, by simp; rfl, ?_⟩
              rw [hB, hC] at hok
              have hgt : ¬ endV ms x ≤ x.arrive := by intro h; simp [h] at hok
              unfold faultV
              repeat' split
              all_goals omega
      obtain ⟨⟨d, dk⟩, hd⟩ : ∃ z, z = dueRes rs x := ⟨_, rfl⟩
      rw [← hd] at i3 i4
      rcases f1 with f1 | ⟨v, f1, hv⟩
      · rw [f1] at i1 i2
        obtain ⟨x0, x1, x2, x3, x4, x5, x6, x7, x8⟩ := x
        simp [GlFnCovers.q0, GlFnCovers.q1, GlFnCovers.q2, GlFnCovers.q3, GlFnCovers.q4, GlFnCovers.q5, GlFnCovers.q6, e, bind3, unCover, i1, i2, i3, i4, i5, i6, i7, i8, bind2, vInts_self, h7, letK, joinK, appK, iteK_if]
      · rw [f1] at i1 i2
        obtain ⟨x0, x1, x2, x3, x4, x5, x6, x7, x8⟩ := x
        simp [GlFnCovers.q0, GlFnCovers.q1, GlFnCovers.q2, GlFnCovers.q3, GlFnCovers.q4, GlFnCovers.q5, GlFnCovers.q6, e, bind3, unCover, i1, i2, i3, i4, i5, i6, i7, i8, bind2, vInts_self, h7, hv, letK, joinK, appK, iteK_if]
    | true =>
      rw [hfine] at i5 i6 hok
      have hE := hend hfine
      have hall : goodM ms = true ∧ okC x = true ∧ endV ms x ≤ x.arrive := by
        have h := hok.symm
        simp only [Bool.and_eq_true, decide_eq_true_eq] at h
        exact ⟨h.1.1, h.1.2, h.2⟩
      obtain ⟨hg, hc, hle⟩ := hall
      have ho := okC_of hc
      have hdual := dual hg (o := x.from_) (m := x.leave) (p := x.to_) (b := x.arrive) (by omega) (by omega) (by omega) (by omega)
      have hlate := hdual.1 hle
      obtain ⟨v, hv⟩ : ∃ v, v = at_ (lateM ms x.to_ x.arrive) x.from_ := ⟨_, rfl⟩
      rw [← hv] at hlate
      have htop := late_top hg (o := x.to_) (m := x.arrive) (i := x.from_) (by omega) (by omega) (by omega)
      rw [← hv] at htop
      have s1 : spareRes ms x = (v - x.leave, true) := by
        unfold spareRes
        rw [← hv, hg, hc, if_pos (by simp [hlate])]
      rw [s1] at i7 i8
      have hask : askM ms x.from_ x.leave = true := by unfold askM; rw [hg]; unfold inB; simp; omega
      have i9 := Q9End.end_impl ms (by omega) x.from_ x.leave r
      have r9 : endA ms x.from_ x.leave r = (x.to_, endV ms x, true) := by simp [endA, hask, hE]
      rw [r9] at i9
      have d2 := (dual hg (o := x.from_) (m := v) (p := x.to_) (b := x.arrive) (by omega) (by omega) (by omega) (by omega)).2 (by rw [hv]; exact Int.le_refl _)
      have low2 := early_low hg (o := x.from_) (m := v) (i := x.to_) (by omega) (by omega) (by omega)
      have hc2 : okC ⟨x.id, x.day, x.zone, x.grams, x.paid, x.from_, x.to_, v, x.arrive⟩ = true := by
        have h := hc
        simp only [okC, Bool.and_eq_true, decide_eq_true_eq] at h ⊢
        obtain ⟨⟨⟨h1, h2⟩, h3⟩, h4⟩ := h
        refine ⟨⟨⟨h1, ?_⟩, h3⟩, by omega⟩
        unfold inB; simp; omega
      obtain ⟨r2, ok2, j5, _, _, hok2, _, _⟩ := route_both (fuel := fuel) (ms := ms) (by omega) ⟨x.id, x.day, x.zone, x.grams, x.paid, x.from_, x.to_, v, x.arrive⟩ (by omega)
      have hok3 : ok2 = true := by
        rw [hok2, hg, hc2]
        have : endV ms ⟨x.id, x.day, x.zone, x.grams, x.paid, x.from_, x.to_, v, x.arrive⟩ ≤ x.arrive := d2
        simp [this]
      subst hok3
      have hw : IntKind.i64.wrap (x.leave + (v - x.leave)) = v := by rw [wrap_in (by omega) (by omega)]; omega
      have hna : ¬ x.arrive < endV ms x := by omega
      obtain ⟨⟨q, qk⟩, hq⟩ : ∃ z, z = faultRes rs ms x := ⟨_, rfl⟩
      have hdue : q = 0 → qk = true → dueRes rs x = (0, true) := by
        intro h0 h1
        rw [h0, h1] at hq
        unfold faultRes askB at hq
        cases hA : okRs rs with
        | false => rw [hA] at hq; simp at hq
        | true =>
          rw [hA, hg, hc] at hq
          simp only [Bool.and_self, if_true, Prod.mk.injEq, and_true] at hq
          unfold faultV at hq
          unfold dueRes
          rw [hA, hc]
          by_cases k1 : rateC rs x = 0
          · rw [if_pos k1] at hq; omega
          · by_cases k2 : x.paid < rateC rs x
            · rw [if_neg k1, if_pos k2] at hq; omega
            · simp [k1]; omega
      rw [← hq] at i1 i2
      obtain ⟨⟨d, dk⟩, hd⟩ : ∃ z, z = dueRes rs x := ⟨_, rfl⟩
      rw [← hd] at i3 i4 hdue
      obtain ⟨x0, x1, x2, x3, x4, x5, x6, x7, x8⟩ := x
      dsimp only at i9 j5 hw hna
      have fin : (qk && (q == 0) && (!dk || (d != 0) || !true)) = false := by
        cases qk with
        | false => rfl
        | true =>
          by_cases h0 : q = 0
          · obtain ⟨rfl, rfl⟩ := Prod.mk.inj (hdue h0 rfl); simp
          · simp [h0]
      cases qk with
      | false => simp [GlFnCovers.q0, GlFnCovers.q1, GlFnCovers.q2, GlFnCovers.q3, GlFnCovers.q4, GlFnCovers.q5, GlFnCovers.q6, e, bind3, unCover, i1, i2, i3, i4, i5, i6, i7, i8, i9, j5, hw, hna, bind2, vInts_self, h7, letK, joinK, appK, iteK_if]
      | true =>
        by_cases h0 : q = 0
        · obtain ⟨rfl, rfl⟩ := Prod.mk.inj (hdue h0 rfl)
          simp [GlFnCovers.q0, GlFnCovers.q1, GlFnCovers.q2, GlFnCovers.q3, GlFnCovers.q4, GlFnCovers.q5, GlFnCovers.q6, e, bind3, unCover, i1, i2, i3, i4, i5, i6, i7, i8, i9, j5, hw, hna, bind2, vInts_self, h7, h0, letK, joinK, appK, iteK_if]
        · simp [GlFnCovers.q0, GlFnCovers.q1, GlFnCovers.q2, GlFnCovers.q3, GlFnCovers.q4, GlFnCovers.q5, GlFnCovers.q6, e, bind3, unCover, i1, i2, i3, i4, i5, i6, i7, i8, i9, j5, hw, hna, bind2, vInts_self, h7, h0, letK, joinK, appK, iteK_if]
end Go.Proofs.Ytgbcdmlcmnaimaa.QL10FnCovers

