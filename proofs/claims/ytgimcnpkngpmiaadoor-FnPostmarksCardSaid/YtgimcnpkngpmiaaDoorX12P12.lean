/- Texts on which the proofs of several laws stand, one behind the other (12 of 14). No condition of their own. -/
import Derived.Test.YtgimcnpkngpmiaaDoorChecked
import Derived.Test.YtgimcnpkngpmiaaDoorX12P1
import Derived.Test.YtgimcnpkngpmiaaDoorX12P2
import Derived.Test.YtgimcnpkngpmiaaDoorX12P3
import Derived.Test.YtgimcnpkngpmiaaDoorX12P5
import Derived.Test.YtgimcnpkngpmiaaDoorX12P6
import Derived.Test.YtgimcnpkngpmiaaDoorX12P7
import Derived.Test.YtgimcnpkngpmiaaDoorX12P8
import Derived.Test.YtgimcnpkngpmiaaDoorX12P9
import Derived.Test.YtgimcnpkngpmiaaDoorX12P10
import Derived.Test.YtgimcnpkngpmiaaDoorX12P11
import Derived.WalkKit
import Derived.WalkSpells
import Derived.WalkLawsBesides
import Derived.BigQuiet
import Derived.OwnWalk
import Derived.Deep.LoopGhost
import Derived.Deep.QuietTactic
import Derived.IntWalk
import Derived.Lib.QuietBelow
import Derived.Deep.DeepCutAuto
/- loop.example/g01062/laws.FnPostmarks as a plain function, and the contract of the program's: where the plain one has an answer, the program has it. Conditions: slices read as lists. -/
namespace Go.Proofs.YtgimcnpkngpmiaaDoor.GlFnPostmarks
set_option linter.unusedVariables false
set_option linter.unusedSimpArgs false
open Go.RowKit
open Go.Proofs.YtgimcnpkngpmiaaDoor.Rowed Go.Proofs.YtgimcnpkngpmiaaDoor.Turn Go.Proofs.YtgimcnpkngpmiaaDoor.Aid Go.Proofs.YtgimcnpkngpmiaaDoor.GoP Go.Proofs.YtgimcnpkngpmiaaDoor.GoM Go.Proofs.YtgimcnpkngpmiaaDoor.TabM

def q2 (nx0 : (Int) → Option (Bool)) (i_10l0 : Int) (s : Bool) : Option (Bool) :=
  letK s fun t_119q2 =>
  iteK t_119q2
  (some false)
  (letK (IntKind.i64.wrap (i_10l0 + 1)) fun (t_90 : Int) =>
  appK nx0 (t_90))

def q1 (t_5a : (List Go.Proofs.YtgimcnpkngpmiaaDoor.PPostmark.Postmark)) (t_16a : (List Go.Proofs.YtgimcnpkngpmiaaDoor.PPostmark.Postmark)) (nx0 : (Int) → Option (Bool)) (bk0 : (Int) → Option (Bool)) (i_10l0 : Int) (s : Bool) : Option (Bool) :=
  letK s fun t_82q1 =>
  iteK t_82q1
  (Option.bind (idx t_5a i_10l0) fun (yt_51 : Go.Proofs.YtgimcnpkngpmiaaDoor.PPostmark.Postmark) =>
  unPostmark yt_51 fun (t_51_id : Int) (t_51_town : ByteArray) (t_51_kind_ : Int) (t_51_first : Int) (t_51_last : Int) (t_51_lost : ByteArray) =>
  bind2 (Go.Proofs.YtgimcnpkngpmiaaDoor.GiShownBy.P (Go.Proofs.YtgimcnpkngpmiaaDoor.PPostmark.Postmark.mk t_51_id t_51_town t_51_kind_ t_51_first t_51_last t_51_lost)) fun (t_53a : ByteArray) (t_53b : Bool) =>
  Option.bind (idx t_5a i_10l0) fun (yt_63 : Go.Proofs.YtgimcnpkngpmiaaDoor.PPostmark.Postmark) =>
  unPostmark yt_63 fun (t_63_id : Int) (t_63_town : ByteArray) (t_63_kind_ : Int) (t_63_first : Int) (t_63_last : Int) (t_63_lost : ByteArray) =>
  bind2 (Go.Proofs.YtgimcnpkngpmiaaDoor.GiReadMarks.P t_16a t_53a t_63_first) fun (t_66a : (List Int)) (t_66b : Bool) =>
  letK (!t_53b) fun (t_73 : Bool) =>
  joinK (fun (t_77 : Bool) =>
  joinK (fun (t_87 : Bool) =>
  q2 nx0 i_10l0 (t_87)) fun jt_87 => iteK t_77 (appK jt_87 true) (Option.bind (idx t_5a i_10l0) fun (yt_82 : Go.Proofs.YtgimcnpkngpmiaaDoor.PPostmark.Postmark) =>
  unPostmark yt_82 fun (t_82_id : Int) (t_82_town : ByteArray) (t_82_kind_ : Int) (t_82_first : Int) (t_82_last : Int) (t_82_lost : ByteArray) =>
  Option.bind (Go.Proofs.YtgimcnpkngpmiaaDoor.GlRHas.P t_66a t_82_id) fun (t_85 : Bool) =>
  letK (!t_85) fun (t_86 : Bool) =>
  appK jt_87 t_86)) fun jt_77 => iteK t_73 (appK jt_77 true) (letK (!t_66b) fun (t_76 : Bool) =>
  appK jt_77 t_76))
  (appK bk0 (i_10l0))

def l0 (t_5a : (List Go.Proofs.YtgimcnpkngpmiaaDoor.PPostmark.Postmark)) (t_16a : (List Go.Proofs.YtgimcnpkngpmiaaDoor.PPostmark.Postmark)) (t_16b : Bool) (s : Int) (nx0 bk0 : Int → Option (Bool)) : Option (Bool) :=
  letK s fun i_10l0 =>
  letK (decide (i_10l0 < (t_5a.length : Int))) fun (t_45 : Bool) =>
  joinK (fun (t_48 : Bool) =>
  q1 t_5a t_16a nx0 bk0 i_10l0 (t_48)) fun jt_48 => iteK t_45 (appK jt_48 t_16b) (appK jt_48 false)

def q5 (nx1 : (Int) → Option (Bool)) (i_23l1 : Int) (s : Bool) : Option (Bool) :=
  letK s fun t_203q5 =>
  iteK t_203q5
  (some false)
  (letK (IntKind.i64.wrap (i_23l1 + 1)) fun (t_186 : Int) =>
  appK nx1 (t_186))

def q4 (t_93a : (List Go.Proofs.YtgimcnpkngpmiaaDoor.PPostmark.Postmark)) (t_93b : ByteArray) (t_101a : Int) (t_101b : Int) (nx1 : (Int) → Option (Bool)) (bk1 : (Int) → Option (Bool)) (i_23l1 : Int) (s : Bool) : Option (Bool) :=
  letK s fun t_158q4 =>
  iteK t_158q4
  (Option.bind (idx t_93a i_23l1) fun (yt_143 : Go.Proofs.YtgimcnpkngpmiaaDoor.PPostmark.Postmark) =>
  unPostmark yt_143 fun (t_143_id : Int) (t_143_town : ByteArray) (t_143_kind_ : Int) (t_143_first : Int) (t_143_last : Int) (t_143_lost : ByteArray) =>
  letK (t_143_town.toList == t_93b.toList) fun (t_147 : Bool) =>
  joinK (fun (t_156 : Bool) =>
  joinK (fun (t_183 : Bool) =>
  q5 nx1 i_23l1 (t_183)) fun jt_183 => iteK t_156 (appK jt_183 true) (Option.bind (idx t_93a i_23l1) fun (yt_160 : Go.Proofs.YtgimcnpkngpmiaaDoor.PPostmark.Postmark) =>
  unPostmark yt_160 fun (t_160_id : Int) (t_160_town : ByteArray) (t_160_kind_ : Int) (t_160_first : Int) (t_160_last : Int) (t_160_lost : ByteArray) =>
  letK (t_160_id == t_101a) fun (t_164 : Bool) =>
  joinK (fun (t_182 : Bool) =>
  appK jt_183 t_182) fun jt_182 => iteK t_164 (Option.bind (idx t_93a i_23l1) fun (yt_168 : Go.Proofs.YtgimcnpkngpmiaaDoor.PPostmark.Postmark) =>
  unPostmark yt_168 fun (t_168_id : Int) (t_168_town : ByteArray) (t_168_kind_ : Int) (t_168_first : Int) (t_168_last : Int) (t_168_lost : ByteArray) =>
  letK (!(t_168_town.toList == t_93b.toList)) fun (t_172 : Bool) =>
  joinK (fun (t_181 : Bool) =>
  appK jt_182 t_181) fun jt_181 => iteK t_172 (appK jt_181 true) (Option.bind (idx t_93a i_23l1) fun (yt_176 : Go.Proofs.YtgimcnpkngpmiaaDoor.PPostmark.Postmark) =>
  unPostmark yt_176 fun (t_176_id : Int) (t_176_town : ByteArray) (t_176_kind_ : Int) (t_176_first : Int) (t_176_last : Int) (t_176_lost : ByteArray) =>
  letK (t_176_last != t_101b) fun (t_180 : Bool) =>
  appK jt_181 t_180)) (appK jt_182 false))) fun jt_156 => iteK t_147 (Option.bind (idx t_93a i_23l1) fun (yt_151 : Go.Proofs.YtgimcnpkngpmiaaDoor.PPostmark.Postmark) =>
  unPostmark yt_151 fun (t_151_id : Int) (t_151_town : ByteArray) (t_151_kind_ : Int) (t_151_first : Int) (t_151_last : Int) (t_151_lost : ByteArray) =>
  letK (decide (t_101b < t_151_last)) fun (t_155 : Bool) =>
  appK jt_156 t_155) (appK jt_156 false))
  (appK bk1 (i_23l1))

def l1 (t_93a : (List Go.Proofs.YtgimcnpkngpmiaaDoor.PPostmark.Postmark)) (t_93b : ByteArray) (t_101a : Int) (t_101b : Int) (t_101c : Bool) (s : Int) (nx1 bk1 : Int → Option (Bool)) : Option (Bool) :=
  letK s fun i_23l1 =>
  letK (decide (i_23l1 < (t_93a.length : Int))) fun (t_137 : Bool) =>
  joinK (fun (t_140 : Bool) =>
  q4 t_93a t_93b t_101a t_101b nx1 bk1 i_23l1 (t_140)) fun jt_140 => iteK t_137 (appK jt_140 t_101c) (appK jt_140 false)

def q8  (s : Bool) : Option (Bool) :=
  letK s fun t_2q8 =>
  some t_2q8

def q7 (code : (List Int)) (fuel : Nat) (tapes : List Int → Go.Proofs.YtgimcnpkngpmiaaDoor.GoC.Tape) (s : Bool) : Option (Bool) :=
  letK s fun t_258q7 =>
  iteK t_258q7
  (some false)
  (bind3 (Go.Proofs.YtgimcnpkngpmiaaDoor.GsDrawReadMarks.P fuel tapes code) fun (t_255a : (List Go.Proofs.YtgimcnpkngpmiaaDoor.PPostmark.Postmark)) (t_255b : ByteArray) (t_255c : Int) =>
  bind2 (Go.Proofs.YtgimcnpkngpmiaaDoor.GiReadMarks.P t_255a t_255b t_255c) fun (t_266a : (List Int)) (t_266b : Bool) =>
  bind2 (Go.Proofs.YtgimcnpkngpmiaaDoor.GsReadMarks.P fuel t_255a t_255b t_255c) fun (t_275a : (List Int)) (t_275b : Bool) =>
  Option.bind (Go.Proofs.YtgimcnpkngpmiaaDoor.GsDrawShownBy.P fuel tapes code) fun (t_282 : Go.Proofs.YtgimcnpkngpmiaaDoor.PPostmark.Postmark) =>
  unPostmark t_282 fun (t_282_id : Int) (t_282_town : ByteArray) (t_282_kind_ : Int) (t_282_first : Int) (t_282_last : Int) (t_282_lost : ByteArray) =>
  bind2 (Go.Proofs.YtgimcnpkngpmiaaDoor.GiShownBy.P (Go.Proofs.YtgimcnpkngpmiaaDoor.PPostmark.Postmark.mk t_282_id t_282_town t_282_kind_ t_282_first t_282_last t_282_lost)) fun (t_286a : ByteArray) (t_286b : Bool) =>
  bind2 (Go.Proofs.YtgimcnpkngpmiaaDoor.GsShownBy.P fuel (Go.Proofs.YtgimcnpkngpmiaaDoor.PPostmark.Postmark.mk t_282_id t_282_town t_282_kind_ t_282_first t_282_last t_282_lost)) fun (t_293a : ByteArray) (t_293b : Bool) =>
  letK (t_266b == t_275b) fun (t_301 : Bool) =>
  joinK (fun (t_306 : Bool) =>
  joinK (fun (t_311 : Bool) =>
  joinK (fun (t_316 : Bool) =>
  joinK (fun (t_323 : Bool) =>
  joinK (fun (t_330 : Bool) =>
  q8  (t_330)) fun jt_330 => iteK t_323 (Option.bind (Go.Proofs.YtgimcnpkngpmiaaDoor.GiArePostmarks.P t_255a) fun (t_326 : Bool) =>
  Option.bind (Go.Proofs.YtgimcnpkngpmiaaDoor.GsArePostmarks.P fuel t_255a) fun (t_328 : Bool) =>
  letK (t_326 == t_328) fun (t_329 : Bool) =>
  appK jt_330 t_329) (appK jt_330 false)) fun jt_323 => iteK t_316 (Option.bind (Go.Proofs.YtgimcnpkngpmiaaDoor.GiIsPostmark.P (Go.Proofs.YtgimcnpkngpmiaaDoor.PPostmark.Postmark.mk t_282_id t_282_town t_282_kind_ t_282_first t_282_last t_282_lost)) fun (t_319 : Bool) =>
  Option.bind (Go.Proofs.YtgimcnpkngpmiaaDoor.GsIsPostmark.P fuel (Go.Proofs.YtgimcnpkngpmiaaDoor.PPostmark.Postmark.mk t_282_id t_282_town t_282_kind_ t_282_first t_282_last t_282_lost)) fun (t_321 : Bool) =>
  letK (t_319 == t_321) fun (t_322 : Bool) =>
  appK jt_323 t_322) (appK jt_323 false)) fun jt_316 => iteK t_311 (letK (t_286b == t_293b) fun (t_315 : Bool) =>
  appK jt_316 t_315) (appK jt_316 false)) fun jt_311 => iteK t_306 (letK (t_286a.toList == t_293a.toList) fun (t_310 : Bool) =>
  appK jt_311 t_310) (appK jt_311 false)) fun jt_306 => iteK t_301 (Option.bind (Go.Proofs.YtgimcnpkngpmiaaDoor.GlRInts.P t_266a t_275a) fun (t_305 : Bool) =>
  appK jt_306 t_305) (appK jt_306 false))

def q6 (code : (List Int)) (fuel : Nat) (tapes : List Int → Go.Proofs.YtgimcnpkngpmiaaDoor.GoC.Tape) (t_189a : (List Go.Proofs.YtgimcnpkngpmiaaDoor.PPostmark.Postmark)) (t_189b : Int) (t_189c : Int) (t_200a : Bool) (t_200b : Bool) (s : Bool) : Option (Bool) :=
  letK s fun t_231q6 =>
  iteK t_231q6
  (some false)
  (bind2 (Go.Proofs.YtgimcnpkngpmiaaDoor.GiSameTown.P t_189a t_189c t_189b) fun (t_227a : Bool) (t_227b : Bool) =>
  letK (!(t_227a == t_200a)) fun (t_235 : Bool) =>
  joinK (fun (t_240 : Bool) =>
  joinK (fun (t_252 : Bool) =>
  q7 code fuel tapes (t_252)) fun jt_252 => iteK t_240 (appK jt_252 true) (joinK (fun (t_247 : Bool) =>
  joinK (fun (t_251 : Bool) =>
  appK jt_252 t_251) fun jt_251 => iteK t_247 (letK (!t_200a) fun (t_250 : Bool) =>
  appK jt_251 t_250) (appK jt_251 false)) fun jt_247 => iteK t_200b (letK (t_189b == t_189c) fun (t_246 : Bool) =>
  appK jt_247 t_246) (appK jt_247 false))) fun jt_240 => iteK t_235 (appK jt_240 true) (letK (!(t_227b == t_200b)) fun (t_239 : Bool) =>
  appK jt_240 t_239))

def e1 (code : (List Int)) (fuel : Nat) (tapes : List Int → Go.Proofs.YtgimcnpkngpmiaaDoor.GoC.Tape) (s : Int) : Option (Bool) :=
  letK s fun i_23l1 =>
  bind3 (Go.Proofs.YtgimcnpkngpmiaaDoor.GsDrawSameTown.P fuel tapes code) fun (t_189a : (List Go.Proofs.YtgimcnpkngpmiaaDoor.PPostmark.Postmark)) (t_189b : Int) (t_189c : Int) =>
  bind2 (Go.Proofs.YtgimcnpkngpmiaaDoor.GiSameTown.P t_189a t_189b t_189c) fun (t_200a : Bool) (t_200b : Bool) =>
  bind2 (Go.Proofs.YtgimcnpkngpmiaaDoor.GsSameTown.P fuel t_189a t_189b t_189c) fun (t_209a : Bool) (t_209b : Bool) =>
  letK (!(t_200a == t_209a)) fun (t_217 : Bool) =>
  joinK (fun (t_222 : Bool) =>
  q6 code fuel tapes t_189a t_189b t_189c t_200a t_200b (t_222)) fun jt_222 => iteK t_217 (appK jt_222 true) (letK (!(t_200b == t_209b)) fun (t_221 : Bool) =>
  appK jt_222 t_221)

def q3 (code : (List Int)) (fuel : Nat) (tapes : List Int → Go.Proofs.YtgimcnpkngpmiaaDoor.GoC.Tape) (t_93a : (List Go.Proofs.YtgimcnpkngpmiaaDoor.PPostmark.Postmark)) (t_93b : ByteArray) (t_101a : Int) (t_101b : Int) (t_101c : Bool) (s : Bool) : Option (Bool) :=
  letK s fun t_151q3 =>
  iteK t_151q3
  (some false)
  (loopK (l1 t_93a t_93b t_101a t_101b t_101c) fuel (0) (e1 code fuel tapes))

def e0 (code : (List Int)) (fuel : Nat) (tapes : List Int → Go.Proofs.YtgimcnpkngpmiaaDoor.GoC.Tape) (s : Int) : Option (Bool) :=
  letK s fun i_10l0 =>
  bind2 (Go.Proofs.YtgimcnpkngpmiaaDoor.GsDrawLatestUse.P fuel tapes code) fun (t_93a : (List Go.Proofs.YtgimcnpkngpmiaaDoor.PPostmark.Postmark)) (t_93b : ByteArray) =>
  bind3 (Go.Proofs.YtgimcnpkngpmiaaDoor.GiLatestUse.P fuel t_93a t_93b) fun (t_101a : Int) (t_101b : Int) (t_101c : Bool) =>
  bind3 (Go.Proofs.YtgimcnpkngpmiaaDoor.GsLatestUse.P fuel t_93a t_93b) fun (t_111a : Int) (t_111b : Int) (t_111c : Bool) =>
  letK (t_101a != t_111a) fun (t_121 : Bool) =>
  joinK (fun (t_126 : Bool) =>
  joinK (fun (t_131 : Bool) =>
  q3 code fuel tapes t_93a t_93b t_101a t_101b t_101c (t_131)) fun jt_131 => iteK t_126 (appK jt_131 true) (letK (!(t_101c == t_111c)) fun (t_130 : Bool) =>
  appK jt_131 t_130)) fun jt_126 => iteK t_121 (appK jt_126 true) (letK (t_101b != t_111b) fun (t_125 : Bool) =>
  appK jt_126 t_125)

def q0 (code : (List Int)) (fuel : Nat) (tapes : List Int → Go.Proofs.YtgimcnpkngpmiaaDoor.GoC.Tape) (t_5a : (List Go.Proofs.YtgimcnpkngpmiaaDoor.PPostmark.Postmark)) (t_16a : (List Go.Proofs.YtgimcnpkngpmiaaDoor.PPostmark.Postmark)) (t_16b : Bool) (s : Bool) : Option (Bool) :=
  letK s fun t_75q0 =>
  iteK t_75q0
  (some false)
  (loopK (l0 t_5a t_16a t_16b) fuel (0) (e0 code fuel tapes))

def P (fuel : Nat) (tapes : List Int → Go.Proofs.YtgimcnpkngpmiaaDoor.GoC.Tape) (code : (List Int)) : Option (Bool) :=
  Option.bind (Go.Proofs.YtgimcnpkngpmiaaDoor.GlRBig.P code) fun (t_2 : Bool) =>
  iteK t_2
  (some true)
  (bind3 (Go.Proofs.YtgimcnpkngpmiaaDoor.GsDrawLoseLetter.P fuel tapes code) fun (t_5a : (List Go.Proofs.YtgimcnpkngpmiaaDoor.PPostmark.Postmark)) (t_5b : Int) (t_5c : Int) =>
  bind2 (Go.Proofs.YtgimcnpkngpmiaaDoor.GiLoseLetter.P t_5a t_5b t_5c) fun (t_16a : (List Go.Proofs.YtgimcnpkngpmiaaDoor.PPostmark.Postmark)) (t_16b : Bool) =>
  bind2 (Go.Proofs.YtgimcnpkngpmiaaDoor.GsLoseLetter.P fuel t_5a t_5b t_5c) fun (t_25a : (List Go.Proofs.YtgimcnpkngpmiaaDoor.PPostmark.Postmark)) (t_25b : Bool) =>
  letK (!(t_16b == t_25b)) fun (t_33 : Bool) =>
  joinK (fun (t_39 : Bool) =>
  q0 code fuel tapes t_5a t_16a t_16b (t_39)) fun jt_39 => iteK t_33 (appK jt_39 true) (Option.bind (Go.Proofs.YtgimcnpkngpmiaaDoor.GlRMarks.P t_16a t_25a) fun (t_37 : Bool) =>
  letK (!t_37) fun (t_38 : Bool) =>
  appK jt_39 t_38))

set_option maxRecDepth 100000 in
set_option maxHeartbeats 20000000 in
theorem C (fuel : Nat) (tapes : List Int → Go.Proofs.YtgimcnpkngpmiaaDoor.GoC.Tape) (code : (List Int)) (A0 : Option Addr) (c0 : Nat)  (w : World) (HT : Hid (Tab w)) (HE : Hid (Go.Proofs.YtgimcnpkngpmiaaDoor.GoC.Tells tapes)) (M0 : Hid (Cells w 1 A0 code.length (Go.Proofs.YtgimcnpkngpmiaaDoor.GoC.u8s code))) (N0 : Hid (code.length ≤ 9223372036854775807)) (V0 : Hid (∀ z ∈ code, 0 ≤ z ∧ z ≤ 255))  {r : Bool} (H : Hid (P fuel tapes code = some r)) :
    Calls Tryd.prog 5 #[.slice A0 code.length c0] w (Gives (.bool r) w) := by
  have HB := Lib.hid (Below.refl w.heap.size w)
  unfold P at H
  have N0o := N0.out
  go_enter Tryd.func5, Tryd.ntmps5
  replace H := bind_hid H
  obtain ⟨t_2, qt_2, H⟩ := H
  go_wp2_with fail
  go_at_call 19
  refine (Go.Proofs.YtgimcnpkngpmiaaDoor.GlRBig.C (code) A0 c0 _   (Lib.hid (Cells.below M0.out HB.out)) N0 V0 qt_2).mono ?_
  rintro e_t_2 wt_2 ⟨rfl, bt_2⟩
  have HBwt_2 := Lib.hid (Below.step HB.out bt_2)
  clear bt_2
  cases t_2 with
  | false =>
    replace H := ite_f H
    replace H := bind3_hid H
    obtain ⟨t_5a, t_5b, t_5c, qt_5, H⟩ := H
    go_wp2_with fail
    go_at_call 20
    refine (Go.Proofs.YtgimcnpkngpmiaaDoor.GsDrawLoseLetter.C fuel tapes (code) A0 c0 _  HE (Lib.hid (Cells.below M0.out HBwt_2.out)) N0 V0 qt_5).mono ?_
    rintro e_t_5 wt_5 ⟨At_5a, ct_5a, rfl, ot_5a, bt_5⟩
    have Ot_5a := Lib.hid (own_lower ot_5a HBwt_2.out.size)
    clear ot_5a
    have HBwt_5 := Lib.hid (Below.step HBwt_2.out bt_5)
    clear bt_5
    replace H := bind2_hid H
    obtain ⟨t_16a, t_16b, qt_16, H⟩ := H
    go_wp2_with fail
    go_at_call 21
    refine (Go.Proofs.YtgimcnpkngpmiaaDoor.GiLoseLetter.C (t_5a) (t_5b) (t_5c) At_5a ct_5a _   (Lib.hid (own_cells Ot_5a.out)) (Lib.hid (own_max Ot_5a.out)) (Lib.hid (own_room Ot_5a.out)) qt_16).mono ?_
    rintro e_t_16 wt_16 ⟨At_16a, ct_16a, rfl, ot_16a, bt_16⟩
    have Dt_16a_t_5a := Lib.hid (apart_call ot_16a Ot_5a.out)
    have Ot_16a := Lib.hid (own_lower ot_16a HBwt_5.out.size)
    clear ot_16a
    have HBwt_16 := Lib.hid (Below.step HBwt_5.out bt_16)
    replace Ot_5a := Lib.hid (own_below Ot_5a.out bt_16)
    clear bt_16
    replace H := bind2_hid H
    obtain ⟨t_25a, t_25b, qt_25, H⟩ := H
    go_wp2_with fail
    go_at_call 22
    refine (Go.Proofs.YtgimcnpkngpmiaaDoor.GsLoseLetter.C fuel (t_5a) (t_5b) (t_5c) At_5a ct_5a _   (Lib.hid (own_cells Ot_5a.out)) (Lib.hid (own_max Ot_5a.out)) (Lib.hid (own_room Ot_5a.out)) qt_25).mono ?_
    rintro e_t_25 wt_25 ⟨At_25a, ct_25a, rfl, ot_25a, bt_25⟩
    have Dt_25a_t_5a := Lib.hid (apart_call ot_25a Ot_5a.out)
    have Dt_25a_t_16a := Lib.hid (apart_call ot_25a Ot_16a.out)
    have Ot_25a := Lib.hid (own_lower ot_25a HBwt_16.out.size)
    clear ot_25a
    have HBwt_25 := Lib.hid (Below.step HBwt_16.out bt_25)
    replace Ot_5a := Lib.hid (own_below Ot_5a.out bt_25)
    replace Ot_16a := Lib.hid (own_below Ot_16a.out bt_25)
    clear bt_25
    go_upto_region 6 with fail
    go_cut [75] (fun v75_ wr => ∃ (t_75q0 : Bool), v75_ = .bool t_75q0 ∧ Hid (q0 code fuel tapes t_5a t_16a t_16b (t_75q0) = some r) ∧ Hid (Below w.heap.size w wr) ∧ Hid (wr.ownsRow w.heap.size 39 6 (.slice At_5a t_5a.length ct_5a) t_5a.length (Go.Proofs.YtgimcnpkngpmiaaDoor.PPostmark.flat t_5a)) ∧ Hid (wr.ownsRow w.heap.size 39 6 (.slice At_16a t_16a.length ct_16a) t_16a.length (Go.Proofs.YtgimcnpkngpmiaaDoor.PPostmark.flat t_16a)) ∧ Hid (wr.ownsRow w.heap.size 39 6 (.slice At_25a t_25a.length ct_25a) t_25a.length (Go.Proofs.YtgimcnpkngpmiaaDoor.PPostmark.flat t_25a)))
    case first =>
      as_aux_lemma =>
        replace H := let_hid H
        obtain ⟨t_33, ht_33, H⟩ := H
        replace H := join_hid H
        cases t_33 with
        | false =>
          replace H := ite_f H
          replace H := bind_hid H
          obtain ⟨t_37, qt_37, H⟩ := H
          go_wp2_with fail
          go_at_call 23
          refine (Go.Proofs.YtgimcnpkngpmiaaDoor.GlRMarks.C (t_16a) (t_25a) At_16a ct_16a At_25a ct_25a _   (Lib.hid (own_cells Ot_16a.out)) (Lib.hid (own_max Ot_16a.out)) (Lib.hid (own_cells Ot_25a.out)) (Lib.hid (own_max Ot_25a.out)) qt_37).mono ?_
          rintro e_t_37 wt_37 ⟨rfl, bt_37⟩
          have HBwt_37 := Lib.hid (Below.step HBwt_25.out bt_37)
          replace Ot_5a := Lib.hid (own_below Ot_5a.out bt_37)
          replace Ot_16a := Lib.hid (own_below Ot_16a.out bt_37)
          replace Ot_25a := Lib.hid (own_below Ot_25a.out bt_37)
          clear bt_37
          cases t_37 with
          | false =>
            replace H := let_hid H
            obtain ⟨t_38, ht_38, H⟩ := H
            obtain rfl : t_38 = true := ht_38.symm
            replace H := app_hid H
            go_wp2_with fail
            go_meet
            case rel => exact ⟨_, rfl, H, HBwt_37, Ot_5a, Ot_16a, Ot_25a⟩
          | true =>
            replace H := let_hid H
            obtain ⟨t_38, ht_38, H⟩ := H
            obtain rfl : t_38 = false := ht_38.symm
            replace H := app_hid H
            go_wp2_with fail
            go_meet
            case rel => exact ⟨_, rfl, H, HBwt_37, Ot_5a, Ot_16a, Ot_25a⟩
        | true =>
          replace H := ite_t H
          replace H := app_hid H
          go_wp2_with fail
          go_meet
          case rel => exact ⟨_, rfl, H, HBwt_25, Ot_5a, Ot_16a, Ot_25a⟩
    case rest =>
      as_aux_lemma =>
        obtain ⟨t_75q0, rfl, H, HBwq0, Ot_5a, Ot_16a, Ot_25a⟩ := hcut
        rename World => wq0
        unfold q0 at H
        replace H := let_hid H
        obtain ⟨_, rfl, H⟩ := H
        cases t_75q0 with
        | false =>
          replace H := ite_f H
          go_wp2_with fail
          go_loopg [10] (fuel) (fun m_ v10_ wr => ∃ (i_10l0 : Int), v10_ = .int .i64 i_10l0 ∧ Hid (loopK (l0 t_5a t_16a t_16b) m_ (i_10l0) (e0 code fuel tapes) = some r) ∧ Hid (Below w.heap.size w wr) ∧ Hid (wr.ownsRow w.heap.size 39 6 (.slice At_5a t_5a.length ct_5a) t_5a.length (Go.Proofs.YtgimcnpkngpmiaaDoor.PPostmark.flat t_5a)) ∧ Hid (wr.ownsRow w.heap.size 39 6 (.slice At_16a t_16a.length ct_16a) t_16a.length (Go.Proofs.YtgimcnpkngpmiaaDoor.PPostmark.flat t_16a)) ∧ Hid (wr.ownsRow w.heap.size 39 6 (.slice At_25a t_25a.length ct_25a) t_25a.length (Go.Proofs.YtgimcnpkngpmiaaDoor.PPostmark.flat t_25a)))
          case atStart => exact ⟨_, rfl, H, HBwq0, Ot_5a, Ot_16a, Ot_25a⟩
          case round =>
            obtain ⟨i_10l0, rfl, H, HBwr0, Ot_5a, Ot_16a, Ot_25a⟩ := hrel
            rename World => wr0
            cases gk with
            | zero => exact (loop_zero H).elim
            | succ m0 =>
              replace H := loop_succ H
              unfold l0 at H
              replace H := let_hid H
              obtain ⟨_, rfl, H⟩ := H
              go_upto_region 9 with fail
              go_cut [82] (fun v82_ wr => ∃ (t_82q1 : Bool), v82_ = .bool t_82q1 ∧ Hid (q1 t_5a t_16a (fun s' => loopK (l0 t_5a t_16a t_16b) m0 s' (e0 code fuel tapes)) (e0 code fuel tapes) i_10l0 (t_82q1) = some r) ∧ Hid (Below w.heap.size w wr) ∧ Hid (wr.ownsRow w.heap.size 39 6 (.slice At_5a t_5a.length ct_5a) t_5a.length (Go.Proofs.YtgimcnpkngpmiaaDoor.PPostmark.flat t_5a)) ∧ Hid (wr.ownsRow w.heap.size 39 6 (.slice At_16a t_16a.length ct_16a) t_16a.length (Go.Proofs.YtgimcnpkngpmiaaDoor.PPostmark.flat t_16a)) ∧ Hid (wr.ownsRow w.heap.size 39 6 (.slice At_25a t_25a.length ct_25a) t_25a.length (Go.Proofs.YtgimcnpkngpmiaaDoor.PPostmark.flat t_25a)))
              case first =>
                as_aux_lemma =>
                  replace H := let_hid H
                  obtain ⟨t_45, ht_45, H⟩ := H
                  replace H := join_hid H
                  cases t_45 with
                  | false =>
                    replace H := ite_f H
                    replace H := app_hid H
                    go_wp2_with fail
                    go_meet
                    case rel => exact ⟨_, rfl, H, HBwr0, Ot_5a, Ot_16a, Ot_25a⟩
                  | true =>
                    replace H := ite_t H
                    replace H := app_hid H
                    go_wp2_with fail
                    go_meet
                    case rel => exact ⟨_, rfl, H, HBwr0, Ot_5a, Ot_16a, Ot_25a⟩
              case rest =>
                as_aux_lemma =>
                  obtain ⟨t_82q1, rfl, H, HBwq1, Ot_5a, Ot_16a, Ot_25a⟩ := hcut
                  rename World => wq1
                  unfold q1 at H
                  replace H := let_hid H
                  obtain ⟨_, rfl, H⟩ := H
                  cases t_82q1 with
                  | false =>
                    replace H := ite_f H
                    replace H := app_hid H
                    unfold e0 at H
                    replace H := let_hid H
                    obtain ⟨_, rfl, H⟩ := H
                    replace H := bind2_hid H
                    obtain ⟨t_93a, t_93b, qt_93, H⟩ := H
                    go_wp2_with fail
                    go_at_call 26
                    refine (Go.Proofs.YtgimcnpkngpmiaaDoor.GsDrawLatestUse.C fuel tapes (code) A0 c0 _  HE (Lib.hid (Cells.below M0.out HBwq1.out)) N0 V0 qt_93).mono ?_
                    rintro e_t_93 wt_93 ⟨At_93a, ct_93a, rfl, ot_93a, bt_93⟩
                    have Dt_93a_t_5a := Lib.hid (apart_call ot_93a Ot_5a.out)
                    have Dt_93a_t_16a := Lib.hid (apart_call ot_93a Ot_16a.out)
                    have Dt_93a_t_25a := Lib.hid (apart_call ot_93a Ot_25a.out)
                    have Ot_93a := Lib.hid (own_lower ot_93a HBwq1.out.size)
                    clear ot_93a
                    have HBwt_93 := Lib.hid (Below.step HBwq1.out bt_93)
                    replace Ot_5a := Lib.hid (own_below Ot_5a.out bt_93)
                    replace Ot_16a := Lib.hid (own_below Ot_16a.out bt_93)
                    replace Ot_25a := Lib.hid (own_below Ot_25a.out bt_93)
                    clear bt_93
                    replace H := bind3_hid H
                    obtain ⟨t_101a, t_101b, t_101c, qt_101, H⟩ := H
                    go_wp2_with fail
                    go_at_call 27
                    refine (Go.Proofs.YtgimcnpkngpmiaaDoor.GiLatestUse.C fuel (t_93a) (t_93b) At_93a ct_93a _   (Lib.hid (own_cells Ot_93a.out)) (Lib.hid (own_max Ot_93a.out)) (Lib.hid (own_room Ot_93a.out)) qt_101).mono ?_
                    rintro e_t_101 wt_101 ⟨rfl, bt_101⟩
                    have HBwt_101 := Lib.hid (Below.step HBwt_93.out bt_101)
                    replace Ot_5a := Lib.hid (own_below Ot_5a.out bt_101)
                    replace Ot_16a := Lib.hid (own_below Ot_16a.out bt_101)
                    replace Ot_25a := Lib.hid (own_below Ot_25a.out bt_101)
                    replace Ot_93a := Lib.hid (own_below Ot_93a.out bt_101)
                    clear bt_101
                    replace H := bind3_hid H
                    obtain ⟨t_111a, t_111b, t_111c, qt_111, H⟩ := H
                    go_wp2_with fail
                    go_at_call 28
                    refine (Go.Proofs.YtgimcnpkngpmiaaDoor.GsLatestUse.C fuel (t_93a) (t_93b) At_93a ct_93a _   (Lib.hid (own_cells Ot_93a.out)) (Lib.hid (own_max Ot_93a.out)) qt_111).mono ?_
                    rintro e_t_111 wt_111 ⟨rfl, bt_111⟩
                    have HBwt_111 := Lib.hid (Below.step HBwt_101.out bt_111)
                    replace Ot_5a := Lib.hid (own_below Ot_5a.out bt_111)
                    replace Ot_16a := Lib.hid (own_below Ot_16a.out bt_111)
                    replace Ot_25a := Lib.hid (own_below Ot_25a.out bt_111)
                    replace Ot_93a := Lib.hid (own_below Ot_93a.out bt_111)
                    clear bt_111
                    go_upto_region 18 with fail
                    go_cut [151] (fun v151_ wr => ∃ (t_151q3 : Bool), v151_ = .bool t_151q3 ∧ Hid (q3 code fuel tapes t_93a t_93b t_101a t_101b t_101c (t_151q3) = some r) ∧ Hid (Below w.heap.size w wr) ∧ Hid (wr.ownsRow w.heap.size 39 6 (.slice At_5a t_5a.length ct_5a) t_5a.length (Go.Proofs.YtgimcnpkngpmiaaDoor.PPostmark.flat t_5a)) ∧ Hid (wr.ownsRow w.heap.size 39 6 (.slice At_16a t_16a.length ct_16a) t_16a.length (Go.Proofs.YtgimcnpkngpmiaaDoor.PPostmark.flat t_16a)) ∧ Hid (wr.ownsRow w.heap.size 39 6 (.slice At_25a t_25a.length ct_25a) t_25a.length (Go.Proofs.YtgimcnpkngpmiaaDoor.PPostmark.flat t_25a)) ∧ Hid (wr.ownsRow w.heap.size 39 6 (.slice At_93a t_93a.length ct_93a) t_93a.length (Go.Proofs.YtgimcnpkngpmiaaDoor.PPostmark.flat t_93a)))
                    case first =>
                      as_aux_lemma =>
                        replace H := let_hid H
                        obtain ⟨t_121, ht_121, H⟩ := H
                        replace H := join_hid H
                        cases t_121 with
                        | false =>
                          replace H := ite_f H
                          replace H := let_hid H
                          obtain ⟨t_125, ht_125, H⟩ := H
                          replace H := app_hid H
                          replace H := join_hid H
                          cases t_125 with
                          | false =>
                            replace H := ite_f H
                            replace H := let_hid H
                            obtain ⟨t_130, ht_130, H⟩ := H
                            replace H := app_hid H
                            go_wp2_with fail
                            go_meet
                            case rel => exact ⟨_, rfl, H, HBwt_111, Ot_5a, Ot_16a, Ot_25a, Ot_93a⟩
                          | true =>
                            replace H := ite_t H
                            replace H := app_hid H
                            go_wp2_with fail
                            go_meet
                            case rel => exact ⟨_, rfl, H, HBwt_111, Ot_5a, Ot_16a, Ot_25a, Ot_93a⟩
                        | true =>
                          replace H := ite_t H
                          replace H := app_hid H
                          replace H := join_hid H
                          replace H := ite_t H
                          replace H := app_hid H
                          go_wp2_with fail
                          go_meet
                          case rel => exact ⟨_, rfl, H, HBwt_111, Ot_5a, Ot_16a, Ot_25a, Ot_93a⟩
                    case rest =>
                      as_aux_lemma =>
                        obtain ⟨t_151q3, rfl, H, HBwq3, Ot_5a, Ot_16a, Ot_25a, Ot_93a⟩ := hcut
                        rename World => wq3
                        unfold q3 at H
                        replace H := let_hid H
                        obtain ⟨_, rfl, H⟩ := H
                        cases t_151q3 with
                        | false =>
                          replace H := ite_f H
                          go_wp2_with fail
                          go_loopg [23] (fuel) (fun m_ v23_ wr => ∃ (i_23l1 : Int), v23_ = .int .i64 i_23l1 ∧ Hid (loopK (l1 t_93a t_93b t_101a t_101b t_101c) m_ (i_23l1) (e1 code fuel tapes) = some r) ∧ Hid (Below w.heap.size w wr) ∧ Hid (wr.ownsRow w.heap.size 39 6 (.slice At_5a t_5a.length ct_5a) t_5a.length (Go.Proofs.YtgimcnpkngpmiaaDoor.PPostmark.flat t_5a)) ∧ Hid (wr.ownsRow w.heap.size 39 6 (.slice At_16a t_16a.length ct_16a) t_16a.length (Go.Proofs.YtgimcnpkngpmiaaDoor.PPostmark.flat t_16a)) ∧ Hid (wr.ownsRow w.heap.size 39 6 (.slice At_25a t_25a.length ct_25a) t_25a.length (Go.Proofs.YtgimcnpkngpmiaaDoor.PPostmark.flat t_25a)) ∧ Hid (wr.ownsRow w.heap.size 39 6 (.slice At_93a t_93a.length ct_93a) t_93a.length (Go.Proofs.YtgimcnpkngpmiaaDoor.PPostmark.flat t_93a)))
                          case atStart => exact ⟨_, rfl, H, HBwq3, Ot_5a, Ot_16a, Ot_25a, Ot_93a⟩
                          case round =>
                            obtain ⟨i_23l1, rfl, H, HBwr1, Ot_5a, Ot_16a, Ot_25a, Ot_93a⟩ := hrel
                            rename World => wr1
                            cases gk with
                            | zero => exact (loop_zero H).elim
                            | succ m1 =>
                              replace H := loop_succ H
                              unfold l1 at H
                              replace H := let_hid H
                              obtain ⟨_, rfl, H⟩ := H
                              go_upto_region 21 with fail
                              go_cut [158] (fun v158_ wr => ∃ (t_158q4 : Bool), v158_ = .bool t_158q4 ∧ Hid (q4 t_93a t_93b t_101a t_101b (fun s' => loopK (l1 t_93a t_93b t_101a t_101b t_101c) m1 s' (e1 code fuel tapes)) (e1 code fuel tapes) i_23l1 (t_158q4) = some r) ∧ Hid (Below w.heap.size w wr) ∧ Hid (wr.ownsRow w.heap.size 39 6 (.slice At_5a t_5a.length ct_5a) t_5a.length (Go.Proofs.YtgimcnpkngpmiaaDoor.PPostmark.flat t_5a)) ∧ Hid (wr.ownsRow w.heap.size 39 6 (.slice At_16a t_16a.length ct_16a) t_16a.length (Go.Proofs.YtgimcnpkngpmiaaDoor.PPostmark.flat t_16a)) ∧ Hid (wr.ownsRow w.heap.size 39 6 (.slice At_25a t_25a.length ct_25a) t_25a.length (Go.Proofs.YtgimcnpkngpmiaaDoor.PPostmark.flat t_25a)) ∧ Hid (wr.ownsRow w.heap.size 39 6 (.slice At_93a t_93a.length ct_93a) t_93a.length (Go.Proofs.YtgimcnpkngpmiaaDoor.PPostmark.flat t_93a)))
                              case first =>
                                as_aux_lemma =>
                                  replace H := let_hid H
                                  obtain ⟨t_137, ht_137, H⟩ := H
                                  replace H := join_hid H
                                  cases t_137 with
                                  | false =>
                                    replace H := ite_f H
                                    replace H := app_hid H
                                    go_wp2_with fail
                                    go_meet
                                    case rel => exact ⟨_, rfl, H, HBwr1, Ot_5a, Ot_16a, Ot_25a, Ot_93a⟩
                                  | true =>
                                    replace H := ite_t H
                                    replace H := app_hid H
                                    go_wp2_with fail
                                    go_meet
                                    case rel => exact ⟨_, rfl, H, HBwr1, Ot_5a, Ot_16a, Ot_25a, Ot_93a⟩
                              case rest =>
                                as_aux_lemma =>
                                  obtain ⟨t_158q4, rfl, H, HBwq4, Ot_5a, Ot_16a, Ot_25a, Ot_93a⟩ := hcut
                                  rename World => wq4
                                  unfold q4 at H
                                  replace H := let_hid H
                                  obtain ⟨_, rfl, H⟩ := H
                                  cases t_158q4 with
                                  | false =>
                                    replace H := ite_f H
                                    replace H := app_hid H
                                    unfold e1 at H
                                    replace H := let_hid H
                                    obtain ⟨_, rfl, H⟩ := H
                                    replace H := bind3_hid H
                                    obtain ⟨t_189a, t_189b, t_189c, qt_189, H⟩ := H
                                    go_wp2_with fail
                                    go_at_call 29
                                    refine (Go.Proofs.YtgimcnpkngpmiaaDoor.GsDrawSameTown.C fuel tapes (code) A0 c0 _  HE (Lib.hid (Cells.below M0.out HBwq4.out)) N0 V0 qt_189).mono ?_
                                    rintro e_t_189 wt_189 ⟨At_189a, ct_189a, rfl, ot_189a, bt_189⟩
                                    have Dt_189a_t_5a := Lib.hid (apart_call ot_189a Ot_5a.out)
                                    have Dt_189a_t_16a := Lib.hid (apart_call ot_189a Ot_16a.out)
                                    have Dt_189a_t_25a := Lib.hid (apart_call ot_189a Ot_25a.out)
                                    have Dt_189a_t_93a := Lib.hid (apart_call ot_189a Ot_93a.out)
                                    have Ot_189a := Lib.hid (own_lower ot_189a HBwq4.out.size)
                                    clear ot_189a
                                    have HBwt_189 := Lib.hid (Below.step HBwq4.out bt_189)
                                    replace Ot_5a := Lib.hid (own_below Ot_5a.out bt_189)
                                    replace Ot_16a := Lib.hid (own_below Ot_16a.out bt_189)
                                    replace Ot_25a := Lib.hid (own_below Ot_25a.out bt_189)
                                    replace Ot_93a := Lib.hid (own_below Ot_93a.out bt_189)
                                    clear bt_189
                                    replace H := bind2_hid H
                                    obtain ⟨t_200a, t_200b, qt_200, H⟩ := H
                                    go_wp2_with fail
                                    go_at_call 30
                                    refine (Go.Proofs.YtgimcnpkngpmiaaDoor.GiSameTown.C (t_189a) (t_189b) (t_189c) At_189a ct_189a _   (Lib.hid (own_cells Ot_189a.out)) (Lib.hid (own_max Ot_189a.out)) qt_200).mono ?_
                                    rintro e_t_200 wt_200 ⟨rfl, bt_200⟩
                                    have HBwt_200 := Lib.hid (Below.step HBwt_189.out bt_200)
                                    replace Ot_5a := Lib.hid (own_below Ot_5a.out bt_200)
                                    replace Ot_16a := Lib.hid (own_below Ot_16a.out bt_200)
                                    replace Ot_25a := Lib.hid (own_below Ot_25a.out bt_200)
                                    replace Ot_93a := Lib.hid (own_below Ot_93a.out bt_200)
                                    replace Ot_189a := Lib.hid (own_below Ot_189a.out bt_200)
                                    clear bt_200
                                    replace H := bind2_hid H
                                    obtain ⟨t_209a, t_209b, qt_209, H⟩ := H
                                    go_wp2_with fail
                                    go_at_call 31
                                    refine (Go.Proofs.YtgimcnpkngpmiaaDoor.GsSameTown.C fuel (t_189a) (t_189b) (t_189c) At_189a ct_189a _   (Lib.hid (own_cells Ot_189a.out)) (Lib.hid (own_max Ot_189a.out)) qt_209).mono ?_
                                    rintro e_t_209 wt_209 ⟨rfl, bt_209⟩
                                    have HBwt_209 := Lib.hid (Below.step HBwt_200.out bt_209)
                                    replace Ot_5a := Lib.hid (own_below Ot_5a.out bt_209)
                                    replace Ot_16a := Lib.hid (own_below Ot_16a.out bt_209)
                                    replace Ot_25a := Lib.hid (own_below Ot_25a.out bt_209)
                                    replace Ot_93a := Lib.hid (own_below Ot_93a.out bt_209)
                                    replace Ot_189a := Lib.hid (own_below Ot_189a.out bt_209)
                                    clear bt_209
                                    go_upto_region 28 with fail
                                    go_cut [231] (fun v231_ wr => ∃ (t_231q6 : Bool), v231_ = .bool t_231q6 ∧ Hid (q6 code fuel tapes t_189a t_189b t_189c t_200a t_200b (t_231q6) = some r) ∧ Hid (Below w.heap.size w wr) ∧ Hid (wr.ownsRow w.heap.size 39 6 (.slice At_5a t_5a.length ct_5a) t_5a.length (Go.Proofs.YtgimcnpkngpmiaaDoor.PPostmark.flat t_5a)) ∧ Hid (wr.ownsRow w.heap.size 39 6 (.slice At_16a t_16a.length ct_16a) t_16a.length (Go.Proofs.YtgimcnpkngpmiaaDoor.PPostmark.flat t_16a)) ∧ Hid (wr.ownsRow w.heap.size 39 6 (.slice At_25a t_25a.length ct_25a) t_25a.length (Go.Proofs.YtgimcnpkngpmiaaDoor.PPostmark.flat t_25a)) ∧ Hid (wr.ownsRow w.heap.size 39 6 (.slice At_93a t_93a.length ct_93a) t_93a.length (Go.Proofs.YtgimcnpkngpmiaaDoor.PPostmark.flat t_93a)) ∧ Hid (wr.ownsRow w.heap.size 39 6 (.slice At_189a t_189a.length ct_189a) t_189a.length (Go.Proofs.YtgimcnpkngpmiaaDoor.PPostmark.flat t_189a)))
                                    case first =>
                                      as_aux_lemma =>
                                        replace H := let_hid H
                                        obtain ⟨t_217, ht_217, H⟩ := H
                                        replace H := join_hid H
                                        cases t_217 with
                                        | false =>
                                          replace H := ite_f H
                                          replace H := let_hid H
                                          obtain ⟨t_221, ht_221, H⟩ := H
                                          replace H := app_hid H
                                          go_wp2_with fail
                                          go_meet
                                          case rel => exact ⟨_, rfl, H, HBwt_209, Ot_5a, Ot_16a, Ot_25a, Ot_93a, Ot_189a⟩
                                        | true =>
                                          replace H := ite_t H
                                          replace H := app_hid H
                                          go_wp2_with fail
                                          go_meet
                                          case rel => exact ⟨_, rfl, H, HBwt_209, Ot_5a, Ot_16a, Ot_25a, Ot_93a, Ot_189a⟩
                                    case rest =>
                                      as_aux_lemma =>
                                        obtain ⟨t_231q6, rfl, H, HBwq6, Ot_5a, Ot_16a, Ot_25a, Ot_93a, Ot_189a⟩ := hcut
                                        rename World => wq6
                                        unfold q6 at H
                                        replace H := let_hid H
                                        obtain ⟨_, rfl, H⟩ := H
                                        cases t_231q6 with
                                        | false =>
                                          replace H := ite_f H
                                          replace H := bind2_hid H
                                          obtain ⟨t_227a, t_227b, qt_227, H⟩ := H
                                          go_wp2_with fail
                                          go_at_call 30
                                          refine (Go.Proofs.YtgimcnpkngpmiaaDoor.GiSameTown.C (t_189a) (t_189c) (t_189b) At_189a ct_189a _   (Lib.hid (own_cells Ot_189a.out)) (Lib.hid (own_max Ot_189a.out)) qt_227).mono ?_
                                          rintro e_t_227 wt_227 ⟨rfl, bt_227⟩
                                          have HBwt_227 := Lib.hid (Below.step HBwq6.out bt_227)
                                          replace Ot_5a := Lib.hid (own_below Ot_5a.out bt_227)
                                          replace Ot_16a := Lib.hid (own_below Ot_16a.out bt_227)
                                          replace Ot_25a := Lib.hid (own_below Ot_25a.out bt_227)
                                          replace Ot_93a := Lib.hid (own_below Ot_93a.out bt_227)
                                          replace Ot_189a := Lib.hid (own_below Ot_189a.out bt_227)
                                          clear bt_227
                                          go_upto_region 31 with fail
                                          go_cut [258] (fun v258_ wr => ∃ (t_258q7 : Bool), v258_ = .bool t_258q7 ∧ Hid (q7 code fuel tapes (t_258q7) = some r) ∧ Hid (Below w.heap.size w wr) ∧ Hid (wr.ownsRow w.heap.size 39 6 (.slice At_5a t_5a.length ct_5a) t_5a.length (Go.Proofs.YtgimcnpkngpmiaaDoor.PPostmark.flat t_5a)) ∧ Hid (wr.ownsRow w.heap.size 39 6 (.slice At_16a t_16a.length ct_16a) t_16a.length (Go.Proofs.YtgimcnpkngpmiaaDoor.PPostmark.flat t_16a)) ∧ Hid (wr.ownsRow w.heap.size 39 6 (.slice At_25a t_25a.length ct_25a) t_25a.length (Go.Proofs.YtgimcnpkngpmiaaDoor.PPostmark.flat t_25a)) ∧ Hid (wr.ownsRow w.heap.size 39 6 (.slice At_93a t_93a.length ct_93a) t_93a.length (Go.Proofs.YtgimcnpkngpmiaaDoor.PPostmark.flat t_93a)) ∧ Hid (wr.ownsRow w.heap.size 39 6 (.slice At_189a t_189a.length ct_189a) t_189a.length (Go.Proofs.YtgimcnpkngpmiaaDoor.PPostmark.flat t_189a)))
                                          case first =>
                                            as_aux_lemma =>
                                              replace H := let_hid H
                                              obtain ⟨t_235, ht_235, H⟩ := H
                                              replace H := join_hid H
                                              cases t_235 with
                                              | false =>
                                                replace H := ite_f H
                                                replace H := let_hid H
                                                obtain ⟨t_239, ht_239, H⟩ := H
                                                replace H := app_hid H
                                                replace H := join_hid H
                                                cases t_239 with
                                                | false =>
                                                  replace H := ite_f H
                                                  replace H := join_hid H
                                                  cases t_200b with
                                                  | false =>
                                                    obtain rfl : t_227b = false := by revert ht_239; cases t_227b <;> simp
                                                    replace H := ite_f H
                                                    replace H := app_hid H
                                                    replace H := join_hid H
                                                    replace H := ite_f H
                                                    replace H := app_hid H
                                                    replace H := app_hid H
                                                    go_wp2_with fail
                                                    go_meet
                                                    case rel => exact ⟨_, rfl, H, HBwt_227, Ot_5a, Ot_16a, Ot_25a, Ot_93a, Ot_189a⟩
                                                  | true =>
                                                    obtain rfl : t_227b = true := by revert ht_239; cases t_227b <;> simp
                                                    replace H := ite_t H
                                                    replace H := let_hid H
                                                    obtain ⟨t_246, ht_246, H⟩ := H
                                                    replace H := app_hid H
                                                    replace H := join_hid H
                                                    cases t_246 with
                                                    | false =>
                                                      replace H := ite_f H
                                                      replace H := app_hid H
                                                      replace H := app_hid H
                                                      go_wp2_with fail
                                                      go_meet
                                                      case rel => exact ⟨_, rfl, H, HBwt_227, Ot_5a, Ot_16a, Ot_25a, Ot_93a, Ot_189a⟩
                                                    | true =>
                                                      replace H := ite_t H
                                                      cases t_200a with
                                                      | false =>
                                                        obtain rfl : t_227a = false := by revert ht_235; cases t_227a <;> simp
                                                        replace H := let_hid H
                                                        obtain ⟨t_250, ht_250, H⟩ := H
                                                        obtain rfl : t_250 = true := ht_250.symm
                                                        replace H := app_hid H
                                                        replace H := app_hid H
                                                        go_wp2_with fail
                                                        go_meet
                                                        case rel => exact ⟨_, rfl, H, HBwt_227, Ot_5a, Ot_16a, Ot_25a, Ot_93a, Ot_189a⟩
                                                      | true =>
                                                        obtain rfl : t_227a = true := by revert ht_235; cases t_227a <;> simp
                                                        replace H := let_hid H
                                                        obtain ⟨t_250, ht_250, H⟩ := H
                                                        obtain rfl : t_250 = false := ht_250.symm
                                                        replace H := app_hid H
                                                        replace H := app_hid H
                                                        go_wp2_with fail
                                                        go_meet
                                                        case rel => exact ⟨_, rfl, H, HBwt_227, Ot_5a, Ot_16a, Ot_25a, Ot_93a, Ot_189a⟩
                                                | true =>
                                                  replace H := ite_t H
                                                  replace H := app_hid H
                                                  go_wp2_with fail
                                                  go_meet
                                                  case rel => exact ⟨_, rfl, H, HBwt_227, Ot_5a, Ot_16a, Ot_25a, Ot_93a, Ot_189a⟩
                                              | true =>
                                                replace H := ite_t H
                                                replace H := app_hid H
                                                replace H := join_hid H
                                                replace H := ite_t H
                                                replace H := app_hid H
                                                go_wp2_with fail
                                                go_meet
                                                case rel => exact ⟨_, rfl, H, HBwt_227, Ot_5a, Ot_16a, Ot_25a, Ot_93a, Ot_189a⟩
                                          case rest =>
                                            as_aux_lemma =>
                                              obtain ⟨t_258q7, rfl, H, HBwq7, Ot_5a, Ot_16a, Ot_25a, Ot_93a, Ot_189a⟩ := hcut
                                              rename World => wq7
                                              unfold q7 at H
                                              replace H := let_hid H
                                              obtain ⟨_, rfl, H⟩ := H
                                              cases t_258q7 with
                                              | false =>
                                                replace H := ite_f H
                                                replace H := bind3_hid H
                                                obtain ⟨t_255a, t_255b, t_255c, qt_255, H⟩ := H
                                                go_wp2_with fail
                                                go_at_call 32
                                                refine (Go.Proofs.YtgimcnpkngpmiaaDoor.GsDrawReadMarks.C fuel tapes (code) A0 c0 _  HE (Lib.hid (Cells.below M0.out HBwq7.out)) N0 V0 qt_255).mono ?_
                                                rintro e_t_255 wt_255 ⟨At_255a, ct_255a, rfl, ot_255a, bt_255⟩
                                                have Dt_255a_t_5a := Lib.hid (apart_call ot_255a Ot_5a.out)
                                                have Dt_255a_t_16a := Lib.hid (apart_call ot_255a Ot_16a.out)
                                                have Dt_255a_t_25a := Lib.hid (apart_call ot_255a Ot_25a.out)
                                                have Dt_255a_t_93a := Lib.hid (apart_call ot_255a Ot_93a.out)
                                                have Dt_255a_t_189a := Lib.hid (apart_call ot_255a Ot_189a.out)
                                                have Ot_255a := Lib.hid (own_lower ot_255a HBwq7.out.size)
                                                clear ot_255a
                                                have HBwt_255 := Lib.hid (Below.step HBwq7.out bt_255)
                                                replace Ot_5a := Lib.hid (own_below Ot_5a.out bt_255)
                                                replace Ot_16a := Lib.hid (own_below Ot_16a.out bt_255)
                                                replace Ot_25a := Lib.hid (own_below Ot_25a.out bt_255)
                                                replace Ot_93a := Lib.hid (own_below Ot_93a.out bt_255)
                                                replace Ot_189a := Lib.hid (own_below Ot_189a.out bt_255)
                                                clear bt_255
                                                replace H := bind2_hid H
                                                obtain ⟨t_266a, t_266b, qt_266, H⟩ := H
                                                go_wp2_with fail
                                                go_at_call 9
                                                refine (Go.Proofs.YtgimcnpkngpmiaaDoor.GiReadMarks.C (t_255a) (t_255b) (t_255c) At_255a ct_255a _ (tab_below HBwt_255.out HT)  (Lib.hid (own_cells Ot_255a.out)) (Lib.hid (own_max Ot_255a.out)) qt_266).mono ?_
                                                rintro e_t_266 wt_266 ⟨At_266a, ct_266a, rfl, ot_266a, bt_266⟩
                                                have Dt_266a_t_5a := Lib.hid (apart_call ot_266a Ot_5a.out)
                                                have Dt_266a_t_16a := Lib.hid (apart_call ot_266a Ot_16a.out)
                                                have Dt_266a_t_25a := Lib.hid (apart_call ot_266a Ot_25a.out)
                                                have Dt_266a_t_93a := Lib.hid (apart_call ot_266a Ot_93a.out)
                                                have Dt_266a_t_189a := Lib.hid (apart_call ot_266a Ot_189a.out)
                                                have Dt_266a_t_255a := Lib.hid (apart_call ot_266a Ot_255a.out)
                                                have Ot_266a := Lib.hid (own_lower ot_266a HBwt_255.out.size)
                                                clear ot_266a
                                                have HBwt_266 := Lib.hid (Below.step HBwt_255.out bt_266)
                                                replace Ot_5a := Lib.hid (own_below Ot_5a.out bt_266)
                                                replace Ot_16a := Lib.hid (own_below Ot_16a.out bt_266)
                                                replace Ot_25a := Lib.hid (own_below Ot_25a.out bt_266)
                                                replace Ot_93a := Lib.hid (own_below Ot_93a.out bt_266)
                                                replace Ot_189a := Lib.hid (own_below Ot_189a.out bt_266)
                                                replace Ot_255a := Lib.hid (own_below Ot_255a.out bt_266)
                                                clear bt_266
                                                replace H := bind2_hid H
                                                obtain ⟨t_275a, t_275b, qt_275, H⟩ := H
                                                go_wp2_with fail
                                                go_at_call 7
                                                refine (Go.Proofs.YtgimcnpkngpmiaaDoor.GsReadMarks.C fuel (t_255a) (t_255b) (t_255c) At_255a ct_255a _   (Lib.hid (own_cells Ot_255a.out)) (Lib.hid (own_max Ot_255a.out)) qt_275).mono ?_
                                                rintro e_t_275 wt_275 ⟨At_275a, ct_275a, rfl, ot_275a, bt_275⟩
                                                have Dt_275a_t_5a := Lib.hid (apart_call ot_275a Ot_5a.out)
                                                have Dt_275a_t_16a := Lib.hid (apart_call ot_275a Ot_16a.out)
                                                have Dt_275a_t_25a := Lib.hid (apart_call ot_275a Ot_25a.out)
                                                have Dt_275a_t_93a := Lib.hid (apart_call ot_275a Ot_93a.out)
                                                have Dt_275a_t_189a := Lib.hid (apart_call ot_275a Ot_189a.out)
                                                have Dt_275a_t_255a := Lib.hid (apart_call ot_275a Ot_255a.out)
                                                have Dt_275a_t_266a := Lib.hid (apart_call ot_275a Ot_266a.out)
                                                have Ot_275a := Lib.hid (own_lower ot_275a HBwt_266.out.size)
                                                clear ot_275a
                                                have HBwt_275 := Lib.hid (Below.step HBwt_266.out bt_275)
                                                replace Ot_5a := Lib.hid (own_below Ot_5a.out bt_275)
                                                replace Ot_16a := Lib.hid (own_below Ot_16a.out bt_275)
                                                replace Ot_25a := Lib.hid (own_below Ot_25a.out bt_275)
                                                replace Ot_93a := Lib.hid (own_below Ot_93a.out bt_275)
                                                replace Ot_189a := Lib.hid (own_below Ot_189a.out bt_275)
                                                replace Ot_255a := Lib.hid (own_below Ot_255a.out bt_275)
                                                replace Ot_266a := Lib.hid (own_below Ot_266a.out bt_275)
                                                clear bt_275
                                                replace H := bind_hid H
                                                obtain ⟨t_282, qt_282, H⟩ := H
                                                obtain ⟨t_282_id, t_282_town, t_282_kind_, t_282_first, t_282_last, t_282_lost⟩ := t_282
                                                replace H := unPostmark_hid H
                                                go_wp2_with fail
                                                go_at_call 33
                                                refine (Go.Proofs.YtgimcnpkngpmiaaDoor.GsDrawShownBy.C fuel tapes (code) A0 c0 _  HE (Lib.hid (Cells.below M0.out HBwt_275.out)) N0 V0 qt_282).mono ?_
                                                rintro e_t_282 wt_282 ⟨rfl, bt_282⟩
                                                unfold Go.Proofs.YtgimcnpkngpmiaaDoor.PPostmark.Postmark.val
                                                have HBwt_282 := Lib.hid (Below.step HBwt_275.out bt_282)
                                                replace Ot_5a := Lib.hid (own_below Ot_5a.out bt_282)
                                                replace Ot_16a := Lib.hid (own_below Ot_16a.out bt_282)
                                                replace Ot_25a := Lib.hid (own_below Ot_25a.out bt_282)
                                                replace Ot_93a := Lib.hid (own_below Ot_93a.out bt_282)
                                                replace Ot_189a := Lib.hid (own_below Ot_189a.out bt_282)
                                                replace Ot_255a := Lib.hid (own_below Ot_255a.out bt_282)
                                                replace Ot_266a := Lib.hid (own_below Ot_266a.out bt_282)
                                                replace Ot_275a := Lib.hid (own_below Ot_275a.out bt_282)
                                                clear bt_282
                                                obtain ⟨w_p_283, hw_p_283⟩ : ∃ x, wt_282.alloc (.cells #[.int .i64 t_282_id, .string t_282_town, .int .i64 t_282_kind_, .int .i64 t_282_first, .int .i64 t_282_last, .string t_282_lost] 39) = x := ⟨_, rfl⟩
                                                have bw_p_283 : Below wt_282.heap.size wt_282 w_p_283 := by rw [← hw_p_283]; exact (Below.refl _ _).alloc (Nat.le_refl _) _
                                                have Dp_283_t_5a := Lib.hid (apart_fresh Ot_5a.out)
                                                have Dp_283_t_16a := Lib.hid (apart_fresh Ot_16a.out)
                                                have Dp_283_t_25a := Lib.hid (apart_fresh Ot_25a.out)
                                                have Dp_283_t_93a := Lib.hid (apart_fresh Ot_93a.out)
                                                have Dp_283_t_189a := Lib.hid (apart_fresh Ot_189a.out)
                                                have Dp_283_t_255a := Lib.hid (apart_fresh Ot_255a.out)
                                                have Dp_283_t_266a := Lib.hid (apart_fresh Ot_266a.out)
                                                have Dp_283_t_275a := Lib.hid (apart_fresh Ot_275a.out)
                                                have HBw_p_283 := Lib.hid (Below.step HBwt_282.out bw_p_283)
                                                replace Ot_5a := Lib.hid (own_below Ot_5a.out bw_p_283)
                                                replace Ot_16a := Lib.hid (own_below Ot_16a.out bw_p_283)
                                                replace Ot_25a := Lib.hid (own_below Ot_25a.out bw_p_283)
                                                replace Ot_93a := Lib.hid (own_below Ot_93a.out bw_p_283)
                                                replace Ot_189a := Lib.hid (own_below Ot_189a.out bw_p_283)
                                                replace Ot_255a := Lib.hid (own_below Ot_255a.out bw_p_283)
                                                replace Ot_266a := Lib.hid (own_below Ot_266a.out bw_p_283)
                                                replace Ot_275a := Lib.hid (own_below Ot_275a.out bw_p_283)
                                                clear bw_p_283
                                                have kp_283_0 : w_p_283.cell? ⟨wt_282.heap.size, 0, none⟩ = some (.int .i64 t_282_id) := by rw [← hw_p_283]; exact box_new _ _ _ 0 _ rfl
                                                have kp_283_1 : w_p_283.cell? ⟨wt_282.heap.size, 1, none⟩ = some (.string t_282_town) := by rw [← hw_p_283]; exact box_new _ _ _ 1 _ rfl
                                                have kp_283_2 : w_p_283.cell? ⟨wt_282.heap.size, 2, none⟩ = some (.int .i64 t_282_kind_) := by rw [← hw_p_283]; exact box_new _ _ _ 2 _ rfl
                                                have kp_283_3 : w_p_283.cell? ⟨wt_282.heap.size, 3, none⟩ = some (.int .i64 t_282_first) := by rw [← hw_p_283]; exact box_new _ _ _ 3 _ rfl
                                                have kp_283_4 : w_p_283.cell? ⟨wt_282.heap.size, 4, none⟩ = some (.int .i64 t_282_last) := by rw [← hw_p_283]; exact box_new _ _ _ 4 _ rfl
                                                have kp_283_5 : w_p_283.cell? ⟨wt_282.heap.size, 5, none⟩ = some (.string t_282_lost) := by rw [← hw_p_283]; exact box_new _ _ _ 5 _ rfl
                                                replace H := bind2_hid H
                                                obtain ⟨t_286a, t_286b, qt_286, H⟩ := H
                                                go_wp2_with fail
                                                go_at_call 24
                                                refine (Go.Proofs.YtgimcnpkngpmiaaDoor.GiShownBy.C ((Go.Proofs.YtgimcnpkngpmiaaDoor.PPostmark.Postmark.mk t_282_id t_282_town t_282_kind_ t_282_first t_282_last t_282_lost))  _    qt_286).mono ?_
                                                rintro e_t_286 wt_286 ⟨rfl, bt_286⟩
                                                have HBwt_286 := Lib.hid (Below.step HBw_p_283.out bt_286)
                                                replace kp_283_0 := cell_below bt_286 kp_283_0
                                                replace kp_283_1 := cell_below bt_286 kp_283_1
                                                replace kp_283_2 := cell_below bt_286 kp_283_2
                                                replace kp_283_3 := cell_below bt_286 kp_283_3
                                                replace kp_283_4 := cell_below bt_286 kp_283_4
                                                replace kp_283_5 := cell_below bt_286 kp_283_5
                                                replace Ot_5a := Lib.hid (own_below Ot_5a.out bt_286)
                                                replace Ot_16a := Lib.hid (own_below Ot_16a.out bt_286)
                                                replace Ot_25a := Lib.hid (own_below Ot_25a.out bt_286)
                                                replace Ot_93a := Lib.hid (own_below Ot_93a.out bt_286)
                                                replace Ot_189a := Lib.hid (own_below Ot_189a.out bt_286)
                                                replace Ot_255a := Lib.hid (own_below Ot_255a.out bt_286)
                                                replace Ot_266a := Lib.hid (own_below Ot_266a.out bt_286)
                                                replace Ot_275a := Lib.hid (own_below Ot_275a.out bt_286)
                                                clear bt_286
                                                replace H := bind2_hid H
                                                obtain ⟨t_293a, t_293b, qt_293, H⟩ := H
                                                go_wp2_with fail
                                                go_at_call 34
                                                refine (Go.Proofs.YtgimcnpkngpmiaaDoor.GsShownBy.C fuel ((Go.Proofs.YtgimcnpkngpmiaaDoor.PPostmark.Postmark.mk t_282_id t_282_town t_282_kind_ t_282_first t_282_last t_282_lost))  _    qt_293).mono ?_
                                                rintro e_t_293 wt_293 ⟨rfl, bt_293⟩
                                                have HBwt_293 := Lib.hid (Below.step HBwt_286.out bt_293)
                                                replace kp_283_0 := cell_below bt_293 kp_283_0
                                                replace kp_283_1 := cell_below bt_293 kp_283_1
                                                replace kp_283_2 := cell_below bt_293 kp_283_2
                                                replace kp_283_3 := cell_below bt_293 kp_283_3
                                                replace kp_283_4 := cell_below bt_293 kp_283_4
                                                replace kp_283_5 := cell_below bt_293 kp_283_5
                                                replace Ot_5a := Lib.hid (own_below Ot_5a.out bt_293)
                                                replace Ot_16a := Lib.hid (own_below Ot_16a.out bt_293)
                                                replace Ot_25a := Lib.hid (own_below Ot_25a.out bt_293)
                                                replace Ot_93a := Lib.hid (own_below Ot_93a.out bt_293)
                                                replace Ot_189a := Lib.hid (own_below Ot_189a.out bt_293)
                                                replace Ot_255a := Lib.hid (own_below Ot_255a.out bt_293)
                                                replace Ot_266a := Lib.hid (own_below Ot_266a.out bt_293)
                                                replace Ot_275a := Lib.hid (own_below Ot_275a.out bt_293)
                                                clear bt_293
                                                go_upto_region 39 with fail
                                                go_cut [2] (fun v2_ wr => ∃ (t_2q8 : Bool), v2_ = .bool t_2q8 ∧ Hid (q8  (t_2q8) = some r) ∧ Hid (Below w.heap.size w wr) ∧ wr.cell? ⟨wt_282.heap.size, 0, none⟩ = some (.int .i64 t_282_id) ∧ wr.cell? ⟨wt_282.heap.size, 1, none⟩ = some (.string t_282_town) ∧ wr.cell? ⟨wt_282.heap.size, 2, none⟩ = some (.int .i64 t_282_kind_) ∧ wr.cell? ⟨wt_282.heap.size, 3, none⟩ = some (.int .i64 t_282_first) ∧ wr.cell? ⟨wt_282.heap.size, 4, none⟩ = some (.int .i64 t_282_last) ∧ wr.cell? ⟨wt_282.heap.size, 5, none⟩ = some (.string t_282_lost) ∧ Hid (wr.ownsRow w.heap.size 39 6 (.slice At_5a t_5a.length ct_5a) t_5a.length (Go.Proofs.YtgimcnpkngpmiaaDoor.PPostmark.flat t_5a)) ∧ Hid (wr.ownsRow w.heap.size 39 6 (.slice At_16a t_16a.length ct_16a) t_16a.length (Go.Proofs.YtgimcnpkngpmiaaDoor.PPostmark.flat t_16a)) ∧ Hid (wr.ownsRow w.heap.size 39 6 (.slice At_25a t_25a.length ct_25a) t_25a.length (Go.Proofs.YtgimcnpkngpmiaaDoor.PPostmark.flat t_25a)) ∧ Hid (wr.ownsRow w.heap.size 39 6 (.slice At_93a t_93a.length ct_93a) t_93a.length (Go.Proofs.YtgimcnpkngpmiaaDoor.PPostmark.flat t_93a)) ∧ Hid (wr.ownsRow w.heap.size 39 6 (.slice At_189a t_189a.length ct_189a) t_189a.length (Go.Proofs.YtgimcnpkngpmiaaDoor.PPostmark.flat t_189a)) ∧ Hid (wr.ownsRow w.heap.size 39 6 (.slice At_255a t_255a.length ct_255a) t_255a.length (Go.Proofs.YtgimcnpkngpmiaaDoor.PPostmark.flat t_255a)) ∧ Hid (wr.ownsRow w.heap.size 3 1 (.slice At_266a t_266a.length ct_266a) t_266a.length (Go.Proofs.YtgimcnpkngpmiaaDoor.HelpInt.iv t_266a)) ∧ Hid (wr.ownsRow w.heap.size 3 1 (.slice At_275a t_275a.length ct_275a) t_275a.length (Go.Proofs.YtgimcnpkngpmiaaDoor.HelpInt.iv t_275a)))
                                                case first =>
                                                  as_aux_lemma =>
                                                    go_wp2_with fail
                                                    have Hkp_283_0 := Lib.hid kp_283_0
                                                    replace kp_283_0 := cell_regrown kp_283_0
                                                    have Hkp_283_1 := Lib.hid kp_283_1
                                                    replace kp_283_1 := cell_regrown kp_283_1
                                                    have Hkp_283_2 := Lib.hid kp_283_2
                                                    replace kp_283_2 := cell_regrown kp_283_2
                                                    have Hkp_283_3 := Lib.hid kp_283_3
                                                    replace kp_283_3 := cell_regrown kp_283_3
                                                    have Hkp_283_4 := Lib.hid kp_283_4
                                                    replace kp_283_4 := cell_regrown kp_283_4
                                                    have Hkp_283_5 := Lib.hid kp_283_5
                                                    replace kp_283_5 := cell_regrown kp_283_5
                                                    replace H := let_hid H
                                                    obtain ⟨t_301, ht_301, H⟩ := H
                                                    replace H := join_hid H
                                                    cases t_301 with
                                                    | false =>
                                                      replace H := ite_f H
                                                      replace H := app_hid H
                                                      replace H := join_hid H
                                                      replace H := ite_f H
                                                      replace H := app_hid H
                                                      replace H := join_hid H
                                                      replace H := ite_f H
                                                      replace H := app_hid H
                                                      replace H := join_hid H
                                                      replace H := ite_f H
                                                      replace H := app_hid H
                                                      replace H := join_hid H
                                                      replace H := ite_f H
                                                      replace H := app_hid H
                                                      refine wp_region_quiet_below (by kernel_rfl) (by kernel_rfl) ?_
                                                      repeat (go_big_quiet_step (fail))
                                                      refine wpQuiet_nil ?_
                                                      intro Y39 hY39
                                                      replace hY39 := below_class hY39
                                                      replace kp_283_0 := Hkp_283_0.out
                                                      clear Hkp_283_0
                                                      replace kp_283_1 := Hkp_283_1.out
                                                      clear Hkp_283_1
                                                      replace kp_283_2 := Hkp_283_2.out
                                                      clear Hkp_283_2
                                                      replace kp_283_3 := Hkp_283_3.out
                                                      clear Hkp_283_3
                                                      replace kp_283_4 := Hkp_283_4.out
                                                      clear Hkp_283_4
                                                      replace kp_283_5 := Hkp_283_5.out
                                                      clear Hkp_283_5
                                                      have HBY39 := Lib.hid (Below.step HBwt_293.out hY39)
                                                      replace kp_283_0 := cell_below hY39 kp_283_0
                                                      replace kp_283_1 := cell_below hY39 kp_283_1
                                                      replace kp_283_2 := cell_below hY39 kp_283_2
                                                      replace kp_283_3 := cell_below hY39 kp_283_3
                                                      replace kp_283_4 := cell_below hY39 kp_283_4
                                                      replace kp_283_5 := cell_below hY39 kp_283_5
                                                      replace Ot_5a := Lib.hid (own_below Ot_5a.out hY39)
                                                      replace Ot_16a := Lib.hid (own_below Ot_16a.out hY39)
                                                      replace Ot_25a := Lib.hid (own_below Ot_25a.out hY39)
                                                      replace Ot_93a := Lib.hid (own_below Ot_93a.out hY39)
                                                      replace Ot_189a := Lib.hid (own_below Ot_189a.out hY39)
                                                      replace Ot_255a := Lib.hid (own_below Ot_255a.out hY39)
                                                      replace Ot_266a := Lib.hid (own_below Ot_266a.out hY39)
                                                      replace Ot_275a := Lib.hid (own_below Ot_275a.out hY39)
                                                      clear hY39
                                                      go_wp2_with fail
                                                      go_meet
                                                      case rel => exact ⟨_, rfl, H, HBY39, kp_283_0, kp_283_1, kp_283_2, kp_283_3, kp_283_4, kp_283_5, Ot_5a, Ot_16a, Ot_25a, Ot_93a, Ot_189a, Ot_255a, Ot_266a, Ot_275a⟩
                                                    | true =>
                                                      replace H := ite_t H
                                                      replace H := bind_hid H
                                                      obtain ⟨t_305, qt_305, H⟩ := H
                                                      have nt_305 : ∀ d os, Calls Tryd.prog 35 #[.slice At_266a t_266a.length ct_266a, .slice At_275a t_275a.length ct_275a] (Go.Sort.grow (redrawn wt_293 d) os) fun e w'' => e = .returned (.bool t_305) ∧ ∃ p : Regrown, w'' = Go.Sort.grow (redrawn wt_293 p.d) p.os := fun d os => Calls.regrown_of (Go.Proofs.YtgimcnpkngpmiaaDoor.GlRInts.C (t_266a) (t_275a) At_266a ct_266a At_275a ct_275a _   (Lib.hid (Cells.below (own_cells Ot_266a.out) (below_regrown _ _ _))) (Lib.hid (own_max Ot_266a.out)) (Lib.hid (Cells.below (own_cells Ot_275a.out) (below_regrown _ _ _))) (Lib.hid (own_max Ot_275a.out)) qt_305)
                                                      replace H := app_hid H
                                                      replace H := join_hid H
                                                      cases t_305 with
                                                      | false =>
                                                        replace H := ite_f H
                                                        replace H := app_hid H
                                                        replace H := join_hid H
                                                        replace H := ite_f H
                                                        replace H := app_hid H
                                                        replace H := join_hid H
                                                        replace H := ite_f H
                                                        replace H := app_hid H
                                                        replace H := join_hid H
                                                        replace H := ite_f H
                                                        replace H := app_hid H
                                                        refine wp_region_quiet_below (by kernel_rfl) (by kernel_rfl) ?_
                                                        repeat (go_big_quiet_step (first | (go_at_call 35; exact nt_305 _ _)))
                                                        refine wpQuiet_nil ?_
                                                        intro Y39 hY39
                                                        replace hY39 := below_class hY39
                                                        clear nt_305
                                                        replace kp_283_0 := Hkp_283_0.out
                                                        clear Hkp_283_0
                                                        replace kp_283_1 := Hkp_283_1.out
                                                        clear Hkp_283_1
                                                        replace kp_283_2 := Hkp_283_2.out
                                                        clear Hkp_283_2
                                                        replace kp_283_3 := Hkp_283_3.out
                                                        clear Hkp_283_3
                                                        replace kp_283_4 := Hkp_283_4.out
                                                        clear Hkp_283_4
                                                        replace kp_283_5 := Hkp_283_5.out
                                                        clear Hkp_283_5
                                                        have HBY39 := Lib.hid (Below.step HBwt_293.out hY39)
                                                        replace kp_283_0 := cell_below hY39 kp_283_0
                                                        replace kp_283_1 := cell_below hY39 kp_283_1
                                                        replace kp_283_2 := cell_below hY39 kp_283_2
                                                        replace kp_283_3 := cell_below hY39 kp_283_3
                                                        replace kp_283_4 := cell_below hY39 kp_283_4
                                                        replace kp_283_5 := cell_below hY39 kp_283_5
                                                        replace Ot_5a := Lib.hid (own_below Ot_5a.out hY39)
                                                        replace Ot_16a := Lib.hid (own_below Ot_16a.out hY39)
                                                        replace Ot_25a := Lib.hid (own_below Ot_25a.out hY39)
                                                        replace Ot_93a := Lib.hid (own_below Ot_93a.out hY39)
                                                        replace Ot_189a := Lib.hid (own_below Ot_189a.out hY39)
                                                        replace Ot_255a := Lib.hid (own_below Ot_255a.out hY39)
                                                        replace Ot_266a := Lib.hid (own_below Ot_266a.out hY39)
                                                        replace Ot_275a := Lib.hid (own_below Ot_275a.out hY39)
                                                        clear hY39
                                                        go_wp2_with fail
                                                        go_meet
                                                        case rel => exact ⟨_, rfl, H, HBY39, kp_283_0, kp_283_1, kp_283_2, kp_283_3, kp_283_4, kp_283_5, Ot_5a, Ot_16a, Ot_25a, Ot_93a, Ot_189a, Ot_255a, Ot_266a, Ot_275a⟩
                                                      | true =>
                                                        replace H := ite_t H
                                                        replace H := let_hid H
                                                        obtain ⟨t_310, ht_310, H⟩ := H
                                                        replace H := app_hid H
                                                        replace H := join_hid H
                                                        cases t_310 with
                                                        | false =>
                                                          replace H := ite_f H
                                                          replace H := app_hid H
                                                          replace H := join_hid H
                                                          replace H := ite_f H
                                                          replace H := app_hid H
                                                          replace H := join_hid H
                                                          replace H := ite_f H
                                                          replace H := app_hid H
                                                          refine wp_region_quiet_below (by kernel_rfl) (by kernel_rfl) ?_
                                                          repeat (go_big_quiet_step (first | (go_at_call 35; exact nt_305 _ _)))
                                                          refine wpQuiet_nil ?_
                                                          intro Y39 hY39
                                                          replace hY39 := below_class hY39
                                                          clear nt_305
                                                          replace kp_283_0 := Hkp_283_0.out
                                                          clear Hkp_283_0
                                                          replace kp_283_1 := Hkp_283_1.out
                                                          clear Hkp_283_1
                                                          replace kp_283_2 := Hkp_283_2.out
                                                          clear Hkp_283_2
                                                          replace kp_283_3 := Hkp_283_3.out
                                                          clear Hkp_283_3
                                                          replace kp_283_4 := Hkp_283_4.out
                                                          clear Hkp_283_4
                                                          replace kp_283_5 := Hkp_283_5.out
                                                          clear Hkp_283_5
                                                          have HBY39 := Lib.hid (Below.step HBwt_293.out hY39)
                                                          replace kp_283_0 := cell_below hY39 kp_283_0
                                                          replace kp_283_1 := cell_below hY39 kp_283_1
                                                          replace kp_283_2 := cell_below hY39 kp_283_2
                                                          replace kp_283_3 := cell_below hY39 kp_283_3
                                                          replace kp_283_4 := cell_below hY39 kp_283_4
                                                          replace kp_283_5 := cell_below hY39 kp_283_5
                                                          replace Ot_5a := Lib.hid (own_below Ot_5a.out hY39)
                                                          replace Ot_16a := Lib.hid (own_below Ot_16a.out hY39)
                                                          replace Ot_25a := Lib.hid (own_below Ot_25a.out hY39)
                                                          replace Ot_93a := Lib.hid (own_below Ot_93a.out hY39)
                                                          replace Ot_189a := Lib.hid (own_below Ot_189a.out hY39)
                                                          replace Ot_255a := Lib.hid (own_below Ot_255a.out hY39)
                                                          replace Ot_266a := Lib.hid (own_below Ot_266a.out hY39)
                                                          replace Ot_275a := Lib.hid (own_below Ot_275a.out hY39)
                                                          clear hY39
                                                          go_wp2_with fail
                                                          go_meet
                                                          case rel => exact ⟨_, rfl, H, HBY39, kp_283_0, kp_283_1, kp_283_2, kp_283_3, kp_283_4, kp_283_5, Ot_5a, Ot_16a, Ot_25a, Ot_93a, Ot_189a, Ot_255a, Ot_266a, Ot_275a⟩
                                                        | true =>
                                                          replace H := ite_t H
                                                          replace H := let_hid H
                                                          obtain ⟨t_315, ht_315, H⟩ := H
                                                          replace H := app_hid H
                                                          replace H := join_hid H
                                                          cases t_315 with
                                                          | false =>
                                                            replace H := ite_f H
                                                            replace H := app_hid H
                                                            replace H := join_hid H
                                                            replace H := ite_f H
                                                            replace H := app_hid H
                                                            refine wp_region_quiet_below (by kernel_rfl) (by kernel_rfl) ?_
                                                            repeat (go_big_quiet_step (first | (go_at_call 35; exact nt_305 _ _)))
                                                            refine wpQuiet_nil ?_
                                                            intro Y39 hY39
                                                            replace hY39 := below_class hY39
                                                            clear nt_305
                                                            replace kp_283_0 := Hkp_283_0.out
                                                            clear Hkp_283_0
                                                            replace kp_283_1 := Hkp_283_1.out
                                                            clear Hkp_283_1
                                                            replace kp_283_2 := Hkp_283_2.out
                                                            clear Hkp_283_2
                                                            replace kp_283_3 := Hkp_283_3.out
                                                            clear Hkp_283_3
                                                            replace kp_283_4 := Hkp_283_4.out
                                                            clear Hkp_283_4
                                                            replace kp_283_5 := Hkp_283_5.out
                                                            clear Hkp_283_5
                                                            have HBY39 := Lib.hid (Below.step HBwt_293.out hY39)
                                                            replace kp_283_0 := cell_below hY39 kp_283_0
                                                            replace kp_283_1 := cell_below hY39 kp_283_1
                                                            replace kp_283_2 := cell_below hY39 kp_283_2
                                                            replace kp_283_3 := cell_below hY39 kp_283_3
                                                            replace kp_283_4 := cell_below hY39 kp_283_4
                                                            replace kp_283_5 := cell_below hY39 kp_283_5
                                                            replace Ot_5a := Lib.hid (own_below Ot_5a.out hY39)
                                                            replace Ot_16a := Lib.hid (own_below Ot_16a.out hY39)
                                                            replace Ot_25a := Lib.hid (own_below Ot_25a.out hY39)
                                                            replace Ot_93a := Lib.hid (own_below Ot_93a.out hY39)
                                                            replace Ot_189a := Lib.hid (own_below Ot_189a.out hY39)
                                                            replace Ot_255a := Lib.hid (own_below Ot_255a.out hY39)
                                                            replace Ot_266a := Lib.hid (own_below Ot_266a.out hY39)
                                                            replace Ot_275a := Lib.hid (own_below Ot_275a.out hY39)
                                                            clear hY39
                                                            go_wp2_with fail
                                                            go_meet
                                                            case rel => exact ⟨_, rfl, H, HBY39, kp_283_0, kp_283_1, kp_283_2, kp_283_3, kp_283_4, kp_283_5, Ot_5a, Ot_16a, Ot_25a, Ot_93a, Ot_189a, Ot_255a, Ot_266a, Ot_275a⟩
                                                          | true =>
                                                            replace H := ite_t H
                                                            replace H := bind_hid H
                                                            obtain ⟨t_319, qt_319, H⟩ := H
                                                            have nt_319 : ∀ d os, Calls Tryd.prog 36 #[.agg #[.int .i64 t_282_id, .string t_282_town, .int .i64 t_282_kind_, .int .i64 t_282_first, .int .i64 t_282_last, .string t_282_lost]] (Go.Sort.grow (redrawn wt_293 d) os) fun e w'' => e = .returned (.bool t_319) ∧ ∃ p : Regrown, w'' = Go.Sort.grow (redrawn wt_293 p.d) p.os := fun d os => Calls.regrown_of (Go.Proofs.YtgimcnpkngpmiaaDoor.GiIsPostmark.C ((Go.Proofs.YtgimcnpkngpmiaaDoor.PPostmark.Postmark.mk t_282_id t_282_town t_282_kind_ t_282_first t_282_last t_282_lost))  _    qt_319)
                                                            replace H := bind_hid H
                                                            obtain ⟨t_321, qt_321, H⟩ := H
                                                            have nt_321 : ∀ d os, Calls Tryd.prog 37 #[.agg #[.int .i64 t_282_id, .string t_282_town, .int .i64 t_282_kind_, .int .i64 t_282_first, .int .i64 t_282_last, .string t_282_lost]] (Go.Sort.grow (redrawn wt_293 d) os) fun e w'' => e = .returned (.bool t_321) ∧ ∃ p : Regrown, w'' = Go.Sort.grow (redrawn wt_293 p.d) p.os := fun d os => Calls.regrown_of (Go.Proofs.YtgimcnpkngpmiaaDoor.GsIsPostmark.C fuel ((Go.Proofs.YtgimcnpkngpmiaaDoor.PPostmark.Postmark.mk t_282_id t_282_town t_282_kind_ t_282_first t_282_last t_282_lost))  _    qt_321)
                                                            replace H := let_hid H
                                                            obtain ⟨t_322, ht_322, H⟩ := H
                                                            replace H := app_hid H
                                                            replace H := join_hid H
                                                            cases t_322 with
                                                            | false =>
                                                              replace H := ite_f H
                                                              replace H := app_hid H
                                                              refine wp_region_quiet_below (by kernel_rfl) (by kernel_rfl) ?_
                                                              repeat (go_big_quiet_step (first | (go_at_call 35; exact nt_305 _ _) | (go_at_call 36; exact nt_319 _ _) | (go_at_call 37; exact nt_321 _ _)))
                                                              refine wpQuiet_nil ?_
                                                              intro Y39 hY39
                                                              replace hY39 := below_class hY39
                                                              clear nt_305 nt_319 nt_321
                                                              replace kp_283_0 := Hkp_283_0.out
                                                              clear Hkp_283_0
                                                              replace kp_283_1 := Hkp_283_1.out
                                                              clear Hkp_283_1
                                                              replace kp_283_2 := Hkp_283_2.out
                                                              clear Hkp_283_2
                                                              replace kp_283_3 := Hkp_283_3.out
                                                              clear Hkp_283_3
                                                              replace kp_283_4 := Hkp_283_4.out
                                                              clear Hkp_283_4
                                                              replace kp_283_5 := Hkp_283_5.out
                                                              clear Hkp_283_5
                                                              have HBY39 := Lib.hid (Below.step HBwt_293.out hY39)
                                                              replace kp_283_0 := cell_below hY39 kp_283_0
                                                              replace kp_283_1 := cell_below hY39 kp_283_1
                                                              replace kp_283_2 := cell_below hY39 kp_283_2
                                                              replace kp_283_3 := cell_below hY39 kp_283_3
                                                              replace kp_283_4 := cell_below hY39 kp_283_4
                                                              replace kp_283_5 := cell_below hY39 kp_283_5
                                                              replace Ot_5a := Lib.hid (own_below Ot_5a.out hY39)
                                                              replace Ot_16a := Lib.hid (own_below Ot_16a.out hY39)
                                                              replace Ot_25a := Lib.hid (own_below Ot_25a.out hY39)
                                                              replace Ot_93a := Lib.hid (own_below Ot_93a.out hY39)
                                                              replace Ot_189a := Lib.hid (own_below Ot_189a.out hY39)
                                                              replace Ot_255a := Lib.hid (own_below Ot_255a.out hY39)
                                                              replace Ot_266a := Lib.hid (own_below Ot_266a.out hY39)
                                                              replace Ot_275a := Lib.hid (own_below Ot_275a.out hY39)
                                                              clear hY39
                                                              go_wp2_with fail
                                                              go_meet
                                                              case rel => exact ⟨_, rfl, H, HBY39, kp_283_0, kp_283_1, kp_283_2, kp_283_3, kp_283_4, kp_283_5, Ot_5a, Ot_16a, Ot_25a, Ot_93a, Ot_189a, Ot_255a, Ot_266a, Ot_275a⟩
                                                            | true =>
                                                              replace H := ite_t H
                                                              replace H := bind_hid H
                                                              obtain ⟨t_326, qt_326, H⟩ := H
                                                              have nt_326 : ∀ d os, Calls Tryd.prog 38 #[.slice At_255a t_255a.length ct_255a] (Go.Sort.grow (redrawn wt_293 d) os) fun e w'' => e = .returned (.bool t_326) ∧ ∃ p : Regrown, w'' = Go.Sort.grow (redrawn wt_293 p.d) p.os := fun d os => Calls.regrown_of (Go.Proofs.YtgimcnpkngpmiaaDoor.GiArePostmarks.C (t_255a) At_255a ct_255a _   (Lib.hid (Cells.below (own_cells Ot_255a.out) (below_regrown _ _ _))) (Lib.hid (own_max Ot_255a.out)) qt_326)
                                                              replace H := bind_hid H
                                                              obtain ⟨t_328, qt_328, H⟩ := H
                                                              have nt_328 : ∀ d os, Calls Tryd.prog 39 #[.slice At_255a t_255a.length ct_255a] (Go.Sort.grow (redrawn wt_293 d) os) fun e w'' => e = .returned (.bool t_328) ∧ ∃ p : Regrown, w'' = Go.Sort.grow (redrawn wt_293 p.d) p.os := fun d os => Calls.regrown_of (Go.Proofs.YtgimcnpkngpmiaaDoor.GsArePostmarks.C fuel (t_255a) At_255a ct_255a _   (Lib.hid (Cells.below (own_cells Ot_255a.out) (below_regrown _ _ _))) (Lib.hid (own_max Ot_255a.out)) qt_328)
                                                              replace H := let_hid H
                                                              obtain ⟨t_329, ht_329, H⟩ := H
                                                              replace H := app_hid H
                                                              refine wp_region_quiet_below (by kernel_rfl) (by kernel_rfl) ?_
                                                              repeat (go_big_quiet_step (first | (go_at_call 35; exact nt_305 _ _) | (go_at_call 36; exact nt_319 _ _) | (go_at_call 37; exact nt_321 _ _) | (go_at_call 38; exact nt_326 _ _) | (go_at_call 39; exact nt_328 _ _)))
                                                              refine wpQuiet_nil ?_
                                                              intro Y39 hY39
                                                              replace hY39 := below_class hY39
                                                              clear nt_305 nt_319 nt_321 nt_326 nt_328
                                                              replace kp_283_0 := Hkp_283_0.out
                                                              clear Hkp_283_0
                                                              replace kp_283_1 := Hkp_283_1.out
                                                              clear Hkp_283_1
                                                              replace kp_283_2 := Hkp_283_2.out
                                                              clear Hkp_283_2
                                                              replace kp_283_3 := Hkp_283_3.out
                                                              clear Hkp_283_3
                                                              replace kp_283_4 := Hkp_283_4.out
                                                              clear Hkp_283_4
                                                              replace kp_283_5 := Hkp_283_5.out
                                                              clear Hkp_283_5
                                                              have HBY39 := Lib.hid (Below.step HBwt_293.out hY39)
                                                              replace kp_283_0 := cell_below hY39 kp_283_0
                                                              replace kp_283_1 := cell_below hY39 kp_283_1
                                                              replace kp_283_2 := cell_below hY39 kp_283_2
                                                              replace kp_283_3 := cell_below hY39 kp_283_3
                                                              replace kp_283_4 := cell_below hY39 kp_283_4
                                                              replace kp_283_5 := cell_below hY39 kp_283_5
                                                              replace Ot_5a := Lib.hid (own_below Ot_5a.out hY39)
                                                              replace Ot_16a := Lib.hid (own_below Ot_16a.out hY39)
                                                              replace Ot_25a := Lib.hid (own_below Ot_25a.out hY39)
                                                              replace Ot_93a := Lib.hid (own_below Ot_93a.out hY39)
                                                              replace Ot_189a := Lib.hid (own_below Ot_189a.out hY39)
                                                              replace Ot_255a := Lib.hid (own_below Ot_255a.out hY39)
                                                              replace Ot_266a := Lib.hid (own_below Ot_266a.out hY39)
                                                              replace Ot_275a := Lib.hid (own_below Ot_275a.out hY39)
                                                              clear hY39
                                                              go_wp2_with fail
                                                              go_meet
                                                              case rel => exact ⟨_, rfl, H, HBY39, kp_283_0, kp_283_1, kp_283_2, kp_283_3, kp_283_4, kp_283_5, Ot_5a, Ot_16a, Ot_25a, Ot_93a, Ot_189a, Ot_255a, Ot_266a, Ot_275a⟩
                                                case rest =>
                                                  as_aux_lemma =>
                                                    obtain ⟨t_2q8, rfl, H, HBwq8, kp_283_0, kp_283_1, kp_283_2, kp_283_3, kp_283_4, kp_283_5, Ot_5a, Ot_16a, Ot_25a, Ot_93a, Ot_189a, Ot_255a, Ot_266a, Ot_275a⟩ := hcut
                                                    rename World => wq8
                                                    unfold q8 at H
                                                    replace H := let_hid H
                                                    obtain ⟨_, rfl, H⟩ := H
                                                    obtain rfl := ret_hid H
                                                    go_wp2_with fail
                                                    go_ret
                                                    exact ⟨rfl, HBwq8.out⟩
                                              | true =>
                                                replace H := ite_t H
                                                obtain rfl := ret_hid H
                                                go_wp2_with fail
                                                go_ret
                                                exact ⟨rfl, HBwq7.out⟩
                                        | true =>
                                          replace H := ite_t H
                                          obtain rfl := ret_hid H
                                          go_wp2_with fail
                                          go_ret
                                          exact ⟨rfl, HBwq6.out⟩
                                  | true =>
                                    replace H := ite_t H
                                    go_upto_region 23 with fail
                                    go_cut [203] (fun v203_ wr => ∃ (t_203q5 : Bool), v203_ = .bool t_203q5 ∧ Hid (q5 (fun s' => loopK (l1 t_93a t_93b t_101a t_101b t_101c) m1 s' (e1 code fuel tapes)) i_23l1 (t_203q5) = some r) ∧ Hid (Below w.heap.size w wr) ∧ Hid (wr.ownsRow w.heap.size 39 6 (.slice At_5a t_5a.length ct_5a) t_5a.length (Go.Proofs.YtgimcnpkngpmiaaDoor.PPostmark.flat t_5a)) ∧ Hid (wr.ownsRow w.heap.size 39 6 (.slice At_16a t_16a.length ct_16a) t_16a.length (Go.Proofs.YtgimcnpkngpmiaaDoor.PPostmark.flat t_16a)) ∧ Hid (wr.ownsRow w.heap.size 39 6 (.slice At_25a t_25a.length ct_25a) t_25a.length (Go.Proofs.YtgimcnpkngpmiaaDoor.PPostmark.flat t_25a)) ∧ Hid (wr.ownsRow w.heap.size 39 6 (.slice At_93a t_93a.length ct_93a) t_93a.length (Go.Proofs.YtgimcnpkngpmiaaDoor.PPostmark.flat t_93a)))
                                    case first =>
                                      as_aux_lemma =>
                                        replace H := idx_hid H
                                        obtain ⟨nt_143, yt_143, et_143, lt_143, gt_143, H⟩ := H
                                        subst et_143
                                        obtain ⟨t_143_id, t_143_town, t_143_kind_, t_143_first, t_143_last, t_143_lost⟩ := yt_143
                                        replace H := unPostmark_hid H
                                        obtain ⟨qt_143, Qt_143⟩ := own_some Ot_93a.out (by omega)
                                        subst Qt_143
                                        obtain ⟨ab_t_143, ao_t_143, zt_143, At_143, z_t_143, ct_143_0, ct_143_1, ct_143_2, ct_143_3, ct_143_4, ct_143_5⟩ := Go.Proofs.YtgimcnpkngpmiaaDoor.OPostmark.at_ (own_cells Ot_93a.out) (k := nt_143) (by omega)
                                        obtain rfl := Option.some.inj (gt_143.out.symm.trans z_t_143)
                                        simp only [Option.some.injEq, Addr.mk.injEq] at At_143
                                        obtain ⟨rfl, rfl, _⟩ := At_143
                                        clear z_t_143
                                        simp only [Nat.zero_add] at ct_143_0 ct_143_1 ct_143_2 ct_143_3 ct_143_4 ct_143_5
                                        have b0t_143 : (0 : Int) ≤ (nt_143 : Int) := by omega
                                        have b1t_143 : (nt_143 : Int) < ((t_93a.length : Nat) : Int) := by omega
                                        have b2t_143 : ((nt_143 : Int)).toNat = nt_143 := by omega
                                        replace H := let_hid H
                                        obtain ⟨t_147, ht_147, H⟩ := H
                                        replace H := join_hid H
                                        cases t_147 with
                                        | false =>
                                          replace H := ite_f H
                                          replace H := app_hid H
                                          replace H := join_hid H
                                          replace H := ite_f H
                                          replace H := idx_hid H
                                          obtain ⟨nt_160, yt_160, et_160, lt_160, gt_160, H⟩ := H
                                          obtain rfl : nt_143 = nt_160 := by omega
                                          clear et_160
                                          obtain rfl := Option.some.inj (gt_143.out.symm.trans gt_160.out)
                                          clear gt_160 lt_160
                                          replace H := unPostmark_hid H
                                          replace H := let_hid H
                                          obtain ⟨t_164, ht_164, H⟩ := H
                                          replace H := join_hid H
                                          cases t_164 with
                                          | false =>
                                            replace H := ite_f H
                                            replace H := app_hid H
                                            replace H := app_hid H
                                            go_wp2_with fail
                                            go_meet
                                            case rel => exact ⟨_, rfl, H, HBwq4, Ot_5a, Ot_16a, Ot_25a, Ot_93a⟩
                                          | true =>
                                            replace H := ite_t H
                                            replace H := idx_hid H
                                            obtain ⟨nt_168, yt_168, et_168, lt_168, gt_168, H⟩ := H
                                            obtain rfl : nt_143 = nt_168 := by omega
                                            clear et_168
                                            obtain rfl := Option.some.inj (gt_143.out.symm.trans gt_168.out)
                                            clear gt_168 lt_168
                                            replace H := unPostmark_hid H
                                            replace H := let_hid H
                                            obtain ⟨t_172, ht_172, H⟩ := H
                                            replace H := join_hid H
                                            cases t_172 with
                                            | false =>
                                              exact absurd (ht_172.symm.trans (show _ = true by rw [ht_147]; rfl)) (by simp)
                                            | true =>
                                              replace H := ite_t H
                                              replace H := app_hid H
                                              replace H := app_hid H
                                              replace H := app_hid H
                                              go_wp2_with fail
                                              go_meet
                                              case rel => exact ⟨_, rfl, H, HBwq4, Ot_5a, Ot_16a, Ot_25a, Ot_93a⟩
                                        | true =>
                                          replace H := ite_t H
                                          replace H := idx_hid H
                                          obtain ⟨nt_151, yt_151, et_151, lt_151, gt_151, H⟩ := H
                                          obtain rfl : nt_143 = nt_151 := by omega
                                          clear et_151
                                          obtain rfl := Option.some.inj (gt_143.out.symm.trans gt_151.out)
                                          clear gt_151 lt_151
                                          replace H := unPostmark_hid H
                                          replace H := let_hid H
                                          obtain ⟨t_155, ht_155, H⟩ := H
                                          replace H := app_hid H
                                          replace H := join_hid H
                                          cases t_155 with
                                          | false =>
                                            replace H := ite_f H
                                            replace H := idx_hid H
                                            obtain ⟨nt_160, yt_160, et_160, lt_160, gt_160, H⟩ := H
                                            obtain rfl : nt_143 = nt_160 := by omega
                                            clear et_160
                                            obtain rfl := Option.some.inj (gt_143.out.symm.trans gt_160.out)
                                            clear gt_160 lt_160
                                            replace H := unPostmark_hid H
                                            replace H := let_hid H
                                            obtain ⟨t_164, ht_164, H⟩ := H
                                            replace H := join_hid H
                                            cases t_164 with
                                            | false =>
                                              replace H := ite_f H
                                              replace H := app_hid H
                                              replace H := app_hid H
                                              go_wp2_with fail
                                              go_meet
                                              case rel => exact ⟨_, rfl, H, HBwq4, Ot_5a, Ot_16a, Ot_25a, Ot_93a⟩
                                            | true =>
                                              replace H := ite_t H
                                              replace H := idx_hid H
                                              obtain ⟨nt_168, yt_168, et_168, lt_168, gt_168, H⟩ := H
                                              obtain rfl : nt_143 = nt_168 := by omega
                                              clear et_168
                                              obtain rfl := Option.some.inj (gt_143.out.symm.trans gt_168.out)
                                              clear gt_168 lt_168
                                              replace H := unPostmark_hid H
                                              replace H := let_hid H
                                              obtain ⟨t_172, ht_172, H⟩ := H
                                              replace H := join_hid H
                                              cases t_172 with
                                              | false =>
                                                replace H := ite_f H
                                                replace H := idx_hid H
                                                obtain ⟨nt_176, yt_176, et_176, lt_176, gt_176, H⟩ := H
                                                obtain rfl : nt_143 = nt_176 := by omega
                                                clear et_176
                                                obtain rfl := Option.some.inj (gt_143.out.symm.trans gt_176.out)
                                                clear gt_176 lt_176
                                                replace H := unPostmark_hid H
                                                replace H := let_hid H
                                                obtain ⟨t_180, ht_180, H⟩ := H
                                                replace H := app_hid H
                                                replace H := app_hid H
                                                replace H := app_hid H
                                                go_wp2_with fail
                                                go_meet
                                                case rel => exact ⟨_, rfl, H, HBwq4, Ot_5a, Ot_16a, Ot_25a, Ot_93a⟩
                                              | true =>
                                                exact absurd (ht_172.symm.trans (show _ = false by rw [ht_147]; rfl)) (by simp)
                                          | true =>
                                            replace H := ite_t H
                                            replace H := app_hid H
                                            go_wp2_with fail
                                            go_meet
                                            case rel => exact ⟨_, rfl, H, HBwq4, Ot_5a, Ot_16a, Ot_25a, Ot_93a⟩
                                    case rest =>
                                      as_aux_lemma =>
                                        obtain ⟨t_203q5, rfl, H, HBwq5, Ot_5a, Ot_16a, Ot_25a, Ot_93a⟩ := hcut
                                        rename World => wq5
                                        unfold q5 at H
                                        replace H := let_hid H
                                        obtain ⟨_, rfl, H⟩ := H
                                        cases t_203q5 with
                                        | false =>
                                          replace H := ite_f H
                                          replace H := let_hid H
                                          obtain ⟨t_186, ht_186, H⟩ := H
                                          replace H := app_hid H
                                          go_wp2_with fail
                                          go_roundg m1
                                          case measure => omega
                                          case rel => exact ⟨_, rfl, H, HBwq5, Ot_5a, Ot_16a, Ot_25a, Ot_93a⟩
                                        | true =>
                                          replace H := ite_t H
                                          obtain rfl := ret_hid H
                                          go_wp2_with fail
                                          go_ret
                                          exact ⟨rfl, HBwq5.out⟩
                        | true =>
                          replace H := ite_t H
                          obtain rfl := ret_hid H
                          go_wp2_with fail
                          go_ret
                          exact ⟨rfl, HBwq3.out⟩
                  | true =>
                    replace H := ite_t H
                    replace H := idx_hid H
                    obtain ⟨nt_51, yt_51, et_51, lt_51, gt_51, H⟩ := H
                    subst et_51
                    obtain ⟨t_51_id, t_51_town, t_51_kind_, t_51_first, t_51_last, t_51_lost⟩ := yt_51
                    replace H := unPostmark_hid H
                    obtain ⟨qt_51, Qt_51⟩ := own_some Ot_5a.out (by omega)
                    subst Qt_51
                    obtain ⟨ab_t_51, ao_t_51, zt_51, At_51, z_t_51, ct_51_0, ct_51_1, ct_51_2, ct_51_3, ct_51_4, ct_51_5⟩ := Go.Proofs.YtgimcnpkngpmiaaDoor.OPostmark.at_ (own_cells Ot_5a.out) (k := nt_51) (by omega)
                    obtain rfl := Option.some.inj (gt_51.out.symm.trans z_t_51)
                    simp only [Option.some.injEq, Addr.mk.injEq] at At_51
                    obtain ⟨rfl, rfl, _⟩ := At_51
                    clear z_t_51
                    simp only [Nat.zero_add] at ct_51_0 ct_51_1 ct_51_2 ct_51_3 ct_51_4 ct_51_5
                    have b0t_51 : (0 : Int) ≤ (nt_51 : Int) := by omega
                    have b1t_51 : (nt_51 : Int) < ((t_5a.length : Nat) : Int) := by omega
                    have b2t_51 : ((nt_51 : Int)).toNat = nt_51 := by omega
                    replace H := bind2_hid H
                    obtain ⟨t_53a, t_53b, qt_53, H⟩ := H
                    go_wp2_with fail
                    go_at_call 24
                    refine (Go.Proofs.YtgimcnpkngpmiaaDoor.GiShownBy.C ((Go.Proofs.YtgimcnpkngpmiaaDoor.PPostmark.Postmark.mk t_51_id t_51_town t_51_kind_ t_51_first t_51_last t_51_lost))  _    qt_53).mono ?_
                    rintro e_t_53 wt_53 ⟨rfl, bt_53⟩
                    have HBwt_53 := Lib.hid (Below.step HBwq1.out bt_53)
                    replace ct_51_0 := cell_below bt_53 ct_51_0
                    replace ct_51_1 := cell_below bt_53 ct_51_1
                    replace ct_51_2 := cell_below bt_53 ct_51_2
                    replace ct_51_3 := cell_below bt_53 ct_51_3
                    replace ct_51_4 := cell_below bt_53 ct_51_4
                    replace ct_51_5 := cell_below bt_53 ct_51_5
                    replace Ot_5a := Lib.hid (own_below Ot_5a.out bt_53)
                    replace Ot_16a := Lib.hid (own_below Ot_16a.out bt_53)
                    replace Ot_25a := Lib.hid (own_below Ot_25a.out bt_53)
                    clear bt_53
                    replace H := idx_hid H
                    obtain ⟨nt_63, yt_63, et_63, lt_63, gt_63, H⟩ := H
                    obtain rfl : nt_51 = nt_63 := by omega
                    clear et_63
                    obtain rfl := Option.some.inj (gt_51.out.symm.trans gt_63.out)
                    clear gt_63 lt_63
                    replace H := unPostmark_hid H
                    replace H := bind2_hid H
                    obtain ⟨t_66a, t_66b, qt_66, H⟩ := H
                    go_wp2_with fail
                    go_at_call 9
                    refine (Go.Proofs.YtgimcnpkngpmiaaDoor.GiReadMarks.C (t_16a) (t_53a) (t_51_first) At_16a ct_16a _ (tab_below HBwt_53.out HT)  (Lib.hid (own_cells Ot_16a.out)) (Lib.hid (own_max Ot_16a.out)) qt_66).mono ?_
                    rintro e_t_66 wt_66 ⟨At_66a, ct_66a, rfl, ot_66a, bt_66⟩
                    have Dt_66a_t_5a := Lib.hid (apart_call ot_66a Ot_5a.out)
                    have Dt_66a_t_16a := Lib.hid (apart_call ot_66a Ot_16a.out)
                    have Dt_66a_t_25a := Lib.hid (apart_call ot_66a Ot_25a.out)
                    have Ot_66a := Lib.hid (own_lower ot_66a HBwt_53.out.size)
                    clear ot_66a
                    have HBwt_66 := Lib.hid (Below.step HBwt_53.out bt_66)
                    replace ct_51_0 := cell_below bt_66 ct_51_0
                    replace ct_51_1 := cell_below bt_66 ct_51_1
                    replace ct_51_2 := cell_below bt_66 ct_51_2
                    replace ct_51_3 := cell_below bt_66 ct_51_3
                    replace ct_51_4 := cell_below bt_66 ct_51_4
                    replace ct_51_5 := cell_below bt_66 ct_51_5
                    replace Ot_5a := Lib.hid (own_below Ot_5a.out bt_66)
                    replace Ot_16a := Lib.hid (own_below Ot_16a.out bt_66)
                    replace Ot_25a := Lib.hid (own_below Ot_25a.out bt_66)
                    clear bt_66
                    go_upto_region 13 with fail
                    go_cut [119] (fun v119_ wr => ∃ (t_119q2 : Bool), v119_ = .bool t_119q2 ∧ Hid (q2 (fun s' => loopK (l0 t_5a t_16a t_16b) m0 s' (e0 code fuel tapes)) (nt_51 : Int) (t_119q2) = some r) ∧ Hid (Below w.heap.size w wr) ∧ Hid (wr.ownsRow w.heap.size 39 6 (.slice (some ⟨qt_51, 0, none⟩) t_5a.length ct_5a) t_5a.length (Go.Proofs.YtgimcnpkngpmiaaDoor.PPostmark.flat t_5a)) ∧ Hid (wr.ownsRow w.heap.size 39 6 (.slice At_16a t_16a.length ct_16a) t_16a.length (Go.Proofs.YtgimcnpkngpmiaaDoor.PPostmark.flat t_16a)) ∧ Hid (wr.ownsRow w.heap.size 39 6 (.slice At_25a t_25a.length ct_25a) t_25a.length (Go.Proofs.YtgimcnpkngpmiaaDoor.PPostmark.flat t_25a)) ∧ Hid (wr.ownsRow w.heap.size 3 1 (.slice At_66a t_66a.length ct_66a) t_66a.length (Go.Proofs.YtgimcnpkngpmiaaDoor.HelpInt.iv t_66a)))
                    case first =>
                      as_aux_lemma =>
                        cases t_53b with
                        | false =>
                          replace H := let_hid H
                          obtain ⟨t_73, ht_73, H⟩ := H
                          obtain rfl : t_73 = true := ht_73.symm
                          replace H := join_hid H
                          replace H := ite_t H
                          replace H := app_hid H
                          replace H := join_hid H
                          replace H := ite_t H
                          replace H := app_hid H
                          go_wp2_with fail
                          go_meet
                          case rel => exact ⟨_, rfl, H, HBwt_66, Ot_5a, Ot_16a, Ot_25a, Ot_66a⟩
                        | true =>
                          replace H := let_hid H
                          obtain ⟨t_73, ht_73, H⟩ := H
                          obtain rfl : t_73 = false := ht_73.symm
                          replace H := join_hid H
                          replace H := ite_f H
                          cases t_66b with
                          | false =>
                            replace H := let_hid H
                            obtain ⟨t_76, ht_76, H⟩ := H
                            obtain rfl : t_76 = true := ht_76.symm
                            replace H := app_hid H
                            replace H := join_hid H
                            replace H := ite_t H
                            replace H := app_hid H
                            go_wp2_with fail
                            go_meet
                            case rel => exact ⟨_, rfl, H, HBwt_66, Ot_5a, Ot_16a, Ot_25a, Ot_66a⟩
                          | true =>
                            replace H := let_hid H
                            obtain ⟨t_76, ht_76, H⟩ := H
                            obtain rfl : t_76 = false := ht_76.symm
                            replace H := app_hid H
                            replace H := join_hid H
                            replace H := ite_f H
                            replace H := idx_hid H
                            obtain ⟨nt_82, yt_82, et_82, lt_82, gt_82, H⟩ := H
                            obtain rfl : nt_51 = nt_82 := by omega
                            clear et_82
                            obtain rfl := Option.some.inj (gt_51.out.symm.trans gt_82.out)
                            clear gt_82 lt_82
                            replace H := unPostmark_hid H
                            replace H := bind_hid H
                            obtain ⟨t_85, qt_85, H⟩ := H
                            go_wp2_with fail
                            go_at_call 25
                            refine (Go.Proofs.YtgimcnpkngpmiaaDoor.GlRHas.C (t_66a) (t_51_id) At_66a ct_66a _   (Lib.hid (own_cells Ot_66a.out)) (Lib.hid (own_max Ot_66a.out)) qt_85).mono ?_
                            rintro e_t_85 wt_85 ⟨rfl, bt_85⟩
                            have HBwt_85 := Lib.hid (Below.step HBwt_66.out bt_85)
                            replace ct_51_0 := cell_below bt_85 ct_51_0
                            replace ct_51_1 := cell_below bt_85 ct_51_1
                            replace ct_51_2 := cell_below bt_85 ct_51_2
                            replace ct_51_3 := cell_below bt_85 ct_51_3
                            replace ct_51_4 := cell_below bt_85 ct_51_4
                            replace ct_51_5 := cell_below bt_85 ct_51_5
                            replace Ot_5a := Lib.hid (own_below Ot_5a.out bt_85)
                            replace Ot_16a := Lib.hid (own_below Ot_16a.out bt_85)
                            replace Ot_25a := Lib.hid (own_below Ot_25a.out bt_85)
                            replace Ot_66a := Lib.hid (own_below Ot_66a.out bt_85)
                            clear bt_85
                            cases t_85 with
                            | false =>
                              replace H := let_hid H
                              obtain ⟨t_86, ht_86, H⟩ := H
                              obtain rfl : t_86 = true := ht_86.symm
                              replace H := app_hid H
                              go_wp2_with fail
                              go_meet
                              case rel => exact ⟨_, rfl, H, HBwt_85, Ot_5a, Ot_16a, Ot_25a, Ot_66a⟩
                            | true =>
                              replace H := let_hid H
                              obtain ⟨t_86, ht_86, H⟩ := H
                              obtain rfl : t_86 = false := ht_86.symm
                              replace H := app_hid H
                              go_wp2_with fail
                              go_meet
                              case rel => exact ⟨_, rfl, H, HBwt_85, Ot_5a, Ot_16a, Ot_25a, Ot_66a⟩
                    case rest =>
                      as_aux_lemma =>
                        obtain ⟨t_119q2, rfl, H, HBwq2, Ot_5a, Ot_16a, Ot_25a, Ot_66a⟩ := hcut
                        rename World => wq2
                        unfold q2 at H
                        replace H := let_hid H
                        obtain ⟨_, rfl, H⟩ := H
                        cases t_119q2 with
                        | false =>
                          replace H := ite_f H
                          replace H := let_hid H
                          obtain ⟨t_90, ht_90, H⟩ := H
                          replace H := app_hid H
                          go_wp2_with fail
                          go_roundg m0
                          case measure => omega
                          case rel => exact ⟨_, rfl, H, HBwq2, Ot_5a, Ot_16a, Ot_25a⟩
                        | true =>
                          replace H := ite_t H
                          obtain rfl := ret_hid H
                          go_wp2_with fail
                          go_ret
                          exact ⟨rfl, HBwq2.out⟩
        | true =>
          replace H := ite_t H
          obtain rfl := ret_hid H
          go_wp2_with fail
          go_ret
          exact ⟨rfl, HBwq0.out⟩
  | true =>
    replace H := ite_t H
    obtain rfl := ret_hid H
    go_wp2_with fail
    go_ret
    exact ⟨rfl, HBwt_2.out⟩
end Go.Proofs.YtgimcnpkngpmiaaDoor.GlFnPostmarks

