/- Texts on which the proofs of several laws stand, one behind the other (23 of 24). No condition of their own. -/
import Derived.Test.YtihibckijdfidaaChecked
import Derived.Test.YtihibckijdfidaaX12P1
import Derived.Test.YtihibckijdfidaaX12P2
import Derived.Test.YtihibckijdfidaaX12P22
import Derived.WalkKit
import Derived.WalkSpells
import Derived.WalkLawsBesides
import Derived.BigQuiet
import Derived.OwnWalk
import Derived.Deep.LoopGhost
import Derived.Deep.QuietTactic
import Derived.IntWalk
import Derived.Lib.QuietBelow
import Derived.Test.YtihibckijdfidaaX12P10
import Derived.Test.YtihibckijdfidaaX12P6
import Derived.Test.YtihibckijdfidaaX12P11
set_option linter.unusedVariables false
set_option linter.unusedSimpArgs false
namespace Go.Proofs.Ytihibckijdfidaa.GlFnExactChangeOf
open Go.RowKit
open Go.Proofs.Ytihibckijdfidaa.Rowed Go.Proofs.Ytihibckijdfidaa.Turn Go.Proofs.Ytihibckijdfidaa.Aid Go.Proofs.Ytihibckijdfidaa.GoP Go.Proofs.Ytihibckijdfidaa.GoM

def P (aX : PCover.Cover) (aY : PCover.Cover) : Option (Bool) :=
 unCover aX fun (aX_id : Int) (aX_day : Int) (aX_zone : Int) (aX_grams : Int) (aX_paid : Int) (aX_from_ : Int) (aX_to_ : Int) (aX_leave : Int) (aX_arrive : Int) =>
 unCover aY fun (aY_id : Int) (aY_day : Int) (aY_zone : Int) (aY_grams : Int) (aY_paid : Int) (aY_from_ : Int) (aY_to_ : Int) (aY_leave : Int) (aY_arrive : Int) =>
 Option.bind (GlToCover.P (PCover.Cover.mk aX_id aX_day aX_zone aX_grams aX_paid aX_from_ aX_to_ aX_leave aX_arrive)) fun (t_4 : PCover.Cover) =>
 unCover t_4 fun (t_4_id : Int) (t_4_day : Int) (t_4_zone : Int) (t_4_grams : Int) (t_4_paid : Int) (t_4_from_ : Int) (t_4_to_ : Int) (t_4_leave : Int) (t_4_arrive : Int) =>
 Option.bind (GlToCover.P (PCover.Cover.mk aY_id aY_day aY_zone aY_grams aY_paid aY_from_ aY_to_ aY_leave aY_arrive)) fun (t_6 : PCover.Cover) =>
 unCover t_6 fun (t_6_id : Int) (t_6_day : Int) (t_6_zone : Int) (t_6_grams : Int) (t_6_paid : Int) (t_6_from_ : Int) (t_6_to_ : Int) (t_6_leave : Int) (t_6_arrive : Int) =>
 bind2 (GsChangeOf.P (PCover.Cover.mk t_4_id t_4_day t_4_zone t_4_grams t_4_paid t_4_from_ t_4_to_ t_4_leave t_4_arrive) (PCover.Cover.mk t_6_id t_6_day t_6_zone t_6_grams t_6_paid t_6_from_ t_6_to_ t_6_leave t_6_arrive)) fun (t_7a : Int) (t_7b : Bool) =>
 Option.bind (GlToCover.P (PCover.Cover.mk aX_id aX_day aX_zone aX_grams aX_paid aX_from_ aX_to_ aX_leave aX_arrive)) fun (t_14 : PCover.Cover) =>
 unCover t_14 fun (t_14_id : Int) (t_14_day : Int) (t_14_zone : Int) (t_14_grams : Int) (t_14_paid : Int) (t_14_from_ : Int) (t_14_to_ : Int) (t_14_leave : Int) (t_14_arrive : Int) =>
 Option.bind (GlToCover.P (PCover.Cover.mk aY_id aY_day aY_zone aY_grams aY_paid aY_from_ aY_to_ aY_leave aY_arrive)) fun (t_16 : PCover.Cover) =>
 unCover t_16 fun (t_16_id : Int) (t_16_day : Int) (t_16_zone : Int) (t_16_grams : Int) (t_16_paid : Int) (t_16_from_ : Int) (t_16_to_ : Int) (t_16_leave : Int) (t_16_arrive : Int) =>
 bind2 (GiChangeOf.P (PCover.Cover.mk t_14_id t_14_day t_14_zone t_14_grams t_14_paid t_14_from_ t_14_to_ t_14_leave t_14_arrive) (PCover.Cover.mk t_16_id t_16_day t_16_zone t_16_grams t_16_paid t_16_from_ t_16_to_ t_16_leave t_16_arrive)) fun (t_17a : Int) (t_17b : Bool) =>
 letK (t_17a != t_7a) fun (t_25 : Bool) =>
 joinK (fun (t_30 : Bool) =>
 iteK t_30
 (some false)
 (some true)) fun jt_30 => iteK t_25 (appK jt_30 true) (letK (!(t_17b == t_7b)) fun (t_29 : Bool) =>
 appK jt_30 t_29)

set_option maxRecDepth 100000 in
set_option maxHeartbeats 2000000 in
theorem C (aX : PCover.Cover) (aY : PCover.Cover)   (w : World)   {r : Bool} (H : Hid (P aX aY = some r)) :
  Calls Try.prog 9 #[aX.val, aY.val] w (Gives (.bool r) w) := by
 have HB := Lib.hid (Below.refl w.heap.size w); unfold P at H; obtain ⟨aX_id, aX_day, aX_zone, aX_grams, aX_paid, aX_from_, aX_to_, aX_leave, aX_arrive⟩ := aX; replace H := unCover_hid H; obtain ⟨aY_id, aY_day, aY_zone, aY_grams, aY_paid, aY_from_, aY_to_, aY_leave, aY_arrive⟩ := aY; replace H := unCover_hid H; unfold PCover.Cover.val
 go_enter Try.func9, Try.ntmps9
 obtain ⟨a10, x10⟩ : ∃ x, w.alloc (.cells #[.int .i64 aX_id, .int .i64 aX_day, .int .i64 aX_zone, .int .i64 aX_grams, .int .i64 aX_paid, .int .i64 aX_from_, .int .i64 aX_to_, .int .i64 aX_leave, .int .i64 aX_arrive] 24) = x := ⟨_, rfl⟩; have k13 : Below w.heap.size w a10 := (by rw [← x10]; exact (Below.refl _ _).alloc (Nat.le_refl _) _); have t13 := Lib.hid (Below.step HB.out k13); clear k13; have o13 : a10.cell? ⟨w.heap.size, 0, none⟩ = some (.int .i64 aX_id) := (by rw [← x10]; exact box_new _ _ _ 0 _ rfl); have l13 : a10.cell? ⟨w.heap.size, 1, none⟩ = some (.int .i64 aX_day) := (by rw [← x10]; exact box_new _ _ _ 1 _ rfl); have g13 : a10.cell? ⟨w.heap.size, 2, none⟩ = some (.int .i64 aX_zone) := (by rw [← x10]; exact box_new _ _ _ 2 _ rfl); have h13 : a10.cell? ⟨w.heap.size, 3, none⟩ = some (.int .i64 aX_grams) := (by rw [← x10]; exact box_new _ _ _ 3 _ rfl); have f13 : a10.cell? ⟨w.heap.size, 4, none⟩ = some (.int .i64 aX_paid) := (by rw [← x10]; exact box_new _ _ _ 4 _ rfl); have i13 : a10.cell? ⟨w.heap.size, 5, none⟩ = some (.int .i64 aX_from_) := (by rw [← x10]; exact box_new _ _ _ 5 _ rfl); have m13 : a10.cell? ⟨w.heap.size, 6, none⟩ = some (.int .i64 aX_to_) := (by rw [← x10]; exact box_new _ _ _ 6 _ rfl); have e13 : a10.cell? ⟨w.heap.size, 7, none⟩ = some (.int .i64 aX_leave) := (by rw [← x10]; exact box_new _ _ _ 7 _ rfl); have j13 : a10.cell? ⟨w.heap.size, 8, none⟩ = some (.int .i64 aX_arrive) := (by rw [← x10]; exact box_new _ _ _ 8 _ rfl); obtain ⟨b10, w10⟩ : ∃ x, a10.alloc (.cells #[.int .i64 aY_id, .int .i64 aY_day, .int .i64 aY_zone, .int .i64 aY_grams, .int .i64 aY_paid, .int .i64 aY_from_, .int .i64 aY_to_, .int .i64 aY_leave, .int .i64 aY_arrive] 24) = x := ⟨_, rfl⟩; have v10 : Below a10.heap.size a10 b10 := (by rw [← w10]; exact (Below.refl _ _).alloc (Nat.le_refl _) _); have v13 := Lib.hid (Below.step t13.out v10); have k10 := cell_below v10 o13; have r10 := cell_below v10 l13; have c10 := cell_below v10 g13; have o10 := cell_below v10 h13; have d10 := cell_below v10 f13; have m10 := cell_below v10 i13; have j10 := cell_below v10 m13; have e10 := cell_below v10 e13; have t10 := cell_below v10 j13; clear v10; have h10 : b10.cell? ⟨a10.heap.size, 0, none⟩ = some (.int .i64 aY_id) := (by rw [← w10]; exact box_new _ _ _ 0 _ rfl); have q10 : b10.cell? ⟨a10.heap.size, 1, none⟩ = some (.int .i64 aY_day) := (by rw [← w10]; exact box_new _ _ _ 1 _ rfl); have g10 : b10.cell? ⟨a10.heap.size, 2, none⟩ = some (.int .i64 aY_zone) := (by rw [← w10]; exact box_new _ _ _ 2 _ rfl); have f10 : b10.cell? ⟨a10.heap.size, 3, none⟩ = some (.int .i64 aY_grams) := (by rw [← w10]; exact box_new _ _ _ 3 _ rfl); have i10 : b10.cell? ⟨a10.heap.size, 4, none⟩ = some (.int .i64 aY_paid) := (by rw [← w10]; exact box_new _ _ _ 4 _ rfl); have s10 : b10.cell? ⟨a10.heap.size, 5, none⟩ = some (.int .i64 aY_from_) := (by rw [← w10]; exact box_new _ _ _ 5 _ rfl); have l10 : b10.cell? ⟨a10.heap.size, 6, none⟩ = some (.int .i64 aY_to_) := (by rw [← w10]; exact box_new _ _ _ 6 _ rfl); have p10 : b10.cell? ⟨a10.heap.size, 7, none⟩ = some (.int .i64 aY_leave) := (by rw [← w10]; exact box_new _ _ _ 7 _ rfl); have n10 : b10.cell? ⟨a10.heap.size, 8, none⟩ = some (.int .i64 aY_arrive) := (by rw [← w10]; exact box_new _ _ _ 8 _ rfl); go_wp2_with fail; clear o13 l13 g13 h13 f13 i13 m13 e13 j13; have c11 := Lib.hid k10; replace k10 := cell_regrown k10; have k11 := Lib.hid r10; replace r10 := cell_regrown r10; have a11 := Lib.hid c10; replace c10 := cell_regrown c10; have n11 := Lib.hid o10; replace o10 := cell_regrown o10; have f11 := Lib.hid d10; replace d10 := cell_regrown d10; have b11 := Lib.hid m10; replace m10 := cell_regrown m10; have z10 := Lib.hid j10; replace j10 := cell_regrown j10; have e11 := Lib.hid e10; replace e10 := cell_regrown e10; have g11 := Lib.hid t10; replace t10 := cell_regrown t10; have d11 := Lib.hid h10
 replace h10 := cell_regrown h10; have l11 := Lib.hid q10; replace q10 := cell_regrown q10; have o11 := Lib.hid g10; replace g10 := cell_regrown g10; have j11 := Lib.hid f10; replace f10 := cell_regrown f10; have i11 := Lib.hid i10; replace i10 := cell_regrown i10; have p11 := Lib.hid s10; replace s10 := cell_regrown s10; have m11 := Lib.hid l10; replace l10 := cell_regrown l10; have h11 := Lib.hid p10; replace p10 := cell_regrown p10; have y10 := Lib.hid n10; replace n10 := cell_regrown n10; replace H := bind_hid H; obtain ⟨t_4, qt_4, H⟩ := H; obtain ⟨y12, s12, a13, x11, d12, l12, f12, w11, e12⟩ := t_4; replace H := unCover_hid H; have nt_4 : ∀ d os, Calls Try.prog 18 #[.agg #[.int .i64 aX_id, .int .i64 aX_day, .int .i64 aX_zone, .int .i64 aX_grams, .int .i64 aX_paid, .int .i64 aX_from_, .int .i64 aX_to_, .int .i64 aX_leave, .int .i64 aX_arrive]] (Go.Sort.grow (redrawn b10 d) os) fun e w'' => e = .returned (.agg #[.int .i64 y12, .int .i64 s12, .int .i64 a13, .int .i64 x11, .int .i64 d12, .int .i64 l12, .int .i64 f12, .int .i64 w11, .int .i64 e12]) ∧ ∃ p : Regrown, w'' = Go.Sort.grow (redrawn b10 p.d) p.os := fun d os => Calls.regrown_of (GlToCover.C ((PCover.Cover.mk aX_id aX_day aX_zone aX_grams aX_paid aX_from_ aX_to_ aX_leave aX_arrive))  _    qt_4); replace H := bind_hid H; obtain ⟨t_6, qt_6, H⟩ := H; obtain ⟨y11, v11, r11, c12, z11, q12, w12, g12, p12⟩ := t_6; replace H := unCover_hid H; have nt_6 : ∀ d os, Calls Try.prog 18 #[.agg #[.int .i64 aY_id, .int .i64 aY_day, .int .i64 aY_zone, .int .i64 aY_grams, .int .i64 aY_paid, .int .i64 aY_from_, .int .i64 aY_to_, .int .i64 aY_leave, .int .i64 aY_arrive]] (Go.Sort.grow (redrawn b10 d) os) fun e w'' => e = .returned (.agg #[.int .i64 y11, .int .i64 v11, .int .i64 r11, .int .i64 c12, .int .i64 z11, .int .i64 q12, .int .i64 w12, .int .i64 g12, .int .i64 p12]) ∧ ∃ p : Regrown, w'' = Go.Sort.grow (redrawn b10 p.d) p.os := fun d os => Calls.regrown_of (GlToCover.C ((PCover.Cover.mk aY_id aY_day aY_zone aY_grams aY_paid aY_from_ aY_to_ aY_leave aY_arrive))  _    qt_6); replace H := bind2_hid H; obtain ⟨t_7a, t_7b, qt_7, H⟩ := H; have nt_7 : ∀ d os, Calls Try.prog 37 #[.agg #[.int .i64 y12, .int .i64 s12, .int .i64 a13, .int .i64 x11, .int .i64 d12, .int .i64 l12, .int .i64 f12, .int .i64 w11, .int .i64 e12], .agg #[.int .i64 y11, .int .i64 v11, .int .i64 r11, .int .i64 c12, .int .i64 z11, .int .i64 q12, .int .i64 w12, .int .i64 g12, .int .i64 p12]] (Go.Sort.grow (redrawn b10 d) os) fun e w'' => e = .returned (.tuple #[.int .i64 t_7a, .bool t_7b]) ∧ ∃ p : Regrown, w'' = Go.Sort.grow (redrawn b10 p.d) p.os := fun d os => Calls.regrown_of (GsChangeOf.C ((PCover.Cover.mk y12 s12 a13 x11 d12 l12 f12 w11 e12)) ((PCover.Cover.mk y11 v11 r11 c12 z11 q12 w12 g12 p12))  _    qt_7); refine wp_region_quiet_below (by kernel_rfl) (by kernel_rfl) ?_
 repeat (go_big_quiet_step (first | (go_at_call 18; with_reducible exact nt_4 _ _) | (go_at_call 18; with_reducible exact nt_6 _ _) | (go_at_call 18; exact nt_4 _ _) | (go_at_call 18; exact nt_6 _ _) | (go_at_call 37; exact nt_7 _ _)))
 refine wpQuiet_nil ?_; intro Y1 hY1; replace hY1 := below_class hY1; clear nt_4 nt_6 nt_7; replace k10 := c11.out; clear c11; replace r10 := k11.out; clear k11; replace c10 := a11.out; clear a11; replace o10 := n11.out; clear n11; replace d10 := f11.out; clear f11; replace m10 := b11.out; clear b11; replace j10 := z10.out; clear z10; replace e10 := e11.out; clear e11; replace t10 := g11.out; clear g11; replace h10 := d11.out; clear d11; replace q10 := l11.out; clear l11; replace g10 := o11.out; clear o11; replace f10 := j11.out; clear j11; replace i10 := i11.out; clear i11; replace s10 := p11.out; clear p11; replace l10 := m11.out; clear m11; replace p10 := h11.out; clear h11; replace n10 := y10.out; clear y10; have HBY1 := Lib.hid (Below.step v13.out hY1); replace k10 := cell_below hY1 k10; replace r10 := cell_below hY1 r10; replace c10 := cell_below hY1 c10; replace o10 := cell_below hY1 o10; replace d10 := cell_below hY1 d10; replace m10 := cell_below hY1 m10; replace j10 := cell_below hY1 j10; replace e10 := cell_below hY1 e10; replace t10 := cell_below hY1 t10; replace h10 := cell_below hY1 h10; replace q10 := cell_below hY1 q10; replace g10 := cell_below hY1 g10; replace f10 := cell_below hY1 f10; replace i10 := cell_below hY1 i10; replace s10 := cell_below hY1 s10; replace l10 := cell_below hY1 l10; replace p10 := cell_below hY1 p10; replace n10 := cell_below hY1 n10; clear hY1; go_wp2_with fail; have c11 := Lib.hid k10; replace k10 := cell_regrown k10; have k11 := Lib.hid r10; replace r10 := cell_regrown r10; have a11 := Lib.hid c10; replace c10 := cell_regrown c10; have n11 := Lib.hid o10; replace o10 := cell_regrown o10; have f11 := Lib.hid d10; replace d10 := cell_regrown d10; have b11 := Lib.hid m10; replace m10 := cell_regrown m10; have z10 := Lib.hid j10; replace j10 := cell_regrown j10; have e11 := Lib.hid e10; replace e10 := cell_regrown e10; have g11 := Lib.hid t10; replace t10 := cell_regrown t10; have d11 := Lib.hid h10; replace h10 := cell_regrown h10; have l11 := Lib.hid q10; replace q10 := cell_regrown q10; have o11 := Lib.hid g10; replace g10 := cell_regrown g10; have j11 := Lib.hid f10; replace f10 := cell_regrown f10; have i11 := Lib.hid i10; replace i10 := cell_regrown i10; have p11 := Lib.hid s10; replace s10 := cell_regrown s10; have m11 := Lib.hid l10; replace l10 := cell_regrown l10; have h11 := Lib.hid p10; replace p10 := cell_regrown p10; have y10 := Lib.hid n10; replace n10 := cell_regrown n10; replace H := bind_hid H; obtain ⟨t_14, p13, H⟩ := H; obtain ⟨d13, r12, k12, t12, s11, q11, a12, h12, b13⟩ := t_14; replace H := unCover_hid H; have m12 : ∀ d os, Calls Try.prog 18 #[.agg #[.int .i64 aX_id, .int .i64 aX_day, .int .i64 aX_zone, .int .i64 aX_grams, .int .i64 aX_paid, .int .i64 aX_from_, .int .i64 aX_to_, .int .i64 aX_leave, .int .i64 aX_arrive]] (Go.Sort.grow (redrawn Y1 d) os) fun e w'' => e = .returned (.agg #[.int .i64 d13, .int .i64 r12, .int .i64 k12, .int .i64 t12, .int .i64 s11, .int .i64 q11, .int .i64 a12, .int .i64 h12, .int .i64 b13]) ∧ ∃ p : Regrown, w'' = Go.Sort.grow (redrawn Y1 p.d) p.os := fun d os => Calls.regrown_of (GlToCover.C ((PCover.Cover.mk aX_id aX_day aX_zone aX_grams aX_paid aX_from_ aX_to_ aX_leave aX_arrive))  _    p13); replace H := bind_hid H; obtain ⟨t_16, w13, H⟩ := H; obtain ⟨z12, v12, x12, t11, j12, c13, n12, i12, o12⟩ := t_16; replace H := unCover_hid H; have b12 : ∀ d os, Calls Try.prog 18 #[.agg #[.int .i64 aY_id, .int .i64 aY_day, .int .i64 aY_zone, .int .i64 aY_grams, .int .i64 aY_paid, .int .i64 aY_from_, .int .i64 aY_to_, .int .i64 aY_leave, .int .i64 aY_arrive]] (Go.Sort.grow (redrawn Y1 d) os) fun e w'' => e = .returned (.agg #[.int .i64 z12, .int .i64 v12, .int .i64 x12, .int .i64 t11, .int .i64 j12, .int .i64 c13, .int .i64 n12, .int .i64 i12, .int .i64 o12]) ∧ ∃ p : Regrown, w'' = Go.Sort.grow (redrawn Y1 p.d) p.os := fun d os => Calls.regrown_of (GlToCover.C ((PCover.Cover.mk aY_id aY_day aY_zone aY_grams aY_paid aY_from_ aY_to_ aY_leave aY_arrive))  _    w13)
 replace H := bind2_hid H; obtain ⟨r13, s13, q13, H⟩ := H; have n13 : ∀ d os, Calls Try.prog 38 #[.agg #[.int .i64 d13, .int .i64 r12, .int .i64 k12, .int .i64 t12, .int .i64 s11, .int .i64 q11, .int .i64 a12, .int .i64 h12, .int .i64 b13], .agg #[.int .i64 z12, .int .i64 v12, .int .i64 x12, .int .i64 t11, .int .i64 j12, .int .i64 c13, .int .i64 n12, .int .i64 i12, .int .i64 o12]] (Go.Sort.grow (redrawn Y1 d) os) fun e w'' => e = .returned (.tuple #[.int .i64 r13, .bool s13]) ∧ ∃ p : Regrown, w'' = Go.Sort.grow (redrawn Y1 p.d) p.os := fun d os => Calls.regrown_of (GiChangeOf.C ((PCover.Cover.mk d13 r12 k12 t12 s11 q11 a12 h12 b13)) ((PCover.Cover.mk z12 v12 x12 t11 j12 c13 n12 i12 o12))  _    q13); refine wp_region_quiet_below (by kernel_rfl) (by kernel_rfl) ?_
 repeat (go_big_quiet_step (first | (go_at_call 18; with_reducible exact m12 _ _) | (go_at_call 18; with_reducible exact b12 _ _) | (go_at_call 18; exact m12 _ _) | (go_at_call 18; exact b12 _ _) | (go_at_call 38; exact n13 _ _)))
 refine wpQuiet_nil ?_; intro Y2 hY2; replace hY2 := below_class hY2; clear m12 b12 n13; replace k10 := c11.out; clear c11; replace r10 := k11.out; clear k11; replace c10 := a11.out; clear a11; replace o10 := n11.out; clear n11; replace d10 := f11.out; clear f11; replace m10 := b11.out; clear b11; replace j10 := z10.out; clear z10; replace e10 := e11.out; clear e11; replace t10 := g11.out; clear g11; replace h10 := d11.out; clear d11; replace q10 := l11.out; clear l11; replace g10 := o11.out; clear o11; replace f10 := j11.out; clear j11; replace i10 := i11.out; clear i11; replace s10 := p11.out; clear p11; replace l10 := m11.out; clear m11; replace p10 := h11.out; clear h11; replace n10 := y10.out; clear y10; have HBY2 := Lib.hid (Below.step HBY1.out hY2); replace k10 := cell_below hY2 k10; replace r10 := cell_below hY2 r10; replace c10 := cell_below hY2 c10; replace o10 := cell_below hY2 o10; replace d10 := cell_below hY2 d10; replace m10 := cell_below hY2 m10; replace j10 := cell_below hY2 j10; replace e10 := cell_below hY2 e10; replace t10 := cell_below hY2 t10; replace h10 := cell_below hY2 h10; replace q10 := cell_below hY2 q10; replace g10 := cell_below hY2 g10; replace f10 := cell_below hY2 f10; replace i10 := cell_below hY2 i10; replace s10 := cell_below hY2 s10; replace l10 := cell_below hY2 l10; replace p10 := cell_below hY2 p10; replace n10 := cell_below hY2 n10; clear hY2; replace H := let_hid H; obtain ⟨t_25, x13, H⟩ := H; replace H := join_hid H
 cases t_25 with
 | false =>
  replace H := ite_f H; replace H := let_hid H; obtain ⟨t_29, y13, H⟩ := H; replace H := app_hid H
  cases t_29 with
  | false =>
   replace H := ite_f H; obtain rfl := ret_hid H; go_wp2_with fail; go_ret; exact ⟨rfl, HBY2.out⟩
  | true =>
   replace H := ite_t H; obtain rfl := ret_hid H; go_wp2_with fail; go_ret; exact ⟨rfl, HBY2.out⟩
 | true =>
  replace H := ite_t H; replace H := app_hid H; replace H := ite_t H; obtain rfl := ret_hid H; go_wp2_with fail; go_ret; exact ⟨rfl, HBY2.out⟩
end Go.Proofs.Ytihibckijdfidaa.GlFnExactChangeOf

namespace Go.Proofs.Ytihibckijdfidaa.Q12Of
open Go.RowKit
open Go.Proofs.Ytihibckijdfidaa.GoP Go.Proofs.Ytihibckijdfidaa.PlainStamp Go.Proofs.Ytihibckijdfidaa.QBase Go.Proofs.Ytihibckijdfidaa.Q12Cover Go.Proofs.Ytihibckijdfidaa.Q12Bits Go.Proofs.Ytihibckijdfidaa.Q8Rate Go.Proofs.Ytihibckijdfidaa.QLoop Go.Proofs.Ytihibckijdfidaa.PCover

def restB (x y : Cover) : Bool := x.id == y.id && x.from_ == y.from_ && x.to_ == y.to_ && x.leave == y.leave && x.arrive == y.arrive
def diffV (x y : Cover) : Int := sumB (x.day != y.day) (x.zone != y.zone) (x.grams != y.grams) (x.paid != y.paid)
def ofRes (x y : Cover) : Int × Bool := if (okC x && okC y && restB x y) = true then (diffV x y, true) else (0, false)
theorem eq_rest (a b c d e f g h i a2 f2 g2 h2 i2 : Int) : (a == a2 && b == b && c == c && d == d && e == e && f == f2 && g == g2 && h == h2 && i == i2) = (a == a2 && f == f2 && g == g2 && h == h2 && i == i2) := by simp [Bool.and_assoc]
theorem of_impl (x y : Cover) : GiChangeOf.P x y = some (ofRes x y) := by
  have e1 := isCover_eq x
  have e2 := isCover_eq y
  obtain ⟨a, b, c, d, e, f, g, h, i⟩ := x
  obtain ⟨a2, b2, c2, d2, e2_, f2, g2, h2, i2⟩ := y
  simp only [GiChangeOf.P, GiChangeOf.q0, GiChangeOf.q1, GiChangeOf.q2, GiChangeOf.q3, GiChangeOf.q4, unCover, e1, e2, Option.bind_some, letK, joinK, appK, iteK_if, ofRes, restB, diffV, sumB]
  cases okC ⟨a, b, c, d, e, f, g, h, i⟩ with
  | false => simp
  | true =>
    cases okC ⟨a2, b2, c2, d2, e2_, f2, g2, h2, i2⟩ with
    | false => simp
    | true =>
      cases (b != b2) <;> cases (c != c2) <;> cases (d != d2) <;> cases (e != e2_) <;> simp only [Bool.not_true, Bool.false_eq_true, if_false, if_true, Bool.true_and] <;> rw [eq_rest] <;> cases (a == a2 && f == f2 && g == g2 && h == h2 && i == i2) <;> rfl
theorem of_spec (x y : Cover) : GsChangeOf.P x y = some (ofRes x y) := by
  have e1 := l10One_eq x
  have e2 := l10One_eq y
  obtain ⟨a, b, c, d, e, f, g, h, i⟩ := x
  obtain ⟨a2, b2, c2, d2, e2_, f2, g2, h2, i2⟩ := y
  simp only [GsChangeOf.P, GsChangeOf.q0, GsChangeOf.q1, GsChangeOf.q2, GsChangeOf.q3, GsChangeOf.q4, unCover, e1, e2, Option.bind_some, letK, joinK, appK, iteK_if, ofRes, restB, diffV, sumB]
  cases okC ⟨a, b, c, d, e, f, g, h, i⟩ with
  | false => simp
  | true =>
    cases okC ⟨a2, b2, c2, d2, e2_, f2, g2, h2, i2⟩ with
    | false => simp
    | true =>
      cases (b != b2) <;> cases (c != c2) <;> cases (d != d2) <;> cases (e != e2_) <;> simp only [Bool.not_true, Bool.false_eq_true, if_false, if_true, Bool.true_and] <;> rw [eq_rest] <;> cases (a == a2 && f == f2 && g == g2 && h == h2 && i == i2) <;> rfl
end Go.Proofs.Ytihibckijdfidaa.Q12Of

namespace Go.Proofs.Ytihibckijdfidaa.QL12Of
open Go.RowKit
open Go.Proofs.Ytihibckijdfidaa.GoP Go.Proofs.Ytihibckijdfidaa.PlainStamp Go.Proofs.Ytihibckijdfidaa.QBase Go.Proofs.Ytihibckijdfidaa.Q12Of Go.Proofs.Ytihibckijdfidaa.Q12One Go.Proofs.Ytihibckijdfidaa.QLoop Go.Proofs.Ytihibckijdfidaa.PCover

theorem unC {ρ : Type} (a b c d e f g h i : Int) (F : Int → Int → Int → Int → Int → Int → Int → Int → Int → Option ρ) : unCover ⟨a, b, c, d, e, f, g, h, i⟩ F = F a b c d e f g h i := rfl
theorem law_of (x y : Cover) : GlFnExactChangeOf.P x y = some true := by
  have h1 := toC x
  have h2 := toC y
  obtain ⟨⟨p, q⟩, hs⟩ : ∃ z, z = ofRes x y := ⟨_, rfl⟩
  have e1 := of_impl x y
  have e2 := of_spec x y
  rw [← hs] at e1 e2
  clear hs
  unfold GlFnExactChangeOf.P
  generalize GsChangeOf.P = G at e2 ⊢
  generalize GiChangeOf.P = I at e1 ⊢
  obtain ⟨a, b, c, d, e, f, g, h, i⟩ := x
  obtain ⟨a2, b2, c2, d2, e2_, f2, g2, h2_, i2⟩ := y
  rw [unC, unC, h1, Option.bind_some, unC, h2, Option.bind_some, unC, e2, bind2_some, Option.bind_some, unC, Option.bind_some, unC, e1, bind2_some]
  simp only [letK, joinK, appK, iteK_if, bne_self_eq_false, Bool.false_eq_true, if_false, beq_self_eq_true, Bool.not_true]
end Go.Proofs.Ytihibckijdfidaa.QL12Of

