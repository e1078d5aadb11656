/- Texts on which the proofs of several laws stand, one behind the other (7 of 24). No condition of their own. -/
import Derived.Test.YtihibckijdfidaaChecked
import Derived.Test.YtihibckijdfidaaX12P1
import Derived.Test.YtihibckijdfidaaX12P2
import Derived.Test.YtihibckijdfidaaX12P4
import Derived.Test.YtihibckijdfidaaX12P6
import Derived.WalkKit
import Derived.WalkSpells
import Derived.WalkLawsBesides
import Derived.BigQuiet
import Derived.OwnWalk
import Derived.Deep.LoopGhost
import Derived.Deep.QuietTactic
import Derived.IntWalk
import Derived.Lib.QuietBelow
set_option linter.unusedVariables false
set_option linter.unusedSimpArgs false
namespace Go.Proofs.Ytihibckijdfidaa.GiTurningDays
open Go.RowKit
open Go.Proofs.Ytihibckijdfidaa.Rowed Go.Proofs.Ytihibckijdfidaa.Turn Go.Proofs.Ytihibckijdfidaa.Aid Go.Proofs.Ytihibckijdfidaa.GoP Go.Proofs.Ytihibckijdfidaa.GoM

def l0 (list : (List PRate.Rate)) (k0 : Nat) (s : (List Int)) (nx0 bk0 : (List Int) → Option ((List Int))) : Option ((List Int)) :=
 letK s fun days_3l0 =>
 Option.bind (idx list (k0 : Int)) fun (yt_7 : PRate.Rate) =>
 unRate yt_7 fun (t_7_zone : Int) (t_7_grams : Int) (t_7_from_ : Int) (t_7_until_ : Int) (t_7_cents : Int) =>
 letK (IntKind.i64.wrap (t_7_until_ + 1)) fun (t_16 : Int) =>
 letK ([t_7_from_, t_16]) fun (t_17 : (List Int)) =>
 guardK (days_3l0.length + t_17.length ≤ 1099511627776) <|
 letK (days_3l0 ++ t_17) fun (t_18 : (List Int)) =>
 appK nx0 (t_18)

def e0  (s : (List Int)) : Option ((List Int)) :=
 letK s fun days_3l0 =>
 Option.bind (GxSlicesSortIntInt.P days_3l0) fun (lt_23 : (List Int)) =>
 Option.bind (GxSlicesCompactIntInt.P lt_23) fun (t_25 : (List Int)) =>
 some t_25

def P (list : (List PRate.Rate)) : Option ((List Int)) :=
 cntK (l0 list) (list.length) 0 (([] : List Int)) (e0 )

set_option maxRecDepth 100000 in
set_option maxHeartbeats 2000000 in
theorem C (list : (List PRate.Rate)) (A0 : Option Addr) (c0 : Nat)  (w : World) (M0 : Hid (Cells w 5 A0 list.length (PRate.flat list))) (N0 : Hid (list.length ≤ 9223372036854775807))  {r : (List Int)} (H : Hid (P list = some r)) :
  Calls Try.prog 168 #[.slice A0 list.length c0] w (fun e w' => ∃ A_r c_r, e = .returned (.slice A_r r.length c_r) ∧ w'.ownsRow w.heap.size 3 1 (.slice A_r r.length c_r) r.length (HelpInt.iv r) ∧ Below w.heap.size w w') := by
 have HB := Lib.hid (Below.refl w.heap.size w); unfold P at H; have N0o := N0.out; obtain ⟨i0_3, hi_3, c13, f13, x12⟩ := Aid.info_parts (P := Try.prog) (T := 3) (z := .int .i64 0) (s := 1) (b := 8) (by kernel_rfl)
 go_enter Try.func168, Try.ntmps168
 obtain ⟨w11, k11⟩ : ∃ x, w.alloc (.cells #[] 3) = x := ⟨_, rfl⟩; have r12 : Below w.heap.size w w11 := (by rw [← k11]; exact (Below.refl _ _).alloc (Nat.le_refl _) _); have Ot_1 : Hid (w11.ownsRow w.heap.size 3 1 (.slice (some ⟨w.heap.size, 0, none⟩) 0 0) 0 []) := Lib.hid (by rw [← k11]; exact own_empty HB.out.size); have e13 := Lib.hid (Below.step HB.out r12); clear r12; go_wp2_with fail; go_loopg [9, 3] (list.length) (fun m_ v9_ v3_ wr => ∃ (k0 : Nat) (g10 : (List Int)) (l10 : Option Addr) (i10 : Nat), k0 + m_ = list.length ∧ v9_ = .int .i64 (k0 : Int) ∧ v3_ = .slice l10 g10.length i10 ∧ Hid (cntK (l0 list) m_ k0 (g10) (e0 ) = some r) ∧ Hid (Below w.heap.size w wr) ∧ Hid (wr.ownsRow w.heap.size 3 1 (.slice l10 g10.length i10) g10.length (HelpInt.iv g10)))
 case atStart => exact ⟨0, _, _, _, by omega, rfl, rfl, H, e13, Ot_1⟩
 case round =>
  obtain ⟨k0, g10, l10, i10, hkm0, rfl, rfl, H, f10, a10⟩ := hrel; rename World => wr0
  cases gk with
  | zero =>
   obtain rfl : k0 = list.length := (by omega); have hc0 : decide (((list.length : Nat) : Int) < ((list.length : Nat) : Int)) = false := (by simp); replace H := cnt_zero H; unfold e0 at H; replace H := let_hid H; obtain ⟨_, rfl, H⟩ := H; replace H := bind_hid H; obtain ⟨g13, i13, H⟩ := H; go_wp2_with fail; go_at_call 204; refine (GxSlicesSortIntInt.C (g10) l10 i10 w.heap.size _   a10 (Lib.hid (own_max a10.out))   i13).mono ?_; rintro r13 s13 ⟨rfl, s11, d11, m12⟩; have b11 := Lib.hid s11; have o11 := Lib.hid m12; replace d11 := Lib.hid d11; clear s11 m12; have z10 := Lib.hid (f10.out.grown o11.out f10.out.size (fun q hq => (a10.out.lt q hq).1)); clear a10 o11; replace H := bind_hid H; obtain ⟨t_25, h13, H⟩ := H; go_wp2_with fail; have hc0_ := d11.out; have a11 := Lib.hid (own_len hc0_ b11.out); have con_ := GxSlicesCompactIntInt.C (g13) l10 i10 w.heap.size _   a11 (Lib.hid (own_max a11.out)) (Lib.hid z10.out.size)  h13; rw [hc0_] at con_; clear hc0_ a11; go_at_call 205; refine con_.mono ?_; rintro y13 p13 ⟨j13, k13, rfl, p11, l12, c11⟩; have d13 := Lib.hid p11; have n12 := Lib.hid l12; replace c11 := Lib.hid c11; clear p11 l12; have b13 := Lib.hid (z10.out.grown n12.out z10.out.size (fun q hq => (b11.out.lt q hq).1)); clear b11 n12 c11; obtain rfl := ret_hid H; go_wp2_with fail; go_ret; exact ⟨j13, k13, rfl, d13.out, b13.out⟩
  | succ m0 =>
   have hlt0 : k0 < list.length := (by omega); have hc0 : decide ((k0 : Int) < ((list.length : Nat) : Int)) = true := (by simp; omega); replace H := cnt_succ H; unfold l0 at H; replace H := let_hid H; obtain ⟨_, rfl, H⟩ := H; replace H := idx_hid H; obtain ⟨nt_7, yt_7, et_7, lt_7, gt_7, H⟩ := H; obtain rfl : k0 = nt_7 := (by omega); clear et_7; obtain ⟨g12, v12, o10, t12, c12⟩ := yt_7; replace H := unRate_hid H; obtain ⟨z13, w13, zt_7, At_7, o12, m10, p10, q10, s10, t10⟩ := ORate.at_ M0.out lt_7; obtain rfl := Option.some.inj (gt_7.out.symm.trans o12); subst At_7; have n10 := cell_lt m10; replace m10 := cell_below f10.out m10; replace p10 := cell_below f10.out p10; replace q10 := cell_below f10.out q10; replace s10 := cell_below f10.out s10; replace t10 := cell_below f10.out t10; clear o12; have q13 : (0 : Int) ≤ (k0 : Int) := (by omega); have t13 : (k0 : Int) < ((list.length : Nat) : Int) := (by omega); have x13 : ((k0 : Int)).toNat = k0 := (by omega); obtain ⟨d10, k10⟩ : ∃ x, wr0.alloc (.cells #[.int .i64 g12, .int .i64 v12, .int .i64 o10, .int .i64 t12, .int .i64 c12] 120) = x := ⟨_, rfl⟩; have e10 : Below wr0.heap.size wr0 d10 := (by rw [← k10]; exact (Below.refl _ _).alloc (Nat.le_refl _) _); have j10 := Lib.hid (apart_fresh a10.out); have q12 := Lib.hid (Below.step f10.out e10); have x11 := cell_below e10 m10; have y11 := cell_below e10 p10; have l11 := cell_below e10 q10; have k12 := cell_below e10 s10; have v11 := cell_below e10 t10; replace a10 := Lib.hid (own_below a10.out e10); clear e10; have x10 : d10.cell? ⟨wr0.heap.size, 0, none⟩ = some (.int .i64 g12) := (by rw [← k10]; exact box_new _ _ _ 0 _ rfl); have z11 : d10.cell? ⟨wr0.heap.size, 1, none⟩ = some (.int .i64 v12) := (by rw [← k10]; exact box_new _ _ _ 1 _ rfl); have f11 : d10.cell? ⟨wr0.heap.size, 2, none⟩ = some (.int .i64 o10) := (by rw [← k10]; exact box_new _ _ _ 2 _ rfl); have f12 : d10.cell? ⟨wr0.heap.size, 3, none⟩ = some (.int .i64 t12) := (by rw [← k10]; exact box_new _ _ _ 3 _ rfl); have t11 : d10.cell? ⟨wr0.heap.size, 4, none⟩ = some (.int .i64 c12) := (by rw [← k10]; exact box_new _ _ _ 4 _ rfl); replace H := let_hid H; obtain ⟨t_16, v13, H⟩ := H; replace H := let_hid H; obtain ⟨t_17, r10, H⟩ := H; obtain ⟨r11, a12⟩ : ∃ x, d10.alloc (.cells #[.int .i64 o10, .int .i64 t_16] 3) = x := ⟨_, rfl⟩; have b10 : Below d10.heap.size d10 r11 := (by rw [← a12]; exact (Below.refl _ _).alloc (Nat.le_refl _) _); have j12 := q12.out.size; have y10 : t_17.length = 2 := (by rw [← r10]; rfl)
   have h10 : Hid (r11.ownsRow w.heap.size 3 1 (.slice (some ⟨d10.heap.size, 0, none⟩) 2 2) 2 (HelpInt.iv t_17)) := by
    rw [← a12, ← r10]; have e_ : ([.int .i64 o10, .int .i64 t_16] : List Value) = (HelpInt.iv ([o10, t_16] : List Int)) := rfl; exact Lib.hid (own_laid (n := 2) j12 e_ rfl (by unfold maxLen; omega))
   clear j12; have l13 := Lib.hid r10; clear r10; replace y10 := Lib.hid y10; have n11 := Lib.hid (apart_fresh a10.out); have n13 := Lib.hid (apart_box x10); have i12 := Lib.hid (Below.step q12.out b10); have w12 := cell_below b10 x11; have s12 := cell_below b10 y11; have m11 := cell_below b10 l11; have e12 := cell_below b10 k12; have q11 := cell_below b10 v11; have w10 := cell_below b10 x10; have h11 := cell_below b10 z11; have d12 := cell_below b10 f11; have i11 := cell_below b10 f12; have p12 := cell_below b10 t11; replace a10 := Lib.hid (own_below a10.out b10); clear b10; have hc_ := y10.out; have hv_ : (Value.slice (some ⟨d10.heap.size, 0, none⟩) 2 2 : Value) = Value.slice (some ⟨d10.heap.size, 0, none⟩) t_17.length 2 := (by rw [hc_]); replace h10 := Lib.hid (own_len hc_ h10.out); replace H := guard_hid H; obtain ⟨o13, H⟩ := H; replace H := let_hid H; obtain ⟨t_18, h12, H⟩ := H; have y12 := Lib.hid h12; clear h12; have v10 := i12.out.size; have j11 := Lib.hid ((own_cells h10.out)); go_wp2_with (at_builtin; skip; refine append_spread rfl _ _ 38 rfl w.heap.size 3 i0_3 (.int .i64 0) 1 8 Try.underlying38 hi_3 c13 f13 x12 rfl (by decide) l10 i10 g10.length _ rfl a10.out (some ⟨d10.heap.size, 0, none⟩) t_17.length 2 (HelpInt.iv t_17) rfl (own_room h10.out) j11.out (fun u hu => by unfold HelpInt.iv at hu; obtain ⟨y_, _, rfl⟩ := List.mem_map.1 hu; rfl) (by unfold maxLen; omega) (by omega) v10 ?_; intro vt_18 wt_18 ot_18 gt_18 yt_18; obtain ⟨b12, m13, rfl, g11⟩ := own_pushS (f := HelpInt.iv) y12.out (by simp [HelpInt.iv]) rfl ot_18; have z12 := Lib.hid g11; have e11 := Lib.hid yt_18; have c10 := Lib.hid gt_18; clear ot_18 gt_18 g11 yt_18; refine stop_in ?_); refine stop_out ?_; clear j11 hc_ hv_; have a13 := Lib.hid (i12.out.grown c10.out v10 (fun q hq => (a10.out.lt q hq).1)); clear v10; have b14 : Hid (Apart b12 _) := Lib.hid (apart_app (Apart.symm j10.out) (fun a_ ha_ => by cases ha_; exact cell_lt w10) e11.out); have a14 : Hid (Apart b12 _) := Lib.hid (apart_app (Apart.symm n11.out) (fun a_ ha_ => (own_lt h10.out a_ ha_).2) e11.out); replace w12 := cell_other w12 c10.out (apart_old a10.out n10); replace s12 := cell_other s12 c10.out (apart_old a10.out n10); replace m11 := cell_other m11 c10.out (apart_old a10.out n10); replace e12 := cell_other e12 c10.out (apart_old a10.out n10); replace q11 := cell_other q11 c10.out (apart_old a10.out n10); replace w10 := cell_other w10 c10.out (Apart.symm j10.out); replace h11 := cell_other h11 c10.out (Apart.symm j10.out); replace d12 := cell_other d12 c10.out (Apart.symm j10.out); replace i11 := cell_other i11 c10.out (Apart.symm j10.out); replace p12 := cell_other p12 c10.out (Apart.symm j10.out); replace h10 := Lib.hid (own_other h10.out c10.out (Apart.symm n11.out)); clear m10 p10 q10 s10 t10 x11 y11 l11 k12 v11 x10 z11 f11 f12 t11; clear a10 e11 c10; replace H := app_hid H; go_wp2_with fail
   go_roundg m0
   case measure => omega
   case rel => exact ⟨k0 + 1, _, _, _, by omega, by go_num, rfl, H, a13, z12⟩
end Go.Proofs.Ytihibckijdfidaa.GiTurningDays

namespace Go.Proofs.Ytihibckijdfidaa.Q8Days
open Go.RowKit
open Go.Proofs.Ytihibckijdfidaa.GoP Go.Proofs.Ytihibckijdfidaa.PlainStamp Go.Proofs.Ytihibckijdfidaa.QBase Go.Proofs.Ytihibckijdfidaa.QSort Go.Proofs.Ytihibckijdfidaa.QFold Go.Proofs.Ytihibckijdfidaa.QRiseL Go.Proofs.Ytihibckijdfidaa.QOrd Go.Proofs.Ytihibckijdfidaa.Q8For Go.Proofs.Ytihibckijdfidaa.Q8List Go.Proofs.Ytihibckijdfidaa.Q8Rate Go.Proofs.Ytihibckijdfidaa.QLoop Go.Proofs.Ytihibckijdfidaa.PRate

/-- the days on which a rate can differ from that of the day before -/
def tdays (l : List Rate) : List Int := compI (sortI (l.flatMap fun r => [r.from_, r.until_ + 1]))
theorem mem_days {l : List Rate} {d : Int} : d ∈ tdays l ↔ ∃ r ∈ l, d = r.from_ ∨ d = r.until_ + 1 := by
  unfold tdays
  rw [compI_mem (sortI_up _), sortI_mem, List.mem_flatMap]
  simp
theorem days_up (l : List Rate) : List.Pairwise (fun a b => a < b) (tdays l) := compI_up (sortI_up _)
theorem flat_two (l : List Rate) : (l.flatMap fun r => [r.from_, r.until_ + 1]).length = 2 * l.length := by
  induction l with
  | nil => rfl
  | cons x l ih => rw [List.flatMap_cons, List.length_append, ih]; simp; omega
theorem days_eq {l : List Rate} (h : okRs l = true) : GiTurningDays.P l = some (tdays l) := by
  have h16 := riseL_len h
  simp only [GiTurningDays.P]
  refine cnt_is _ (fun k s => s = (l.take k).flatMap fun r => [r.from_, r.until_ + 1]) ?_ ?_ _ (by simp)
  · intro k s nx hk hI hn
    obtain ⟨x, hx, hi⟩ := at_lt (l := l) (k := k) hk
    have hok := okR_of (rs_mem h (List.mem_of_getElem? hx))
    simp only [GiTurningDays.l0, hi, Option.bind_some, unRate, letK, appK]
    have hs : s.length ≤ 2 * 16 := by rw [hI, flat_two, List.length_take]; omega
    rw [wrap_in (by omega) (by omega), guardK_pos (by simp; omega)]
    exact hn _ (by rw [take_next hx, List.flatMap_append, hI]; simp)
  · intro s hI
    rw [List.take_of_length_le (Nat.le_refl _)] at hI
    have hs : s.length ≤ 1000000 := by rw [hI, flat_two]; omega
    simp only [GiTurningDays.e0, letK, sort_eq s hs, comp_eq, Option.bind_some]
    rw [hI]; rfl
end Go.Proofs.Ytihibckijdfidaa.Q8Days

namespace Go.Proofs.Ytihibckijdfidaa.GoP
open Go.RowKit
def unp5 {α β γ δ ε ρ : Type} (s : α × β × γ × δ × ε) (f : α → β → γ → δ → ε → Option ρ) : Option ρ := f s.1 s.2.1 s.2.2.1 s.2.2.2.1 s.2.2.2.2
def bind5 {α β γ δ ε ρ : Type} (x : Option (α × β × γ × δ × ε)) (f : α → β → γ → δ → ε → Option ρ) : Option ρ := match x with | none => none | some (x0, x1, x2, x3, x4) => f x0 x1 x2 x3 x4
def unp6 {α β γ δ ε ζ ρ : Type} (s : α × β × γ × δ × ε × ζ) (f : α → β → γ → δ → ε → ζ → Option ρ) : Option ρ := f s.1 s.2.1 s.2.2.1 s.2.2.2.1 s.2.2.2.2.1 s.2.2.2.2.2
def bind6 {α β γ δ ε ζ ρ : Type} (x : Option (α × β × γ × δ × ε × ζ)) (f : α → β → γ → δ → ε → ζ → Option ρ) : Option ρ := match x with | none => none | some (x0, x1, x2, x3, x4, x5) => f x0 x1 x2 x3 x4 x5
def unp7 {α β γ δ ε ζ η ρ : Type} (s : α × β × γ × δ × ε × ζ × η) (f : α → β → γ → δ → ε → ζ → η → Option ρ) : Option ρ := f s.1 s.2.1 s.2.2.1 s.2.2.2.1 s.2.2.2.2.1 s.2.2.2.2.2.1 s.2.2.2.2.2.2
def bind7 {α β γ δ ε ζ η ρ : Type} (x : Option (α × β × γ × δ × ε × ζ × η)) (f : α → β → γ → δ → ε → ζ → η → Option ρ) : Option ρ := match x with | none => none | some (x0, x1, x2, x3, x4, x5, x6) => f x0 x1 x2 x3 x4 x5 x6
def unp8 {α β γ δ ε ζ η θ ρ : Type} (s : α × β × γ × δ × ε × ζ × η × θ) (f : α → β → γ → δ → ε → ζ → η → θ → Option ρ) : Option ρ := f s.1 s.2.1 s.2.2.1 s.2.2.2.1 s.2.2.2.2.1 s.2.2.2.2.2.1 s.2.2.2.2.2.2.1 s.2.2.2.2.2.2.2
def bind8 {α β γ δ ε ζ η θ ρ : Type} (x : Option (α × β × γ × δ × ε × ζ × η × θ)) (f : α → β → γ → δ → ε → ζ → η → θ → Option ρ) : Option ρ := match x with | none => none | some (x0, x1, x2, x3, x4, x5, x6, x7) => f x0 x1 x2 x3 x4 x5 x6 x7
def unp9 {t0 t1 t2 t3 t4 t5 t6 t7 t8 ρ : Type} (s : t0 × t1 × t2 × t3 × t4 × t5 × t6 × t7 × t8) (f : t0 → t1 → t2 → t3 → t4 → t5 → t6 → t7 → t8 → Option ρ) : Option ρ := f s.1 s.2.1 s.2.2.1 s.2.2.2.1 s.2.2.2.2.1 s.2.2.2.2.2.1 s.2.2.2.2.2.2.1 s.2.2.2.2.2.2.2.1 s.2.2.2.2.2.2.2.2
theorem unp9_hid {t0 t1 t2 t3 t4 t5 t6 t7 t8 ρ : Type} {x0 : t0} {x1 : t1} {x2 : t2} {x3 : t3} {x4 : t4} {x5 : t5} {x6 : t6} {x7 : t7} {x8 : t8} {f : t0 → t1 → t2 → t3 → t4 → t5 → t6 → t7 → t8 → Option ρ} {r : ρ} (H : Hid (unp9 (x0, x1, x2, x3, x4, x5, x6, x7, x8) f = some r)) : Hid (f x0 x1 x2 x3 x4 x5 x6 x7 x8 = some r) := H
def bind9 {t0 t1 t2 t3 t4 t5 t6 t7 t8 ρ : Type} (x : Option (t0 × t1 × t2 × t3 × t4 × t5 × t6 × t7 × t8)) (f : t0 → t1 → t2 → t3 → t4 → t5 → t6 → t7 → t8 → Option ρ) : Option ρ := match x with | none => none | some (x0, x1, x2, x3, x4, x5, x6, x7, x8) => f x0 x1 x2 x3 x4 x5 x6 x7 x8
def unp10 {t0 t1 t2 t3 t4 t5 t6 t7 t8 t9 ρ : Type} (s : t0 × t1 × t2 × t3 × t4 × t5 × t6 × t7 × t8 × t9) (f : t0 → t1 → t2 → t3 → t4 → t5 → t6 → t7 → t8 → t9 → Option ρ) : Option ρ := f s.1 s.2.1 s.2.2.1 s.2.2.2.1 s.2.2.2.2.1 s.2.2.2.2.2.1 s.2.2.2.2.2.2.1 s.2.2.2.2.2.2.2.1 s.2.2.2.2.2.2.2.2.1 s.2.2.2.2.2.2.2.2.2
def bind10 {t0 t1 t2 t3 t4 t5 t6 t7 t8 t9 ρ : Type} (x : Option (t0 × t1 × t2 × t3 × t4 × t5 × t6 × t7 × t8 × t9)) (f : t0 → t1 → t2 → t3 → t4 → t5 → t6 → t7 → t8 → t9 → Option ρ) : Option ρ := match x with | none => none | some (x0, x1, x2, x3, x4, x5, x6, x7, x8, x9) => f x0 x1 x2 x3 x4 x5 x6 x7 x8 x9
def unp11 {t0 t1 t2 t3 t4 t5 t6 t7 t8 t9 t10 ρ : Type} (s : t0 × t1 × t2 × t3 × t4 × t5 × t6 × t7 × t8 × t9 × t10) (f : t0 → t1 → t2 → t3 → t4 → t5 → t6 → t7 → t8 → t9 → t10 → Option ρ) : Option ρ := f s.1 s.2.1 s.2.2.1 s.2.2.2.1 s.2.2.2.2.1 s.2.2.2.2.2.1 s.2.2.2.2.2.2.1 s.2.2.2.2.2.2.2.1 s.2.2.2.2.2.2.2.2.1 s.2.2.2.2.2.2.2.2.2.1 s.2.2.2.2.2.2.2.2.2.2
def bind11 {t0 t1 t2 t3 t4 t5 t6 t7 t8 t9 t10 ρ : Type} (x : Option (t0 × t1 × t2 × t3 × t4 × t5 × t6 × t7 × t8 × t9 × t10)) (f : t0 → t1 → t2 → t3 → t4 → t5 → t6 → t7 → t8 → t9 → t10 → Option ρ) : Option ρ := match x with | none => none | some (x0, x1, x2, x3, x4, x5, x6, x7, x8, x9, x10) => f x0 x1 x2 x3 x4 x5 x6 x7 x8 x9 x10
def unp12 {t0 t1 t2 t3 t4 t5 t6 t7 t8 t9 t10 t11 ρ : Type} (s : t0 × t1 × t2 × t3 × t4 × t5 × t6 × t7 × t8 × t9 × t10 × t11) (f : t0 → t1 → t2 → t3 → t4 → t5 → t6 → t7 → t8 → t9 → t10 → t11 → Option ρ) : Option ρ := f s.1 s.2.1 s.2.2.1 s.2.2.2.1 s.2.2.2.2.1 s.2.2.2.2.2.1 s.2.2.2.2.2.2.1 s.2.2.2.2.2.2.2.1 s.2.2.2.2.2.2.2.2.1 s.2.2.2.2.2.2.2.2.2.1 s.2.2.2.2.2.2.2.2.2.2.1 s.2.2.2.2.2.2.2.2.2.2.2
def bind12 {t0 t1 t2 t3 t4 t5 t6 t7 t8 t9 t10 t11 ρ : Type} (x : Option (t0 × t1 × t2 × t3 × t4 × t5 × t6 × t7 × t8 × t9 × t10 × t11)) (f : t0 → t1 → t2 → t3 → t4 → t5 → t6 → t7 → t8 → t9 → t10 → t11 → Option ρ) : Option ρ := match x with | none => none | some (x0, x1, x2, x3, x4, x5, x6, x7, x8, x9, x10, x11) => f x0 x1 x2 x3 x4 x5 x6 x7 x8 x9 x10 x11
def unp13 {α0 α1 α2 α3 α4 α5 α6 α7 α8 α9 α10 α11 α12 ρ : Type} (s : α0 × α1 × α2 × α3 × α4 × α5 × α6 × α7 × α8 × α9 × α10 × α11 × α12) (f : α0 → α1 → α2 → α3 → α4 → α5 → α6 → α7 → α8 → α9 → α10 → α11 → α12 → Option ρ) : Option ρ := f s.1 s.2.1 s.2.2.1 s.2.2.2.1 s.2.2.2.2.1 s.2.2.2.2.2.1 s.2.2.2.2.2.2.1 s.2.2.2.2.2.2.2.1 s.2.2.2.2.2.2.2.2.1 s.2.2.2.2.2.2.2.2.2.1 s.2.2.2.2.2.2.2.2.2.2.1 s.2.2.2.2.2.2.2.2.2.2.2.1 s.2.2.2.2.2.2.2.2.2.2.2.2
def unp14 {α0 α1 α2 α3 α4 α5 α6 α7 α8 α9 α10 α11 α12 α13 ρ : Type} (s : α0 × α1 × α2 × α3 × α4 × α5 × α6 × α7 × α8 × α9 × α10 × α11 × α12 × α13) (f : α0 → α1 → α2 → α3 → α4 → α5 → α6 → α7 → α8 → α9 → α10 → α11 → α12 → α13 → Option ρ) : Option ρ := f s.1 s.2.1 s.2.2.1 s.2.2.2.1 s.2.2.2.2.1 s.2.2.2.2.2.1 s.2.2.2.2.2.2.1 s.2.2.2.2.2.2.2.1 s.2.2.2.2.2.2.2.2.1 s.2.2.2.2.2.2.2.2.2.1 s.2.2.2.2.2.2.2.2.2.2.1 s.2.2.2.2.2.2.2.2.2.2.2.1 s.2.2.2.2.2.2.2.2.2.2.2.2.1 s.2.2.2.2.2.2.2.2.2.2.2.2.2
def unp15 {α0 α1 α2 α3 α4 α5 α6 α7 α8 α9 α10 α11 α12 α13 α14 ρ : Type} (s : α0 × α1 × α2 × α3 × α4 × α5 × α6 × α7 × α8 × α9 × α10 × α11 × α12 × α13 × α14) (f : α0 → α1 → α2 → α3 → α4 → α5 → α6 → α7 → α8 → α9 → α10 → α11 → α12 → α13 → α14 → Option ρ) : Option ρ := f s.1 s.2.1 s.2.2.1 s.2.2.2.1 s.2.2.2.2.1 s.2.2.2.2.2.1 s.2.2.2.2.2.2.1 s.2.2.2.2.2.2.2.1 s.2.2.2.2.2.2.2.2.1 s.2.2.2.2.2.2.2.2.2.1 s.2.2.2.2.2.2.2.2.2.2.1 s.2.2.2.2.2.2.2.2.2.2.2.1 s.2.2.2.2.2.2.2.2.2.2.2.2.1 s.2.2.2.2.2.2.2.2.2.2.2.2.2.1 s.2.2.2.2.2.2.2.2.2.2.2.2.2.2
def unp16 {α0 α1 α2 α3 α4 α5 α6 α7 α8 α9 α10 α11 α12 α13 α14 α15 ρ : Type} (s : α0 × α1 × α2 × α3 × α4 × α5 × α6 × α7 × α8 × α9 × α10 × α11 × α12 × α13 × α14 × α15) (f : α0 → α1 → α2 → α3 → α4 → α5 → α6 → α7 → α8 → α9 → α10 → α11 → α12 → α13 → α14 → α15 → Option ρ) : Option ρ := f s.1 s.2.1 s.2.2.1 s.2.2.2.1 s.2.2.2.2.1 s.2.2.2.2.2.1 s.2.2.2.2.2.2.1 s.2.2.2.2.2.2.2.1 s.2.2.2.2.2.2.2.2.1 s.2.2.2.2.2.2.2.2.2.1 s.2.2.2.2.2.2.2.2.2.2.1 s.2.2.2.2.2.2.2.2.2.2.2.1 s.2.2.2.2.2.2.2.2.2.2.2.2.1 s.2.2.2.2.2.2.2.2.2.2.2.2.2.1 s.2.2.2.2.2.2.2.2.2.2.2.2.2.2.1 s.2.2.2.2.2.2.2.2.2.2.2.2.2.2.2
def unp17 {α0 α1 α2 α3 α4 α5 α6 α7 α8 α9 α10 α11 α12 α13 α14 α15 α16 ρ : Type} (s : α0 × α1 × α2 × α3 × α4 × α5 × α6 × α7 × α8 × α9 × α10 × α11 × α12 × α13 × α14 × α15 × α16) (f : α0 → α1 → α2 → α3 → α4 → α5 → α6 → α7 → α8 → α9 → α10 → α11 → α12 → α13 → α14 → α15 → α16 → Option ρ) : Option ρ := f s.1 s.2.1 s.2.2.1 s.2.2.2.1 s.2.2.2.2.1 s.2.2.2.2.2.1 s.2.2.2.2.2.2.1 s.2.2.2.2.2.2.2.1 s.2.2.2.2.2.2.2.2.1 s.2.2.2.2.2.2.2.2.2.1 s.2.2.2.2.2.2.2.2.2.2.1 s.2.2.2.2.2.2.2.2.2.2.2.1 s.2.2.2.2.2.2.2.2.2.2.2.2.1 s.2.2.2.2.2.2.2.2.2.2.2.2.2.1 s.2.2.2.2.2.2.2.2.2.2.2.2.2.2.1 s.2.2.2.2.2.2.2.2.2.2.2.2.2.2.2.1 s.2.2.2.2.2.2.2.2.2.2.2.2.2.2.2.2
def unp18 {α0 α1 α2 α3 α4 α5 α6 α7 α8 α9 α10 α11 α12 α13 α14 α15 α16 α17 ρ : Type} (s : α0 × α1 × α2 × α3 × α4 × α5 × α6 × α7 × α8 × α9 × α10 × α11 × α12 × α13 × α14 × α15 × α16 × α17) (f : α0 → α1 → α2 → α3 → α4 → α5 → α6 → α7 → α8 → α9 → α10 → α11 → α12 → α13 → α14 → α15 → α16 → α17 → Option ρ) : Option ρ := f s.1 s.2.1 s.2.2.1 s.2.2.2.1 s.2.2.2.2.1 s.2.2.2.2.2.1 s.2.2.2.2.2.2.1 s.2.2.2.2.2.2.2.1 s.2.2.2.2.2.2.2.2.1 s.2.2.2.2.2.2.2.2.2.1 s.2.2.2.2.2.2.2.2.2.2.1 s.2.2.2.2.2.2.2.2.2.2.2.1 s.2.2.2.2.2.2.2.2.2.2.2.2.1 s.2.2.2.2.2.2.2.2.2.2.2.2.2.1 s.2.2.2.2.2.2.2.2.2.2.2.2.2.2.1 s.2.2.2.2.2.2.2.2.2.2.2.2.2.2.2.1 s.2.2.2.2.2.2.2.2.2.2.2.2.2.2.2.2.1 s.2.2.2.2.2.2.2.2.2.2.2.2.2.2.2.2.2
theorem unp18_hid {α0 α1 α2 α3 α4 α5 α6 α7 α8 α9 α10 α11 α12 α13 α14 α15 α16 α17 ρ : Type} {x0 : α0} {x1 : α1} {x2 : α2} {x3 : α3} {x4 : α4} {x5 : α5} {x6 : α6} {x7 : α7} {x8 : α8} {x9 : α9} {x10 : α10} {x11 : α11} {x12 : α12} {x13 : α13} {x14 : α14} {x15 : α15} {x16 : α16} {x17 : α17} {f : α0 → α1 → α2 → α3 → α4 → α5 → α6 → α7 → α8 → α9 → α10 → α11 → α12 → α13 → α14 → α15 → α16 → α17 → Option ρ} {r : ρ} (H : Hid (unp18 (x0, x1, x2, x3, x4, x5, x6, x7, x8, x9, x10, x11, x12, x13, x14, x15, x16, x17) f = some r)) : Hid (f x0 x1 x2 x3 x4 x5 x6 x7 x8 x9 x10 x11 x12 x13 x14 x15 x16 x17 = some r) := H
end Go.Proofs.Ytihibckijdfidaa.GoP

namespace Go.Proofs.Ytihibckijdfidaa.GiTurningWeights
open Go.RowKit
open Go.Proofs.Ytihibckijdfidaa.Rowed Go.Proofs.Ytihibckijdfidaa.Turn Go.Proofs.Ytihibckijdfidaa.Aid Go.Proofs.Ytihibckijdfidaa.GoP Go.Proofs.Ytihibckijdfidaa.GoM

def l0 (rates : (List PRate.Rate)) (k0 : Nat) (s : (List Int)) (nx0 bk0 : (List Int) → Option ((List Int))) : Option ((List Int)) :=
 letK s fun weights_3l0 =>
 Option.bind (idx rates (k0 : Int)) fun (yt_7 : PRate.Rate) =>
 unRate yt_7 fun (t_7_zone : Int) (t_7_grams : Int) (t_7_from_ : Int) (t_7_until_ : Int) (t_7_cents : Int) =>
 letK (IntKind.i64.wrap (t_7_grams + 1)) fun (t_14 : Int) =>
 guardK (weights_3l0.length ≤ 1099511627776) <|
 letK (weights_3l0 ++ [t_14]) fun (t_16 : (List Int)) =>
 appK nx0 (t_16)

def e0  (s : (List Int)) : Option ((List Int)) :=
 letK s fun weights_3l0 =>
 Option.bind (GxSlicesSortIntInt.P weights_3l0) fun (lt_21 : (List Int)) =>
 Option.bind (GxSlicesCompactIntInt.P lt_21) fun (t_23 : (List Int)) =>
 some t_23

def P (rates : (List PRate.Rate)) : Option ((List Int)) :=
 letK ([1]) fun (t_1 : (List Int)) =>
 cntK (l0 rates) (rates.length) 0 (t_1) (e0 )

set_option maxRecDepth 100000 in
set_option maxHeartbeats 2000000 in
theorem C (rates : (List PRate.Rate)) (A0 : Option Addr) (c0 : Nat)  (w : World) (M0 : Hid (Cells w 5 A0 rates.length (PRate.flat rates))) (N0 : Hid (rates.length ≤ 9223372036854775807))  {r : (List Int)} (H : Hid (P rates = some r)) :
  Calls Try.prog 166 #[.slice A0 rates.length c0] w (fun e w' => ∃ A_r c_r, e = .returned (.slice A_r r.length c_r) ∧ w'.ownsRow w.heap.size 3 1 (.slice A_r r.length c_r) r.length (HelpInt.iv r) ∧ Below w.heap.size w w') := by
 have HB := Lib.hid (Below.refl w.heap.size w); unfold P at H; have N0o := N0.out; obtain ⟨i0_3, hi_3, c13, w12, y12⟩ := Aid.info_parts (P := Try.prog) (T := 3) (z := .int .i64 0) (s := 1) (b := 8) (by kernel_rfl)
 go_enter Try.func166, Try.ntmps166
 replace H := let_hid H; obtain ⟨t_1, ht_1, H⟩ := H; obtain ⟨r11, p11⟩ : ∃ x, w.alloc (.cells #[.int .i64 1] 3) = x := ⟨_, rfl⟩; have a12 : Below w.heap.size w r11 := (by rw [← p11]; exact (Below.refl _ _).alloc (Nat.le_refl _) _); have j12 := HB.out.size; have nt_1 : t_1.length = 1 := (by rw [← ht_1]; rfl)
 have Ot_1 : Hid (r11.ownsRow w.heap.size 3 1 (.slice (some ⟨w.heap.size, 0, none⟩) 1 1) 1 (HelpInt.iv t_1)) := by
  rw [← p11, ← ht_1]; have e_ : ([.int .i64 1] : List Value) = (HelpInt.iv ([1] : List Int)) := rfl; exact Lib.hid (own_laid (n := 1) j12 e_ rfl (by unfold maxLen; omega))
 clear j12; have p13 := Lib.hid ht_1; clear ht_1; replace nt_1 := Lib.hid nt_1; have f13 := Lib.hid (Below.step HB.out a12); clear a12; go_wp2_with fail; have hc_ := nt_1.out; have hv_ : (Value.slice (some ⟨w.heap.size, 0, none⟩) 1 1 : Value) = Value.slice (some ⟨w.heap.size, 0, none⟩) t_1.length 1 := (by rw [hc_])
 try rw [hv_]
 replace Ot_1 := Lib.hid (own_len hc_ Ot_1.out); clear hc_ hv_; go_wp2_with fail; go_loopg [9, 3] (rates.length) (fun m_ v9_ v3_ wr => ∃ (k0 : Nat) (g10 : (List Int)) (m10 : Option Addr) (j10 : Nat), k0 + m_ = rates.length ∧ v9_ = .int .i64 (k0 : Int) ∧ v3_ = .slice m10 g10.length j10 ∧ Hid (cntK (l0 rates) m_ k0 (g10) (e0 ) = some r) ∧ Hid (Below w.heap.size w wr) ∧ Hid (wr.ownsRow w.heap.size 3 1 (.slice m10 g10.length j10) g10.length (HelpInt.iv g10)))
 case atStart => exact ⟨0, _, _, _, by omega, rfl, rfl, H, f13, Ot_1⟩
 case round =>
  obtain ⟨k0, g10, m10, j10, hkm0, rfl, rfl, H, e10, a10⟩ := hrel; rename World => wr0
  cases gk with
  | zero =>
   obtain rfl : k0 = rates.length := (by omega); have hc0 : decide (((rates.length : Nat) : Int) < ((rates.length : Nat) : Int)) = false := (by simp); replace H := cnt_zero H; unfold e0 at H; replace H := let_hid H; obtain ⟨_, rfl, H⟩ := H; replace H := bind_hid H; obtain ⟨x12, s12, H⟩ := H; go_wp2_with fail; go_at_call 204; refine (GxSlicesSortIntInt.C (g10) m10 j10 w.heap.size _   a10 (Lib.hid (own_max a10.out))   s12).mono ?_; rintro g13 s13 ⟨rfl, f12, s10, n12⟩; have t10 := Lib.hid f12; have q11 := Lib.hid n12; replace s10 := Lib.hid s10; clear f12 n12; have v10 := Lib.hid (e10.out.grown q11.out e10.out.size (fun q hq => (a10.out.lt q hq).1)); clear a10 q11; replace H := bind_hid H; obtain ⟨t_23, d13, H⟩ := H; go_wp2_with fail; have hc0_ := s10.out; have r10 := Lib.hid (own_len hc0_ t10.out); have con_ := GxSlicesCompactIntInt.C (x12) m10 j10 w.heap.size _   r10 (Lib.hid (own_max r10.out)) (Lib.hid v10.out.size)  d13; rw [hc0_] at con_; clear hc0_ r10; go_at_call 205; refine con_.mono ?_; rintro i13 q13 ⟨t12, z12, rfl, d12, l12, w10⟩; have q12 := Lib.hid d12; have k11 := Lib.hid l12; replace w10 := Lib.hid w10; clear d12 l12; have b13 := Lib.hid (v10.out.grown k11.out v10.out.size (fun q hq => (t10.out.lt q hq).1)); clear t10 k11 w10; obtain rfl := ret_hid H; go_wp2_with fail; go_ret; exact ⟨t12, z12, rfl, q12.out, b13.out⟩
  | succ m0 =>
   have hlt0 : k0 < rates.length := (by omega); have hc0 : decide ((k0 : Int) < ((rates.length : Nat) : Int)) = true := (by simp; omega); replace H := cnt_succ H; unfold l0 at H; replace H := let_hid H; obtain ⟨_, rfl, H⟩ := H; replace H := idx_hid H; obtain ⟨nt_7, yt_7, et_7, lt_7, gt_7, H⟩ := H; obtain rfl : k0 = nt_7 := (by omega); clear et_7; obtain ⟨k12, a11, v11, m11, o11⟩ := yt_7; replace H := unRate_hid H; obtain ⟨o13, n13, zt_7, At_7, g11, l10, o10, p10, q10, n10⟩ := ORate.at_ M0.out lt_7; obtain rfl := Option.some.inj (gt_7.out.symm.trans g11); subst At_7; have k10 := cell_lt l10; replace l10 := cell_below e10.out l10; replace o10 := cell_below e10.out o10; replace p10 := cell_below e10.out p10; replace q10 := cell_below e10.out q10; replace n10 := cell_below e10.out n10; clear g11; have t13 : (0 : Int) ≤ (k0 : Int) := (by omega); have r13 : (k0 : Int) < ((rates.length : Nat) : Int) := (by omega); have m13 : ((k0 : Int)).toNat = k0 := (by omega); obtain ⟨d10, h10⟩ : ∃ x, wr0.alloc (.cells #[.int .i64 k12, .int .i64 a11, .int .i64 v11, .int .i64 m11, .int .i64 o11] 120) = x := ⟨_, rfl⟩; have f10 : Below wr0.heap.size wr0 d10 := (by rw [← h10]; exact (Below.refl _ _).alloc (Nat.le_refl _) _); have i10 := Lib.hid (apart_fresh a10.out); have p12 := Lib.hid (Below.step e10.out f10); have d11 := cell_below f10 l10; have e12 := cell_below f10 o10; have x11 := cell_below f10 p10; have j11 := cell_below f10 q10; have l11 := cell_below f10 n10; replace a10 := Lib.hid (own_below a10.out f10); clear f10; have c12 : d10.cell? ⟨wr0.heap.size, 0, none⟩ = some (.int .i64 k12) := (by rw [← h10]; exact box_new _ _ _ 0 _ rfl); have s11 : d10.cell? ⟨wr0.heap.size, 1, none⟩ = some (.int .i64 a11) := (by rw [← h10]; exact box_new _ _ _ 1 _ rfl); have i12 : d10.cell? ⟨wr0.heap.size, 2, none⟩ = some (.int .i64 v11) := (by rw [← h10]; exact box_new _ _ _ 2 _ rfl); have i11 : d10.cell? ⟨wr0.heap.size, 3, none⟩ = some (.int .i64 m11) := (by rw [← h10]; exact box_new _ _ _ 3 _ rfl); have g12 : d10.cell? ⟨wr0.heap.size, 4, none⟩ = some (.int .i64 o11) := (by rw [← h10]; exact box_new _ _ _ 4 _ rfl); replace H := let_hid H; obtain ⟨t_14, k13, H⟩ := H; obtain ⟨a13, b12⟩ : ∃ x, d10.alloc (.cells #[.int .i64 t_14] 3) = x := ⟨_, rfl⟩; have b10 : Below d10.heap.size d10 a13 := (by rw [← b12]; exact (Below.refl _ _).alloc (Nat.le_refl _) _); have h11 := Lib.hid (Below.step p12.out b10); have m12 := cell_below b10 d11; have z11 := cell_below b10 e12; have n11 := cell_below b10 x11; have c11 := cell_below b10 j11; have h12 := cell_below b10 l11; have x10 := cell_below b10 c12; have e11 := cell_below b10 s11; have w11 := cell_below b10 i12; have y11 := cell_below b10 i11; have z10 := cell_below b10 g12; replace a10 := Lib.hid (own_below a10.out b10); clear b10; replace H := guard_hid H; obtain ⟨h13, H⟩ := H; replace H := let_hid H; obtain ⟨t_16, f11, H⟩ := H; have o12 := Lib.hid f11; clear f11; have y10 := h11.out.size; go_wp2_with (at_builtin; refine wpList_append_own_at _ rfl _ _ 38 rfl w.heap.size 3 i0_3 (.int .i64 0) 1 8 Try.underlying38 hi_3 c13 w12 y12 rfl (by decide) _ _ _ rfl a10.out ⟨d10.heap.size, 0, none⟩ 1 1 [.int .i64 t_14] rfl rfl (news_new b12) (one_cells rfl) (by unfold maxLen; omega) (by omega) y10 ?_; intro vt_16 wt_16 ot_16 gt_16 zt_16 yt_16; clear zt_16; obtain ⟨e13, j13, rfl, b11⟩ := own_push o12.out (HelpInt.iv_snoc _ _) rfl ot_16; have v12 := Lib.hid b11; have t11 := Lib.hid yt_16; have c10 := Lib.hid gt_16; clear ot_16 gt_16 b11 yt_16; refine stop_in ?_); refine stop_out ?_; have r12 := Lib.hid (h11.out.grown c10.out y10 (fun q hq => (a10.out.lt q hq).1)); clear y10; have l13 : Hid (Apart (some ⟨e13, 0, none⟩) _) := Lib.hid (apart_app (Apart.symm i10.out) (fun a_ ha_ => by cases ha_; exact cell_lt x10) t11.out); replace m12 := cell_other m12 c10.out (apart_old a10.out k10); replace z11 := cell_other z11 c10.out (apart_old a10.out k10); replace n11 := cell_other n11 c10.out (apart_old a10.out k10)
   replace c11 := cell_other c11 c10.out (apart_old a10.out k10); replace h12 := cell_other h12 c10.out (apart_old a10.out k10); replace x10 := cell_other x10 c10.out (Apart.symm i10.out); replace e11 := cell_other e11 c10.out (Apart.symm i10.out); replace w11 := cell_other w11 c10.out (Apart.symm i10.out); replace y11 := cell_other y11 c10.out (Apart.symm i10.out); replace z10 := cell_other z10 c10.out (Apart.symm i10.out); clear l10 o10 p10 q10 n10 d11 e12 x11 j11 l11 c12 s11 i12 i11 g12; clear a10 t11 c10; replace H := app_hid H; go_wp2_with fail
   go_roundg m0
   case measure => omega
   case rel => exact ⟨k0 + 1, _, _, _, by omega, by go_num, rfl, H, r12, v12⟩
end Go.Proofs.Ytihibckijdfidaa.GiTurningWeights

namespace Go.Proofs.Ytihibckijdfidaa.GiChoices
open Go.RowKit
open Go.Proofs.Ytihibckijdfidaa.Rowed Go.Proofs.Ytihibckijdfidaa.Turn Go.Proofs.Ytihibckijdfidaa.Aid Go.Proofs.Ytihibckijdfidaa.GoP Go.Proofs.Ytihibckijdfidaa.GoM

def P (change : Int) (number : Int) (kept : Int) (all : (List Int)) : Option ((List Int)) :=
 letK (bits .and IntKind.i64 change number) fun (t_3 : Int) =>
 letK (t_3 == 0) fun (t_4 : Bool) =>
 iteK t_4
 (letK ([kept]) fun (t_6 : (List Int)) =>
 some t_6)
 (some all)

set_option maxRecDepth 100000 in
set_option maxHeartbeats 2000000 in
theorem C1 (change : Int) (number : Int) (kept : Int) (all : (List Int)) (A3 : Option Addr) (c3 : Nat)  (w : World) (M3 : Hid (Cells w 1 A3 all.length (HelpInt.iv all))) (N3 : Hid (all.length ≤ 9223372036854775807))  {r : (List Int)} (H : Hid (P change number kept all = some r)) :
  Calls Try.prog 165 #[.int .i64 change, .int .i64 number, .int .i64 kept, .slice A3 all.length c3] w (fun e w' => ∃ A_r c_r, e = .returned (.slice A_r r.length c_r) ∧ Hid ((A_r = A3 ∧ c_r = c3 ∧ r = all) ∨ w'.ownsRow w.heap.size 3 1 (.slice A_r r.length c_r) r.length (HelpInt.iv r)) ∧ Below w.heap.size w w') := by
 have HB := Lib.hid (Below.refl w.heap.size w)
 unfold P at H
 have N3o := N3.out
 go_enter Try.func165, Try.ntmps165
 replace H := let_hid H
 obtain ⟨t_3, ht_3, H⟩ := H
 replace H := let_hid H
 obtain ⟨t_4, ht_4, H⟩ := H
 cases t_4 with
 | false =>
  replace H := ite_f H
  obtain rfl := ret_hid H
  go_wp2_with fail
  go_ret
  exact ⟨_, _, rfl, (Lib.hid (.inl (by first | exact ⟨rfl, rfl, rfl⟩ | exact ⟨rfl, rfl⟩))), HB.out⟩
 | true =>
  replace H := ite_t H
  replace H := let_hid H
  obtain ⟨t_6, ht_6, H⟩ := H
  obtain ⟨w_t_6, hw_t_6⟩ : ∃ x, w.alloc (.cells #[.int .i64 kept] 3) = x := ⟨_, rfl⟩
  have bw_t_6 : Below w.heap.size w w_t_6 := by rw [← hw_t_6]; exact (Below.refl _ _).alloc (Nat.le_refl _) _
  have hs_t_6 := HB.out.size
  have nt_6 : t_6.length = 1 := by rw [← ht_6]; rfl
  have Ot_6 : Hid (w_t_6.ownsRow w.heap.size 3 1 (.slice (some ⟨w.heap.size, 0, none⟩) 1 1) 1 (HelpInt.iv t_6)) := by
   rw [← hw_t_6, ← ht_6]
   have e_ : ([.int .i64 kept] : List Value) = (HelpInt.iv ([kept] : List Int)) := rfl
   exact Lib.hid (own_laid (n := 1) hs_t_6 e_ rfl (by unfold maxLen; omega))
  clear hs_t_6
  have hht_6 := Lib.hid ht_6
  clear ht_6
  replace nt_6 := Lib.hid nt_6
  have HBw_t_6 := Lib.hid (Below.step HB.out bw_t_6)
  clear bw_t_6
  obtain rfl := ret_hid H
  go_wp2_with fail
  go_ret
  have hr_0 := nt_6.out
  replace Ot_6 := Lib.hid (own_len hr_0 Ot_6.out)
  exact ⟨(some ⟨w.heap.size, 0, none⟩), 1, (by first | (rw [hr_0]; done) | (rw [hr_0]; rfl)), (Lib.hid (.inr Ot_6.out)), HBw_t_6.out⟩

theorem C (change : Int) (number : Int) (kept : Int) (all : (List Int)) (A3 : Option Addr) (c3 : Nat)  (b0 : Nat) (w : World) (M3 : Hid (w.ownsRow b0 3 1 (.slice A3 all.length c3) all.length (HelpInt.iv all))) (N3 : Hid (all.length ≤ 9223372036854775807))  (LB : Hid (b0 ≤ w.heap.size)) {r : (List Int)} (H : Hid (P change number kept all = some r)) :
  Calls Try.prog 165 #[.int .i64 change, .int .i64 number, .int .i64 kept, .slice A3 all.length c3] w (fun e w' => ∃ A_r c_r, e = .returned (.slice A_r r.length c_r) ∧ w'.ownsRow b0 3 1 (.slice A_r r.length c_r) r.length (HelpInt.iv r) ∧ w.grownBy w' (Value.slice A3 all.length c3).ownBlock ∧ GoK.From w A3 A_r) := by
 refine (C1 change number kept all A3 c3 w (Lib.hid (own_cells M3.out)) N3 H).mono ?_; rintro e_ w_ ⟨A_, c_, rfl, h_, hb_⟩
 rcases h_.out with ⟨h1_, h2_, h3_⟩ | h_
 ·
  refine ⟨_, _, rfl, ?_, grown_below (Aid.grown_refl _ _) hb_, ?_⟩
  ·
   rw [h1_, h2_, h3_]; exact own_below M3.out hb_
  ·
   rw [h1_]; exact GoK.from_self
 ·
  exact ⟨_, _, rfl, GoK.own_baseM LB.out h_, grown_below (Aid.grown_refl _ _) hb_, GoK.from_own h_⟩
end Go.Proofs.Ytihibckijdfidaa.GiChoices

namespace Go.Proofs.Ytihibckijdfidaa.GiAllZones
open Go.RowKit
open Go.Proofs.Ytihibckijdfidaa.Rowed Go.Proofs.Ytihibckijdfidaa.Turn Go.Proofs.Ytihibckijdfidaa.Aid Go.Proofs.Ytihibckijdfidaa.GoP Go.Proofs.Ytihibckijdfidaa.GoM

def l0  (k0 : Nat) (s : (List Int)) (nx0 bk0 : (List Int) → Option ((List Int))) : Option ((List Int)) :=
 letK s fun zones_1l0 =>
 guardK (zones_1l0.length ≤ 1099511627776) <|
 letK (zones_1l0 ++ [(k0 : Int)]) fun (t_10 : (List Int)) =>
 appK nx0 (t_10)

def e0  (s : (List Int)) : Option ((List Int)) :=
 letK s fun zones_1l0 =>
 some zones_1l0

def P  : Option ((List Int)) :=
 cntK (l0 ) (10) 0 (([] : List Int)) (e0 )

set_option maxRecDepth 100000 in
set_option maxHeartbeats 2000000 in
theorem C    (w : World)   {r : (List Int)} (H : Hid (P  = some r)) :
  Calls Try.prog 167 #[] w (fun e w' => ∃ A_r c_r, e = .returned (.slice A_r r.length c_r) ∧ w'.ownsRow w.heap.size 3 1 (.slice A_r r.length c_r) r.length (HelpInt.iv r) ∧ Below w.heap.size w w') := by
 have HB := Lib.hid (Below.refl w.heap.size w); unfold P at H; obtain ⟨i0_3, hi_3, x10, w10, t10⟩ := Aid.info_parts (P := Try.prog) (T := 3) (z := .int .i64 0) (s := 1) (b := 8) (by kernel_rfl)
 go_enter Try.func167, Try.ntmps167
 obtain ⟨n10, g10⟩ : ∃ x, w.alloc (.cells #[] 3) = x := ⟨_, rfl⟩; have o10 : Below w.heap.size w n10 := (by rw [← g10]; exact (Below.refl _ _).alloc (Nat.le_refl _) _); have Ot_1 : Hid (n10.ownsRow w.heap.size 3 1 (.slice (some ⟨w.heap.size, 0, none⟩) 0 0) 0 []) := Lib.hid (by rw [← g10]; exact own_empty HB.out.size); have v10 := Lib.hid (Below.step HB.out o10); clear o10; go_wp2_with fail; go_loopg [4, 1] (10) (fun m_ v4_ v1_ wr => ∃ (k0 : Nat) (b10 : (List Int)) (c10 : Option Addr) (d10 : Nat), k0 + m_ = 10 ∧ v4_ = .int .i64 (k0 : Int) ∧ v1_ = .slice c10 b10.length d10 ∧ Hid (cntK (l0 ) m_ k0 (b10) (e0 ) = some r) ∧ Hid (Below w.heap.size w wr) ∧ Hid (wr.ownsRow w.heap.size 3 1 (.slice c10 b10.length d10) b10.length (HelpInt.iv b10)))
 case atStart => exact ⟨0, _, _, _, by omega, rfl, rfl, H, v10, Ot_1⟩
 case round =>
  obtain ⟨k0, b10, c10, d10, hkm0, rfl, rfl, H, j10, a10⟩ := hrel; rename World => wr0
  cases gk with
  | zero =>
   obtain rfl : k0 = 10 := (by omega); have hc0 : decide (((10 : Nat) : Int) < ((10 : Nat) : Int)) = false := (by simp); replace H := cnt_zero H; unfold e0 at H; replace H := let_hid H; obtain ⟨_, rfl, H⟩ := H; obtain rfl := ret_hid H; go_wp2_with fail; go_ret; exact ⟨c10, d10, rfl, a10.out, j10.out⟩
  | succ m0 =>
   have hlt0 : k0 < 10 := (by omega); have hc0 : decide ((k0 : Int) < ((10 : Nat) : Int)) = true := (by simp; omega); replace H := cnt_succ H; have hd0 : decide ((k0 : Int) < 10) = true := (by simp; omega); unfold l0 at H; replace H := let_hid H; obtain ⟨_, rfl, H⟩ := H; obtain ⟨s10, h10⟩ : ∃ x, wr0.alloc (.cells #[.int .i64 (k0 : Int)] 3) = x := ⟨_, rfl⟩; have e10 : Below wr0.heap.size wr0 s10 := (by rw [← h10]; exact (Below.refl _ _).alloc (Nat.le_refl _) _); have l10 := Lib.hid (Below.step j10.out e10); replace a10 := Lib.hid (own_below a10.out e10); clear e10; replace H := guard_hid H; obtain ⟨z10, H⟩ := H; replace H := let_hid H; obtain ⟨t_10, i10, H⟩ := H; have p10 := Lib.hid i10; clear i10; have f10 := l10.out.size; go_wp2_with (at_builtin; refine wpList_append_own_at _ rfl _ _ 38 rfl w.heap.size 3 i0_3 (.int .i64 0) 1 8 Try.underlying38 hi_3 x10 w10 t10 rfl (by decide) _ _ _ rfl a10.out ⟨wr0.heap.size, 0, none⟩ 1 1 [.int .i64 (k0 : Int)] rfl rfl (news_new h10) (one_cells rfl) (by unfold maxLen; omega) (by omega) f10 ?_; intro vt_10 wt_10 ot_10 gt_10 zt_10 yt_10; clear zt_10; obtain ⟨a11, b11, rfl, k10⟩ := own_push p10.out (HelpInt.iv_snoc _ _) rfl ot_10; have q10 := Lib.hid k10; have y10 := Lib.hid yt_10; have m10 := Lib.hid gt_10; clear ot_10 gt_10 k10 yt_10; refine stop_in ?_); refine stop_out ?_; have r10 := Lib.hid (l10.out.grown m10.out f10 (fun q hq => (a10.out.lt q hq).1)); clear f10; clear a10 y10 m10; replace H := app_hid H; go_wp2_with fail
   go_roundg m0
   case measure => omega
   case rel => exact ⟨k0 + 1, _, _, _, by omega, by go_num, rfl, H, r10, q10⟩
end Go.Proofs.Ytihibckijdfidaa.GiAllZones

