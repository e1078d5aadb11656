/- Texts on which the proofs of several laws stand, one behind the other (16 of 18). No condition of their own. -/
import Derived.Test.YtgimcnpkngpmiaaChecked
import Derived.Test.YtgimcnpkngpmiaaX11P1
import Derived.WalkKit
import Derived.WalkSpells
import Derived.WalkLawsBesides
import Derived.BigQuiet
import Derived.OwnWalk
import Derived.Deep.LoopGhost
import Derived.Deep.QuietTactic
import Derived.IntWalk
import Derived.Lib.QuietBelow
import Derived.Test.YtgimcnpkngpmiaaX11P5
import Derived.Test.YtgimcnpkngpmiaaX11P3
import Derived.Test.YtgimcnpkngpmiaaX11P8
import Derived.Test.YtgimcnpkngpmiaaX11P9
import Derived.Test.YtgimcnpkngpmiaaX11P2
import Derived.Test.YtgimcnpkngpmiaaX11P6
/- loop.example/g01062/laws.eqStringS as a plain function, and the contract of the program's: where the plain one has an answer, the program has it. Conditions: slices read as lists. -/
namespace Go.Proofs.Ytgimcnpkngpmiaa.GlEqStringS
set_option linter.unusedVariables false
set_option linter.unusedSimpArgs false
open Go.RowKit
open Go.Proofs.Ytgimcnpkngpmiaa.Rowed Go.Proofs.Ytgimcnpkngpmiaa.Turn Go.Proofs.Ytgimcnpkngpmiaa.Aid Go.Proofs.Ytgimcnpkngpmiaa.GoP Go.Proofs.Ytgimcnpkngpmiaa.GoM

def l0 (a : (List ByteArray)) (b : (List ByteArray)) (k0 : Nat) (s : Unit) (nx0 bk0 : Unit → Option (Bool)) : Option (Bool) :=
  
  Option.bind (idx a (k0 : Int)) fun (yt_14 : ByteArray) =>
  Option.bind (idx b (k0 : Int)) fun (yt_18 : ByteArray) =>
  letK (!(yt_14.toList == yt_18.toList)) fun (t_20 : Bool) =>
  iteK t_20
  (some false)
  (appK nx0 ())

def e0  (s : Unit) : Option (Bool) :=
  
  some true

def P (a : (List ByteArray)) (b : (List ByteArray)) : Option (Bool) :=
  letK ((a.length : Int) != (b.length : Int)) fun (t_5 : Bool) =>
  iteK t_5
  (some false)
  (cntK (l0 a b) (a.length) 0 () (e0 ))

set_option maxRecDepth 100000 in
set_option maxHeartbeats 2000000 in
theorem C (a : (List ByteArray)) (b : (List ByteArray)) (A0 : Option Addr) (c0 : Nat) (A1 : Option Addr) (c1 : Nat)  (w : World) (M0 : Hid (Cells w 1 A0 a.length (a.map Value.string))) (N0 : Hid (a.length ≤ 9223372036854775807)) (M1 : Hid (Cells w 1 A1 b.length (b.map Value.string))) (N1 : Hid (b.length ≤ 9223372036854775807))  {r : Bool} (H : Hid (P a b = some r)) :
    Calls Try.prog 33 #[.slice A0 a.length c0, .slice A1 b.length c1] w (Gives (.bool r) w) := by
  have HB := Lib.hid (Below.refl w.heap.size w)
  unfold P at H
  have N0o := N0.out
  have N1o := N1.out
  go_enter Try.func33, Try.ntmps33
  replace H := let_hid H
  obtain ⟨t_5, ht_5, H⟩ := H
  cases t_5 with
  | false =>
    have Hht_5 : Hid (a.length = b.length) := Lib.hid (by have := bne_eq_false_iff_eq.1 ht_5; omega)
    have nht_5 : (a.length == b.length) = true := beq_iff_eq.2 Hht_5.out
    replace H := ite_f H
    go_wp2_with fail
    go_loopg [5] (a.length) (fun m_ v5_ wr => ∃ (k0 : Nat) , k0 + m_ = a.length ∧ v5_ = .int .i64 (k0 : Int) ∧ Hid (cntK (l0 a b) m_ k0 () (e0 ) = some r) ∧ Hid (Below w.heap.size w wr))
    case atStart => exact ⟨0, by omega, rfl, H, HB⟩
    case round =>
      obtain ⟨k0, hkm0, rfl, H, HBwr0⟩ := hrel
      rename World => wr0
      cases gk with
      | zero =>
        obtain rfl : k0 = a.length := by omega
        have hc0 : decide (((a.length : Nat) : Int) < ((a.length : Nat) : Int)) = false := by simp
        replace H := cnt_zero H
        unfold e0 at H
        obtain rfl := ret_hid H
        go_wp2_with fail
        go_ret
        exact ⟨rfl, HBwr0.out⟩
      | succ m0 =>
        have hlt0 : k0 < a.length := by omega
        have hc0 : decide ((k0 : Int) < ((a.length : Nat) : Int)) = true := by simp; omega
        replace H := cnt_succ H
        unfold l0 at H
        go_wp2_with fail
        replace H := idx_hid H
        obtain ⟨nt_14, yt_14, et_14, lt_14, gt_14, H⟩ := H
        obtain rfl : k0 = nt_14 := by omega
        clear et_14
        obtain ⟨ab_t_14, ao_t_14, zt_14, At_14, z_t_14, ct_14_0⟩ := strs_at M0.out lt_14
        obtain rfl := Option.some.inj (gt_14.out.symm.trans z_t_14)
        subst At_14
        have ltt_14 := cell_lt ct_14_0
        replace ct_14_0 := cell_below HBwr0.out ct_14_0
        clear z_t_14
        have b0t_14 : (0 : Int) ≤ (k0 : Int) := by omega
        have b1t_14 : (k0 : Int) < ((a.length : Nat) : Int) := by omega
        have b2t_14 : ((k0 : Int)).toNat = k0 := by omega
        have Hct_14_0 := Lib.hid ct_14_0
        replace ct_14_0 := cell_regrown ct_14_0
        replace H := idx_hid H
        obtain ⟨nt_18, yt_18, et_18, lt_18, gt_18, H⟩ := H
        obtain rfl : k0 = nt_18 := by omega
        clear et_18
        obtain ⟨ab_t_18, ao_t_18, zt_18, At_18, z_t_18, ct_18_0⟩ := strs_at M1.out lt_18
        obtain rfl := Option.some.inj (gt_18.out.symm.trans z_t_18)
        subst At_18
        have ltt_18 := cell_lt ct_18_0
        replace ct_18_0 := cell_below HBwr0.out ct_18_0
        clear z_t_18
        have b0t_18 : (0 : Int) ≤ (k0 : Int) := by omega
        have b1t_18 : (k0 : Int) < ((b.length : Nat) : Int) := by omega
        have b2t_18 : ((k0 : Int)).toNat = k0 := by omega
        have Hct_18_0 := Lib.hid ct_18_0
        replace ct_18_0 := cell_regrown ct_18_0
        replace H := let_hid H
        obtain ⟨t_20, ht_20, H⟩ := H
        refine wp_region_quiet_below (by kernel_rfl) (by kernel_rfl) ?_
        repeat (go_big_quiet_step (fail))
        refine wpQuiet_nil ?_
        intro Y6 hY6
        replace hY6 := below_class hY6
        replace ct_14_0 := Hct_14_0.out
        clear Hct_14_0
        replace ct_18_0 := Hct_18_0.out
        clear Hct_18_0
        have HBY6 := Lib.hid (Below.step HBwr0.out hY6)
        replace ct_14_0 := cell_below hY6 ct_14_0
        replace ct_18_0 := cell_below hY6 ct_18_0
        clear hY6
        cases t_20 with
        | false =>
          replace H := ite_f H
          replace H := app_hid H
          go_wp2_with fail
          go_roundg m0
          case measure => omega
          case rel => exact ⟨k0 + 1, by omega, by go_num, H, HBY6⟩
        | true =>
          replace H := ite_t H
          obtain rfl := ret_hid H
          go_wp2_with fail
          go_ret
          exact ⟨rfl, HBY6.out⟩
  | true =>
    have nht_5 : ¬ (a.length = b.length) := by have := bne_iff_ne.1 ht_5; omega
    replace H := ite_t H
    obtain rfl := ret_hid H
    go_wp2_with fail
    go_ret
    exact ⟨rfl, HB.out⟩
end Go.Proofs.Ytgimcnpkngpmiaa.GlEqStringS

/- loop.example/g01062/laws.markStringS as a plain function, and the contract of the program's: where the plain one has an answer, the program has it. Conditions: slices read as lists. -/
namespace Go.Proofs.Ytgimcnpkngpmiaa.GlMarkStringS
set_option linter.unusedVariables false
set_option linter.unusedSimpArgs false
open Go.RowKit
open Go.Proofs.Ytgimcnpkngpmiaa.Rowed Go.Proofs.Ytgimcnpkngpmiaa.Turn Go.Proofs.Ytgimcnpkngpmiaa.Aid Go.Proofs.Ytgimcnpkngpmiaa.GoP Go.Proofs.Ytgimcnpkngpmiaa.GoM

def l0  (k0 : Nat) (s : (List ByteArray) × Int) (nx0 bk0 : (List ByteArray) × Int → Option (Int × (List ByteArray))) : Option (Int × (List ByteArray)) :=
  unp2 s fun a_0l0 k_1l0 =>
  Option.bind (Go.Proofs.Ytgimcnpkngpmiaa.GlMarkText.P k_1l0) fun (t_9 : ByteArray) =>
  Option.bind (idx a_0l0 (k0 : Int)) fun (yt_10 : ByteArray) =>
  letK (a_0l0.set k0 t_9) fun (l11_11 : (List ByteArray)) =>
  letK (IntKind.i64.wrap (k_1l0 + 1)) fun (t_13 : Int) =>
  appK nx0 (l11_11, t_13)

def e0  (s : (List ByteArray) × Int) : Option (Int × (List ByteArray)) :=
  unp2 s fun a_0l0 k_1l0 =>
  some (k_1l0, a_0l0)

def P (a : (List ByteArray)) (k_1 : Int) : Option (Int × (List ByteArray)) :=
  cntK (l0 ) (a.length) 0 (a, k_1) (e0 )

set_option maxRecDepth 100000 in
set_option maxHeartbeats 2000000 in
theorem C (a : (List ByteArray)) (k_1 : Int) (A0 : Option Addr) (c0 : Nat)  (b0 : Nat) (w : World) (M0 : Hid (w.ownsRow b0 9 1 (.slice A0 a.length c0) a.length (a.map Value.string))) (N0 : Hid (a.length ≤ 9223372036854775807))  {r : Int} {l_ : (List ByteArray)} (H : Hid (P a k_1 = some (r, l_))) :
    Calls Try.prog 34 #[.slice A0 a.length c0, .int .i64 k_1] w (fun e w' => e = .returned (.int .i64 r) ∧ w'.ownsRow b0 9 1 (.slice A0 a.length c0) a.length (l_.map Value.string) ∧ l_.length = a.length ∧ w.grownBy w' (Value.slice A0 a.length c0).ownBlock) := by
  have HB := Lib.hid (Aid.grown_refl w (Value.slice A0 a.length c0).ownBlock)
  unfold P at H
  have N0o := N0.out
  go_enter Try.func34, Try.ntmps34
  go_wp2_with fail
  have hb_0 : a.length ≤ 9223372036854775807 := own_max M0.out
  go_wp2_with fail
  go_loopg [5, 1] (a.length) (fun m_ v5_ v1_ wr => ∃ (k0 : Nat) (a_0l0 : (List ByteArray)) (k_1l0 : Int), k0 + m_ = a.length ∧ v5_ = .int .i64 (k0 : Int) ∧ v1_ = .int .i64 k_1l0 ∧ Hid (cntK (l0 ) m_ k0 (a_0l0, k_1l0) (e0 ) = some (r, l_)) ∧ Hid (w.grownBy wr (Value.slice A0 a.length c0).ownBlock) ∧ Hid (wr.ownsRow b0 9 1 (.slice A0 a.length c0) a.length (a_0l0.map Value.string)) ∧ Hid (a_0l0.length = a.length))
  case atStart => exact ⟨0, _, _, by omega, rfl, rfl, H, HB, M0, Lib.hid (rfl)⟩
  case round =>
    obtain ⟨k0, a_0l0, k_1l0, hkm0, rfl, rfl, H, HBwr0, Oa_0l0, hna_0l0⟩ := hrel
    rename World => wr0
    cases gk with
    | zero =>
      obtain rfl : k0 = a.length := by omega
      have hc0 : decide (((a.length : Nat) : Int) < ((a.length : Nat) : Int)) = false := by simp
      replace H := cnt_zero H
      unfold e0 at H
      replace H := unp2_hid H
      cases ret_hid H
      go_wp2_with fail
      go_ret
      exact ⟨rfl, Oa_0l0.out, hna_0l0.out, HBwr0.out⟩
    | succ m0 =>
      have hlt0 : k0 < a.length := by omega
      have hc0 : decide ((k0 : Int) < ((a.length : Nat) : Int)) = true := by simp; omega
      replace H := cnt_succ H
      unfold l0 at H
      replace H := unp2_hid H
      replace H := bind_hid H
      obtain ⟨t_9, qt_9, H⟩ := H
      go_wp2_with fail
      go_at_call 55
      refine (Go.Proofs.Ytgimcnpkngpmiaa.GlMarkText.C (k_1l0)  _    qt_9).mono ?_
      rintro e_t_9 wt_9 ⟨rfl, bt_9⟩
      have HBwt_9 := Lib.hid (grown_below HBwr0.out bt_9)
      replace Oa_0l0 := Lib.hid (own_below Oa_0l0.out bt_9)
      clear bt_9
      replace H := idx_hid H
      obtain ⟨nt_10, yt_10, et_10, lt_10, gt_10, H⟩ := H
      obtain rfl : k0 = nt_10 := by omega
      clear et_10
      have hqt_10 := hna_0l0.out
      obtain ⟨qt_10, Qt_10⟩ := own_some Oa_0l0.out (by omega)
      subst Qt_10
      obtain ⟨ab_t_10, ao_t_10, zt_10, At_10, z_t_10, ct_10_0⟩ := strs_at (own_cells Oa_0l0.out) (k := k0) (by omega)
      obtain rfl := Option.some.inj (gt_10.out.symm.trans z_t_10)
      simp only [Option.some.injEq, Addr.mk.injEq] at At_10
      obtain ⟨rfl, rfl, _⟩ := At_10
      clear z_t_10
      simp only [Nat.zero_add] at ct_10_0
      have b0t_10 : (0 : Int) ≤ (k0 : Int) := by omega
      have b1t_10 : (k0 : Int) < ((a.length : Nat) : Int) := by omega
      have b2t_10 : ((k0 : Int)).toNat = k0 := by omega
      clear hqt_10
      replace H := let_hid H
      obtain ⟨l11_11, hl11_11, H⟩ := H
      try simp only [Int.toNat_natCast] at hl11_11
      obtain ⟨wl11_11, hwl11_11⟩ : ∃ x, (wt_9).setCell ⟨qt_10, k0, none⟩ (.string t_9) = x := ⟨_, rfl⟩
      have z0l11_11 := Oa_0l0.out.frozenAt (k0)
      have Sl11_11 := Lib.hid (own_stores [(k0, .string t_9)] Oa_0l0.out)
      have nl11_11 : Hid (l11_11.length = a.length) := Lib.hid (by rw [← hl11_11, List.length_set]; exact hna_0l0.out)
      have Pl11_11 : Hid (wl11_11.ownsRow b0 9 1 (.slice (some ⟨qt_10, 0, none⟩) a.length c0) a.length (l11_11.map Value.string)) := Lib.hid (by have e_ : ([(k0, .string t_9)] : List (Nat × Value)).foldl (fun xs p => xs.set p.1 p.2) (a_0l0.map Value.string) = (l11_11.map Value.string) := (by rw [← hl11_11]; first | done | simp [List.map_set]); rw [← hwl11_11, ← e_]; exact Sl11_11.out.1)
      have Gl11_11 : Hid (wt_9.grownBy wl11_11 (Value.slice (some ⟨qt_10, 0, none⟩) a.length c0).ownBlock) := Lib.hid (by rw [← hwl11_11]; exact Sl11_11.out.2)
      have HBwl11_11 := Lib.hid (Aid.grown_tr HBwt_9.out Gl11_11.out)
      have hhl11_11 := Lib.hid hl11_11
      clear hl11_11 Sl11_11
      clear Oa_0l0 Gl11_11
      replace H := let_hid H
      obtain ⟨t_13, ht_13, H⟩ := H
      replace H := app_hid H
      go_wp2_with fail
      clear z0l11_11 ct_10_0
      go_roundg m0
      case measure => omega
      case rel => exact ⟨k0 + 1, _, _, by omega, by go_num, rfl, H, HBwl11_11, Pl11_11, Lib.hid (nl11_11.out)⟩
end Go.Proofs.Ytgimcnpkngpmiaa.GlMarkStringS

/- loop.example/g01062/laws.heldStringS as a plain function, and the contract of the program's: where the plain one has an answer, the program has it. Conditions: slices read as lists. -/
namespace Go.Proofs.Ytgimcnpkngpmiaa.GlHeldStringS
set_option linter.unusedVariables false
set_option linter.unusedSimpArgs false
open Go.RowKit
open Go.Proofs.Ytgimcnpkngpmiaa.Rowed Go.Proofs.Ytgimcnpkngpmiaa.Turn Go.Proofs.Ytgimcnpkngpmiaa.Aid Go.Proofs.Ytgimcnpkngpmiaa.GoP Go.Proofs.Ytgimcnpkngpmiaa.GoM

def l0 (a : (List ByteArray)) (k0 : Nat) (s : Int) (nx0 bk0 : Int → Option (Int)) : Option (Int) :=
  letK s fun k_1l0 =>
  Option.bind (idx a (k0 : Int)) fun (yt_8 : ByteArray) =>
  Option.bind (Go.Proofs.Ytgimcnpkngpmiaa.GlMarkText.P k_1l0) fun (t_11 : ByteArray) =>
  letK (!(yt_8.toList == t_11.toList)) fun (t_12 : Bool) =>
  iteK t_12
  (some (-1))
  (letK (IntKind.i64.wrap (k_1l0 + 1)) fun (t_15 : Int) =>
  appK nx0 (t_15))

def e0  (s : Int) : Option (Int) :=
  letK s fun k_1l0 =>
  some k_1l0

def P (a : (List ByteArray)) (k_1 : Int) : Option (Int) :=
  cntK (l0 a) (a.length) 0 (k_1) (e0 )

set_option maxRecDepth 100000 in
set_option maxHeartbeats 2000000 in
theorem C (a : (List ByteArray)) (k_1 : Int) (A0 : Option Addr) (c0 : Nat)  (w : World) (M0 : Hid (Cells w 1 A0 a.length (a.map Value.string))) (N0 : Hid (a.length ≤ 9223372036854775807))  {r : Int} (H : Hid (P a k_1 = some r)) :
    Calls Try.prog 35 #[.slice A0 a.length c0, .int .i64 k_1] w (Gives (.int .i64 r) w) := by
  have HB := Lib.hid (Below.refl w.heap.size w)
  unfold P at H
  have N0o := N0.out
  go_enter Try.func35, Try.ntmps35
  go_wp2_with fail
  go_loopg [5, 1] (a.length) (fun m_ v5_ v1_ wr => ∃ (k0 : Nat) (k_1l0 : Int), k0 + m_ = a.length ∧ v5_ = .int .i64 (k0 : Int) ∧ v1_ = .int .i64 k_1l0 ∧ Hid (cntK (l0 a) m_ k0 (k_1l0) (e0 ) = some r) ∧ Hid (Below w.heap.size w wr))
  case atStart => exact ⟨0, _, by omega, rfl, rfl, H, HB⟩
  case round =>
    obtain ⟨k0, k_1l0, hkm0, rfl, rfl, H, HBwr0⟩ := hrel
    rename World => wr0
    cases gk with
    | zero =>
      obtain rfl : k0 = a.length := by omega
      have hc0 : decide (((a.length : Nat) : Int) < ((a.length : Nat) : Int)) = false := by simp
      replace H := cnt_zero H
      unfold e0 at H
      replace H := let_hid H
      obtain ⟨_, rfl, H⟩ := H
      obtain rfl := ret_hid H
      go_wp2_with fail
      go_ret
      exact ⟨rfl, HBwr0.out⟩
    | succ m0 =>
      have hlt0 : k0 < a.length := by omega
      have hc0 : decide ((k0 : Int) < ((a.length : Nat) : Int)) = true := by simp; omega
      replace H := cnt_succ H
      unfold l0 at H
      replace H := let_hid H
      obtain ⟨_, rfl, H⟩ := H
      go_wp2_with fail
      replace H := idx_hid H
      obtain ⟨nt_8, yt_8, et_8, lt_8, gt_8, H⟩ := H
      obtain rfl : k0 = nt_8 := by omega
      clear et_8
      obtain ⟨ab_t_8, ao_t_8, zt_8, At_8, z_t_8, ct_8_0⟩ := strs_at M0.out lt_8
      obtain rfl := Option.some.inj (gt_8.out.symm.trans z_t_8)
      subst At_8
      have ltt_8 := cell_lt ct_8_0
      replace ct_8_0 := cell_below HBwr0.out ct_8_0
      clear z_t_8
      have b0t_8 : (0 : Int) ≤ (k0 : Int) := by omega
      have b1t_8 : (k0 : Int) < ((a.length : Nat) : Int) := by omega
      have b2t_8 : ((k0 : Int)).toNat = k0 := by omega
      have Hct_8_0 := Lib.hid ct_8_0
      replace ct_8_0 := cell_regrown ct_8_0
      replace H := bind_hid H
      obtain ⟨t_11, qt_11, H⟩ := H
      have nt_11 : ∀ d os, Calls Try.prog 55 #[.int .i64 k_1l0] (Go.Sort.grow (redrawn wr0 d) os) fun e w'' => e = .returned (.string t_11) ∧ ∃ p : Regrown, w'' = Go.Sort.grow (redrawn wr0 p.d) p.os := fun d os => Calls.regrown_of (Go.Proofs.Ytgimcnpkngpmiaa.GlMarkText.C (k_1l0)  _    qt_11)
      replace H := let_hid H
      obtain ⟨t_12, ht_12, H⟩ := H
      refine wp_region_quiet_below (by kernel_rfl) (by kernel_rfl) ?_
      repeat (go_big_quiet_step (first | (go_at_call 55; exact nt_11 _ _)))
      refine wpQuiet_nil ?_
      intro Y4 hY4
      replace hY4 := below_class hY4
      clear nt_11
      replace ct_8_0 := Hct_8_0.out
      clear Hct_8_0
      have HBY4 := Lib.hid (Below.step HBwr0.out hY4)
      replace ct_8_0 := cell_below hY4 ct_8_0
      clear hY4
      cases t_12 with
      | false =>
        replace H := ite_f H
        replace H := let_hid H
        obtain ⟨t_15, ht_15, H⟩ := H
        replace H := app_hid H
        go_wp2_with fail
        go_roundg m0
        case measure => omega
        case rel => exact ⟨k0 + 1, _, by omega, by go_num, rfl, H, HBY4⟩
      | true =>
        replace H := ite_t H
        obtain rfl := ret_hid H
        go_wp2_with fail
        go_ret
        exact ⟨rfl, HBY4.out⟩
end Go.Proofs.Ytgimcnpkngpmiaa.GlHeldStringS

/- loop.example/g01062/laws.FnExactTownsOn as a plain function, and the contract of the program's: where the plain one has an answer, the program has it. Conditions: slices read as lists. -/
namespace Go.Proofs.Ytgimcnpkngpmiaa.GlFnExactTownsOn
set_option linter.unusedVariables false
set_option linter.unusedSimpArgs false
open Go.RowKit
open Go.Proofs.Ytgimcnpkngpmiaa.Rowed Go.Proofs.Ytgimcnpkngpmiaa.Turn Go.Proofs.Ytgimcnpkngpmiaa.Aid Go.Proofs.Ytgimcnpkngpmiaa.GoP Go.Proofs.Ytgimcnpkngpmiaa.GoM

def P (fuel : Nat) (aList : (List Go.Proofs.Ytgimcnpkngpmiaa.PPostmark.Postmark)) (aDay : Int) : Option (Bool) :=
  Option.bind (Go.Proofs.Ytgimcnpkngpmiaa.GlSzPostmarkS.P aList 1048576) fun (t_4 : Int) =>
  letK (decide (t_4 < 0)) fun (t_7 : Bool) =>
  iteK t_7
  (some true)
  (Option.bind (Go.Proofs.Ytgimcnpkngpmiaa.GlToPostmarkS.P aList) fun (t_10 : (List Go.Proofs.Ytgimcnpkngpmiaa.PPostmark.Postmark)) =>
  bind2 (Go.Proofs.Ytgimcnpkngpmiaa.GsTownsOn.P fuel t_10 aDay) fun (t_12a : (List ByteArray)) (t_12b : Bool) =>
  Option.bind (Go.Proofs.Ytgimcnpkngpmiaa.GlToPostmarkS.P aList) fun (t_19 : (List Go.Proofs.Ytgimcnpkngpmiaa.PPostmark.Postmark)) =>
  bind2 (Go.Proofs.Ytgimcnpkngpmiaa.GiTownsOn.P t_19 aDay) fun (t_23a : (List ByteArray)) (t_23b : Bool) =>
  Option.bind (Go.Proofs.Ytgimcnpkngpmiaa.GlEqStringS.P t_23a t_12a) fun (t_31 : Bool) =>
  letK (!t_31) fun (t_32 : Bool) =>
  joinK (fun (t_37 : Bool) =>
  iteK t_37
  (some false)
  (Option.bind (Go.Proofs.Ytgimcnpkngpmiaa.GlToPostmarkS.P aList) fun (t_41 : (List Go.Proofs.Ytgimcnpkngpmiaa.PPostmark.Postmark)) =>
  Option.bind (Go.Proofs.Ytgimcnpkngpmiaa.GlEqPostmarkS.P t_19 t_41) fun (t_42 : Bool) =>
  letK (!t_42) fun (t_43 : Bool) =>
  iteK t_43
  (some false)
  (bind2 (Go.Proofs.Ytgimcnpkngpmiaa.GlMarkPostmarkS.P t_19 1) fun (t_48 : Int) (lt_48 : (List Go.Proofs.Ytgimcnpkngpmiaa.PPostmark.Postmark)) =>
  letK (decide (t_48 < 0)) fun (t_51 : Bool) =>
  joinK (fun (t_57 : Bool) =>
  joinK (fun (t_62 : Bool) =>
  iteK t_62
  (some false)
  (bind2 (Go.Proofs.Ytgimcnpkngpmiaa.GlMarkStringS.P t_23a 1) fun (t_67 : Int) (lt_67 : (List ByteArray)) =>
  Option.bind (Go.Proofs.Ytgimcnpkngpmiaa.GlHeldStringS.P lt_67 1) fun (t_72 : Int) =>
  letK (decide (t_72 < 0)) fun (t_75 : Bool) =>
  iteK t_75
  (some false)
  (letK (t_72 != t_67) fun (t_79 : Bool) =>
  iteK t_79
  (some false)
  (Option.bind (Go.Proofs.Ytgimcnpkngpmiaa.GlToPostmarkS.P aList) fun (t_82 : (List Go.Proofs.Ytgimcnpkngpmiaa.PPostmark.Postmark)) =>
  bind2 (Go.Proofs.Ytgimcnpkngpmiaa.GiTownsOn.P t_82 aDay) fun (t_84a : (List ByteArray)) (t_84b : Bool) =>
  Option.bind (Go.Proofs.Ytgimcnpkngpmiaa.GlEqStringS.P t_84a t_12a) fun (t_92 : Bool) =>
  letK (!t_92) fun (t_93 : Bool) =>
  joinK (fun (t_98 : Bool) =>
  iteK t_98
  (some false)
  (Option.bind (Go.Proofs.Ytgimcnpkngpmiaa.GlHeldStringS.P lt_67 1) fun (t_103 : Int) =>
  letK (decide (t_103 < 0)) fun (t_106 : Bool) =>
  iteK t_106
  (some false)
  (letK (t_103 != t_67) fun (t_110 : Bool) =>
  iteK t_110
  (some false)
  (some true)))) fun jt_98 => iteK t_93 (appK jt_98 true) (letK (!(t_84b == t_12b)) fun (t_97 : Bool) =>
  appK jt_98 t_97))))) fun jt_62 => iteK t_57 (appK jt_62 true) (letK (!(t_23b == t_12b)) fun (t_61 : Bool) =>
  appK jt_62 t_61)) fun jt_57 => iteK t_51 (appK jt_57 true) (Option.bind (Go.Proofs.Ytgimcnpkngpmiaa.GlEqStringS.P t_23a t_12a) fun (t_55 : Bool) =>
  letK (!t_55) fun (t_56 : Bool) =>
  appK jt_57 t_56)))) fun jt_37 => iteK t_32 (appK jt_37 true) (letK (!(t_23b == t_12b)) fun (t_36 : Bool) =>
  appK jt_37 t_36))

set_option maxRecDepth 100000 in
set_option maxHeartbeats 2000000 in
theorem C (fuel : Nat) (aList : (List Go.Proofs.Ytgimcnpkngpmiaa.PPostmark.Postmark)) (aDay : Int) (A0 : Option Addr) (c0 : Nat)  (w : World) (M0 : Hid (Cells w 6 A0 aList.length (Go.Proofs.Ytgimcnpkngpmiaa.PPostmark.flat aList))) (N0 : Hid (aList.length ≤ 9223372036854775807))  {r : Bool} (H : Hid (P fuel aList aDay = some r)) :
    Calls Try.prog 9 #[.slice A0 aList.length c0, .int .i64 aDay] w (Gives (.bool r) w) := by
  have HB := Lib.hid (Below.refl w.heap.size w)
  unfold P at H
  have N0o := N0.out
  go_enter Try.func9, Try.ntmps9
  replace H := bind_hid H
  obtain ⟨t_4, qt_4, H⟩ := H
  go_wp2_with fail
  go_at_call 16
  refine (Go.Proofs.Ytgimcnpkngpmiaa.GlSzPostmarkS.C (aList) (1048576) A0 c0 _   (Lib.hid (Cells.below M0.out HB.out)) N0 qt_4).mono ?_
  rintro e_t_4 wt_4 ⟨rfl, bt_4⟩
  have HBwt_4 := Lib.hid (Below.step HB.out bt_4)
  clear bt_4
  replace H := let_hid H
  obtain ⟨t_7, ht_7, H⟩ := H
  cases t_7 with
  | false =>
    replace H := ite_f H
    replace H := bind_hid H
    obtain ⟨t_10, qt_10, H⟩ := H
    go_wp2_with fail
    go_at_call 18
    refine (Go.Proofs.Ytgimcnpkngpmiaa.GlToPostmarkS.C (aList) A0 c0 _   (Lib.hid (Cells.below M0.out HBwt_4.out)) N0 qt_10).mono ?_
    rintro e_t_10 wt_10 ⟨At_10, ct_10, rfl, ot_10, bt_10⟩
    have Ot_10 := Lib.hid (own_lower ot_10 HBwt_4.out.size)
    clear ot_10
    have HBwt_10 := Lib.hid (Below.step HBwt_4.out bt_10)
    clear bt_10
    replace H := bind2_hid H
    obtain ⟨t_12a, t_12b, qt_12, H⟩ := H
    go_wp2_with fail
    go_at_call 31
    refine (Go.Proofs.Ytgimcnpkngpmiaa.GsTownsOn.C fuel (t_10) (aDay) At_10 ct_10 _   (Lib.hid (own_cells Ot_10.out)) (Lib.hid (own_max Ot_10.out)) qt_12).mono ?_
    rintro e_t_12 wt_12 ⟨At_12a, ct_12a, rfl, ot_12a, bt_12⟩
    have Dt_12a_t_10 := Lib.hid (apart_call ot_12a Ot_10.out)
    have Ot_12a := Lib.hid (own_lower ot_12a HBwt_10.out.size)
    clear ot_12a
    have HBwt_12 := Lib.hid (Below.step HBwt_10.out bt_12)
    replace Ot_10 := Lib.hid (own_below Ot_10.out bt_12)
    clear bt_12
    replace H := bind_hid H
    obtain ⟨t_19, qt_19, H⟩ := H
    go_wp2_with fail
    go_at_call 18
    refine (Go.Proofs.Ytgimcnpkngpmiaa.GlToPostmarkS.C (aList) A0 c0 _   (Lib.hid (Cells.below M0.out HBwt_12.out)) N0 qt_19).mono ?_
    rintro e_t_19 wt_19 ⟨At_19, ct_19, rfl, ot_19, bt_19⟩
    have Dt_19_t_10 := Lib.hid (apart_call ot_19 Ot_10.out)
    have Dt_19_t_12a := Lib.hid (apart_call ot_19 Ot_12a.out)
    have Ot_19 := Lib.hid (own_lower ot_19 HBwt_12.out.size)
    clear ot_19
    have HBwt_19 := Lib.hid (Below.step HBwt_12.out bt_19)
    replace Ot_10 := Lib.hid (own_below Ot_10.out bt_19)
    replace Ot_12a := Lib.hid (own_below Ot_12a.out bt_19)
    clear bt_19
    replace H := bind2_hid H
    obtain ⟨t_23a, t_23b, qt_23, H⟩ := H
    go_wp2_with fail
    go_at_call 32
    refine (Go.Proofs.Ytgimcnpkngpmiaa.GiTownsOn.C (t_19) (aDay) At_19 ct_19 _   (Lib.hid (own_cells Ot_19.out)) (Lib.hid (own_max Ot_19.out)) qt_23).mono ?_
    rintro e_t_23 wt_23 ⟨At_23a, ct_23a, rfl, ot_23a, bt_23⟩
    have Dt_23a_t_10 := Lib.hid (apart_call ot_23a Ot_10.out)
    have Dt_23a_t_12a := Lib.hid (apart_call ot_23a Ot_12a.out)
    have Dt_23a_t_19 := Lib.hid (apart_call ot_23a Ot_19.out)
    have Ot_23a := Lib.hid (own_lower ot_23a HBwt_19.out.size)
    clear ot_23a
    have HBwt_23 := Lib.hid (Below.step HBwt_19.out bt_23)
    replace Ot_10 := Lib.hid (own_below Ot_10.out bt_23)
    replace Ot_12a := Lib.hid (own_below Ot_12a.out bt_23)
    replace Ot_19 := Lib.hid (own_below Ot_19.out bt_23)
    clear bt_23
    replace H := bind_hid H
    obtain ⟨t_31, qt_31, H⟩ := H
    go_wp2_with fail
    go_at_call 33
    refine (Go.Proofs.Ytgimcnpkngpmiaa.GlEqStringS.C (t_23a) (t_12a) At_23a ct_23a At_12a ct_12a _   (Lib.hid (own_cells Ot_23a.out)) (Lib.hid (own_max Ot_23a.out)) (Lib.hid (own_cells Ot_12a.out)) (Lib.hid (own_max Ot_12a.out)) qt_31).mono ?_
    rintro e_t_31 wt_31 ⟨rfl, bt_31⟩
    have HBwt_31 := Lib.hid (Below.step HBwt_23.out bt_31)
    replace Ot_10 := Lib.hid (own_below Ot_10.out bt_31)
    replace Ot_12a := Lib.hid (own_below Ot_12a.out bt_31)
    replace Ot_19 := Lib.hid (own_below Ot_19.out bt_31)
    replace Ot_23a := Lib.hid (own_below Ot_23a.out bt_31)
    clear bt_31
    cases t_31 with
    | false =>
      replace H := let_hid H
      obtain ⟨t_32, ht_32, H⟩ := H
      obtain rfl : t_32 = true := ht_32.symm
      replace H := join_hid H
      replace H := ite_t H
      replace H := app_hid H
      replace H := ite_t H
      obtain rfl := ret_hid H
      go_wp2_with fail
      go_ret
      exact ⟨rfl, HBwt_31.out⟩
    | true =>
      replace H := let_hid H
      obtain ⟨t_32, ht_32, H⟩ := H
      obtain rfl : t_32 = false := ht_32.symm
      replace H := join_hid H
      replace H := ite_f H
      replace H := let_hid H
      obtain ⟨t_36, ht_36, H⟩ := H
      replace H := app_hid H
      cases t_36 with
      | false =>
        replace H := ite_f H
        replace H := bind_hid H
        obtain ⟨t_41, qt_41, H⟩ := H
        go_wp2_with fail
        go_at_call 18
        refine (Go.Proofs.Ytgimcnpkngpmiaa.GlToPostmarkS.C (aList) A0 c0 _   (Lib.hid (Cells.below M0.out HBwt_31.out)) N0 qt_41).mono ?_
        rintro e_t_41 wt_41 ⟨At_41, ct_41, rfl, ot_41, bt_41⟩
        have Dt_41_t_10 := Lib.hid (apart_call ot_41 Ot_10.out)
        have Dt_41_t_12a := Lib.hid (apart_call ot_41 Ot_12a.out)
        have Dt_41_t_19 := Lib.hid (apart_call ot_41 Ot_19.out)
        have Dt_41_t_23a := Lib.hid (apart_call ot_41 Ot_23a.out)
        have Ot_41 := Lib.hid (own_lower ot_41 HBwt_31.out.size)
        clear ot_41
        have HBwt_41 := Lib.hid (Below.step HBwt_31.out bt_41)
        replace Ot_10 := Lib.hid (own_below Ot_10.out bt_41)
        replace Ot_12a := Lib.hid (own_below Ot_12a.out bt_41)
        replace Ot_19 := Lib.hid (own_below Ot_19.out bt_41)
        replace Ot_23a := Lib.hid (own_below Ot_23a.out bt_41)
        clear bt_41
        replace H := bind_hid H
        obtain ⟨t_42, qt_42, H⟩ := H
        go_wp2_with fail
        go_at_call 20
        refine (Go.Proofs.Ytgimcnpkngpmiaa.GlEqPostmarkS.C (t_19) (t_41) At_19 ct_19 At_41 ct_41 _   (Lib.hid (own_cells Ot_19.out)) (Lib.hid (own_max Ot_19.out)) (Lib.hid (own_cells Ot_41.out)) (Lib.hid (own_max Ot_41.out)) qt_42).mono ?_
        rintro e_t_42 wt_42 ⟨rfl, bt_42⟩
        have HBwt_42 := Lib.hid (Below.step HBwt_41.out bt_42)
        replace Ot_10 := Lib.hid (own_below Ot_10.out bt_42)
        replace Ot_12a := Lib.hid (own_below Ot_12a.out bt_42)
        replace Ot_19 := Lib.hid (own_below Ot_19.out bt_42)
        replace Ot_23a := Lib.hid (own_below Ot_23a.out bt_42)
        replace Ot_41 := Lib.hid (own_below Ot_41.out bt_42)
        clear bt_42
        cases t_42 with
        | false =>
          replace H := let_hid H
          obtain ⟨t_43, ht_43, H⟩ := H
          obtain rfl : t_43 = true := ht_43.symm
          replace H := ite_t H
          obtain rfl := ret_hid H
          go_wp2_with fail
          go_ret
          exact ⟨rfl, HBwt_42.out⟩
        | true =>
          replace H := let_hid H
          obtain ⟨t_43, ht_43, H⟩ := H
          obtain rfl : t_43 = false := ht_43.symm
          replace H := ite_f H
          replace H := bind2_hid H
          obtain ⟨t_48, lt_48, qt_48, H⟩ := H
          go_wp2_with fail
          go_at_call 25
          refine (Go.Proofs.Ytgimcnpkngpmiaa.GlMarkPostmarkS.C (t_19) (1) At_19 ct_19 w.heap.size _   Ot_19 (Lib.hid (own_max Ot_19.out))   qt_48).mono ?_
          rintro e_t_48 wt_48 ⟨rfl, ot_48, nt_48, gt_48⟩
          have Pt_48 := Lib.hid ot_48
          have Gt_48 := Lib.hid gt_48
          replace nt_48 := Lib.hid nt_48
          clear ot_48 gt_48
          have HBwt_48 := Lib.hid (HBwt_42.out.grown Gt_48.out HBwt_42.out.size (fun q hq => (Ot_19.out.lt q hq).1))
          replace Ot_10 := Lib.hid (own_other Ot_10.out Gt_48.out Dt_19_t_10.out)
          replace Ot_12a := Lib.hid (own_other Ot_12a.out Gt_48.out Dt_19_t_12a.out)
          replace Ot_23a := Lib.hid (own_other Ot_23a.out Gt_48.out (Apart.symm Dt_23a_t_19.out))
          replace Ot_41 := Lib.hid (own_other Ot_41.out Gt_48.out (Apart.symm Dt_41_t_19.out))
          clear Ot_19 Gt_48
          replace H := let_hid H
          obtain ⟨t_51, ht_51, H⟩ := H
          replace H := join_hid H
          cases t_51 with
          | false =>
            replace H := ite_f H
            replace H := bind_hid H
            obtain ⟨t_55, qt_55, H⟩ := H
            go_wp2_with fail
            go_at_call 33
            refine (Go.Proofs.Ytgimcnpkngpmiaa.GlEqStringS.C (t_23a) (t_12a) At_23a ct_23a At_12a ct_12a _   (Lib.hid (own_cells Ot_23a.out)) (Lib.hid (own_max Ot_23a.out)) (Lib.hid (own_cells Ot_12a.out)) (Lib.hid (own_max Ot_12a.out)) qt_55).mono ?_
            rintro e_t_55 wt_55 ⟨rfl, bt_55⟩
            have HBwt_55 := Lib.hid (Below.step HBwt_48.out bt_55)
            replace Ot_10 := Lib.hid (own_below Ot_10.out bt_55)
            replace Ot_12a := Lib.hid (own_below Ot_12a.out bt_55)
            replace Pt_48 := Lib.hid (own_below Pt_48.out bt_55)
            replace Ot_23a := Lib.hid (own_below Ot_23a.out bt_55)
            replace Ot_41 := Lib.hid (own_below Ot_41.out bt_55)
            clear bt_55
            cases t_55 with
            | false =>
              replace H := let_hid H
              obtain ⟨t_56, ht_56, H⟩ := H
              obtain rfl : t_56 = true := ht_56.symm
              replace H := app_hid H
              replace H := join_hid H
              replace H := ite_t H
              replace H := app_hid H
              replace H := ite_t H
              obtain rfl := ret_hid H
              go_wp2_with fail
              go_ret
              exact ⟨rfl, HBwt_55.out⟩
            | true =>
              replace H := let_hid H
              obtain ⟨t_56, ht_56, H⟩ := H
              obtain rfl : t_56 = false := ht_56.symm
              replace H := app_hid H
              replace H := join_hid H
              replace H := ite_f H
              replace H := let_hid H
              obtain ⟨t_61, ht_61, H⟩ := H
              obtain rfl := ht_36.symm.trans ht_61
              replace H := app_hid H
              replace H := ite_f H
              replace H := bind2_hid H
              obtain ⟨t_67, lt_67, qt_67, H⟩ := H
              go_wp2_with fail
              go_at_call 34
              refine (Go.Proofs.Ytgimcnpkngpmiaa.GlMarkStringS.C (t_23a) (1) At_23a ct_23a w.heap.size _   Ot_23a (Lib.hid (own_max Ot_23a.out))   qt_67).mono ?_
              rintro e_t_67 wt_67 ⟨rfl, ot_67, nt_67, gt_67⟩
              have Pt_67 := Lib.hid ot_67
              have Gt_67 := Lib.hid gt_67
              replace nt_67 := Lib.hid nt_67
              clear ot_67 gt_67
              have HBwt_67 := Lib.hid (HBwt_55.out.grown Gt_67.out HBwt_55.out.size (fun q hq => (Ot_23a.out.lt q hq).1))
              replace Ot_10 := Lib.hid (own_other Ot_10.out Gt_67.out Dt_23a_t_10.out)
              replace Ot_12a := Lib.hid (own_other Ot_12a.out Gt_67.out Dt_23a_t_12a.out)
              replace Pt_48 := Lib.hid (own_other Pt_48.out Gt_67.out Dt_23a_t_19.out)
              replace Ot_41 := Lib.hid (own_other Ot_41.out Gt_67.out (Apart.symm Dt_41_t_23a.out))
              clear Ot_23a Gt_67
              replace H := bind_hid H
              obtain ⟨t_72, qt_72, H⟩ := H
              go_wp2_with fail
              have hc_ := nt_67.out
              have hv_ : (Value.slice At_23a t_23a.length ct_23a : Value) = Value.slice At_23a lt_67.length ct_23a := by rw [hc_]
              try rw [hv_]
              replace Pt_67 := Lib.hid (own_len hc_ Pt_67.out)
              clear hc_ hv_
              go_wp2_with fail
              go_at_call 35
              refine (Go.Proofs.Ytgimcnpkngpmiaa.GlHeldStringS.C (lt_67) (1) At_23a ct_23a _   (Lib.hid (own_cells Pt_67.out)) (Lib.hid (own_max Pt_67.out)) qt_72).mono ?_
              rintro e_t_72 wt_72 ⟨rfl, bt_72⟩
              have HBwt_72 := Lib.hid (Below.step HBwt_67.out bt_72)
              replace Ot_10 := Lib.hid (own_below Ot_10.out bt_72)
              replace Ot_12a := Lib.hid (own_below Ot_12a.out bt_72)
              replace Pt_48 := Lib.hid (own_below Pt_48.out bt_72)
              replace Pt_67 := Lib.hid (own_below Pt_67.out bt_72)
              replace Ot_41 := Lib.hid (own_below Ot_41.out bt_72)
              clear bt_72
              replace H := let_hid H
              obtain ⟨t_75, ht_75, H⟩ := H
              cases t_75 with
              | false =>
                replace H := ite_f H
                replace H := let_hid H
                obtain ⟨t_79, ht_79, H⟩ := H
                cases t_79 with
                | false =>
                  replace H := ite_f H
                  replace H := bind_hid H
                  obtain ⟨t_82, qt_82, H⟩ := H
                  go_wp2_with fail
                  go_at_call 18
                  refine (Go.Proofs.Ytgimcnpkngpmiaa.GlToPostmarkS.C (aList) A0 c0 _   (Lib.hid (Cells.below M0.out HBwt_72.out)) N0 qt_82).mono ?_
                  rintro e_t_82 wt_82 ⟨At_82, ct_82, rfl, ot_82, bt_82⟩
                  have Dt_82_t_10 := Lib.hid (apart_call ot_82 Ot_10.out)
                  have Dt_82_t_12a := Lib.hid (apart_call ot_82 Ot_12a.out)
                  have Dt_82_t_19 := Lib.hid (apart_call ot_82 Pt_48.out)
                  have Dt_82_t_23a := Lib.hid (apart_call ot_82 Pt_67.out)
                  have Dt_82_t_41 := Lib.hid (apart_call ot_82 Ot_41.out)
                  have Ot_82 := Lib.hid (own_lower ot_82 HBwt_72.out.size)
                  clear ot_82
                  have HBwt_82 := Lib.hid (Below.step HBwt_72.out bt_82)
                  replace Ot_10 := Lib.hid (own_below Ot_10.out bt_82)
                  replace Ot_12a := Lib.hid (own_below Ot_12a.out bt_82)
                  replace Pt_48 := Lib.hid (own_below Pt_48.out bt_82)
                  replace Pt_67 := Lib.hid (own_below Pt_67.out bt_82)
                  replace Ot_41 := Lib.hid (own_below Ot_41.out bt_82)
                  clear bt_82
                  replace H := bind2_hid H
                  obtain ⟨t_84a, t_84b, qt_84, H⟩ := H
                  go_wp2_with fail
                  go_at_call 32
                  refine (Go.Proofs.Ytgimcnpkngpmiaa.GiTownsOn.C (t_82) (aDay) At_82 ct_82 _   (Lib.hid (own_cells Ot_82.out)) (Lib.hid (own_max Ot_82.out)) qt_84).mono ?_
                  rintro e_t_84 wt_84 ⟨At_84a, ct_84a, rfl, ot_84a, bt_84⟩
                  have Dt_84a_t_10 := Lib.hid (apart_call ot_84a Ot_10.out)
                  have Dt_84a_t_12a := Lib.hid (apart_call ot_84a Ot_12a.out)
                  have Dt_84a_t_19 := Lib.hid (apart_call ot_84a Pt_48.out)
                  have Dt_84a_t_23a := Lib.hid (apart_call ot_84a Pt_67.out)
                  have Dt_84a_t_41 := Lib.hid (apart_call ot_84a Ot_41.out)
                  have Dt_84a_t_82 := Lib.hid (apart_call ot_84a Ot_82.out)
                  have Ot_84a := Lib.hid (own_lower ot_84a HBwt_82.out.size)
                  clear ot_84a
                  have HBwt_84 := Lib.hid (Below.step HBwt_82.out bt_84)
                  replace Ot_10 := Lib.hid (own_below Ot_10.out bt_84)
                  replace Ot_12a := Lib.hid (own_below Ot_12a.out bt_84)
                  replace Pt_48 := Lib.hid (own_below Pt_48.out bt_84)
                  replace Pt_67 := Lib.hid (own_below Pt_67.out bt_84)
                  replace Ot_41 := Lib.hid (own_below Ot_41.out bt_84)
                  replace Ot_82 := Lib.hid (own_below Ot_82.out bt_84)
                  clear bt_84
                  replace H := bind_hid H
                  obtain ⟨t_92, qt_92, H⟩ := H
                  go_wp2_with fail
                  go_at_call 33
                  refine (Go.Proofs.Ytgimcnpkngpmiaa.GlEqStringS.C (t_84a) (t_12a) At_84a ct_84a At_12a ct_12a _   (Lib.hid (own_cells Ot_84a.out)) (Lib.hid (own_max Ot_84a.out)) (Lib.hid (own_cells Ot_12a.out)) (Lib.hid (own_max Ot_12a.out)) qt_92).mono ?_
                  rintro e_t_92 wt_92 ⟨rfl, bt_92⟩
                  have HBwt_92 := Lib.hid (Below.step HBwt_84.out bt_92)
                  replace Ot_10 := Lib.hid (own_below Ot_10.out bt_92)
                  replace Ot_12a := Lib.hid (own_below Ot_12a.out bt_92)
                  replace Pt_48 := Lib.hid (own_below Pt_48.out bt_92)
                  replace Pt_67 := Lib.hid (own_below Pt_67.out bt_92)
                  replace Ot_41 := Lib.hid (own_below Ot_41.out bt_92)
                  replace Ot_82 := Lib.hid (own_below Ot_82.out bt_92)
                  replace Ot_84a := Lib.hid (own_below Ot_84a.out bt_92)
                  clear bt_92
                  cases t_92 with
                  | false =>
                    replace H := let_hid H
                    obtain ⟨t_93, ht_93, H⟩ := H
                    obtain rfl : t_93 = true := ht_93.symm
                    replace H := join_hid H
                    replace H := ite_t H
                    replace H := app_hid H
                    replace H := ite_t H
                    obtain rfl := ret_hid H
                    go_wp2_with fail
                    go_ret
                    exact ⟨rfl, HBwt_92.out⟩
                  | true =>
                    replace H := let_hid H
                    obtain ⟨t_93, ht_93, H⟩ := H
                    obtain rfl : t_93 = false := ht_93.symm
                    replace H := join_hid H
                    replace H := ite_f H
                    replace H := let_hid H
                    obtain ⟨t_97, ht_97, H⟩ := H
                    replace H := app_hid H
                    cases t_97 with
                    | false =>
                      replace H := ite_f H
                      replace H := bind_hid H
                      obtain ⟨t_103, qt_103, H⟩ := H
                      go_wp2_with fail
                      go_at_call 35
                      refine (Go.Proofs.Ytgimcnpkngpmiaa.GlHeldStringS.C (lt_67) (1) At_23a ct_23a _   (Lib.hid (own_cells Pt_67.out)) (Lib.hid (own_max Pt_67.out)) qt_103).mono ?_
                      rintro e_t_103 wt_103 ⟨rfl, bt_103⟩
                      have HBwt_103 := Lib.hid (Below.step HBwt_92.out bt_103)
                      replace Ot_10 := Lib.hid (own_below Ot_10.out bt_103)
                      replace Ot_12a := Lib.hid (own_below Ot_12a.out bt_103)
                      replace Pt_48 := Lib.hid (own_below Pt_48.out bt_103)
                      replace Pt_67 := Lib.hid (own_below Pt_67.out bt_103)
                      replace Ot_41 := Lib.hid (own_below Ot_41.out bt_103)
                      replace Ot_82 := Lib.hid (own_below Ot_82.out bt_103)
                      replace Ot_84a := Lib.hid (own_below Ot_84a.out bt_103)
                      clear bt_103
                      replace H := let_hid H
                      obtain ⟨t_106, ht_106, H⟩ := H
                      cases t_106 with
                      | false =>
                        replace H := ite_f H
                        replace H := let_hid H
                        obtain ⟨t_110, ht_110, H⟩ := H
                        cases t_110 with
                        | false =>
                          replace H := ite_f H
                          obtain rfl := ret_hid H
                          go_wp2_with fail
                          go_ret
                          exact ⟨rfl, HBwt_103.out⟩
                        | true =>
                          replace H := ite_t H
                          obtain rfl := ret_hid H
                          go_wp2_with fail
                          go_ret
                          exact ⟨rfl, HBwt_103.out⟩
                      | true =>
                        replace H := ite_t H
                        obtain rfl := ret_hid H
                        go_wp2_with fail
                        go_ret
                        exact ⟨rfl, HBwt_103.out⟩
                    | true =>
                      replace H := ite_t H
                      obtain rfl := ret_hid H
                      go_wp2_with fail
                      go_ret
                      exact ⟨rfl, HBwt_92.out⟩
                | true =>
                  replace H := ite_t H
                  obtain rfl := ret_hid H
                  go_wp2_with fail
                  go_ret
                  exact ⟨rfl, HBwt_72.out⟩
              | true =>
                replace H := ite_t H
                obtain rfl := ret_hid H
                go_wp2_with fail
                go_ret
                exact ⟨rfl, HBwt_72.out⟩
          | true =>
            replace H := ite_t H
            replace H := app_hid H
            replace H := join_hid H
            replace H := ite_t H
            replace H := app_hid H
            replace H := ite_t H
            obtain rfl := ret_hid H
            go_wp2_with fail
            go_ret
            exact ⟨rfl, HBwt_48.out⟩
      | true =>
        replace H := ite_t H
        obtain rfl := ret_hid H
        go_wp2_with fail
        go_ret
        exact ⟨rfl, HBwt_31.out⟩
  | true =>
    replace H := ite_t H
    obtain rfl := ret_hid H
    go_wp2_with fail
    go_ret
    exact ⟨rfl, HBwt_4.out⟩
end Go.Proofs.Ytgimcnpkngpmiaa.GlFnExactTownsOn

/- The laws' helpers on rows of texts, and on rows of those, as plain functions: equal, marked, held. (QHT) No condition but those of each theorem. -/
namespace Go.Proofs.Ytgimcnpkngpmiaa.QHT
set_option linter.unusedVariables false
set_option linter.unusedSimpArgs false
open Go.RowKit
open Go.Proofs.Ytgimcnpkngpmiaa.GoP Go.Proofs.Ytgimcnpkngpmiaa.PlainStamp Go.Proofs.Ytgimcnpkngpmiaa.QBase Go.Proofs.Ytgimcnpkngpmiaa.QLoop

theorem eqT (l : List ByteArray) : GlEqStringS.P l l = some true := by
  simp only [GlEqStringS.P, letK, iteK_if]
  rw [if_neg (by simp)]
  refine cnt_is true (fun _ _ => True) ?_ (fun s _ => rfl) () trivial
  intro k s nx hk _ hn
  obtain ⟨x, hx, hi⟩ := at_lt (l := l) (k := k) hk
  simp only [GlEqStringS.l0, hi, Option.bind_some, letK, appK, iteK_if]
  rw [if_neg (by simp)]
  exact hn () trivial
/-- the marks from c on -/
def mtL (c : Int) (n : Nat) : List ByteArray := (List.range n).map fun i : Nat => Go.Proofs.Ytgimcnpkngpmiaa.MarkStr.mt (c + (i : Int)).toNat
theorem mtL_at {c : Int} {n k : Nat} (h : k < n) : (mtL c n)[k]? = some (Go.Proofs.Ytgimcnpkngpmiaa.MarkStr.mt (c + (k : Int)).toNat) := by unfold mtL; simp [h]
theorem mtL_len (c : Int) (n : Nat) : (mtL c n).length = n := by simp [mtL]
theorem mark_is {k : Int} (h : 1 ≤ k ∧ k ≤ 1000000000) : GlMarkText.P k = some (Go.Proofs.Ytgimcnpkngpmiaa.MarkStr.mt k.toNat) := by unfold GlMarkText.P; rw [if_pos h]
theorem markT (l : List ByteArray) (c : Int) (h0 : 1 ≤ c) (h1 : c + l.length ≤ 1000000000) : GlMarkStringS.P l c = some (c + (l.length : Int), mtL c l.length) := by
  simp only [GlMarkStringS.P]
  refine cnt_is _ (fun k (s : List ByteArray × Int) => s.1.length = l.length ∧ s.2 = c + (k : Int) ∧ ∀ i : Nat, i < k → s.1[i]? = some (Go.Proofs.Ytgimcnpkngpmiaa.MarkStr.mt (c + (i : Int)).toNat)) ?_ ?_ (l, c) ⟨rfl, by simp, fun i hi => by omega⟩
  · rintro k ⟨a, b⟩ nx hk ⟨h1, h2, h3⟩ hn
    dsimp only at h1 h2 h3
    obtain ⟨x, hx, hi⟩ := at_lt (l := a) (k := k) (by omega)
    simp only [GlMarkStringS.l0, unp2]
    rw [mark_is (by omega)]
    simp only [hi, Option.bind_some, letK, appK]
    rw [wrap_in (by omega) (by omega)]
    refine hn _ ⟨by simpa using h1, by dsimp only; omega, fun i hi2 => ?_⟩
    dsimp only
    by_cases he : i = k
    · subst he; rw [List.getElem?_set_self (by omega), h2]
    · rw [List.getElem?_set_ne (by omega)]; exact h3 i (by omega)
  · rintro ⟨a, b⟩ ⟨h1, h2, h3⟩
    dsimp only at h1 h2 h3
    have : a = mtL c l.length := by
      apply List.ext_getElem?
      intro i
      by_cases hi : i < l.length
      · rw [h3 i hi, mtL_at hi]
      · rw [List.getElem?_eq_none (by omega), List.getElem?_eq_none (by rw [mtL_len]; omega)]
    simp only [GlMarkStringS.e0, unp2]
    rw [this, h2]
theorem heldT (c : Int) (n : Nat) (h0 : 1 ≤ c) (h1 : c + n ≤ 1000000000) : GlHeldStringS.P (mtL c n) c = some (c + (n : Int)) := by
  simp only [GlHeldStringS.P]
  refine cnt_is _ (fun k s => s = c + (k : Int)) ?_ ?_ c (by simp)
  · intro k s nx hk hI hn
    rw [mtL_len] at hk
    have hi : idx (mtL c n) (k : Int) = some (Go.Proofs.Ytgimcnpkngpmiaa.MarkStr.mt (c + (k : Int)).toNat) := by rw [idx_nat, mtL_at hk]
    simp only [GlHeldStringS.l0, hi, Option.bind_some, letK, appK, iteK_if]
    rw [mark_is (by omega)]
    simp only [Option.bind_some]
    rw [if_neg (by simp [hI]), wrap_in (by omega) (by omega)]
    exact hn _ (by omega)
  · intro s hI
    simp only [GlHeldStringS.e0, letK]
    rw [hI, mtL_len]
end Go.Proofs.Ytgimcnpkngpmiaa.QHT

/- Chapter 11: postmarks: the plain functions of the program and of the reference agree, and the laws answer true. (QL11Towns) No condition but those of each theorem. -/
namespace Go.Proofs.Ytgimcnpkngpmiaa.QL11Towns
set_option linter.unusedVariables false
set_option linter.unusedSimpArgs false
open Go.RowKit
open Go.Proofs.Ytgimcnpkngpmiaa.GoP Go.Proofs.Ytgimcnpkngpmiaa.PlainStamp Go.Proofs.Ytgimcnpkngpmiaa.QBase Go.Proofs.Ytgimcnpkngpmiaa.Q11Towns Go.Proofs.Ytgimcnpkngpmiaa.QLoop Go.Proofs.Ytgimcnpkngpmiaa.PPostmark Go.Proofs.Ytgimcnpkngpmiaa.QHPostmarkE Go.Proofs.Ytgimcnpkngpmiaa.QHPostmark Go.Proofs.Ytgimcnpkngpmiaa.QHT

theorem law_towns (fuel : Nat) (hfu : 100 ≤ fuel) (l : List Postmark) (day : Int) (hf : ∀ s ∈ l, s.fits) (hl : l.length ≤ 9223372036854775807) : GlFnExactTownsOn.P fuel l day = some true := by
  obtain ⟨v, hv, hn⟩ := szS l hf hl
  simp only [GlFnExactTownsOn.P, hv, Option.bind_some, letK, iteK_if]
  by_cases hb : v < 0
  · rw [if_pos (by simp; omega)]
  · rw [if_neg (by simp; omega)]
    have hle := hn (by omega)
    obtain ⟨⟨a, b⟩, hr⟩ : ∃ x, x = townsRes l day := ⟨_, rfl⟩
    have hlen := townsRes_len l day
    rw [← hr] at hlen
    dsimp only at hlen
    obtain ⟨v2, l2, hm, hv2⟩ := markS l hle
    have hv3 : ¬ v2 < 0 := by omega
    have hv4 : ¬ 1 + (a.length : Int) < 0 := by omega
    simp [toS l hle, towns_spec fuel hfu l hf hl, towns_impl l hf, ← hr, bind2, joinK, appK, iteK_if, eqS, eqT, hm, hv3, markT a 1 (by omega) (by omega), heldT 1 a.length (by omega) (by omega), hv4]
end Go.Proofs.Ytgimcnpkngpmiaa.QL11Towns

