/- The texts on which the proof of FnExactFirstWithout stands, one behind the other (2 of 3). No condition of their own. -/
import Derived.Test.YtkinlkmmelkdnaaChecked
import Derived.Test.YtkinlkmmelkdnaaFnExactFirstWithoutP1
import Derived.WalkKit
import Derived.WalkSpells
import Derived.WalkLawsBesides
import Derived.BigQuiet
import Derived.OwnWalk
import Derived.Deep.LoopGhost
import Derived.Deep.QuietTactic
import Derived.IntWalk
import Derived.Lib.QuietBelow
import Derived.Lib.SliceRun
import Derived.Lib.RowBridge
import Derived.Shelf.Small.Bits
import Derived.Shelf.Small.Wraps
import Derived.Shelf.Strconv.Itoa0
import Derived.Shelf.Sort.Plain
import Derived.Ground.Names2Prog
import Derived.Shelf.Slices.CompactI
import Derived.Shelf.Slices.SearchI
import Derived.Shelf.Slices.Cells
import Derived.Shelf.Slices.In.SortNone
import Derived.Test.YtkinlkmmelkdnaaProg
/- loop.example/g01062/impl.AreRates as a plain function, and the contract of the program's: where the plain one has an answer, the program has it. Conditions: slices read as lists. -/
namespace Go.Proofs.Ytkinlkmmelkdnaa.GiAreRates
set_option linter.unusedVariables false
set_option linter.unusedSimpArgs false
open Go.RowKit
open Go.Proofs.Ytkinlkmmelkdnaa.Rowed Go.Proofs.Ytkinlkmmelkdnaa.Turn Go.Proofs.Ytkinlkmmelkdnaa.Aid Go.Proofs.Ytkinlkmmelkdnaa.GoP Go.Proofs.Ytkinlkmmelkdnaa.GoM

def l0 (list : (List Go.Proofs.Ytkinlkmmelkdnaa.PRate.Rate)) (k0 : Nat) (s : Unit) (nx0 bk0 : Unit → Option (Bool)) : Option (Bool) :=
  
  Option.bind (idx list (k0 : Int)) fun (yt_10 : Go.Proofs.Ytkinlkmmelkdnaa.PRate.Rate) =>
  unRate yt_10 fun (t_10_zone : Int) (t_10_grams : Int) (t_10_from_ : Int) (t_10_until_ : Int) (t_10_cents : Int) =>
  Option.bind (Go.Proofs.Ytkinlkmmelkdnaa.GiIsRate.P (Go.Proofs.Ytkinlkmmelkdnaa.PRate.Rate.mk t_10_zone t_10_grams t_10_from_ t_10_until_ t_10_cents)) fun (t_16 : Bool) =>
  letK (!t_16) fun (t_17 : Bool) =>
  joinK (fun (t_31 : Bool) =>
  iteK t_31
  (some false)
  (appK nx0 ())) fun jt_31 => iteK t_17 (appK jt_31 true) (letK (decide (0 < (k0 : Int))) fun (t_20 : Bool) =>
  joinK (fun (t_30 : Bool) =>
  appK jt_31 t_30) fun jt_30 => iteK t_20 (letK (IntKind.i64.wrap ((k0 : Int) - 1)) fun (t_25 : Int) =>
  Option.bind (idx list t_25) fun (yt_26 : Go.Proofs.Ytkinlkmmelkdnaa.PRate.Rate) =>
  unRate yt_26 fun (t_26_zone : Int) (t_26_grams : Int) (t_26_from_ : Int) (t_26_until_ : Int) (t_26_cents : Int) =>
  Option.bind (Go.Proofs.Ytkinlkmmelkdnaa.GiCanFollow.P (Go.Proofs.Ytkinlkmmelkdnaa.PRate.Rate.mk t_10_zone t_10_grams t_10_from_ t_10_until_ t_10_cents) (Go.Proofs.Ytkinlkmmelkdnaa.PRate.Rate.mk t_26_zone t_26_grams t_26_from_ t_26_until_ t_26_cents)) fun (t_28 : Bool) =>
  letK (!t_28) fun (t_29 : Bool) =>
  appK jt_30 t_29) (appK jt_30 false))

def e0  (s : Unit) : Option (Bool) :=
  
  some true

def P (list : (List Go.Proofs.Ytkinlkmmelkdnaa.PRate.Rate)) : Option (Bool) :=
  letK (decide (16 < (list.length : Int))) fun (t_3 : Bool) =>
  iteK t_3
  (some false)
  (cntK (l0 list) (list.length) 0 () (e0 ))

set_option maxRecDepth 100000 in
set_option maxHeartbeats 2000000 in
theorem C (list : (List Go.Proofs.Ytkinlkmmelkdnaa.PRate.Rate)) (A0 : Option Addr) (c0 : Nat)  (w : World) (M0 : Hid (Cells w 5 A0 list.length (Go.Proofs.Ytkinlkmmelkdnaa.PRate.flat list))) (N0 : Hid (list.length ≤ 9223372036854775807))  {r : Bool} (H : Hid (P list = some r)) :
    Calls Try.prog 20 #[.slice A0 list.length c0] w (Gives (.bool r) w) := by
  have HB := Lib.hid (Below.refl w.heap.size w)
  unfold P at H
  have N0o := N0.out
  go_enter Try.func20, Try.ntmps20
  replace H := let_hid H
  obtain ⟨t_3, ht_3, H⟩ := H
  cases t_3 with
  | false =>
    have nht_3 : ¬ (16 < list.length) := by have := of_decide_eq_false ht_3; omega
    replace H := ite_f H
    go_wp2_with fail
    go_loopg [10] (list.length) (fun m_ v10_ wr => ∃ (k0 : Nat) , k0 + m_ = list.length ∧ v10_ = .int .i64 (k0 : Int) ∧ Hid (cntK (l0 list) m_ k0 () (e0 ) = some r) ∧ Hid (Below w.heap.size w wr))
    case atStart => exact ⟨0, by omega, rfl, H, HB⟩
    case round =>
      obtain ⟨k0, hkm0, rfl, H, HBwr0⟩ := hrel
      rename World => wr0
      cases gk with
      | zero =>
        obtain rfl : k0 = list.length := by omega
        have hc0 : decide (((list.length : Nat) : Int) < ((list.length : Nat) : Int)) = false := by simp
        replace H := cnt_zero H
        unfold e0 at H
        obtain rfl := ret_hid H
        go_wp2_with fail
        go_ret
        exact ⟨rfl, HBwr0.out⟩
      | succ m0 =>
        have hlt0 : k0 < list.length := by omega
        have hc0 : decide ((k0 : Int) < ((list.length : Nat) : Int)) = true := by simp; omega
        replace H := cnt_succ H
        unfold l0 at H
        replace H := idx_hid H
        obtain ⟨nt_10, yt_10, et_10, lt_10, gt_10, H⟩ := H
        obtain rfl : k0 = nt_10 := by omega
        clear et_10
        obtain ⟨t_10_zone, t_10_grams, t_10_from_, t_10_until_, t_10_cents⟩ := yt_10
        replace H := unRate_hid H
        obtain ⟨ab_t_10, ao_t_10, zt_10, At_10, z_t_10, ct_10_0, ct_10_1, ct_10_2, ct_10_3, ct_10_4⟩ := Go.Proofs.Ytkinlkmmelkdnaa.ORate.at_ M0.out lt_10
        obtain rfl := Option.some.inj (gt_10.out.symm.trans z_t_10)
        subst At_10
        have ltt_10 := cell_lt ct_10_0
        replace ct_10_0 := cell_below HBwr0.out ct_10_0
        replace ct_10_1 := cell_below HBwr0.out ct_10_1
        replace ct_10_2 := cell_below HBwr0.out ct_10_2
        replace ct_10_3 := cell_below HBwr0.out ct_10_3
        replace ct_10_4 := cell_below HBwr0.out ct_10_4
        clear z_t_10
        have b0t_10 : (0 : Int) ≤ (k0 : Int) := by omega
        have b1t_10 : (k0 : Int) < ((list.length : Nat) : Int) := by omega
        have b2t_10 : ((k0 : Int)).toNat = k0 := by omega
        obtain ⟨w_r_12, hw_r_12⟩ : ∃ x, wr0.alloc (.cells #[.int .i64 t_10_zone, .int .i64 t_10_grams, .int .i64 t_10_from_, .int .i64 t_10_until_, .int .i64 t_10_cents] 25) = x := ⟨_, rfl⟩
        have bw_r_12 : Below wr0.heap.size wr0 w_r_12 := by rw [← hw_r_12]; exact (Below.refl _ _).alloc (Nat.le_refl _) _
        have HBw_r_12 := Lib.hid (Below.step HBwr0.out bw_r_12)
        have ct_10_0__145 := cell_below bw_r_12 ct_10_0
        have ct_10_1__146 := cell_below bw_r_12 ct_10_1
        have ct_10_2__147 := cell_below bw_r_12 ct_10_2
        have ct_10_3__148 := cell_below bw_r_12 ct_10_3
        have ct_10_4__149 := cell_below bw_r_12 ct_10_4
        clear bw_r_12
        have kr_12_0 : w_r_12.cell? ⟨wr0.heap.size, 0, none⟩ = some (.int .i64 t_10_zone) := by rw [← hw_r_12]; exact box_new _ _ _ 0 _ rfl
        have kr_12_1 : w_r_12.cell? ⟨wr0.heap.size, 1, none⟩ = some (.int .i64 t_10_grams) := by rw [← hw_r_12]; exact box_new _ _ _ 1 _ rfl
        have kr_12_2 : w_r_12.cell? ⟨wr0.heap.size, 2, none⟩ = some (.int .i64 t_10_from_) := by rw [← hw_r_12]; exact box_new _ _ _ 2 _ rfl
        have kr_12_3 : w_r_12.cell? ⟨wr0.heap.size, 3, none⟩ = some (.int .i64 t_10_until_) := by rw [← hw_r_12]; exact box_new _ _ _ 3 _ rfl
        have kr_12_4 : w_r_12.cell? ⟨wr0.heap.size, 4, none⟩ = some (.int .i64 t_10_cents) := by rw [← hw_r_12]; exact box_new _ _ _ 4 _ rfl
        go_wp2_with fail
        clear ct_10_0 ct_10_1 ct_10_2 ct_10_3 ct_10_4
        have Hct_10_0__145 := Lib.hid ct_10_0__145
        replace ct_10_0__145 := cell_regrown ct_10_0__145
        have Hct_10_1__146 := Lib.hid ct_10_1__146
        replace ct_10_1__146 := cell_regrown ct_10_1__146
        have Hct_10_2__147 := Lib.hid ct_10_2__147
        replace ct_10_2__147 := cell_regrown ct_10_2__147
        have Hct_10_3__148 := Lib.hid ct_10_3__148
        replace ct_10_3__148 := cell_regrown ct_10_3__148
        have Hct_10_4__149 := Lib.hid ct_10_4__149
        replace ct_10_4__149 := cell_regrown ct_10_4__149
        have Hkr_12_0 := Lib.hid kr_12_0
        replace kr_12_0 := cell_regrown kr_12_0
        have Hkr_12_1 := Lib.hid kr_12_1
        replace kr_12_1 := cell_regrown kr_12_1
        have Hkr_12_2 := Lib.hid kr_12_2
        replace kr_12_2 := cell_regrown kr_12_2
        have Hkr_12_3 := Lib.hid kr_12_3
        replace kr_12_3 := cell_regrown kr_12_3
        have Hkr_12_4 := Lib.hid kr_12_4
        replace kr_12_4 := cell_regrown kr_12_4
        replace H := bind_hid H
        obtain ⟨t_16, qt_16, H⟩ := H
        have nt_16 : ∀ d os, Calls Try.prog 16 #[.agg #[.int .i64 t_10_zone, .int .i64 t_10_grams, .int .i64 t_10_from_, .int .i64 t_10_until_, .int .i64 t_10_cents]] (Go.Sort.grow (redrawn w_r_12 d) os) fun e w'' => e = .returned (.bool t_16) ∧ ∃ p : Regrown, w'' = Go.Sort.grow (redrawn w_r_12 p.d) p.os := fun d os => Calls.regrown_of (Go.Proofs.Ytkinlkmmelkdnaa.GiIsRate.C ((Go.Proofs.Ytkinlkmmelkdnaa.PRate.Rate.mk t_10_zone t_10_grams t_10_from_ t_10_until_ t_10_cents))  _    qt_16)
        cases t_16 with
        | false =>
          replace H := let_hid H
          obtain ⟨t_17, ht_17, H⟩ := H
          obtain rfl : t_17 = true := ht_17.symm
          replace H := join_hid H
          replace H := ite_t H
          replace H := app_hid H
          refine wp_region_quiet_below (by kernel_rfl) (by kernel_rfl) ?_
          repeat (go_big_quiet_step (first | (go_at_call 16; exact nt_16 _ _)))
          refine wpQuiet_nil ?_
          intro Y6 hY6
          replace hY6 := below_class hY6
          clear nt_16
          replace ct_10_0__145 := Hct_10_0__145.out
          clear Hct_10_0__145
          replace ct_10_1__146 := Hct_10_1__146.out
          clear Hct_10_1__146
          replace ct_10_2__147 := Hct_10_2__147.out
          clear Hct_10_2__147
          replace ct_10_3__148 := Hct_10_3__148.out
          clear Hct_10_3__148
          replace ct_10_4__149 := Hct_10_4__149.out
          clear Hct_10_4__149
          replace kr_12_0 := Hkr_12_0.out
          clear Hkr_12_0
          replace kr_12_1 := Hkr_12_1.out
          clear Hkr_12_1
          replace kr_12_2 := Hkr_12_2.out
          clear Hkr_12_2
          replace kr_12_3 := Hkr_12_3.out
          clear Hkr_12_3
          replace kr_12_4 := Hkr_12_4.out
          clear Hkr_12_4
          have HBY6 := Lib.hid (Below.step HBw_r_12.out hY6)
          replace ct_10_0__145 := cell_below hY6 ct_10_0__145
          replace ct_10_1__146 := cell_below hY6 ct_10_1__146
          replace ct_10_2__147 := cell_below hY6 ct_10_2__147
          replace ct_10_3__148 := cell_below hY6 ct_10_3__148
          replace ct_10_4__149 := cell_below hY6 ct_10_4__149
          replace kr_12_0 := cell_below hY6 kr_12_0
          replace kr_12_1 := cell_below hY6 kr_12_1
          replace kr_12_2 := cell_below hY6 kr_12_2
          replace kr_12_3 := cell_below hY6 kr_12_3
          replace kr_12_4 := cell_below hY6 kr_12_4
          clear hY6
          replace H := ite_t H
          obtain rfl := ret_hid H
          go_wp2_with fail
          go_ret
          exact ⟨rfl, HBY6.out⟩
        | true =>
          replace H := let_hid H
          obtain ⟨t_17, ht_17, H⟩ := H
          obtain rfl : t_17 = false := ht_17.symm
          replace H := join_hid H
          replace H := ite_f H
          replace H := let_hid H
          obtain ⟨t_20, ht_20, H⟩ := H
          replace H := join_hid H
          cases t_20 with
          | false =>
            have nht_20 : ¬ (0 < k0) := by have := of_decide_eq_false ht_20; omega
            replace H := ite_f H
            replace H := app_hid H
            replace H := app_hid H
            refine wp_region_quiet_below (by kernel_rfl) (by kernel_rfl) ?_
            repeat (go_big_quiet_step (first | (go_at_call 16; exact nt_16 _ _)))
            refine wpQuiet_nil ?_
            intro Y6 hY6
            replace hY6 := below_class hY6
            clear nt_16
            replace ct_10_0__145 := Hct_10_0__145.out
            clear Hct_10_0__145
            replace ct_10_1__146 := Hct_10_1__146.out
            clear Hct_10_1__146
            replace ct_10_2__147 := Hct_10_2__147.out
            clear Hct_10_2__147
            replace ct_10_3__148 := Hct_10_3__148.out
            clear Hct_10_3__148
            replace ct_10_4__149 := Hct_10_4__149.out
            clear Hct_10_4__149
            replace kr_12_0 := Hkr_12_0.out
            clear Hkr_12_0
            replace kr_12_1 := Hkr_12_1.out
            clear Hkr_12_1
            replace kr_12_2 := Hkr_12_2.out
            clear Hkr_12_2
            replace kr_12_3 := Hkr_12_3.out
            clear Hkr_12_3
            replace kr_12_4 := Hkr_12_4.out
            clear Hkr_12_4
            have HBY6 := Lib.hid (Below.step HBw_r_12.out hY6)
            replace ct_10_0__145 := cell_below hY6 ct_10_0__145
            replace ct_10_1__146 := cell_below hY6 ct_10_1__146
            replace ct_10_2__147 := cell_below hY6 ct_10_2__147
            replace ct_10_3__148 := cell_below hY6 ct_10_3__148
            replace ct_10_4__149 := cell_below hY6 ct_10_4__149
            replace kr_12_0 := cell_below hY6 kr_12_0
            replace kr_12_1 := cell_below hY6 kr_12_1
            replace kr_12_2 := cell_below hY6 kr_12_2
            replace kr_12_3 := cell_below hY6 kr_12_3
            replace kr_12_4 := cell_below hY6 kr_12_4
            clear hY6
            replace H := ite_f H
            replace H := app_hid H
            go_wp2_with fail
            go_roundg m0
            case measure => omega
            case rel => exact ⟨k0 + 1, by omega, by go_num, H, HBY6⟩
          | true =>
            have nht_20 : 0 < k0 := by have := of_decide_eq_true ht_20; omega
            replace H := ite_t H
            replace H := let_hid H
            obtain ⟨t_25, ht_25, H⟩ := H
            replace H := idx_hid H
            obtain ⟨nt_26, yt_26, et_26, lt_26, gt_26, H⟩ := H
            subst et_26
            obtain ⟨t_26_zone, t_26_grams, t_26_from_, t_26_until_, t_26_cents⟩ := yt_26
            replace H := unRate_hid H
            obtain ⟨ab_t_26, ao_t_26, zt_26, At_26, z_t_26, ct_26_0, ct_26_1, ct_26_2, ct_26_3, ct_26_4⟩ := Go.Proofs.Ytkinlkmmelkdnaa.ORate.at_ M0.out lt_26
            obtain rfl := Option.some.inj (gt_26.out.symm.trans z_t_26)
            simp only [Option.some.injEq, Addr.mk.injEq] at At_26
            obtain ⟨rfl, rfl, _⟩ := At_26
            have ltt_26 := cell_lt ct_26_0
            replace ct_26_0 := cell_below HBw_r_12.out ct_26_0
            replace ct_26_1 := cell_below HBw_r_12.out ct_26_1
            replace ct_26_2 := cell_below HBw_r_12.out ct_26_2
            replace ct_26_3 := cell_below HBw_r_12.out ct_26_3
            replace ct_26_4 := cell_below HBw_r_12.out ct_26_4
            clear z_t_26
            have b0t_26 : (0 : Int) ≤ (nt_26 : Int) := by omega
            have b1t_26 : (nt_26 : Int) < ((list.length : Nat) : Int) := by omega
            have b2t_26 : ((nt_26 : Int)).toNat = nt_26 := by omega
            have Hct_26_0 := Lib.hid ct_26_0
            replace ct_26_0 := cell_regrown ct_26_0
            have Hct_26_1 := Lib.hid ct_26_1
            replace ct_26_1 := cell_regrown ct_26_1
            have Hct_26_2 := Lib.hid ct_26_2
            replace ct_26_2 := cell_regrown ct_26_2
            have Hct_26_3 := Lib.hid ct_26_3
            replace ct_26_3 := cell_regrown ct_26_3
            have Hct_26_4 := Lib.hid ct_26_4
            replace ct_26_4 := cell_regrown ct_26_4
            replace H := bind_hid H
            obtain ⟨t_28, qt_28, H⟩ := H
            have nt_28 : ∀ d os, Calls Try.prog 76 #[.agg #[.int .i64 t_10_zone, .int .i64 t_10_grams, .int .i64 t_10_from_, .int .i64 t_10_until_, .int .i64 t_10_cents], .agg #[.int .i64 t_26_zone, .int .i64 t_26_grams, .int .i64 t_26_from_, .int .i64 t_26_until_, .int .i64 t_26_cents]] (Go.Sort.grow (redrawn w_r_12 d) os) fun e w'' => e = .returned (.bool t_28) ∧ ∃ p : Regrown, w'' = Go.Sort.grow (redrawn w_r_12 p.d) p.os := fun d os => Calls.regrown_of (Go.Proofs.Ytkinlkmmelkdnaa.GiCanFollow.C ((Go.Proofs.Ytkinlkmmelkdnaa.PRate.Rate.mk t_10_zone t_10_grams t_10_from_ t_10_until_ t_10_cents)) ((Go.Proofs.Ytkinlkmmelkdnaa.PRate.Rate.mk t_26_zone t_26_grams t_26_from_ t_26_until_ t_26_cents))  _    qt_28)
            cases t_28 with
            | false =>
              replace H := let_hid H
              obtain ⟨t_29, ht_29, H⟩ := H
              obtain rfl : t_29 = true := ht_29.symm
              replace H := app_hid H
              replace H := app_hid H
              refine wp_region_quiet_below (by kernel_rfl) (by kernel_rfl) ?_
              repeat (go_big_quiet_step (first | (go_at_call 16; exact nt_16 _ _) | (go_at_call 76; exact nt_28 _ _)))
              refine wpQuiet_nil ?_
              intro Y6 hY6
              replace hY6 := below_class hY6
              clear nt_16 nt_28
              replace ct_10_0__145 := Hct_10_0__145.out
              clear Hct_10_0__145
              replace ct_10_1__146 := Hct_10_1__146.out
              clear Hct_10_1__146
              replace ct_10_2__147 := Hct_10_2__147.out
              clear Hct_10_2__147
              replace ct_10_3__148 := Hct_10_3__148.out
              clear Hct_10_3__148
              replace ct_10_4__149 := Hct_10_4__149.out
              clear Hct_10_4__149
              replace kr_12_0 := Hkr_12_0.out
              clear Hkr_12_0
              replace kr_12_1 := Hkr_12_1.out
              clear Hkr_12_1
              replace kr_12_2 := Hkr_12_2.out
              clear Hkr_12_2
              replace kr_12_3 := Hkr_12_3.out
              clear Hkr_12_3
              replace kr_12_4 := Hkr_12_4.out
              clear Hkr_12_4
              replace ct_26_0 := Hct_26_0.out
              clear Hct_26_0
              replace ct_26_1 := Hct_26_1.out
              clear Hct_26_1
              replace ct_26_2 := Hct_26_2.out
              clear Hct_26_2
              replace ct_26_3 := Hct_26_3.out
              clear Hct_26_3
              replace ct_26_4 := Hct_26_4.out
              clear Hct_26_4
              have HBY6 := Lib.hid (Below.step HBw_r_12.out hY6)
              replace ct_10_0__145 := cell_below hY6 ct_10_0__145
              replace ct_10_1__146 := cell_below hY6 ct_10_1__146
              replace ct_10_2__147 := cell_below hY6 ct_10_2__147
              replace ct_10_3__148 := cell_below hY6 ct_10_3__148
              replace ct_10_4__149 := cell_below hY6 ct_10_4__149
              replace kr_12_0 := cell_below hY6 kr_12_0
              replace kr_12_1 := cell_below hY6 kr_12_1
              replace kr_12_2 := cell_below hY6 kr_12_2
              replace kr_12_3 := cell_below hY6 kr_12_3
              replace kr_12_4 := cell_below hY6 kr_12_4
              replace ct_26_0 := cell_below hY6 ct_26_0
              replace ct_26_1 := cell_below hY6 ct_26_1
              replace ct_26_2 := cell_below hY6 ct_26_2
              replace ct_26_3 := cell_below hY6 ct_26_3
              replace ct_26_4 := cell_below hY6 ct_26_4
              clear hY6
              replace H := ite_t H
              obtain rfl := ret_hid H
              go_wp2_with fail
              go_ret
              exact ⟨rfl, HBY6.out⟩
            | true =>
              replace H := let_hid H
              obtain ⟨t_29, ht_29, H⟩ := H
              obtain rfl : t_29 = false := ht_29.symm
              replace H := app_hid H
              replace H := app_hid H
              refine wp_region_quiet_below (by kernel_rfl) (by kernel_rfl) ?_
              repeat (go_big_quiet_step (first | (go_at_call 16; exact nt_16 _ _) | (go_at_call 76; exact nt_28 _ _)))
              refine wpQuiet_nil ?_
              intro Y6 hY6
              replace hY6 := below_class hY6
              clear nt_16 nt_28
              replace ct_10_0__145 := Hct_10_0__145.out
              clear Hct_10_0__145
              replace ct_10_1__146 := Hct_10_1__146.out
              clear Hct_10_1__146
              replace ct_10_2__147 := Hct_10_2__147.out
              clear Hct_10_2__147
              replace ct_10_3__148 := Hct_10_3__148.out
              clear Hct_10_3__148
              replace ct_10_4__149 := Hct_10_4__149.out
              clear Hct_10_4__149
              replace kr_12_0 := Hkr_12_0.out
              clear Hkr_12_0
              replace kr_12_1 := Hkr_12_1.out
              clear Hkr_12_1
              replace kr_12_2 := Hkr_12_2.out
              clear Hkr_12_2
              replace kr_12_3 := Hkr_12_3.out
              clear Hkr_12_3
              replace kr_12_4 := Hkr_12_4.out
              clear Hkr_12_4
              replace ct_26_0 := Hct_26_0.out
              clear Hct_26_0
              replace ct_26_1 := Hct_26_1.out
              clear Hct_26_1
              replace ct_26_2 := Hct_26_2.out
              clear Hct_26_2
              replace ct_26_3 := Hct_26_3.out
              clear Hct_26_3
              replace ct_26_4 := Hct_26_4.out
              clear Hct_26_4
              have HBY6 := Lib.hid (Below.step HBw_r_12.out hY6)
              replace ct_10_0__145 := cell_below hY6 ct_10_0__145
              replace ct_10_1__146 := cell_below hY6 ct_10_1__146
              replace ct_10_2__147 := cell_below hY6 ct_10_2__147
              replace ct_10_3__148 := cell_below hY6 ct_10_3__148
              replace ct_10_4__149 := cell_below hY6 ct_10_4__149
              replace kr_12_0 := cell_below hY6 kr_12_0
              replace kr_12_1 := cell_below hY6 kr_12_1
              replace kr_12_2 := cell_below hY6 kr_12_2
              replace kr_12_3 := cell_below hY6 kr_12_3
              replace kr_12_4 := cell_below hY6 kr_12_4
              replace ct_26_0 := cell_below hY6 ct_26_0
              replace ct_26_1 := cell_below hY6 ct_26_1
              replace ct_26_2 := cell_below hY6 ct_26_2
              replace ct_26_3 := cell_below hY6 ct_26_3
              replace ct_26_4 := cell_below hY6 ct_26_4
              clear hY6
              replace H := ite_f H
              replace H := app_hid H
              go_wp2_with fail
              go_roundg m0
              case measure => omega
              case rel => exact ⟨k0 + 1, by omega, by go_num, H, HBY6⟩
  | true =>
    have nht_3 : 16 < list.length := by have := of_decide_eq_true ht_3; omega
    replace H := ite_t H
    obtain rfl := ret_hid H
    go_wp2_with fail
    go_ret
    exact ⟨rfl, HB.out⟩
end Go.Proofs.Ytkinlkmmelkdnaa.GiAreRates

/- loop.example/g01062/impl.canSend as a plain function, and the contract of the program's: where the plain one has an answer, the program has it. Conditions: slices read as lists. -/
namespace Go.Proofs.Ytkinlkmmelkdnaa.GiCanSend
set_option linter.unusedVariables false
set_option linter.unusedSimpArgs false
open Go.RowKit
open Go.Proofs.Ytkinlkmmelkdnaa.Rowed Go.Proofs.Ytkinlkmmelkdnaa.Turn Go.Proofs.Ytkinlkmmelkdnaa.Aid Go.Proofs.Ytkinlkmmelkdnaa.GoP Go.Proofs.Ytkinlkmmelkdnaa.GoM

def P (list : (List Go.Proofs.Ytkinlkmmelkdnaa.PRate.Rate)) (zone : Int) (grams : Int) : Option (Bool) :=
  Option.bind (Go.Proofs.Ytkinlkmmelkdnaa.GiAreRates.P list) fun (t_2 : Bool) =>
  joinK (fun (t_6 : Bool) =>
  joinK (fun (t_10 : Bool) =>
  some t_10) fun jt_10 => iteK t_6 (Option.bind (Go.Proofs.Ytkinlkmmelkdnaa.GiIsWeight.P grams) fun (t_9 : Bool) =>
  appK jt_10 t_9) (appK jt_10 false)) fun jt_6 => iteK t_2 (Option.bind (Go.Proofs.Ytkinlkmmelkdnaa.GiIsZone.P zone) fun (t_5 : Bool) =>
  appK jt_6 t_5) (appK jt_6 false)

set_option maxRecDepth 100000 in
set_option maxHeartbeats 2000000 in
theorem C (list : (List Go.Proofs.Ytkinlkmmelkdnaa.PRate.Rate)) (zone : Int) (grams : Int) (A0 : Option Addr) (c0 : Nat)  (w : World) (M0 : Hid (Cells w 5 A0 list.length (Go.Proofs.Ytkinlkmmelkdnaa.PRate.flat list))) (N0 : Hid (list.length ≤ 9223372036854775807))  {r : Bool} (H : Hid (P list zone grams = some r)) :
    Calls Try.prog 82 #[.slice A0 list.length c0, .int .i64 zone, .int .i64 grams] w (Gives (.bool r) w) := by
  have HB := Lib.hid (Below.refl w.heap.size w)
  unfold P at H
  have N0o := N0.out
  go_enter Try.func82, Try.ntmps82
  replace H := bind_hid H
  obtain ⟨t_2, qt_2, H⟩ := H
  go_wp2_with fail
  go_at_call 20
  refine (Go.Proofs.Ytkinlkmmelkdnaa.GiAreRates.C (list) A0 c0 _   (Lib.hid (Cells.below M0.out HB.out)) N0 qt_2).mono ?_
  rintro e_t_2 wt_2 ⟨rfl, bt_2⟩
  have HBwt_2 := Lib.hid (Below.step HB.out bt_2)
  clear bt_2
  replace H := join_hid H
  cases t_2 with
  | false =>
    replace H := ite_f H
    replace H := app_hid H
    replace H := join_hid H
    replace H := ite_f H
    replace H := app_hid H
    obtain rfl := ret_hid H
    go_wp2_with fail
    go_ret
    exact ⟨rfl, HBwt_2.out⟩
  | true =>
    replace H := ite_t H
    replace H := bind_hid H
    obtain ⟨t_5, qt_5, H⟩ := H
    go_wp2_with fail
    go_at_call 71
    refine (Go.Proofs.Ytkinlkmmelkdnaa.GiIsZone.C (zone)  _    qt_5).mono ?_
    rintro e_t_5 wt_5 ⟨rfl, bt_5⟩
    have HBwt_5 := Lib.hid (Below.step HBwt_2.out bt_5)
    clear bt_5
    replace H := app_hid H
    replace H := join_hid H
    cases t_5 with
    | false =>
      replace H := ite_f H
      replace H := app_hid H
      obtain rfl := ret_hid H
      go_wp2_with fail
      go_ret
      exact ⟨rfl, HBwt_5.out⟩
    | true =>
      replace H := ite_t H
      replace H := bind_hid H
      obtain ⟨t_9, qt_9, H⟩ := H
      go_wp2_with fail
      go_at_call 72
      refine (Go.Proofs.Ytkinlkmmelkdnaa.GiIsWeight.C (grams)  _    qt_9).mono ?_
      rintro e_t_9 wt_9 ⟨rfl, bt_9⟩
      have HBwt_9 := Lib.hid (Below.step HBwt_5.out bt_9)
      clear bt_9
      replace H := app_hid H
      obtain rfl := ret_hid H
      go_wp2_with fail
      go_ret
      exact ⟨rfl, HBwt_9.out⟩
end Go.Proofs.Ytkinlkmmelkdnaa.GiCanSend

/- More words for the contracts of plain functions: a test against nil, a row that is handed over, a row whose end is cleared. No condition. -/
namespace Go.Proofs.Ytkinlkmmelkdnaa.GoK
set_option linter.unusedVariables false
open Go.RowKit
open Go.Proofs.Ytkinlkmmelkdnaa.Rowed Go.Proofs.Ytkinlkmmelkdnaa.Turn Go.Proofs.Ytkinlkmmelkdnaa.GoM

/-- a test of a row against nil: only an empty row can be nil, and then both ways have one answer -/
def nilK {α ρ : Type} (l : List α) (f : Bool → Option ρ) : Option ρ := f false
theorem nilK_hid {α ρ : Type} {l : List α} {f : Bool → Option ρ} {r : ρ} (H : Hid (nilK l f = some r)) (b : Bool) (hb : b = true → l = []) (he : l = [] → f true = f false) : Hid (f b = some r) := by
  have h : f false = some r := H
  cases b with
  | false => exact h
  | true => exact (he (hb rfl)).trans h
theorem nil_cells {w : World} {K n : Nat} {A : Option Addr} {α : Type} {l : List α} {cs : List Value} (h : Cells w K A n cs) (hl : cs = [] → l = []) : A.isNone = true → l = [] := by
  intro hA
  refine hl ?_
  cases hc : cs with
  | nil => rfl
  | cons y ys => obtain ⟨a, e, _⟩ := h.2 (by rw [hc]; simp); rw [e] at hA; simp at hA
/-- where a row lies that a function hands on: where another one lay, or behind all that was there -/
def From (w : World) (A A' : Option Addr) : Prop := ∀ a', A' = some a' → (∃ a, A = some a ∧ a.block = a'.block) ∨ w.heap.size ≤ a'.block
theorem from_self {w : World} {A : Option Addr} : From w A A := fun a h => .inl ⟨a, h, rfl⟩
theorem from_new {w : World} {A : Option Addr} {g : Nat} (h : w.heap.size ≤ g) : From w A (some ⟨g, 0, none⟩) := by
  intro a' e
  injection e with e
  subst e
  exact .inr h
theorem apart_from {w : World} {A A' B : Option Addr} (hD : Apart A B) (hB : ∀ a, B = some a → a.block < w.heap.size) (h : From w A A') : Apart A' B := by
  intro a a' ha ha' e
  have hl := hB a' ha'
  rcases h a ha with ⟨a2, h2, e2⟩ | h2
  · exact hD a2 a' h2 ha' (e2.trans e)
  · omega
theorem own_emptyB {b : Nat} {wc : World} {T K : Nat} (h : b ≤ wc.heap.size) : (wc.alloc (.cells #[] T)).ownsRow b T K (.slice (some ⟨wc.heap.size, 0, none⟩) 0 0) 0 [] :=
  ⟨by simp, .inr ⟨wc.heap.size, 0, #[], rfl, h, heap_alloc_new wc _, Nat.le_refl _, by unfold maxLen; omega, by simp, by simp⟩⟩
theorem own_setCells {b T K n c g : Nat} : ∀ (vs : List Value) (o : Nat) {w : World} {xs : List Value}, w.ownsRow b T K (.slice (some ⟨g, 0, none⟩) n c) n xs → o + vs.length ≤ xs.length →
    (w.setCells g o vs).ownsRow b T K (.slice (some ⟨g, 0, none⟩) n c) n (xs.take o ++ vs ++ xs.drop (o + vs.length)) ∧ w.grownBy (w.setCells g o vs) (some g) := by
  intro vs
  induction vs with
  | nil => intro o w xs h _; exact ⟨by simpa [World.setCells] using h, Aid.grown_refl _ _⟩
  | cons v vs ih =>
    intro o w xs h hl
    simp only [List.length_cons] at hl
    have h1 := h.stored o v
    have h2 := ih (o + 1) h1.1 (by rw [List.length_set]; omega)
    refine ⟨?_, Aid.grown_tr h1.2 h2.2⟩
    have e : (xs.set o v).take (o + 1) ++ vs ++ (xs.set o v).drop (o + 1 + vs.length) = xs.take o ++ (v :: vs) ++ xs.drop (o + (v :: vs).length) := by
      have ho : o < xs.length := by omega
      rw [List.drop_set_of_lt (by omega), List.take_add_one, List.getElem?_set_self ho, List.take_set_of_le (Nat.le_refl _)]
      simp [Nat.add_comm, Nat.add_left_comm]
    rw [← e]
    exact h2.1
/-- clear(s[lo:]) of a row of its own -/
theorem own_clear {P : Program} {t e : TypeId} {i : TypeInfo} {k : IntKind} {n c b : Nat} {A : Option Addr} {lo : Int} {w : World} {xs ys : List Value} {z : Value}
    (ht : P.underlying t = some (.slice (P.elem t))) (he : P.elem t = e) (hi : P.info? e = some i) (hs : i.size = 1) (hv : i.zero = some z) (hz : z.cells = #[z]) (h1 : z.oneCell' = true)
    (h : w.ownsRow b e 1 (.slice A n c) n xs) (hl : 0 ≤ lo ∧ lo ≤ (n : Int)) (hd : xs.take lo.toNat ++ List.replicate (n - lo.toNat) z = ys) :
    ∃ A' m c' w', (∀ W, (Instr.slice t (.slice A n c) (some (.int k lo)) none none).run P W = .ok (.slice A' m c') W) ∧ (∀ ty, (Builtin.clear_ #[t] ty #[.slice A' m c']).run P w = .ok (.tuple #[]) w') ∧
      w'.ownsRow b e 1 (.slice A n c) n ys ∧ w.grownBy w' (Value.slice A n c).ownBlock := by
  have hR := own_room h
  have hxs : xs.length = n := by have := h.1; omega
  have hsz : ∀ W, (sizeOf (P.elem t)).run P W = .ok 1 W := by intro W; subst he; simp [sizeOf, typeInfo, hi, hs]
  have hrun : ∀ W, (Instr.slice t (.slice A n c) (some (.int k lo)) none none).run P W = .ok (.slice (if c = lo.toNat then A else A.map (·.add (lo.toNat * 1))) (n - lo.toNat) (c - lo.toNat)) W := by
    intro W
    rw [run_slice_l (P := P) W t A n c ht k lo hl.1 hl.2, hsz W]
    rfl
  by_cases hm : n - lo.toNat = 0
  · refine ⟨_, _, _, w, hrun, ?_, ?_, Aid.grown_refl _ _⟩
    · intro ty
      rw [hm]
      generalize (if c = lo.toNat then A else A.map (·.add (lo.toNat * 1))) = A'
      cases A' <;> simp [Builtin.clear_, run_underlying ht]
    · rw [← hd, hm, List.replicate_zero, List.append_nil, List.take_of_length_le (by omega)]
      exact h
  · obtain ⟨g, rfl⟩ := own_some h (by omega)
    have hne : ¬ c = lo.toNat := by have := hR.1; omega
    have hcl := own_cells h
    have hget : ∀ j, j < n → (w.cell? ⟨g, j, none⟩).isSome = true := by
      intro j hj
      obtain ⟨ad, e0, hc⟩ := hcl.2 (by omega)
      obtain rfl := Option.some.inj e0
      have := hc j xs[j] (List.getElem?_eq_getElem (by omega))
      rw [add_flat, Nat.zero_add] at this
      rw [this]; rfl
    have hadd : (if c = lo.toNat then (some ⟨g, 0, none⟩ : Option Addr) else (some ⟨g, 0, none⟩ : Option Addr).map (·.add (lo.toNat * 1))) = some ⟨g, lo.toNat, none⟩ := by
      rw [if_neg hne, Option.map_some, add_flat, Nat.zero_add, Nat.mul_one]
    rw [hadd] at hrun
    have h2 := own_setCells (List.replicate (n - lo.toNat) z) lo.toNat h (by rw [List.length_replicate]; omega)
    refine ⟨_, _, _, _, hrun, fun ty => ?_, ?_, h2.2⟩
    · refine Lib.run_clear_slice w t e ty z (he ▸ ht) (fun w => by simp [zeroValue, typeInfo, hi, hv]) hz h1 g lo.toNat (n - lo.toNat) (c - lo.toNat) (by omega) (fun j hj => hget _ (by omega)) (fun j hj => h.frozenAt _)
    · have e2 : xs.take lo.toNat ++ List.replicate (n - lo.toNat) z ++ xs.drop (lo.toNat + (List.replicate (n - lo.toNat) z).length) = ys := by
        rw [List.length_replicate, List.drop_of_length_le (by omega), List.append_nil, hd]
      rw [← e2]
      exact h2.1
theorem apart_xio {n bb oo : Nat} {B : Option Addr} (h : 0 < n → Apart (some ⟨bb, oo, none⟩) B) (h0 : 0 < n) : Apart B (some ⟨bb, 0, none⟩) := by
  intro a a' ha ha' e
  injection ha' with ha'
  subst ha'
  exact h h0 ⟨bb, oo, none⟩ a rfl ha e.symm
/-- a row that came in, where another one was written -/
theorem cells_wr {w w' : World} {K n q c' : Nat} {A B : Option Addr} {xs : List Value} (h : Cells w K A n xs) (hg : w.grownBy w' (Value.slice B q c').ownBlock) (hX : 0 < n → Apart A B) : Cells w' K A n xs := by
  refine ⟨h.1, fun h0 => ?_⟩
  obtain ⟨a, e, hc⟩ := h.2 h0
  have hn : 0 < n := by
    rcases Nat.eq_zero_or_pos n with h1 | h1
    · have := h.1; rw [h1, Nat.zero_mul] at this; omega
    · exact h1
  refine ⟨a, e, fun j u hu => ?_⟩
  have hj := hc j u hu
  have hb : (a.add j).block = a.block := by unfold Addr.add; split <;> rfl
  rw [World.cell?_of_block (hg.block (a.add j).block (cell_lt hj) ?_)]
  · exact hj
  · cases hB : B with
    | none => simp [Value.ownBlock]
    | some y =>
      simp only [Value.ownBlock, ne_eq, Option.some.injEq]
      intro e2
      exact hX hn a y e hB (by rw [← hb]; exact e2)
/-- what came in lies apart from a row of one's own -/
theorem far_base {w w1 : World} {K n T K' m c n' : Nat} {A B : Option Addr} {cs xs : List Value} (hK : 0 < K) (h : Cells w K A n cs) (hO : w1.ownsRow w.heap.size T K' (.slice B m c) n' xs) : 0 < n → Apart A B := by
  intro hn a a' ha ha' e
  have h0 : 0 < cs.length := by rw [h.1]; exact Nat.mul_pos hn hK
  obtain ⟨a2, e2, hc⟩ := h.2 h0
  obtain rfl : a = a2 := by rw [ha] at e2; exact Option.some.inj e2
  have hl := cell_lt (hc 0 _ (List.getElem?_eq_getElem h0))
  have hb : (a.add 0).block = a.block := by unfold Addr.add; simp
  have := (own_lt hO a' ha').1
  rw [hb] at hl
  omega
end Go.Proofs.Ytkinlkmmelkdnaa.GoK

/- A row of numbers of one's own that the library's sort or Compact has gone over. No condition. -/
namespace Go.Proofs.Ytkinlkmmelkdnaa.GoS
set_option linter.unusedVariables false
open Go.RowKit
open Go.Proofs.Ytkinlkmmelkdnaa.Turn Go.Proofs.Ytkinlkmmelkdnaa.GoM
theorem own_holds {b T n c g : Nat} {w : World} {l : List Int} (hn : l.length = n) (h : w.ownsRow b T 1 (.slice (some ⟨g, 0, none⟩) n c) n (Go.Proofs.Ytkinlkmmelkdnaa.HelpInt.iv l)) : Sort.Holds (Value.int .i64) w g 0 l.toArray := by
  intro j hj
  have hj' : j < l.length := by simpa using hj
  refine ⟨?_, h.frozenAt _⟩
  obtain ⟨ad, ea, hc⟩ := (own_cells h).2 (by unfold Go.Proofs.Ytkinlkmmelkdnaa.HelpInt.iv; rw [List.length_map]; omega)
  obtain rfl := Option.some.inj ea
  have hu : (Go.Proofs.Ytkinlkmmelkdnaa.HelpInt.iv l)[j]? = some (.int .i64 l[j]) := by unfold Go.Proofs.Ytkinlkmmelkdnaa.HelpInt.iv; simp [hj']
  have := hc j _ hu
  rw [add_flat] at this
  simp only [Nat.zero_add] at this ⊢
  rw [this]
  simp [hj']
theorem own_put {b T n c g : Nat} {w : World} {l m : List Int} (hn : l.length = n) (hm : m.length = n) (h : w.ownsRow b T 1 (.slice (some ⟨g, 0, none⟩) n c) n (Go.Proofs.Ytkinlkmmelkdnaa.HelpInt.iv l)) (q : Nat) :
    (Sort.putRow (Value.int .i64) (Sort.ahead w q) g 0 m.toArray).ownsRow b T 1 (.slice (some ⟨g, 0, none⟩) n c) n (Go.Proofs.Ytkinlkmmelkdnaa.HelpInt.iv m) ∧ w.grownBy (Sort.putRow (Value.int .i64) (Sort.ahead w q) g 0 m.toArray) (some g) := by
  have hH := own_holds hn h
  rw [Lib.putRow_eq_setCells (Value.int .i64) w g 0 l.toArray m q hH (by simp; omega)]
  have hd : w.grownBy (w.drewN q) (some g) := ⟨rfl, rfl, rfl, Nat.le_refl _, fun _ _ _ => rfl⟩
  have h0 : w.grownBy (w.drewN q) none := ⟨rfl, rfl, rfl, Nat.le_refl _, fun _ _ _ => rfl⟩
  have h1 := h.kept h0 (by simp [Value.ownBlock])
  have hl : (Go.Proofs.Ytkinlkmmelkdnaa.HelpInt.iv l).length = n := by unfold Go.Proofs.Ytkinlkmmelkdnaa.HelpInt.iv; simp [hn]
  have h2 := Go.Proofs.Ytkinlkmmelkdnaa.GoK.own_setCells (m.map (Value.int .i64)) 0 h1 (by rw [List.length_map]; omega)
  have e : (Go.Proofs.Ytkinlkmmelkdnaa.HelpInt.iv l).take 0 ++ m.map (Value.int .i64) ++ (Go.Proofs.Ytkinlkmmelkdnaa.HelpInt.iv l).drop (0 + (m.map (Value.int .i64)).length) = Go.Proofs.Ytkinlkmmelkdnaa.HelpInt.iv m := by
    rw [List.length_map, Nat.zero_add, hm, List.drop_of_length_le (by omega)]
    simp [Go.Proofs.Ytkinlkmmelkdnaa.HelpInt.iv]
  rw [e] at h2
  exact ⟨h2.1, Aid.grown_tr hd h2.2⟩
theorem grown_grow (w : World) (os : Array Obj) (r : Option Nat) : w.grownBy (Sort.grow w os) r := by
  refine ⟨rfl, rfl, rfl, by simp [Sort.grow], fun k hk _ => ?_⟩
  show (w.heap ++ os)[k]? = w.heap[k]?
  rw [Array.getElem?_append_left hk]
end Go.Proofs.Ytkinlkmmelkdnaa.GoS

/-
  The contracts of the library functions that this program calls, laid at its own numbers by the shelf of the guide. No condition of their own: each theorem states its premises.
-/
namespace Go.Proofs
open Go.Shelf
def Try.lays128_ren : Go.Shelf.Ren := ⟨fun | 128 => 158 | n => n, fun | 51 => 145 | 3 => 3 | 4 => 4 | 46 => 133 | 5 => 5 | 9 => 9 | n => n, fun | n => n⟩
theorem Try.lays128 : Go.Proofs.Lays.n128 Try.prog Try.lays128_ren := {
  mixed := by kernel_rfl
  f128 := Try.func158.trans (congrArg some (by kernel_rfl))
  t3 := Try.underlying3
  a3 := Try.isAgg3
  z3 := Try.sizeOf3
  v3 := Try.zeroValue3
  t4 := Try.underlying4
  a4 := Try.isAgg4
  z4 := Try.sizeOf4
  v4 := Try.zeroValue4
  t5 := Try.underlying5
  a5 := Try.isAgg5
  z5 := Try.sizeOf5
  v5 := Try.zeroValue5
  t9 := Try.underlying9
  a9 := Try.isAgg9
  z9 := Try.sizeOf9
  v9 := Try.zeroValue9
  t46 := Try.underlying133
  a46 := Try.isAgg133
  z46 := Try.sizeOf133
  v46 := Try.zeroValue133
  t51 := Try.underlying145
  a51 := Try.isAgg145
  z51 := Try.sizeOf145
  v51 := Try.zeroValue145 }
/-- bits.Len32: "Len32 returns the minimum number of bits required to represent x; the result is 0 for x == 0.": IT RETURNS 'Lib.bitLen x'; the world is as it was. ('h0', 'h1': x is a uint32.) (LAID: no walk: one application.) -/
theorem Try.bits_Len32 (x : Int) (w : World) (h0 : 0 ≤ x) (h1 : x ≤ 4294967295) :
    Calls Try.prog 158 #[.int .u32 x] w fun e w' => e = .returned (.int .i64 (Lib.bitLen x.toNat)) ∧ w' = w := Any.bits_Len32 Try.lays128 x w h0 h1
def Try.lays125_ren : Go.Shelf.Ren := ⟨fun | 125 => 148 | 128 => 158 | 129 => 159 | n => n, fun | 46 => 133 | 3 => 3 | 51 => 145 | 53 => 101 | 4 => 4 | 5 => 5 | 9 => 9 | n => n, fun | n => n⟩
theorem Try.lays125 : Go.Proofs.Lays.n125 Try.prog Try.lays125_ren := {
  mixed := by kernel_rfl
  f125 := Try.func148.trans (congrArg some (by kernel_rfl))
  f128 := Try.func158.trans (congrArg some (by kernel_rfl))
  f129 := Try.func159.trans (congrArg some (by kernel_rfl))
  t3 := Try.underlying3
  a3 := Try.isAgg3
  z3 := Try.sizeOf3
  v3 := Try.zeroValue3
  t4 := Try.underlying4
  a4 := Try.isAgg4
  z4 := Try.sizeOf4
  v4 := Try.zeroValue4
  t5 := Try.underlying5
  a5 := Try.isAgg5
  z5 := Try.sizeOf5
  v5 := Try.zeroValue5
  t9 := Try.underlying9
  a9 := Try.isAgg9
  z9 := Try.sizeOf9
  v9 := Try.zeroValue9
  t46 := Try.underlying133
  a46 := Try.isAgg133
  z46 := Try.sizeOf133
  v46 := Try.zeroValue133
  t51 := Try.underlying145
  a51 := Try.isAgg145
  z51 := Try.sizeOf145
  v51 := Try.zeroValue145
  t53 := Try.underlying101
  a53 := Try.isAgg101
  z53 := Try.sizeOf101
  v53 := Try.zeroValue101 }
/-- bits.Len: "Len returns the minimum number of bits required to represent x; the result is 0 for x == 0.": IT RETURNS 'Lib.bitLen x'; the world is as it was. (A uint has 64 bits in the model.) ITS CALLEE bits.Len64 IS MET BY ITS OWN CONTRACT OFF THE SHELF (lay that first). (LAID: no walk: one application.) -/
theorem Try.bits_Len (x : Int) (w : World) (h0 : 0 ≤ x) (h1 : x ≤ 18446744073709551615) :
    Calls Try.prog 148 #[.int .u64 x] w fun e w' => e = .returned (.int .i64 (Lib.bitLen x.toNat)) ∧ w' = w := Any.bits_Len Try.lays125 x w h0 h1
def Try.lays215_ren : Go.Shelf.Ren := ⟨fun | 215 => 137 | n => n, fun | 3 => 3 | 4 => 4 | n => n, fun | n => n⟩
theorem Try.lays215 : Go.Proofs.Lays.n215 Try.prog Try.lays215_ren := {
  mixed := by kernel_rfl
  f215 := Try.func137.trans (congrArg some (by kernel_rfl))
  t3 := Try.underlying3
  a3 := Try.isAgg3
  z3 := Try.sizeOf3
  v3 := Try.zeroValue3
  t4 := Try.underlying4
  a4 := Try.isAgg4
  z4 := Try.sizeOf4
  v4 := Try.zeroValue4 }
open Go.RowKit in
/-- cmp.isNaN at int: 'x != x': false. (LAID: no walk: one application.) -/
theorem Try.cmp_isNaN_int (x : Int) (w : World) :
    Calls Try.prog 137 #[.int .i64 x] w fun e w' => e = .returned (.bool false) ∧ w' = w := Any.cmp_isNaN_int Try.lays215 x w
def Try.lays122_ren : Go.Shelf.Ren := ⟨fun | 122 => 111 | 215 => 137 | n => n, fun | 3 => 3 | 4 => 4 | n => n, fun | n => n⟩
theorem Try.lays122 : Go.Proofs.Lays.n122 Try.prog Try.lays122_ren := {
  mixed := by kernel_rfl
  f122 := Try.func111.trans (congrArg some (by kernel_rfl))
  f215 := Try.func137.trans (congrArg some (by kernel_rfl))
  t3 := Try.underlying3
  a3 := Try.isAgg3
  z3 := Try.sizeOf3
  v3 := Try.zeroValue3
  t4 := Try.underlying4
  a4 := Try.isAgg4
  z4 := Try.sizeOf4
  v4 := Try.zeroValue4 }
open Go.RowKit in
/-- cmp.Compare at int: "Compare returns -1 if x is less than y, 0 if x equals y, +1 if x is greater than y.": IT RETURNS 'Lib.compareInt x y'; the world is as it was. (LAID: no walk: one application.) -/
theorem Try.cmp_Compare_int (x y : Int) (w : World) :
    Calls Try.prog 111 #[.int .i64 x, .int .i64 y] w fun e w' => e = .returned (.int .i64 (Lib.compareInt x y)) ∧ w' = w := Any.cmp_Compare_int Try.lays122 x y w
def Try.lays129_ren : Go.Shelf.Ren := ⟨fun | 129 => 159 | n => n, fun | 53 => 101 | 3 => 3 | 4 => 4 | 46 => 133 | 5 => 5 | 9 => 9 | n => n, fun | n => n⟩
theorem Try.lays129 : Go.Proofs.Lays.n129 Try.prog Try.lays129_ren := {
  mixed := by kernel_rfl
  f129 := Try.func159.trans (congrArg some (by kernel_rfl))
  t3 := Try.underlying3
  a3 := Try.isAgg3
  z3 := Try.sizeOf3
  v3 := Try.zeroValue3
  t4 := Try.underlying4
  a4 := Try.isAgg4
  z4 := Try.sizeOf4
  v4 := Try.zeroValue4
  t5 := Try.underlying5
  a5 := Try.isAgg5
  z5 := Try.sizeOf5
  v5 := Try.zeroValue5
  t9 := Try.underlying9
  a9 := Try.isAgg9
  z9 := Try.sizeOf9
  v9 := Try.zeroValue9
  t46 := Try.underlying133
  a46 := Try.isAgg133
  z46 := Try.sizeOf133
  v46 := Try.zeroValue133
  t53 := Try.underlying101
  a53 := Try.isAgg101
  z53 := Try.sizeOf101
  v53 := Try.zeroValue101 }
/-- bits.Len64: "Len64 returns the minimum number of bits required to represent x; the result is 0 for x == 0.": IT RETURNS 'Lib.bitLen x'; the world is as it was. ('h0', 'h1': x is a uint64.) (LAID: no walk: one application.) -/
theorem Try.bits_Len64 (x : Int) (w : World) (h0 : 0 ≤ x) (h1 : x ≤ 18446744073709551615) :
    Calls Try.prog 159 #[.int .u64 x] w fun e w' => e = .returned (.int .i64 (Lib.bitLen x.toNat)) ∧ w' = w := Any.bits_Len64 Try.lays129 x w h0 h1
def Try.lays189_ren : Go.Shelf.Ren := ⟨fun | 189 => 144 | 125 => 148 | 257 => 147 | 128 => 158 | 129 => 159 | 294 => 149 | 295 => 150 | 296 => 151 | 297 => 152 | 298 => 153 | 299 => 154 | 216 => 155 | 300 => 156 | 301 => 157 | 328 => 160 | 329 => 161 | 330 => 162 | 331 => 163 | 332 => 164 | 215 => 137 | 343 => 165 | n => n, fun | 28 => 45 | 3 => 3 | 46 => 133 | 0 => 0 | 51 => 145 | 53 => 101 | 4 => 4 | 183 => 138 | 182 => 137 | 131 => 35 | 5 => 5 | 9 => 9 | 218 => 147 | 222 => 151 | 228 => 153 | 229 => 154 | n => n, fun | n => n⟩
theorem Try.lays189 : Go.Proofs.Lays.n189 Try.prog Try.lays189_ren := {
  mixed := by kernel_rfl
  f125 := Try.func148.trans (congrArg some (by kernel_rfl))
  f128 := Try.func158.trans (congrArg some (by kernel_rfl))
  f129 := Try.func159.trans (congrArg some (by kernel_rfl))
  f189 := Try.func144.trans (congrArg some (by kernel_rfl))
  f215 := Try.func137.trans (congrArg some (by kernel_rfl))
  f216 := Try.func155.trans (congrArg some (by kernel_rfl))
  f257 := Try.func147.trans (congrArg some (by kernel_rfl))
  f294 := Try.func149.trans (congrArg some (by kernel_rfl))
  f295 := Try.func150.trans (congrArg some (by kernel_rfl))
  f296 := Try.func151.trans (congrArg some (by kernel_rfl))
  f297 := Try.func152.trans (congrArg some (by kernel_rfl))
  f298 := Try.func153.trans (congrArg some (by kernel_rfl))
  f299 := Try.func154.trans (congrArg some (by kernel_rfl))
  f300 := Try.func156.trans (congrArg some (by kernel_rfl))
  f301 := Try.func157.trans (congrArg some (by kernel_rfl))
  f328 := Try.func160.trans (congrArg some (by kernel_rfl))
  f329 := Try.func161.trans (congrArg some (by kernel_rfl))
  f330 := Try.func162.trans (congrArg some (by kernel_rfl))
  f331 := Try.func163.trans (congrArg some (by kernel_rfl))
  f332 := Try.func164.trans (congrArg some (by kernel_rfl))
  f343 := Try.func165.trans (congrArg some (by kernel_rfl))
  t0 := Try.underlying0
  a0 := Try.isAgg0
  z0 := Try.sizeOf0
  v0 := Try.zeroValue0
  t3 := Try.underlying3
  a3 := Try.isAgg3
  z3 := Try.sizeOf3
  v3 := Try.zeroValue3
  t4 := Try.underlying4
  a4 := Try.isAgg4
  z4 := Try.sizeOf4
  v4 := Try.zeroValue4
  t5 := Try.underlying5
  a5 := Try.isAgg5
  z5 := Try.sizeOf5
  v5 := Try.zeroValue5
  t9 := Try.underlying9
  a9 := Try.isAgg9
  z9 := Try.sizeOf9
  v9 := Try.zeroValue9
  t28 := Try.underlying45
  a28 := Try.isAgg45
  z28 := Try.sizeOf45
  v28 := Try.zeroValue45
  t46 := Try.underlying133
  a46 := Try.isAgg133
  z46 := Try.sizeOf133
  v46 := Try.zeroValue133
  t51 := Try.underlying145
  a51 := Try.isAgg145
  z51 := Try.sizeOf145
  v51 := Try.zeroValue145
  t53 := Try.underlying101
  a53 := Try.isAgg101
  z53 := Try.sizeOf101
  v53 := Try.zeroValue101
  t131 := Try.underlying35
  a131 := Try.isAgg35
  z131 := Try.sizeOf35
  v131 := Try.zeroValue35
  t182 := Try.underlying137
  a182 := Try.isAgg137
  z182 := Try.sizeOf137
  v182 := Try.zeroValue137
  t183 := Try.underlying138
  a183 := Try.isAgg138
  z183 := Try.sizeOf138
  v183 := Try.zeroValue138
  t218 := Try.underlying147
  a218 := Try.isAgg147
  z218 := Try.sizeOf147
  v218 := Try.zeroValue147
  t222 := Try.underlying151
  a222 := Try.isAgg151
  z222 := Try.sizeOf151
  v222 := Try.zeroValue151
  t228 := Try.underlying153
  a228 := Try.isAgg153
  z228 := Try.sizeOf153
  v228 := Try.zeroValue153
  t229 := Try.underlying154
  a229 := Try.isAgg154
  z229 := Try.sizeOf154
  v229 := Try.zeroValue154 }
open Go.Sort Go.RowKit in
theorem Try.slices_Sort_int (blk off cap : Nat) (zs : List Int) (w : World) (hH : Holds (Value.int .i64) w blk off zs.toArray) (hblk : blk < w.heap.size) (hsz : zs.length < 4611686018427387904) :
    Calls Try.prog 144 #[.slice (some ⟨blk, off, none⟩) zs.length cap] w fun e w' =>
      e = .returned (.tuple #[]) ∧ ∃ n os, w' = grow (putRow (Value.int .i64) (Sort.ahead w n) blk off (zs.mergeSort fun x y => decide (x ≤ y)).toArray) os := Any.slices_Sort_int Try.lays189 blk off cap zs w hH hblk hsz
def Try.laysNm220_ren : Go.Shelf.Ren := ⟨fun | 20 => 145 | n => n, fun | 22 => 45 | 3 => 3 | 4 => 4 | 0 => 0 | n => n, fun | n => n⟩
theorem Try.laysNm220 : Go.Proofs.Lays2.n20 Try.prog Try.laysNm220_ren := {
  mixed := by kernel_rfl
  f20 := Try.func145.trans (congrArg some (by kernel_rfl))
  t0 := Try.underlying0
  a0 := Try.isAgg0
  z0 := Try.sizeOf0
  v0 := Try.zeroValue0
  t3 := Try.underlying3
  a3 := Try.isAgg3
  z3 := Try.sizeOf3
  v3 := Try.zeroValue3
  t4 := Try.underlying4
  a4 := Try.isAgg4
  z4 := Try.sizeOf4
  v4 := Try.zeroValue4
  t22 := Try.underlying45
  a22 := Try.isAgg45
  z22 := Try.sizeOf45
  v22 := Try.zeroValue45
  i3 := by kernel_rfl }
open Go.RowKit Go.Lib Go.Sort in
/-- slices.Compact at []int, over an array: the library's two loops are walked. (LAID: no walk: one application.) -/
theorem Try.slices_Compact_int_arr (blk off cap : Nat) (d : Array Int) (w : World) (hH : Holds encI w blk off d) (hsz : d.size ≤ 9223372036854775807) (hcap : d.size ≤ cap) :
    Calls Try.prog 145 #[.slice (some ⟨blk, off, none⟩) d.size cap] w fun e w' => e = .returned (.slice (some ⟨blk, off, none⟩) (compactUpTo d d.size).length cap) ∧ ∃ q, w' = putRow encI (Sort.ahead w q) blk off (compactUpTo d d.size ++ List.replicate (d.size - (compactUpTo d d.size).length) 0).toArray := Any.slices_Compact_int_arr Try.laysNm220 blk off cap d w hH hsz hcap
open Go.RowKit Go.Lib Go.Sort in
/-- slices.Compact at []int: "Compact replaces consecutive runs of equal elements with a single copy. This is like the uniq command found on Unix. Compact modifies the contents of the slice s and returns the modified slice, which may have a smaller length. Compact zeroes the elements between the new length and the original length. The result preserves the nilness of s.": IT RETURNS THE SLICE CUT TO 'Lib.compact zs'; ITS CELLS HOLD 'Lib.compact zs', THEN ZERO VALUES up to the old length; all else is as it was, but for the count of draws. IN THE WORDS OF slices.Sort's CONTRACT ('Holds', 'putRow'): so the everyday 'slices.Sort(xs); xs = slices.Compact(xs)' goes from the one contract to the other. It asks 'zs.length ≤ cap' (every slice's: the reslicing 's[:k]' looks at it). Length 0, nil: '.._empty'. (LAID: no walk: one application.) -/
theorem Try.slices_Compact_int (blk off cap : Nat) (zs : List Int) (w : World) (hH : Holds (Value.int .i64) w blk off zs.toArray) (hsz : zs.length ≤ 9223372036854775807) (hcap : zs.length ≤ cap) :
    Calls Try.prog 145 #[.slice (some ⟨blk, off, none⟩) zs.length cap] w fun e w' => e = .returned (.slice (some ⟨blk, off, none⟩) (Lib.compact zs).length cap) ∧ ∃ q, w' = putRow (Value.int .i64) (Sort.ahead w q) blk off (Lib.compact zs ++ List.replicate (zs.length - (Lib.compact zs).length) 0).toArray := Any.slices_Compact_int Try.laysNm220 blk off cap zs w hH hsz hcap
open Go.RowKit Go.Lib Go.Sort in
/-- The same at a slice of length 0, a nil one too: it comes back as it is. (LAID: no walk: one application.) -/
theorem Try.slices_Compact_int_empty (a : Option Addr) (cap : Nat) (w : World) :
    Calls Try.prog 145 #[.slice a 0 cap] w fun e w' => e = .returned (.slice a 0 cap) ∧ w' = w := Any.slices_Compact_int_empty Try.laysNm220 a cap w
def Try.laysNm237_ren : Go.Shelf.Ren := ⟨fun | 37 => 137 | n => n, fun | 3 => 3 | 4 => 4 | n => n, fun | n => n⟩
theorem Try.laysNm237 : Go.Proofs.Lays2.n37 Try.prog Try.laysNm237_ren := {
  mixed := by kernel_rfl
  f37 := Try.func137.trans (congrArg some (by kernel_rfl))
  t3 := Try.underlying3
  a3 := Try.isAgg3
  z3 := Try.sizeOf3
  v3 := Try.zeroValue3
  t4 := Try.underlying4
  a4 := Try.isAgg4
  z4 := Try.sizeOf4
  v4 := Try.zeroValue4 }
open Go.RowKit Go.Lib in
/-- cmp.isNaN[int]: 'x != x': false. (LAID: no walk: one application.) -/
theorem Try.cmp_isNaN_int2 (x : Int) (w : World) :
    Calls Try.prog 137 #[.int .i64 x] w fun e w' => e = .returned (.bool false) ∧ w' = w := Any.cmp_isNaN_int2 Try.laysNm237 x w
def Try.laysNm231_ren : Go.Shelf.Ren := ⟨fun | 31 => 155 | 37 => 137 | n => n, fun | 3 => 3 | 4 => 4 | n => n, fun | n => n⟩
theorem Try.laysNm231 : Go.Proofs.Lays2.n31 Try.prog Try.laysNm231_ren := {
  mixed := by kernel_rfl
  f31 := Try.func155.trans (congrArg some (by kernel_rfl))
  f37 := Try.func137.trans (congrArg some (by kernel_rfl))
  t3 := Try.underlying3
  a3 := Try.isAgg3
  z3 := Try.sizeOf3
  v3 := Try.zeroValue3
  t4 := Try.underlying4
  a4 := Try.isAgg4
  z4 := Try.sizeOf4
  v4 := Try.zeroValue4 }
open Go.RowKit Go.Lib in
/-- cmp.Less[int]: "Less reports whether x is less than y.": 'x < y'; the world is as it was. (LAID: no walk: one application.) -/
theorem Try.cmp_Less_int2 (x y : Int) (w : World) :
    Calls Try.prog 155 #[.int .i64 x, .int .i64 y] w fun e w' => e = .returned (.bool (decide (x < y))) ∧ w' = w := Any.cmp_Less_int2 Try.laysNm231 x y w
open Go.RowKit Go.Lib Go.Sort in
/-- slices.Compact at []int, of an argument: the slice cut to 'Lib.compact (elements)'; the n cells hold that, then zeros. (LAID: no walk: one application.) -/
theorem Try.slices_Compact_int_cells (b off n c : Nat) (zs : List Int) (w : World) (hz : n ≤ zs.length) (hbig : n ≤ 9223372036854775807) (hcap : n ≤ c) (hc : ∀ j, j < zs.length → w.cell? ⟨b, off + j, none⟩ = some (.int .i64 (zs.getD j 0))) (hf : ∀ j, j < n → w.frozen? ⟨b, off + j, none⟩ = false) :
    Calls Try.prog 145 #[.slice (some ⟨b, off, none⟩) n c] w fun e w' => e = .returned (.slice (some ⟨b, off, none⟩) (Lib.compact (zs.take n)).length c) ∧ ∃ q, w' = (w.drewN q).setCells b off ((Lib.compact (zs.take n) ++ List.replicate (n - (Lib.compact (zs.take n)).length) 0).map (Value.int .i64)) := Any.slices_Compact_int_cells Try.laysNm220 b off n c zs w hz hbig hcap hc hf
open Go.RowKit Go.Sort in
/-- .. and plain. (LAID: no walk: one application.) -/
theorem Try.slices_Sort_int_none (p : Option Addr) (cap : Nat) (w : World) :
    Calls Try.prog 144 #[.slice p 0 cap] w fun e w' => e = .returned (.tuple #[]) ∧ w' = w := Any.slices_Sort_int_none Try.lays189 p cap w
end Go.Proofs

/- slices.Sort of numbers as a plain function; the contract of the program's. No condition. -/
namespace Go.Proofs.Ytkinlkmmelkdnaa.GxSlicesSortIntInt
set_option linter.unusedVariables false
open Go.RowKit
open Go.Proofs.Ytkinlkmmelkdnaa.Turn Go.Proofs.Ytkinlkmmelkdnaa.GoM
def P (x_0 : List Int) : Option (List Int) := if x_0.length < 4611686018427387904 then some (x_0.mergeSort fun x y => decide (x ≤ y)) else none
theorem C (x_0 : List Int) (A0 : Option Addr) (c0 : Nat) (b0 : Nat) (w : World) (M0 : Hid (w.ownsRow b0 3 1 (.slice A0 x_0.length c0) x_0.length (Go.Proofs.Ytkinlkmmelkdnaa.HelpInt.iv x_0))) (N0 : Hid (x_0.length ≤ 9223372036854775807)) {l_ : List Int} (H : Hid (P x_0 = some l_)) :
    Calls Try.prog 144 #[.slice A0 x_0.length c0] w (fun e w' => e = .returned (.tuple #[]) ∧ w'.ownsRow b0 3 1 (.slice A0 x_0.length c0) x_0.length (Go.Proofs.Ytkinlkmmelkdnaa.HelpInt.iv l_) ∧ l_.length = x_0.length ∧ w.grownBy w' (Value.slice A0 x_0.length c0).ownBlock) := by
  have h : P x_0 = some l_ := H
  unfold P at h
  by_cases hl : x_0.length < 4611686018427387904
  · rw [if_pos hl] at h
    obtain rfl := Option.some.inj h
    have M := M0.out
    by_cases hz : x_0 = []
    · subst hz
      refine (Try.slices_Sort_int_none A0 c0 w).mono ?_
      rintro e w' ⟨rfl, rfl⟩
      have e0 : (([] : List Int).mergeSort fun x y => decide (x ≤ y)) = [] := List.eq_nil_of_length_eq_zero (by simp)
      rw [e0]
      exact ⟨rfl, M, rfl, Aid.grown_refl _ _⟩
    · have hpos : 0 < x_0.length := List.length_pos_iff.2 hz
      obtain ⟨g, rfl⟩ := own_some M hpos
      have hg := (M.lt g (by simp [Value.ownBlock])).2
      refine (Try.slices_Sort_int g 0 c0 x_0 w (Go.Proofs.Ytkinlkmmelkdnaa.GoS.own_holds rfl M) hg hl).mono ?_
      rintro e w' ⟨rfl, n, os, rfl⟩
      have hm : (x_0.mergeSort fun x y => decide (x ≤ y)).length = x_0.length := List.length_mergeSort _
      obtain ⟨h1, h2⟩ := Go.Proofs.Ytkinlkmmelkdnaa.GoS.own_put (m := x_0.mergeSort fun x y => decide (x ≤ y)) rfl hm M n
      have h3 := Go.Proofs.Ytkinlkmmelkdnaa.GoS.grown_grow (Sort.putRow (Value.int .i64) (Sort.ahead w n) g 0 (x_0.mergeSort fun x y => decide (x ≤ y)).toArray) os none
      exact ⟨rfl, h1.kept h3 (by simp [Value.ownBlock]), hm, Aid.grown_tr h2 (Go.Proofs.Ytkinlkmmelkdnaa.GoS.grown_grow _ os _)⟩
  · rw [if_neg hl] at h; simp at h
end Go.Proofs.Ytkinlkmmelkdnaa.GxSlicesSortIntInt

/- slices.Compact of numbers as a plain function; the contract of the program's. No condition. -/
namespace Go.Proofs.Ytkinlkmmelkdnaa.GxSlicesCompactIntInt
set_option linter.unusedVariables false
open Go.RowKit
open Go.Proofs.Ytkinlkmmelkdnaa.Turn Go.Proofs.Ytkinlkmmelkdnaa.GoM
def P (s_0 : List Int) : Option (List Int) := some (Lib.compact s_0)
theorem C (s_0 : List Int) (A0 : Option Addr) (c0 : Nat) (b0 : Nat) (w : World) (M0 : Hid (w.ownsRow b0 3 1 (.slice A0 s_0.length c0) s_0.length (Go.Proofs.Ytkinlkmmelkdnaa.HelpInt.iv s_0))) (N0 : Hid (s_0.length ≤ 9223372036854775807)) (LB : Hid (b0 ≤ w.heap.size)) {r : List Int} (H : Hid (P s_0 = some r)) :
    Calls Try.prog 145 #[.slice A0 s_0.length c0] w (fun e w' => ∃ A_r c_r, e = .returned (.slice A_r r.length c_r) ∧ w'.ownsRow b0 3 1 (.slice A_r r.length c_r) r.length (Go.Proofs.Ytkinlkmmelkdnaa.HelpInt.iv r) ∧ w.grownBy w' (Value.slice A0 s_0.length c0).ownBlock ∧ Go.Proofs.Ytkinlkmmelkdnaa.GoK.From w A0 A_r) := by
  have h : P s_0 = some r := H
  unfold P at h
  obtain rfl := Option.some.inj h
  have M := M0.out
  by_cases hz : s_0 = []
  · subst hz
    refine (Try.slices_Compact_int_empty A0 c0 w).mono ?_
    rintro e w' ⟨rfl, rfl⟩
    exact ⟨A0, c0, rfl, M, Aid.grown_refl _ _, Go.Proofs.Ytkinlkmmelkdnaa.GoK.from_self⟩
  · have hpos : 0 < s_0.length := List.length_pos_iff.2 hz
    obtain ⟨g, rfl⟩ := own_some M hpos
    have hle := Lib.compact_length_le s_0
    have hR := own_room M
    refine (Try.slices_Compact_int g 0 c0 s_0 w (Go.Proofs.Ytkinlkmmelkdnaa.GoS.own_holds rfl M) N0.out hR.1).mono ?_
    rintro e w' ⟨rfl, q, rfl⟩
    obtain ⟨h1, h2⟩ := Go.Proofs.Ytkinlkmmelkdnaa.GoS.own_put (m := Lib.compact s_0 ++ List.replicate (s_0.length - (Lib.compact s_0).length) 0) rfl (by rw [List.length_append, List.length_replicate]; omega) M q
    obtain ⟨i0, hi, hz0, hz1, hz2⟩ := Aid.info_parts (P := Try.prog) (T := 3) (z := .int .i64 0) (s := 1) (b := 8) (by kernel_rfl)
    have h3 := (slice_head (P := Try.prog) (t := 45) (k := .i64) (hi := ((Lib.compact s_0).length : Int)) (m := (Lib.compact s_0).length) (ys := Go.Proofs.Ytkinlkmmelkdnaa.HelpInt.iv (Lib.compact s_0)) (by kernel_rfl) (by kernel_rfl) hi hz1 h1 ⟨by omega, by omega⟩ (by omega) (by
      unfold Go.Proofs.Ytkinlkmmelkdnaa.HelpInt.iv
      rw [List.map_append, Int.toNat_natCast, Nat.mul_one, List.take_left' (by simp)])).2
    exact ⟨_, c0, rfl, h3, h2, Go.Proofs.Ytkinlkmmelkdnaa.GoK.from_self⟩
end Go.Proofs.Ytkinlkmmelkdnaa.GxSlicesCompactIntInt

/- loop.example/g01062/impl.turningDays as a plain function, and the contract of the program's: where the plain one has an answer, the program has it. Conditions: slices read as lists. -/
namespace Go.Proofs.Ytkinlkmmelkdnaa.GiTurningDays
set_option linter.unusedVariables false
set_option linter.unusedSimpArgs false
open Go.RowKit
open Go.Proofs.Ytkinlkmmelkdnaa.Rowed Go.Proofs.Ytkinlkmmelkdnaa.Turn Go.Proofs.Ytkinlkmmelkdnaa.Aid Go.Proofs.Ytkinlkmmelkdnaa.GoP Go.Proofs.Ytkinlkmmelkdnaa.GoM

def l0 (list : (List Go.Proofs.Ytkinlkmmelkdnaa.PRate.Rate)) (k0 : Nat) (s : (List Int)) (nx0 bk0 : (List Int) → Option ((List Int))) : Option ((List Int)) :=
  letK s fun days_3l0 =>
  Option.bind (idx list (k0 : Int)) fun (yt_7 : Go.Proofs.Ytkinlkmmelkdnaa.PRate.Rate) =>
  unRate yt_7 fun (t_7_zone : Int) (t_7_grams : Int) (t_7_from_ : Int) (t_7_until_ : Int) (t_7_cents : Int) =>
  letK (IntKind.i64.wrap (t_7_until_ + 1)) fun (t_16 : Int) =>
  letK ([t_7_from_, t_16]) fun (t_17 : (List Int)) =>
  guardK (days_3l0.length + t_17.length ≤ 1099511627776) <|
  letK (days_3l0 ++ t_17) fun (t_18 : (List Int)) =>
  appK nx0 (t_18)

def e0  (s : (List Int)) : Option ((List Int)) :=
  letK s fun days_3l0 =>
  Option.bind (Go.Proofs.Ytkinlkmmelkdnaa.GxSlicesSortIntInt.P days_3l0) fun (lt_23 : (List Int)) =>
  Option.bind (Go.Proofs.Ytkinlkmmelkdnaa.GxSlicesCompactIntInt.P lt_23) fun (t_25 : (List Int)) =>
  some t_25

def P (list : (List Go.Proofs.Ytkinlkmmelkdnaa.PRate.Rate)) : Option ((List Int)) :=
  cntK (l0 list) (list.length) 0 (([] : List Int)) (e0 )

set_option maxRecDepth 100000 in
set_option maxHeartbeats 2000000 in
theorem C (list : (List Go.Proofs.Ytkinlkmmelkdnaa.PRate.Rate)) (A0 : Option Addr) (c0 : Nat)  (w : World) (M0 : Hid (Cells w 5 A0 list.length (Go.Proofs.Ytkinlkmmelkdnaa.PRate.flat list))) (N0 : Hid (list.length ≤ 9223372036854775807))  {r : (List Int)} (H : Hid (P list = some r)) :
    Calls Try.prog 129 #[.slice A0 list.length c0] w (fun e w' => ∃ A_r c_r, e = .returned (.slice A_r r.length c_r) ∧ w'.ownsRow w.heap.size 3 1 (.slice A_r r.length c_r) r.length (Go.Proofs.Ytkinlkmmelkdnaa.HelpInt.iv r) ∧ Below w.heap.size w w') := by
  have HB := Lib.hid (Below.refl w.heap.size w)
  unfold P at H
  have N0o := N0.out
  obtain ⟨i0_3, hi_3, hz0_3, hz1_3, hz2_3⟩ := Aid.info_parts (P := Try.prog) (T := 3) (z := .int .i64 0) (s := 1) (b := 8) (by kernel_rfl)
  go_enter Try.func129, Try.ntmps129
  obtain ⟨w_t_1, hw_t_1⟩ : ∃ x, w.alloc (.cells #[] 3) = x := ⟨_, rfl⟩
  have bw_t_1 : Below w.heap.size w w_t_1 := by rw [← hw_t_1]; exact (Below.refl _ _).alloc (Nat.le_refl _) _
  have Ot_1 : Hid (w_t_1.ownsRow w.heap.size 3 1 (.slice (some ⟨w.heap.size, 0, none⟩) 0 0) 0 []) := Lib.hid (by rw [← hw_t_1]; exact own_empty HB.out.size)
  have HBw_t_1 := Lib.hid (Below.step HB.out bw_t_1)
  clear bw_t_1
  go_wp2_with fail
  go_loopg [9, 3] (list.length) (fun m_ v9_ v3_ wr => ∃ (k0 : Nat) (days_3l0 : (List Int)) (Adays_3l0 : Option Addr) (cdays_3l0 : Nat), k0 + m_ = list.length ∧ v9_ = .int .i64 (k0 : Int) ∧ v3_ = .slice Adays_3l0 days_3l0.length cdays_3l0 ∧ Hid (cntK (l0 list) m_ k0 (days_3l0) (e0 ) = some r) ∧ Hid (Below w.heap.size w wr) ∧ Hid (wr.ownsRow w.heap.size 3 1 (.slice Adays_3l0 days_3l0.length cdays_3l0) days_3l0.length (Go.Proofs.Ytkinlkmmelkdnaa.HelpInt.iv days_3l0)))
  case atStart => exact ⟨0, _, _, _, by omega, rfl, rfl, H, HBw_t_1, Ot_1⟩
  case round =>
    obtain ⟨k0, days_3l0, Adays_3l0, cdays_3l0, hkm0, rfl, rfl, H, HBwr0, Odays_3l0⟩ := hrel
    rename World => wr0
    cases gk with
    | zero =>
      obtain rfl : k0 = list.length := by omega
      have hc0 : decide (((list.length : Nat) : Int) < ((list.length : Nat) : Int)) = false := by simp
      replace H := cnt_zero H
      unfold e0 at H
      replace H := let_hid H
      obtain ⟨_, rfl, H⟩ := H
      replace H := bind_hid H
      obtain ⟨lt_23, qt_23, H⟩ := H
      go_wp2_with fail
      go_at_call 144
      refine (Go.Proofs.Ytkinlkmmelkdnaa.GxSlicesSortIntInt.C (days_3l0) Adays_3l0 cdays_3l0 w.heap.size _   Odays_3l0 (Lib.hid (own_max Odays_3l0.out))   qt_23).mono ?_
      rintro e_t_23 wt_23 ⟨rfl, ot_23, nt_23, gt_23⟩
      have Pt_23 := Lib.hid ot_23
      have Gt_23 := Lib.hid gt_23
      replace nt_23 := Lib.hid nt_23
      clear ot_23 gt_23
      have HBwt_23 := Lib.hid (HBwr0.out.grown Gt_23.out HBwr0.out.size (fun q hq => (Odays_3l0.out.lt q hq).1))
      clear Odays_3l0 Gt_23
      replace H := bind_hid H
      obtain ⟨t_25, qt_25, H⟩ := H
      go_wp2_with fail
      have hc0_ := nt_23.out
      have Oct_25_1 := Lib.hid (own_len hc0_ Pt_23.out)
      have con_ := Go.Proofs.Ytkinlkmmelkdnaa.GxSlicesCompactIntInt.C (lt_23) Adays_3l0 cdays_3l0 w.heap.size _   Oct_25_1 (Lib.hid (own_max Oct_25_1.out)) (Lib.hid HBwt_23.out.size)  qt_25
      rw [hc0_] at con_
      clear hc0_ Oct_25_1
      go_at_call 145
      refine con_.mono ?_
      rintro e_t_25 wt_25 ⟨At_25, ct_25, rfl, ot_25, gt_25, yt_25⟩
      have Pt_25 := Lib.hid ot_25
      have Gt_25 := Lib.hid gt_25
      replace yt_25 := Lib.hid yt_25
      clear ot_25 gt_25
      have HBwt_25 := Lib.hid (HBwt_23.out.grown Gt_25.out HBwt_23.out.size (fun q hq => (Pt_23.out.lt q hq).1))
      clear Pt_23 Gt_25 yt_25
      obtain rfl := ret_hid H
      go_wp2_with fail
      go_ret
      exact ⟨At_25, ct_25, rfl, Pt_25.out, HBwt_25.out⟩
    | succ m0 =>
      have hlt0 : k0 < list.length := by omega
      have hc0 : decide ((k0 : Int) < ((list.length : Nat) : Int)) = true := by simp; omega
      replace H := cnt_succ H
      unfold l0 at H
      replace H := let_hid H
      obtain ⟨_, rfl, H⟩ := H
      replace H := idx_hid H
      obtain ⟨nt_7, yt_7, et_7, lt_7, gt_7, H⟩ := H
      obtain rfl : k0 = nt_7 := by omega
      clear et_7
      obtain ⟨t_7_zone, t_7_grams, t_7_from_, t_7_until_, t_7_cents⟩ := yt_7
      replace H := unRate_hid H
      obtain ⟨ab_t_7, ao_t_7, zt_7, At_7, z_t_7, ct_7_0, ct_7_1, ct_7_2, ct_7_3, ct_7_4⟩ := Go.Proofs.Ytkinlkmmelkdnaa.ORate.at_ M0.out lt_7
      obtain rfl := Option.some.inj (gt_7.out.symm.trans z_t_7)
      subst At_7
      have ltt_7 := cell_lt ct_7_0
      replace ct_7_0 := cell_below HBwr0.out ct_7_0
      replace ct_7_1 := cell_below HBwr0.out ct_7_1
      replace ct_7_2 := cell_below HBwr0.out ct_7_2
      replace ct_7_3 := cell_below HBwr0.out ct_7_3
      replace ct_7_4 := cell_below HBwr0.out ct_7_4
      clear z_t_7
      have b0t_7 : (0 : Int) ≤ (k0 : Int) := by omega
      have b1t_7 : (k0 : Int) < ((list.length : Nat) : Int) := by omega
      have b2t_7 : ((k0 : Int)).toNat = k0 := by omega
      obtain ⟨w_r_9, hw_r_9⟩ : ∃ x, wr0.alloc (.cells #[.int .i64 t_7_zone, .int .i64 t_7_grams, .int .i64 t_7_from_, .int .i64 t_7_until_, .int .i64 t_7_cents] 25) = x := ⟨_, rfl⟩
      have bw_r_9 : Below wr0.heap.size wr0 w_r_9 := by rw [← hw_r_9]; exact (Below.refl _ _).alloc (Nat.le_refl _) _
      have Dr_9_days_3l0 := Lib.hid (apart_fresh Odays_3l0.out)
      have HBw_r_9 := Lib.hid (Below.step HBwr0.out bw_r_9)
      have ct_7_0__150 := cell_below bw_r_9 ct_7_0
      have ct_7_1__151 := cell_below bw_r_9 ct_7_1
      have ct_7_2__152 := cell_below bw_r_9 ct_7_2
      have ct_7_3__153 := cell_below bw_r_9 ct_7_3
      have ct_7_4__154 := cell_below bw_r_9 ct_7_4
      replace Odays_3l0 := Lib.hid (own_below Odays_3l0.out bw_r_9)
      clear bw_r_9
      have kr_9_0 : w_r_9.cell? ⟨wr0.heap.size, 0, none⟩ = some (.int .i64 t_7_zone) := by rw [← hw_r_9]; exact box_new _ _ _ 0 _ rfl
      have kr_9_1 : w_r_9.cell? ⟨wr0.heap.size, 1, none⟩ = some (.int .i64 t_7_grams) := by rw [← hw_r_9]; exact box_new _ _ _ 1 _ rfl
      have kr_9_2 : w_r_9.cell? ⟨wr0.heap.size, 2, none⟩ = some (.int .i64 t_7_from_) := by rw [← hw_r_9]; exact box_new _ _ _ 2 _ rfl
      have kr_9_3 : w_r_9.cell? ⟨wr0.heap.size, 3, none⟩ = some (.int .i64 t_7_until_) := by rw [← hw_r_9]; exact box_new _ _ _ 3 _ rfl
      have kr_9_4 : w_r_9.cell? ⟨wr0.heap.size, 4, none⟩ = some (.int .i64 t_7_cents) := by rw [← hw_r_9]; exact box_new _ _ _ 4 _ rfl
      replace H := let_hid H
      obtain ⟨t_16, ht_16, H⟩ := H
      replace H := let_hid H
      obtain ⟨t_17, ht_17, H⟩ := H
      obtain ⟨w_t_17, hw_t_17⟩ : ∃ x, w_r_9.alloc (.cells #[.int .i64 t_7_from_, .int .i64 t_16] 3) = x := ⟨_, rfl⟩
      have bw_t_17 : Below w_r_9.heap.size w_r_9 w_t_17 := by rw [← hw_t_17]; exact (Below.refl _ _).alloc (Nat.le_refl _) _
      have hs_t_17 := HBw_r_9.out.size
      have nt_17 : t_17.length = 2 := by rw [← ht_17]; rfl
      have Ot_17 : Hid (w_t_17.ownsRow w.heap.size 3 1 (.slice (some ⟨w_r_9.heap.size, 0, none⟩) 2 2) 2 (Go.Proofs.Ytkinlkmmelkdnaa.HelpInt.iv t_17)) := by
        rw [← hw_t_17, ← ht_17]
        have e_ : ([.int .i64 t_7_from_, .int .i64 t_16] : List Value) = (Go.Proofs.Ytkinlkmmelkdnaa.HelpInt.iv ([t_7_from_, t_16] : List Int)) := rfl
        exact Lib.hid (own_laid (n := 2) hs_t_17 e_ rfl (by unfold maxLen; omega))
      clear hs_t_17
      have hht_17 := Lib.hid ht_17
      clear ht_17
      replace nt_17 := Lib.hid nt_17
      have Dt_17_days_3l0 := Lib.hid (apart_fresh Odays_3l0.out)
      have Dt_17_r_9 := Lib.hid (apart_box kr_9_0)
      have HBw_t_17 := Lib.hid (Below.step HBw_r_9.out bw_t_17)
      have ct_7_0__155 := cell_below bw_t_17 ct_7_0__150
      have ct_7_1__156 := cell_below bw_t_17 ct_7_1__151
      have ct_7_2__157 := cell_below bw_t_17 ct_7_2__152
      have ct_7_3__158 := cell_below bw_t_17 ct_7_3__153
      have ct_7_4__159 := cell_below bw_t_17 ct_7_4__154
      have kr_9_0__160 := cell_below bw_t_17 kr_9_0
      have kr_9_1__161 := cell_below bw_t_17 kr_9_1
      have kr_9_2__162 := cell_below bw_t_17 kr_9_2
      have kr_9_3__163 := cell_below bw_t_17 kr_9_3
      have kr_9_4__164 := cell_below bw_t_17 kr_9_4
      replace Odays_3l0 := Lib.hid (own_below Odays_3l0.out bw_t_17)
      clear bw_t_17
      have hc_ := nt_17.out
      have hv_ : (Value.slice (some ⟨w_r_9.heap.size, 0, none⟩) 2 2 : Value) = Value.slice (some ⟨w_r_9.heap.size, 0, none⟩) t_17.length 2 := by rw [hc_]
      replace Ot_17 := Lib.hid (own_len hc_ Ot_17.out)
      replace H := guard_hid H
      obtain ⟨hlt_18, H⟩ := H
      replace H := let_hid H
      obtain ⟨t_18, ht_18, H⟩ := H
      have hht_18 := Lib.hid ht_18
      clear ht_18
      have hst_18 := HBw_t_17.out.size
      have Ct_18 := Lib.hid ((own_cells Ot_17.out))
      go_wp2_with (at_builtin; skip; refine append_spread rfl _ _ 45 rfl w.heap.size 3 i0_3 (.int .i64 0) 1 8 Try.underlying45 hi_3 hz0_3 hz1_3 hz2_3 rfl (by decide) Adays_3l0 cdays_3l0 days_3l0.length _ rfl Odays_3l0.out (some ⟨w_r_9.heap.size, 0, none⟩) t_17.length 2 (Go.Proofs.Ytkinlkmmelkdnaa.HelpInt.iv t_17) rfl (own_room Ot_17.out) Ct_18.out (fun u hu => by unfold Go.Proofs.Ytkinlkmmelkdnaa.HelpInt.iv at hu; obtain ⟨y_, _, rfl⟩ := List.mem_map.1 hu; rfl) (by unfold maxLen; omega) (by omega) hst_18 ?_; intro vt_18 wt_18 ot_18 gt_18 yt_18; obtain ⟨At_18, ct_18, rfl, pt_18⟩ := own_pushS (f := Go.Proofs.Ytkinlkmmelkdnaa.HelpInt.iv) hht_18.out (by simp [Go.Proofs.Ytkinlkmmelkdnaa.HelpInt.iv]) rfl ot_18; have Pt_18 := Lib.hid pt_18; have Yt_18 := Lib.hid yt_18; have Gt_18 := Lib.hid gt_18; clear ot_18 gt_18 pt_18 yt_18; refine stop_in ?_)
      refine stop_out ?_
      clear Ct_18 hc_ hv_
      have HBwt_18 := Lib.hid (HBw_t_17.out.grown Gt_18.out hst_18 (fun q hq => (Odays_3l0.out.lt q hq).1))
      clear hst_18
      have Dt_18_r_9 : Hid (Apart At_18 _) := Lib.hid (apart_app (Apart.symm Dr_9_days_3l0.out) (fun a_ ha_ => by cases ha_; exact cell_lt kr_9_0__160) Yt_18.out)
      have Dt_18_t_17 : Hid (Apart At_18 _) := Lib.hid (apart_app (Apart.symm Dt_17_days_3l0.out) (fun a_ ha_ => (own_lt Ot_17.out a_ ha_).2) Yt_18.out)
      replace ct_7_0__155 := cell_other ct_7_0__155 Gt_18.out (apart_old Odays_3l0.out ltt_7)
      replace ct_7_1__156 := cell_other ct_7_1__156 Gt_18.out (apart_old Odays_3l0.out ltt_7)
      replace ct_7_2__157 := cell_other ct_7_2__157 Gt_18.out (apart_old Odays_3l0.out ltt_7)
      replace ct_7_3__158 := cell_other ct_7_3__158 Gt_18.out (apart_old Odays_3l0.out ltt_7)
      replace ct_7_4__159 := cell_other ct_7_4__159 Gt_18.out (apart_old Odays_3l0.out ltt_7)
      replace kr_9_0__160 := cell_other kr_9_0__160 Gt_18.out (Apart.symm Dr_9_days_3l0.out)
      replace kr_9_1__161 := cell_other kr_9_1__161 Gt_18.out (Apart.symm Dr_9_days_3l0.out)
      replace kr_9_2__162 := cell_other kr_9_2__162 Gt_18.out (Apart.symm Dr_9_days_3l0.out)
      replace kr_9_3__163 := cell_other kr_9_3__163 Gt_18.out (Apart.symm Dr_9_days_3l0.out)
      replace kr_9_4__164 := cell_other kr_9_4__164 Gt_18.out (Apart.symm Dr_9_days_3l0.out)
      replace Ot_17 := Lib.hid (own_other Ot_17.out Gt_18.out (Apart.symm Dt_17_days_3l0.out))
      clear ct_7_0 ct_7_1 ct_7_2 ct_7_3 ct_7_4 ct_7_0__150 ct_7_1__151 ct_7_2__152 ct_7_3__153 ct_7_4__154 kr_9_0 kr_9_1 kr_9_2 kr_9_3 kr_9_4
      clear Odays_3l0 Yt_18 Gt_18
      replace H := app_hid H
      go_wp2_with fail
      go_roundg m0
      case measure => omega
      case rel => exact ⟨k0 + 1, _, _, _, by omega, by go_num, rfl, H, HBwt_18, Pt_18⟩
end Go.Proofs.Ytkinlkmmelkdnaa.GiTurningDays

/- loop.example/g01062/impl.rateOn as a plain function, and the contract of the program's: where the plain one has an answer, the program has it. Conditions: slices read as lists. -/
namespace Go.Proofs.Ytkinlkmmelkdnaa.GiRateOn
set_option linter.unusedVariables false
set_option linter.unusedSimpArgs false
open Go.RowKit
open Go.Proofs.Ytkinlkmmelkdnaa.Rowed Go.Proofs.Ytkinlkmmelkdnaa.Turn Go.Proofs.Ytkinlkmmelkdnaa.Aid Go.Proofs.Ytkinlkmmelkdnaa.GoP Go.Proofs.Ytkinlkmmelkdnaa.GoM

def l0 (list : (List Go.Proofs.Ytkinlkmmelkdnaa.PRate.Rate)) (day : Int) (zone : Int) (grams : Int) (k0 : Nat) (s : Unit) (nx0 bk0 : Unit → Option (Int)) : Option (Int) :=
  
  Option.bind (idx list (k0 : Int)) fun (yt_5 : Go.Proofs.Ytkinlkmmelkdnaa.PRate.Rate) =>
  unRate yt_5 fun (t_5_zone : Int) (t_5_grams : Int) (t_5_from_ : Int) (t_5_until_ : Int) (t_5_cents : Int) =>
  letK (t_5_zone == zone) fun (t_12 : Bool) =>
  joinK (fun (t_18 : Bool) =>
  joinK (fun (t_26 : Bool) =>
  iteK t_26
  (some t_5_cents)
  (appK nx0 ())) fun jt_26 => iteK t_18 (Option.bind (Go.Proofs.Ytkinlkmmelkdnaa.GiWithin.P day t_5_from_ t_5_until_) fun (t_25 : Bool) =>
  appK jt_26 t_25) (appK jt_26 false)) fun jt_18 => iteK t_12 (letK (decide (grams ≤ t_5_grams)) fun (t_17 : Bool) =>
  appK jt_18 t_17) (appK jt_18 false)

def e0  (s : Unit) : Option (Int) :=
  
  some 0

def P (list : (List Go.Proofs.Ytkinlkmmelkdnaa.PRate.Rate)) (day : Int) (zone : Int) (grams : Int) : Option (Int) :=
  cntK (l0 list day zone grams) (list.length) 0 () (e0 )

set_option maxRecDepth 100000 in
set_option maxHeartbeats 2000000 in
theorem C (list : (List Go.Proofs.Ytkinlkmmelkdnaa.PRate.Rate)) (day : Int) (zone : Int) (grams : Int) (A0 : Option Addr) (c0 : Nat)  (w : World) (M0 : Hid (Cells w 5 A0 list.length (Go.Proofs.Ytkinlkmmelkdnaa.PRate.flat list))) (N0 : Hid (list.length ≤ 9223372036854775807))  {r : Int} (H : Hid (P list day zone grams = some r)) :
    Calls Try.prog 83 #[.slice A0 list.length c0, .int .i64 day, .int .i64 zone, .int .i64 grams] w (Gives (.int .i64 r) w) := by
  have HB := Lib.hid (Below.refl w.heap.size w)
  unfold P at H
  have N0o := N0.out
  go_enter Try.func83, Try.ntmps83
  go_wp2_with fail
  go_loopg [13] (list.length) (fun m_ v13_ wr => ∃ (k0 : Nat) , k0 + m_ = list.length ∧ v13_ = .int .i64 (k0 : Int) ∧ Hid (cntK (l0 list day zone grams) m_ k0 () (e0 ) = some r) ∧ Hid (Below w.heap.size w wr))
  case atStart => exact ⟨0, by omega, rfl, H, HB⟩
  case round =>
    obtain ⟨k0, hkm0, rfl, H, HBwr0⟩ := hrel
    rename World => wr0
    cases gk with
    | zero =>
      obtain rfl : k0 = list.length := by omega
      have hc0 : decide (((list.length : Nat) : Int) < ((list.length : Nat) : Int)) = false := by simp
      replace H := cnt_zero H
      unfold e0 at H
      obtain rfl := ret_hid H
      go_wp2_with fail
      go_ret
      exact ⟨rfl, HBwr0.out⟩
    | succ m0 =>
      have hlt0 : k0 < list.length := by omega
      have hc0 : decide ((k0 : Int) < ((list.length : Nat) : Int)) = true := by simp; omega
      replace H := cnt_succ H
      unfold l0 at H
      replace H := idx_hid H
      obtain ⟨nt_5, yt_5, et_5, lt_5, gt_5, H⟩ := H
      obtain rfl : k0 = nt_5 := by omega
      clear et_5
      obtain ⟨t_5_zone, t_5_grams, t_5_from_, t_5_until_, t_5_cents⟩ := yt_5
      replace H := unRate_hid H
      obtain ⟨ab_t_5, ao_t_5, zt_5, At_5, z_t_5, ct_5_0, ct_5_1, ct_5_2, ct_5_3, ct_5_4⟩ := Go.Proofs.Ytkinlkmmelkdnaa.ORate.at_ M0.out lt_5
      obtain rfl := Option.some.inj (gt_5.out.symm.trans z_t_5)
      subst At_5
      have ltt_5 := cell_lt ct_5_0
      replace ct_5_0 := cell_below HBwr0.out ct_5_0
      replace ct_5_1 := cell_below HBwr0.out ct_5_1
      replace ct_5_2 := cell_below HBwr0.out ct_5_2
      replace ct_5_3 := cell_below HBwr0.out ct_5_3
      replace ct_5_4 := cell_below HBwr0.out ct_5_4
      clear z_t_5
      have b0t_5 : (0 : Int) ≤ (k0 : Int) := by omega
      have b1t_5 : (k0 : Int) < ((list.length : Nat) : Int) := by omega
      have b2t_5 : ((k0 : Int)).toNat = k0 := by omega
      obtain ⟨w_r_7, hw_r_7⟩ : ∃ x, wr0.alloc (.cells #[.int .i64 t_5_zone, .int .i64 t_5_grams, .int .i64 t_5_from_, .int .i64 t_5_until_, .int .i64 t_5_cents] 25) = x := ⟨_, rfl⟩
      have bw_r_7 : Below wr0.heap.size wr0 w_r_7 := by rw [← hw_r_7]; exact (Below.refl _ _).alloc (Nat.le_refl _) _
      have HBw_r_7 := Lib.hid (Below.step HBwr0.out bw_r_7)
      have ct_5_0__150 := cell_below bw_r_7 ct_5_0
      have ct_5_1__151 := cell_below bw_r_7 ct_5_1
      have ct_5_2__152 := cell_below bw_r_7 ct_5_2
      have ct_5_3__153 := cell_below bw_r_7 ct_5_3
      have ct_5_4__154 := cell_below bw_r_7 ct_5_4
      clear bw_r_7
      have kr_7_0 : w_r_7.cell? ⟨wr0.heap.size, 0, none⟩ = some (.int .i64 t_5_zone) := by rw [← hw_r_7]; exact box_new _ _ _ 0 _ rfl
      have kr_7_1 : w_r_7.cell? ⟨wr0.heap.size, 1, none⟩ = some (.int .i64 t_5_grams) := by rw [← hw_r_7]; exact box_new _ _ _ 1 _ rfl
      have kr_7_2 : w_r_7.cell? ⟨wr0.heap.size, 2, none⟩ = some (.int .i64 t_5_from_) := by rw [← hw_r_7]; exact box_new _ _ _ 2 _ rfl
      have kr_7_3 : w_r_7.cell? ⟨wr0.heap.size, 3, none⟩ = some (.int .i64 t_5_until_) := by rw [← hw_r_7]; exact box_new _ _ _ 3 _ rfl
      have kr_7_4 : w_r_7.cell? ⟨wr0.heap.size, 4, none⟩ = some (.int .i64 t_5_cents) := by rw [← hw_r_7]; exact box_new _ _ _ 4 _ rfl
      replace H := let_hid H
      obtain ⟨t_12, ht_12, H⟩ := H
      replace H := join_hid H
      cases t_12 with
      | false =>
        replace H := ite_f H
        replace H := app_hid H
        replace H := join_hid H
        replace H := ite_f H
        replace H := app_hid H
        replace H := ite_f H
        replace H := app_hid H
        go_wp2_with fail
        clear ct_5_0 ct_5_1 ct_5_2 ct_5_3 ct_5_4
        go_roundg m0
        case measure => omega
        case rel => exact ⟨k0 + 1, by omega, by go_num, H, HBw_r_7⟩
      | true =>
        replace H := ite_t H
        replace H := let_hid H
        obtain ⟨t_17, ht_17, H⟩ := H
        replace H := app_hid H
        replace H := join_hid H
        cases t_17 with
        | false =>
          replace H := ite_f H
          replace H := app_hid H
          replace H := ite_f H
          replace H := app_hid H
          go_wp2_with fail
          clear ct_5_0 ct_5_1 ct_5_2 ct_5_3 ct_5_4
          go_roundg m0
          case measure => omega
          case rel => exact ⟨k0 + 1, by omega, by go_num, H, HBw_r_7⟩
        | true =>
          replace H := ite_t H
          replace H := bind_hid H
          obtain ⟨t_25, qt_25, H⟩ := H
          go_wp2_with fail
          clear ct_5_0 ct_5_1 ct_5_2 ct_5_3 ct_5_4
          go_at_call 86
          refine (Go.Proofs.Ytkinlkmmelkdnaa.GiWithin.C (day) (t_5_from_) (t_5_until_)  _    qt_25).mono ?_
          rintro e_t_25 wt_25 ⟨rfl, bt_25⟩
          have HBwt_25 := Lib.hid (Below.step HBw_r_7.out bt_25)
          replace ct_5_0__150 := cell_below bt_25 ct_5_0__150
          replace ct_5_1__151 := cell_below bt_25 ct_5_1__151
          replace ct_5_2__152 := cell_below bt_25 ct_5_2__152
          replace ct_5_3__153 := cell_below bt_25 ct_5_3__153
          replace ct_5_4__154 := cell_below bt_25 ct_5_4__154
          replace kr_7_0 := cell_below bt_25 kr_7_0
          replace kr_7_1 := cell_below bt_25 kr_7_1
          replace kr_7_2 := cell_below bt_25 kr_7_2
          replace kr_7_3 := cell_below bt_25 kr_7_3
          replace kr_7_4 := cell_below bt_25 kr_7_4
          clear bt_25
          replace H := app_hid H
          cases t_25 with
          | false =>
            replace H := ite_f H
            replace H := app_hid H
            go_wp2_with fail
            go_roundg m0
            case measure => omega
            case rel => exact ⟨k0 + 1, by omega, by go_num, H, HBwt_25⟩
          | true =>
            replace H := ite_t H
            obtain rfl := ret_hid H
            go_wp2_with fail
            go_ret
            exact ⟨rfl, HBwt_25.out⟩
end Go.Proofs.Ytkinlkmmelkdnaa.GiRateOn

/- loop.example/g01062/impl.spansOf as a plain function, and the contract of the program's: where the plain one has an answer, the program has it. Conditions: slices read as lists. -/
namespace Go.Proofs.Ytkinlkmmelkdnaa.GiSpansOf
set_option linter.unusedVariables false
set_option linter.unusedSimpArgs false
open Go.RowKit
open Go.Proofs.Ytkinlkmmelkdnaa.Rowed Go.Proofs.Ytkinlkmmelkdnaa.Turn Go.Proofs.Ytkinlkmmelkdnaa.Aid Go.Proofs.Ytkinlkmmelkdnaa.GoP Go.Proofs.Ytkinlkmmelkdnaa.GoM

def l0 (list : (List Go.Proofs.Ytkinlkmmelkdnaa.PRate.Rate)) (zone : Int) (grams : Int) (t_4 : (List Int)) (k0 : Nat) (s : (List Go.Proofs.Ytkinlkmmelkdnaa.PIntA3.IntA3)) (nx0 bk0 : (List Go.Proofs.Ytkinlkmmelkdnaa.PIntA3.IntA3) → Option ((List Go.Proofs.Ytkinlkmmelkdnaa.PIntA3.IntA3))) : Option ((List Go.Proofs.Ytkinlkmmelkdnaa.PIntA3.IntA3)) :=
  letK s fun spans_7l0 =>
  Option.bind (idx t_4 (k0 : Int)) fun (yt_11 : Int) =>
  Option.bind (Go.Proofs.Ytkinlkmmelkdnaa.GiRateOn.P list yt_11 zone grams) fun (t_19 : Int) =>
  letK (t_19 == 0) fun (t_22 : Bool) =>
  iteK t_22
  (appK nx0 (spans_7l0))
  (letK (IntKind.i64.wrap ((k0 : Int) + 1)) fun (t_25 : Int) =>
  Option.bind (idx t_4 t_25) fun (yt_26 : Int) =>
  letK (IntKind.i64.wrap (yt_26 - 1)) fun (t_28 : Int) =>
  letK (IntKind.i64.wrap ((spans_7l0.length : Int) - 1)) fun (t_32 : Int) =>
  letK (decide (0 ≤ t_32)) fun (t_35 : Bool) =>
  joinK (fun (t_45 : Bool) =>
  joinK (fun (t_54 : Bool) =>
  iteK t_54
  (Option.bind (idx spans_7l0 t_32) fun (yt_58 : Go.Proofs.Ytkinlkmmelkdnaa.PIntA3.IntA3) =>
  unIntA3 yt_58 fun (t_58_x0 : Int) (t_58_x1 : Int) (t_58_x2 : Int) =>
  letK (spans_7l0.set (t_32).toNat (Go.Proofs.Ytkinlkmmelkdnaa.PIntA3.IntA3.mk t_58_x0 t_28 t_58_x2)) fun (l60_60 : (List Go.Proofs.Ytkinlkmmelkdnaa.PIntA3.IntA3)) =>
  appK nx0 (l60_60))
  (guardK (spans_7l0.length ≤ 1099511627776) <|
  letK (spans_7l0 ++ [(Go.Proofs.Ytkinlkmmelkdnaa.PIntA3.IntA3.mk yt_11 t_28 t_19)]) fun (t_67 : (List Go.Proofs.Ytkinlkmmelkdnaa.PIntA3.IntA3)) =>
  appK nx0 (t_67))) fun jt_54 => iteK t_45 (Option.bind (idx spans_7l0 t_32) fun (yt_49 : Go.Proofs.Ytkinlkmmelkdnaa.PIntA3.IntA3) =>
  unIntA3 yt_49 fun (t_49_x0 : Int) (t_49_x1 : Int) (t_49_x2 : Int) =>
  letK (t_49_x2 == t_19) fun (t_53 : Bool) =>
  appK jt_54 t_53) (appK jt_54 false)) fun jt_45 => iteK t_35 (Option.bind (idx spans_7l0 t_32) fun (yt_39 : Go.Proofs.Ytkinlkmmelkdnaa.PIntA3.IntA3) =>
  unIntA3 yt_39 fun (t_39_x0 : Int) (t_39_x1 : Int) (t_39_x2 : Int) =>
  letK (IntKind.i64.wrap (yt_11 - 1)) fun (t_43 : Int) =>
  letK (t_39_x1 == t_43) fun (t_44 : Bool) =>
  appK jt_45 t_44) (appK jt_45 false))

def e0  (s : (List Go.Proofs.Ytkinlkmmelkdnaa.PIntA3.IntA3)) : Option ((List Go.Proofs.Ytkinlkmmelkdnaa.PIntA3.IntA3)) :=
  letK s fun spans_7l0 =>
  some spans_7l0

def P (list : (List Go.Proofs.Ytkinlkmmelkdnaa.PRate.Rate)) (zone : Int) (grams : Int) : Option ((List Go.Proofs.Ytkinlkmmelkdnaa.PIntA3.IntA3)) :=
  Option.bind (Go.Proofs.Ytkinlkmmelkdnaa.GiTurningDays.P list) fun (t_4 : (List Int)) =>
  cntK (l0 list zone grams t_4) (t_4.length) 0 (([] : List Go.Proofs.Ytkinlkmmelkdnaa.PIntA3.IntA3)) (e0 )

set_option maxRecDepth 100000 in
set_option maxHeartbeats 2000000 in
theorem C (list : (List Go.Proofs.Ytkinlkmmelkdnaa.PRate.Rate)) (zone : Int) (grams : Int) (A0 : Option Addr) (c0 : Nat)  (w : World) (M0 : Hid (Cells w 5 A0 list.length (Go.Proofs.Ytkinlkmmelkdnaa.PRate.flat list))) (N0 : Hid (list.length ≤ 9223372036854775807))  {r : (List Go.Proofs.Ytkinlkmmelkdnaa.PIntA3.IntA3)} (H : Hid (P list zone grams = some r)) :
    Calls Try.prog 84 #[.slice A0 list.length c0, .int .i64 zone, .int .i64 grams] w (fun e w' => ∃ A_r c_r, e = .returned (.slice A_r r.length c_r) ∧ w'.ownsRow w.heap.size 90 3 (.slice A_r r.length c_r) r.length (Go.Proofs.Ytkinlkmmelkdnaa.PIntA3.flat r) ∧ Below w.heap.size w w') := by
  have HB := Lib.hid (Below.refl w.heap.size w)
  unfold P at H
  have N0o := N0.out
  obtain ⟨i0_90, hi_90, hz0_90, hz1_90, hz2_90⟩ := Aid.info_parts (P := Try.prog) (T := 90) (z := .agg #[.int .i64 0, .int .i64 0, .int .i64 0]) (s := 3) (b := 24) (by kernel_rfl)
  go_enter Try.func84, Try.ntmps84
  obtain ⟨w_t_1, hw_t_1⟩ : ∃ x, w.alloc (.cells #[] 90) = x := ⟨_, rfl⟩
  have bw_t_1 : Below w.heap.size w w_t_1 := by rw [← hw_t_1]; exact (Below.refl _ _).alloc (Nat.le_refl _) _
  have Ot_1 : Hid (w_t_1.ownsRow w.heap.size 90 3 (.slice (some ⟨w.heap.size, 0, none⟩) 0 0) 0 []) := Lib.hid (by rw [← hw_t_1]; exact own_empty HB.out.size)
  have HBw_t_1 := Lib.hid (Below.step HB.out bw_t_1)
  clear bw_t_1
  replace H := bind_hid H
  obtain ⟨t_4, qt_4, H⟩ := H
  go_wp2_with fail
  go_at_call 129
  refine (Go.Proofs.Ytkinlkmmelkdnaa.GiTurningDays.C (list) A0 c0 _   (Lib.hid (Cells.below M0.out HBw_t_1.out)) N0 qt_4).mono ?_
  rintro e_t_4 wt_4 ⟨At_4, ct_4, rfl, ot_4, bt_4⟩
  have Dt_4_t_1 := Lib.hid (apart_call ot_4 Ot_1.out)
  have Ot_4 := Lib.hid (own_lower ot_4 HBw_t_1.out.size)
  clear ot_4
  have HBwt_4 := Lib.hid (Below.step HBw_t_1.out bt_4)
  replace Ot_1 := Lib.hid (own_below Ot_1.out bt_4)
  clear bt_4
  have hb_0 : t_4.length ≤ 9223372036854775807 := own_max Ot_4.out
  go_wp2_with fail
  go_loopg [19, 7] (t_4.length) (fun m_ v19_ v7_ wr => ∃ (k0 : Nat) (spans_7l0 : (List Go.Proofs.Ytkinlkmmelkdnaa.PIntA3.IntA3)) (Aspans_7l0 : Option Addr) (cspans_7l0 : Nat), k0 + m_ = t_4.length ∧ v19_ = .int .i64 (k0 : Int) ∧ v7_ = .slice Aspans_7l0 spans_7l0.length cspans_7l0 ∧ Hid (cntK (l0 list zone grams t_4) m_ k0 (spans_7l0) (e0 ) = some r) ∧ Hid (Below w.heap.size w wr) ∧ Hid (wr.ownsRow w.heap.size 90 3 (.slice Aspans_7l0 spans_7l0.length cspans_7l0) spans_7l0.length (Go.Proofs.Ytkinlkmmelkdnaa.PIntA3.flat spans_7l0)) ∧ Hid (wr.ownsRow w.heap.size 3 1 (.slice At_4 t_4.length ct_4) t_4.length (Go.Proofs.Ytkinlkmmelkdnaa.HelpInt.iv t_4)) ∧ Hid (Apart Aspans_7l0 At_4))
  case atStart => exact ⟨0, _, _, _, by omega, rfl, rfl, H, HBwt_4, Ot_1, Ot_4, Lib.hid (Apart.symm Dt_4_t_1.out)⟩
  case round =>
    obtain ⟨k0, spans_7l0, Aspans_7l0, cspans_7l0, hkm0, rfl, rfl, H, HBwr0, Ospans_7l0, Ot_4, Dspans_7l0_t_4⟩ := hrel
    rename World => wr0
    cases gk with
    | zero =>
      obtain rfl : k0 = t_4.length := by omega
      have hc0 : decide (((t_4.length : Nat) : Int) < ((t_4.length : Nat) : Int)) = false := by simp
      replace H := cnt_zero H
      unfold e0 at H
      replace H := let_hid H
      obtain ⟨_, rfl, H⟩ := H
      obtain rfl := ret_hid H
      go_wp2_with fail
      go_ret
      exact ⟨Aspans_7l0, cspans_7l0, rfl, Ospans_7l0.out, HBwr0.out⟩
    | succ m0 =>
      have hlt0 : k0 < t_4.length := by omega
      have hc0 : decide ((k0 : Int) < ((t_4.length : Nat) : Int)) = true := by simp; omega
      replace H := cnt_succ H
      unfold l0 at H
      replace H := let_hid H
      obtain ⟨_, rfl, H⟩ := H
      replace H := idx_hid H
      obtain ⟨nt_11, yt_11, et_11, lt_11, gt_11, H⟩ := H
      obtain rfl : k0 = nt_11 := by omega
      clear et_11
      obtain ⟨qt_11, Qt_11⟩ := own_some Ot_4.out (by omega)
      subst Qt_11
      obtain ⟨ab_t_11, ao_t_11, zt_11, At_11, z_t_11, ct_11_0⟩ := Go.Proofs.Ytkinlkmmelkdnaa.HelpInt.Ints.at_ (own_cells Ot_4.out) (k := k0) (by omega)
      obtain rfl := Option.some.inj (gt_11.out.symm.trans z_t_11)
      simp only [Option.some.injEq, Addr.mk.injEq] at At_11
      obtain ⟨rfl, rfl, _⟩ := At_11
      clear z_t_11
      simp only [Nat.zero_add] at ct_11_0
      have b0t_11 : (0 : Int) ≤ (k0 : Int) := by omega
      have b1t_11 : (k0 : Int) < ((t_4.length : Nat) : Int) := by omega
      have b2t_11 : ((k0 : Int)).toNat = k0 := by omega
      replace H := bind_hid H
      obtain ⟨t_19, qt_19, H⟩ := H
      go_wp2_with fail
      go_at_call 83
      refine (Go.Proofs.Ytkinlkmmelkdnaa.GiRateOn.C (list) (yt_11) (zone) (grams) A0 c0 _   (Lib.hid (Cells.below M0.out HBwr0.out)) N0 qt_19).mono ?_
      rintro e_t_19 wt_19 ⟨rfl, bt_19⟩
      have HBwt_19 := Lib.hid (Below.step HBwr0.out bt_19)
      replace ct_11_0 := cell_below bt_19 ct_11_0
      replace Ot_4 := Lib.hid (own_below Ot_4.out bt_19)
      replace Ospans_7l0 := Lib.hid (own_below Ospans_7l0.out bt_19)
      clear bt_19
      replace H := let_hid H
      obtain ⟨t_22, ht_22, H⟩ := H
      cases t_22 with
      | false =>
        replace H := ite_f H
        replace H := let_hid H
        obtain ⟨t_25, ht_25, H⟩ := H
        replace H := idx_hid H
        obtain ⟨nt_26, yt_26, et_26, lt_26, gt_26, H⟩ := H
        subst et_26
        obtain ⟨ab_t_26, ao_t_26, zt_26, At_26, z_t_26, ct_26_0⟩ := Go.Proofs.Ytkinlkmmelkdnaa.HelpInt.Ints.at_ (own_cells Ot_4.out) (k := nt_26) (by omega)
        obtain rfl := Option.some.inj (gt_26.out.symm.trans z_t_26)
        simp only [Option.some.injEq, Addr.mk.injEq] at At_26
        obtain ⟨rfl, rfl, _⟩ := At_26
        clear z_t_26
        simp only [Nat.zero_add] at ct_26_0
        have b0t_26 : (0 : Int) ≤ (nt_26 : Int) := by omega
        have b1t_26 : (nt_26 : Int) < ((t_4.length : Nat) : Int) := by omega
        have b2t_26 : ((nt_26 : Int)).toNat = nt_26 := by omega
        replace H := let_hid H
        obtain ⟨t_28, ht_28, H⟩ := H
        replace H := let_hid H
        obtain ⟨t_32, ht_32, H⟩ := H
        try have hv_t_32 : (spans_7l0.length : Int) - 1 = t_32 := by rw [← ht_32]; exact (IntWalk.i64_in _ (by omega)).symm
        try have hv2_t_32 : IntKind.i64.wrap t_32 = t_32 := by rw [← hv_t_32]; exact IntWalk.i64_in _ (by omega)
        replace H := let_hid H
        obtain ⟨t_35, ht_35, H⟩ := H
        replace H := join_hid H
        cases t_35 with
        | false =>
          replace H := ite_f H
          replace H := app_hid H
          replace H := join_hid H
          replace H := ite_f H
          replace H := app_hid H
          replace H := ite_f H
          obtain ⟨w_t_66, hw_t_66⟩ : ∃ x, wt_19.alloc (.cells #[.int .i64 yt_11, .int .i64 t_28, .int .i64 t_19] 90) = x := ⟨_, rfl⟩
          have bw_t_66 : Below wt_19.heap.size wt_19 w_t_66 := by rw [← hw_t_66]; exact (Below.refl _ _).alloc (Nat.le_refl _) _
          have HBw_t_66 := Lib.hid (Below.step HBwt_19.out bw_t_66)
          have ct_11_0__170 := cell_below bw_t_66 ct_11_0
          have ct_26_0__171 := cell_below bw_t_66 ct_26_0
          replace Ot_4 := Lib.hid (own_below Ot_4.out bw_t_66)
          replace Ospans_7l0 := Lib.hid (own_below Ospans_7l0.out bw_t_66)
          clear bw_t_66
          replace H := guard_hid H
          obtain ⟨hlt_67, H⟩ := H
          replace H := let_hid H
          obtain ⟨t_67, ht_67, H⟩ := H
          have hht_67 := Lib.hid ht_67
          clear ht_67
          have hst_67 := HBw_t_66.out.size
          go_wp2_with (at_builtin; refine wpList_append_own_at _ rfl _ _ 38 rfl w.heap.size 90 i0_90 (.agg #[.int .i64 0, .int .i64 0, .int .i64 0]) 3 24 Try.underlying38 hi_90 hz0_90 hz1_90 hz2_90 rfl (by decide) _ _ _ rfl Ospans_7l0.out ⟨wt_19.heap.size, 0, none⟩ 1 1 [.int .i64 yt_11, .int .i64 t_28, .int .i64 t_19] rfl rfl (news_new hw_t_66) (one_cells rfl) (by unfold maxLen; omega) (by omega) hst_67 ?_; intro vt_67 wt_67 ot_67 gt_67 zt_67 yt_67; clear zt_67; obtain ⟨qt_67, ct_67, rfl, pt_67⟩ := own_push hht_67.out (Go.Proofs.Ytkinlkmmelkdnaa.PIntA3.flat_snoc _ _) rfl ot_67; have Pt_67 := Lib.hid pt_67; have Yt_67 := Lib.hid yt_67; have Gt_67 := Lib.hid gt_67; clear ot_67 gt_67 pt_67 yt_67; refine stop_in ?_)
          refine stop_out ?_
          have HBwt_67 := Lib.hid (HBw_t_66.out.grown Gt_67.out hst_67 (fun q hq => (Ospans_7l0.out.lt q hq).1))
          clear hst_67
          have Dt_67_t_4 : Hid (Apart (some ⟨qt_67, 0, none⟩) _) := Lib.hid (apart_app Dspans_7l0_t_4.out (fun a_ ha_ => (own_lt Ot_4.out a_ ha_).2) Yt_67.out)
          replace ct_11_0__170 := cell_other ct_11_0__170 Gt_67.out Dspans_7l0_t_4.out
          replace ct_26_0__171 := cell_other ct_26_0__171 Gt_67.out Dspans_7l0_t_4.out
          replace Ot_4 := Lib.hid (own_other Ot_4.out Gt_67.out Dspans_7l0_t_4.out)
          clear ct_11_0 ct_26_0
          clear Ospans_7l0 Yt_67 Gt_67
          replace H := app_hid H
          go_wp2_with fail
          have hnx0_ : (nt_26 : Int) ≤ (k0 : Int) + 1 ∧ (k0 : Int) + 1 ≤ (nt_26 : Int) := by rw [← ht_25, IntWalk.i64_in _ (by omega)]; omega
          go_roundg m0
          case measure => omega
          case rel => exact ⟨k0 + 1, _, _, _, by omega, by go_num, rfl, H, HBwt_67, Pt_67, Ot_4, Lib.hid Dt_67_t_4.out⟩
        | true =>
          replace H := ite_t H
          replace H := idx_hid H
          obtain ⟨nt_39, yt_39, et_39, lt_39, gt_39, H⟩ := H
          subst et_39
          have nc_172 : 0 ≤ nt_39 := by have := of_decide_eq_true ht_35; omega
          obtain ⟨t_39_x0, t_39_x1, t_39_x2⟩ := yt_39
          replace H := unIntA3_hid H
          obtain ⟨qt_39, Qt_39⟩ := own_some Ospans_7l0.out (by omega)
          subst Qt_39
          obtain ⟨ab_t_39, ao_t_39, zt_39, At_39, z_t_39, ct_39_0, ct_39_1, ct_39_2⟩ := Go.Proofs.Ytkinlkmmelkdnaa.OIntA3.at_ (own_cells Ospans_7l0.out) (k := nt_39) (by omega)
          obtain rfl := Option.some.inj (gt_39.out.symm.trans z_t_39)
          simp only [Option.some.injEq, Addr.mk.injEq] at At_39
          obtain ⟨rfl, rfl, _⟩ := At_39
          clear z_t_39
          simp only [Nat.zero_add] at ct_39_0 ct_39_1 ct_39_2
          have b0t_39 : (0 : Int) ≤ (nt_39 : Int) := by omega
          have b1t_39 : (nt_39 : Int) < ((spans_7l0.length : Nat) : Int) := by omega
          have b2t_39 : ((nt_39 : Int)).toNat = nt_39 := by omega
          replace H := let_hid H
          obtain ⟨t_43, ht_43, H⟩ := H
          replace H := let_hid H
          obtain ⟨t_44, ht_44, H⟩ := H
          replace H := app_hid H
          replace H := join_hid H
          cases t_44 with
          | false =>
            replace H := ite_f H
            replace H := app_hid H
            replace H := ite_f H
            obtain ⟨w_t_66, hw_t_66⟩ : ∃ x, wt_19.alloc (.cells #[.int .i64 yt_11, .int .i64 t_28, .int .i64 t_19] 90) = x := ⟨_, rfl⟩
            have bw_t_66 : Below wt_19.heap.size wt_19 w_t_66 := by rw [← hw_t_66]; exact (Below.refl _ _).alloc (Nat.le_refl _) _
            have HBw_t_66 := Lib.hid (Below.step HBwt_19.out bw_t_66)
            have ct_11_0__173 := cell_below bw_t_66 ct_11_0
            have ct_26_0__174 := cell_below bw_t_66 ct_26_0
            have ct_39_0__175 := cell_below bw_t_66 ct_39_0
            have ct_39_1__176 := cell_below bw_t_66 ct_39_1
            have ct_39_2__177 := cell_below bw_t_66 ct_39_2
            replace Ot_4 := Lib.hid (own_below Ot_4.out bw_t_66)
            replace Ospans_7l0 := Lib.hid (own_below Ospans_7l0.out bw_t_66)
            clear bw_t_66
            replace H := guard_hid H
            obtain ⟨hlt_67, H⟩ := H
            replace H := let_hid H
            obtain ⟨t_67, ht_67, H⟩ := H
            have hht_67 := Lib.hid ht_67
            clear ht_67
            have hst_67 := HBw_t_66.out.size
            go_wp2_with (at_builtin; refine wpList_append_own_at _ rfl _ _ 38 rfl w.heap.size 90 i0_90 (.agg #[.int .i64 0, .int .i64 0, .int .i64 0]) 3 24 Try.underlying38 hi_90 hz0_90 hz1_90 hz2_90 rfl (by decide) _ _ _ rfl Ospans_7l0.out ⟨wt_19.heap.size, 0, none⟩ 1 1 [.int .i64 yt_11, .int .i64 t_28, .int .i64 t_19] rfl rfl (news_new hw_t_66) (one_cells rfl) (by unfold maxLen; omega) (by omega) hst_67 ?_; intro vt_67 wt_67 ot_67 gt_67 zt_67 yt_67; clear zt_67; obtain ⟨qt_67, ct_67, rfl, pt_67⟩ := own_push hht_67.out (Go.Proofs.Ytkinlkmmelkdnaa.PIntA3.flat_snoc _ _) rfl ot_67; have Pt_67 := Lib.hid pt_67; have Yt_67 := Lib.hid yt_67; have Gt_67 := Lib.hid gt_67; clear ot_67 gt_67 pt_67 yt_67; refine stop_in ?_)
            refine stop_out ?_
            have HBwt_67 := Lib.hid (HBw_t_66.out.grown Gt_67.out hst_67 (fun q hq => (Ospans_7l0.out.lt q hq).1))
            clear hst_67
            have Dt_67_t_4 : Hid (Apart (some ⟨qt_67, 0, none⟩) _) := Lib.hid (apart_app Dspans_7l0_t_4.out (fun a_ ha_ => (own_lt Ot_4.out a_ ha_).2) Yt_67.out)
            replace ct_11_0__173 := cell_other ct_11_0__173 Gt_67.out Dspans_7l0_t_4.out
            replace ct_26_0__174 := cell_other ct_26_0__174 Gt_67.out Dspans_7l0_t_4.out
            clear ct_39_0__175 ct_39_1__176 ct_39_2__177
            replace Ot_4 := Lib.hid (own_other Ot_4.out Gt_67.out Dspans_7l0_t_4.out)
            clear ct_11_0 ct_26_0 ct_39_0 ct_39_1 ct_39_2
            clear Ospans_7l0 Yt_67 Gt_67
            replace H := app_hid H
            go_wp2_with fail
            have hnx0_ : (nt_26 : Int) ≤ (k0 : Int) + 1 ∧ (k0 : Int) + 1 ≤ (nt_26 : Int) := by rw [← ht_25, IntWalk.i64_in _ (by omega)]; omega
            go_roundg m0
            case measure => omega
            case rel => exact ⟨k0 + 1, _, _, _, by omega, by go_num, rfl, H, HBwt_67, Pt_67, Ot_4, Lib.hid Dt_67_t_4.out⟩
          | true =>
            replace H := ite_t H
            replace H := idx_hid H
            obtain ⟨nt_49, yt_49, et_49, lt_49, gt_49, H⟩ := H
            obtain rfl : nt_39 = nt_49 := by omega
            clear et_49
            obtain rfl := Option.some.inj (gt_39.out.symm.trans gt_49.out)
            clear gt_49 lt_49
            replace H := unIntA3_hid H
            replace H := let_hid H
            obtain ⟨t_53, ht_53, H⟩ := H
            replace H := app_hid H
            cases t_53 with
            | false =>
              replace H := ite_f H
              obtain ⟨w_t_66, hw_t_66⟩ : ∃ x, wt_19.alloc (.cells #[.int .i64 yt_11, .int .i64 t_28, .int .i64 t_19] 90) = x := ⟨_, rfl⟩
              have bw_t_66 : Below wt_19.heap.size wt_19 w_t_66 := by rw [← hw_t_66]; exact (Below.refl _ _).alloc (Nat.le_refl _) _
              have HBw_t_66 := Lib.hid (Below.step HBwt_19.out bw_t_66)
              have ct_11_0__178 := cell_below bw_t_66 ct_11_0
              have ct_26_0__179 := cell_below bw_t_66 ct_26_0
              have ct_39_0__180 := cell_below bw_t_66 ct_39_0
              have ct_39_1__181 := cell_below bw_t_66 ct_39_1
              have ct_39_2__182 := cell_below bw_t_66 ct_39_2
              replace Ot_4 := Lib.hid (own_below Ot_4.out bw_t_66)
              replace Ospans_7l0 := Lib.hid (own_below Ospans_7l0.out bw_t_66)
              clear bw_t_66
              replace H := guard_hid H
              obtain ⟨hlt_67, H⟩ := H
              replace H := let_hid H
              obtain ⟨t_67, ht_67, H⟩ := H
              have hht_67 := Lib.hid ht_67
              clear ht_67
              have hst_67 := HBw_t_66.out.size
              go_wp2_with (at_builtin; refine wpList_append_own_at _ rfl _ _ 38 rfl w.heap.size 90 i0_90 (.agg #[.int .i64 0, .int .i64 0, .int .i64 0]) 3 24 Try.underlying38 hi_90 hz0_90 hz1_90 hz2_90 rfl (by decide) _ _ _ rfl Ospans_7l0.out ⟨wt_19.heap.size, 0, none⟩ 1 1 [.int .i64 yt_11, .int .i64 t_28, .int .i64 t_19] rfl rfl (news_new hw_t_66) (one_cells rfl) (by unfold maxLen; omega) (by omega) hst_67 ?_; intro vt_67 wt_67 ot_67 gt_67 zt_67 yt_67; clear zt_67; obtain ⟨qt_67, ct_67, rfl, pt_67⟩ := own_push hht_67.out (Go.Proofs.Ytkinlkmmelkdnaa.PIntA3.flat_snoc _ _) rfl ot_67; have Pt_67 := Lib.hid pt_67; have Yt_67 := Lib.hid yt_67; have Gt_67 := Lib.hid gt_67; clear ot_67 gt_67 pt_67 yt_67; refine stop_in ?_)
              refine stop_out ?_
              have HBwt_67 := Lib.hid (HBw_t_66.out.grown Gt_67.out hst_67 (fun q hq => (Ospans_7l0.out.lt q hq).1))
              clear hst_67
              have Dt_67_t_4 : Hid (Apart (some ⟨qt_67, 0, none⟩) _) := Lib.hid (apart_app Dspans_7l0_t_4.out (fun a_ ha_ => (own_lt Ot_4.out a_ ha_).2) Yt_67.out)
              replace ct_11_0__178 := cell_other ct_11_0__178 Gt_67.out Dspans_7l0_t_4.out
              replace ct_26_0__179 := cell_other ct_26_0__179 Gt_67.out Dspans_7l0_t_4.out
              clear ct_39_0__180 ct_39_1__181 ct_39_2__182
              replace Ot_4 := Lib.hid (own_other Ot_4.out Gt_67.out Dspans_7l0_t_4.out)
              clear ct_11_0 ct_26_0 ct_39_0 ct_39_1 ct_39_2
              clear Ospans_7l0 Yt_67 Gt_67
              replace H := app_hid H
              go_wp2_with fail
              have hnx0_ : (nt_26 : Int) ≤ (k0 : Int) + 1 ∧ (k0 : Int) + 1 ≤ (nt_26 : Int) := by rw [← ht_25, IntWalk.i64_in _ (by omega)]; omega
              go_roundg m0
              case measure => omega
              case rel => exact ⟨k0 + 1, _, _, _, by omega, by go_num, rfl, H, HBwt_67, Pt_67, Ot_4, Lib.hid Dt_67_t_4.out⟩
            | true =>
              replace H := ite_t H
              replace H := idx_hid H
              obtain ⟨nt_58, yt_58, et_58, lt_58, gt_58, H⟩ := H
              obtain rfl : nt_39 = nt_58 := by omega
              clear et_58
              obtain rfl := Option.some.inj (gt_39.out.symm.trans gt_58.out)
              clear gt_58 lt_58
              replace H := unIntA3_hid H
              replace H := let_hid H
              obtain ⟨l60_60, hl60_60, H⟩ := H
              try simp only [Int.toNat_natCast] at hl60_60
              obtain ⟨wl60_60, hwl60_60⟩ : ∃ x, (wt_19).setCell ⟨qt_39, nt_39 * 3 + 1, none⟩ (.int .i64 t_28) = x := ⟨_, rfl⟩
              have z0l60_60 := Ospans_7l0.out.frozenAt (nt_39 * 3 + 1)
              have Sl60_60 := Lib.hid (own_stores [(nt_39 * 3 + 1, .int .i64 t_28)] Ospans_7l0.out)
              have nl60_60 : Hid (l60_60.length = spans_7l0.length) := Lib.hid (by rw [← hl60_60, List.length_set])
              have Pl60_60 : Hid (wl60_60.ownsRow w.heap.size 90 3 (.slice (some ⟨qt_39, 0, none⟩) spans_7l0.length cspans_7l0) spans_7l0.length (Go.Proofs.Ytkinlkmmelkdnaa.PIntA3.flat l60_60)) := Lib.hid (by have es_ := set_self gt_39.out; have e0_ := flat_set Go.Proofs.Ytkinlkmmelkdnaa.PIntA3.IntA3.cells 3 (fun _ => rfl) spans_7l0 (nt_39) 1 (Go.Proofs.Ytkinlkmmelkdnaa.PIntA3.IntA3.mk t_39_x0 t_39_x1 t_39_x2) (Go.Proofs.Ytkinlkmmelkdnaa.PIntA3.IntA3.mk t_39_x0 t_28 t_39_x2) (.int .i64 t_28) lt_39 (by decide) rfl; rw [es_] at e0_; have e_ : ([(nt_39 * 3 + 1, .int .i64 t_28)] : List (Nat × Value)).foldl (fun xs p => xs.set p.1 p.2) (Go.Proofs.Ytkinlkmmelkdnaa.PIntA3.flat spans_7l0) = (Go.Proofs.Ytkinlkmmelkdnaa.PIntA3.flat l60_60) := (by rw [← hl60_60]; show _ = List.flatMap Go.Proofs.Ytkinlkmmelkdnaa.PIntA3.IntA3.cells _; first | (rw [← e0_]; first | done | rfl)); rw [← hwl60_60, ← e_]; exact Sl60_60.out.1)
              have Gl60_60 : Hid (wt_19.grownBy wl60_60 (Value.slice (some ⟨qt_39, 0, none⟩) spans_7l0.length cspans_7l0).ownBlock) := Lib.hid (by rw [← hwl60_60]; exact Sl60_60.out.2)
              have HBwl60_60 := Lib.hid (HBwt_19.out.grown Gl60_60.out HBwt_19.out.size (fun q hq => (Ospans_7l0.out.lt q hq).1))
              have hhl60_60 := Lib.hid hl60_60
              clear hl60_60 Sl60_60
              have ct_11_0__183 := cell_other ct_11_0 Gl60_60.out Dspans_7l0_t_4.out
              have ct_26_0__184 := cell_other ct_26_0 Gl60_60.out Dspans_7l0_t_4.out
              replace Ot_4 := Lib.hid (own_other Ot_4.out Gl60_60.out Dspans_7l0_t_4.out)
              clear Ospans_7l0 Gl60_60
              replace H := app_hid H
              go_wp2_with fail
              clear z0l60_60 ct_11_0 ct_26_0 ct_39_0 ct_39_1 ct_39_2
              have hc_ := nl60_60.out
              have hv_ : (Value.slice (some ⟨qt_39, 0, none⟩) spans_7l0.length cspans_7l0 : Value) = Value.slice (some ⟨qt_39, 0, none⟩) l60_60.length cspans_7l0 := by rw [hc_]
              try rw [hv_]
              replace Pl60_60 := Lib.hid (own_len hc_ Pl60_60.out)
              clear hc_ hv_
              go_wp2_with fail
              have hnx0_ : (nt_26 : Int) ≤ (k0 : Int) + 1 ∧ (k0 : Int) + 1 ≤ (nt_26 : Int) := by rw [← ht_25, IntWalk.i64_in _ (by omega)]; omega
              go_roundg m0
              case measure => omega
              case rel => exact ⟨k0 + 1, _, _, _, by omega, by go_num, rfl, H, HBwl60_60, Pl60_60, Ot_4, Lib.hid Dspans_7l0_t_4.out⟩
      | true =>
        replace H := ite_t H
        replace H := app_hid H
        go_wp2_with fail
        go_roundg m0
        case measure => omega
        case rel => exact ⟨k0 + 1, _, _, _, by omega, by go_num, rfl, H, HBwt_19, Ospans_7l0, Ot_4, Lib.hid Dspans_7l0_t_4.out⟩
end Go.Proofs.Ytkinlkmmelkdnaa.GiSpansOf

/- loop.example/g01062/impl.FirstWithout as a plain function, and the contract of the program's: where the plain one has an answer, the program has it. Conditions: slices read as lists. -/
namespace Go.Proofs.Ytkinlkmmelkdnaa.GiFirstWithout
set_option linter.unusedVariables false
set_option linter.unusedSimpArgs false
open Go.RowKit
open Go.Proofs.Ytkinlkmmelkdnaa.Rowed Go.Proofs.Ytkinlkmmelkdnaa.Turn Go.Proofs.Ytkinlkmmelkdnaa.Aid Go.Proofs.Ytkinlkmmelkdnaa.GoP Go.Proofs.Ytkinlkmmelkdnaa.GoM

def l0 (t_19 : (List Go.Proofs.Ytkinlkmmelkdnaa.PIntA3.IntA3)) (k0 : Nat) (s : Int) (nx0 bk0 : Int → Option (Int × Bool)) : Option (Int × Bool) :=
  letK s fun day_10l0 =>
  Option.bind (idx t_19 (k0 : Int)) fun (yt_23 : Go.Proofs.Ytkinlkmmelkdnaa.PIntA3.IntA3) =>
  unIntA3 yt_23 fun (t_23_x0 : Int) (t_23_x1 : Int) (t_23_x2 : Int) =>
  Option.bind (Go.Proofs.Ytkinlkmmelkdnaa.GiWithin.P day_10l0 t_23_x0 t_23_x1) fun (t_32 : Bool) =>
  iteK t_32
  (letK (IntKind.i64.wrap (t_23_x1 + 1)) fun (t_35 : Int) =>
  appK nx0 (t_35))
  (appK nx0 (day_10l0))

def e0  (s : Int) : Option (Int × Bool) :=
  letK s fun day_10l0 =>
  Option.bind (Go.Proofs.Ytkinlkmmelkdnaa.GiIsDay.P day_10l0) fun (t_40 : Bool) =>
  letK (!t_40) fun (t_41 : Bool) =>
  iteK t_41
  (some (0, false))
  (some (day_10l0, true))

def P (list : (List Go.Proofs.Ytkinlkmmelkdnaa.PRate.Rate)) (zone : Int) (grams : Int) (from_3 : Int) : Option (Int × Bool) :=
  Option.bind (Go.Proofs.Ytkinlkmmelkdnaa.GiCanSend.P list zone grams) fun (t_5 : Bool) =>
  letK (!t_5) fun (t_6 : Bool) =>
  joinK (fun (t_11 : Bool) =>
  iteK t_11
  (some (0, false))
  (Option.bind (Go.Proofs.Ytkinlkmmelkdnaa.GiSpansOf.P list zone grams) fun (t_19 : (List Go.Proofs.Ytkinlkmmelkdnaa.PIntA3.IntA3)) =>
  cntK (l0 t_19) (t_19.length) 0 (from_3) (e0 ))) fun jt_11 => iteK t_6 (appK jt_11 true) (Option.bind (Go.Proofs.Ytkinlkmmelkdnaa.GiIsDay.P from_3) fun (t_9 : Bool) =>
  letK (!t_9) fun (t_10 : Bool) =>
  appK jt_11 t_10)

set_option maxRecDepth 100000 in
set_option maxHeartbeats 2000000 in
theorem C (list : (List Go.Proofs.Ytkinlkmmelkdnaa.PRate.Rate)) (zone : Int) (grams : Int) (from_3 : Int) (A0 : Option Addr) (c0 : Nat)  (w : World) (M0 : Hid (Cells w 5 A0 list.length (Go.Proofs.Ytkinlkmmelkdnaa.PRate.flat list))) (N0 : Hid (list.length ≤ 9223372036854775807))  {r0 : Int} {r1 : Bool} (H : Hid (P list zone grams from_3 = some (r0, r1))) :
    Calls Try.prog 31 #[.slice A0 list.length c0, .int .i64 zone, .int .i64 grams, .int .i64 from_3] w (Gives (.tuple #[.int .i64 r0, .bool r1]) w) := by
  have HB := Lib.hid (Below.refl w.heap.size w)
  unfold P at H
  have N0o := N0.out
  go_enter Try.func31, Try.ntmps31
  replace H := bind_hid H
  obtain ⟨t_5, qt_5, H⟩ := H
  go_wp2_with fail
  go_at_call 82
  refine (Go.Proofs.Ytkinlkmmelkdnaa.GiCanSend.C (list) (zone) (grams) A0 c0 _   (Lib.hid (Cells.below M0.out HB.out)) N0 qt_5).mono ?_
  rintro e_t_5 wt_5 ⟨rfl, bt_5⟩
  have HBwt_5 := Lib.hid (Below.step HB.out bt_5)
  clear bt_5
  cases t_5 with
  | false =>
    replace H := let_hid H
    obtain ⟨t_6, ht_6, H⟩ := H
    obtain rfl : t_6 = true := ht_6.symm
    replace H := join_hid H
    replace H := ite_t H
    replace H := app_hid H
    replace H := ite_t H
    cases ret_hid H
    go_wp2_with fail
    go_ret2
    exact ⟨rfl, HBwt_5.out⟩
  | true =>
    replace H := let_hid H
    obtain ⟨t_6, ht_6, H⟩ := H
    obtain rfl : t_6 = false := ht_6.symm
    replace H := join_hid H
    replace H := ite_f H
    replace H := bind_hid H
    obtain ⟨t_9, qt_9, H⟩ := H
    go_wp2_with fail
    go_at_call 74
    refine (Go.Proofs.Ytkinlkmmelkdnaa.GiIsDay.C (from_3)  _    qt_9).mono ?_
    rintro e_t_9 wt_9 ⟨rfl, bt_9⟩
    have HBwt_9 := Lib.hid (Below.step HBwt_5.out bt_9)
    clear bt_9
    cases t_9 with
    | false =>
      replace H := let_hid H
      obtain ⟨t_10, ht_10, H⟩ := H
      obtain rfl : t_10 = true := ht_10.symm
      replace H := app_hid H
      replace H := ite_t H
      cases ret_hid H
      go_wp2_with fail
      go_ret2
      exact ⟨rfl, HBwt_9.out⟩
    | true =>
      replace H := let_hid H
      obtain ⟨t_10, ht_10, H⟩ := H
      obtain rfl : t_10 = false := ht_10.symm
      replace H := app_hid H
      replace H := ite_f H
      replace H := bind_hid H
      obtain ⟨t_19, qt_19, H⟩ := H
      go_wp2_with fail
      go_at_call 84
      refine (Go.Proofs.Ytkinlkmmelkdnaa.GiSpansOf.C (list) (zone) (grams) A0 c0 _   (Lib.hid (Cells.below M0.out HBwt_9.out)) N0 qt_19).mono ?_
      rintro e_t_19 wt_19 ⟨At_19, ct_19, rfl, ot_19, bt_19⟩
      have Ot_19 := Lib.hid (own_lower ot_19 HBwt_9.out.size)
      clear ot_19
      have HBwt_19 := Lib.hid (Below.step HBwt_9.out bt_19)
      clear bt_19
      have hb_0 : t_19.length ≤ 9223372036854775807 := own_max Ot_19.out
      go_wp2_with fail
      go_loopg [29, 10] (t_19.length) (fun m_ v29_ v10_ wr => ∃ (k0 : Nat) (day_10l0 : Int), k0 + m_ = t_19.length ∧ v29_ = .int .i64 (k0 : Int) ∧ v10_ = .int .i64 day_10l0 ∧ Hid (cntK (l0 t_19) m_ k0 (day_10l0) (e0 ) = some (r0, r1)) ∧ Hid (Below w.heap.size w wr) ∧ Hid (wr.ownsRow w.heap.size 90 3 (.slice At_19 t_19.length ct_19) t_19.length (Go.Proofs.Ytkinlkmmelkdnaa.PIntA3.flat t_19)))
      case atStart => exact ⟨0, _, by omega, rfl, rfl, H, HBwt_19, Ot_19⟩
      case round =>
        obtain ⟨k0, day_10l0, hkm0, rfl, rfl, H, HBwr0, Ot_19⟩ := hrel
        rename World => wr0
        cases gk with
        | zero =>
          obtain rfl : k0 = t_19.length := by omega
          have hc0 : decide (((t_19.length : Nat) : Int) < ((t_19.length : Nat) : Int)) = false := by simp
          replace H := cnt_zero H
          unfold e0 at H
          replace H := let_hid H
          obtain ⟨_, rfl, H⟩ := H
          replace H := bind_hid H
          obtain ⟨t_40, qt_40, H⟩ := H
          go_wp2_with fail
          go_at_call 74
          refine (Go.Proofs.Ytkinlkmmelkdnaa.GiIsDay.C (day_10l0)  _    qt_40).mono ?_
          rintro e_t_40 wt_40 ⟨rfl, bt_40⟩
          have HBwt_40 := Lib.hid (Below.step HBwr0.out bt_40)
          replace Ot_19 := Lib.hid (own_below Ot_19.out bt_40)
          clear bt_40
          cases t_40 with
          | false =>
            replace H := let_hid H
            obtain ⟨t_41, ht_41, H⟩ := H
            obtain rfl : t_41 = true := ht_41.symm
            replace H := ite_t H
            cases ret_hid H
            go_wp2_with fail
            go_ret2
            exact ⟨rfl, HBwt_40.out⟩
          | true =>
            replace H := let_hid H
            obtain ⟨t_41, ht_41, H⟩ := H
            obtain rfl : t_41 = false := ht_41.symm
            replace H := ite_f H
            cases ret_hid H
            go_wp2_with fail
            go_ret2
            exact ⟨rfl, HBwt_40.out⟩
        | succ m0 =>
          have hlt0 : k0 < t_19.length := by omega
          have hc0 : decide ((k0 : Int) < ((t_19.length : Nat) : Int)) = true := by simp; omega
          replace H := cnt_succ H
          unfold l0 at H
          replace H := let_hid H
          obtain ⟨_, rfl, H⟩ := H
          replace H := idx_hid H
          obtain ⟨nt_23, yt_23, et_23, lt_23, gt_23, H⟩ := H
          obtain rfl : k0 = nt_23 := by omega
          clear et_23
          obtain ⟨t_23_x0, t_23_x1, t_23_x2⟩ := yt_23
          replace H := unIntA3_hid H
          obtain ⟨qt_23, Qt_23⟩ := own_some Ot_19.out (by omega)
          subst Qt_23
          obtain ⟨ab_t_23, ao_t_23, zt_23, At_23, z_t_23, ct_23_0, ct_23_1, ct_23_2⟩ := Go.Proofs.Ytkinlkmmelkdnaa.OIntA3.at_ (own_cells Ot_19.out) (k := k0) (by omega)
          obtain rfl := Option.some.inj (gt_23.out.symm.trans z_t_23)
          simp only [Option.some.injEq, Addr.mk.injEq] at At_23
          obtain ⟨rfl, rfl, _⟩ := At_23
          clear z_t_23
          simp only [Nat.zero_add] at ct_23_0 ct_23_1 ct_23_2
          have b0t_23 : (0 : Int) ≤ (k0 : Int) := by omega
          have b1t_23 : (k0 : Int) < ((t_19.length : Nat) : Int) := by omega
          have b2t_23 : ((k0 : Int)).toNat = k0 := by omega
          obtain ⟨w_span_25, hw_span_25⟩ : ∃ x, wr0.alloc (.cells #[.int .i64 t_23_x0, .int .i64 t_23_x1, .int .i64 t_23_x2] 90) = x := ⟨_, rfl⟩
          have bw_span_25 : Below wr0.heap.size wr0 w_span_25 := by rw [← hw_span_25]; exact (Below.refl _ _).alloc (Nat.le_refl _) _
          have Dspan_25_t_19 := Lib.hid (apart_fresh Ot_19.out)
          have HBw_span_25 := Lib.hid (Below.step HBwr0.out bw_span_25)
          have ct_23_0__193 := cell_below bw_span_25 ct_23_0
          have ct_23_1__194 := cell_below bw_span_25 ct_23_1
          have ct_23_2__195 := cell_below bw_span_25 ct_23_2
          replace Ot_19 := Lib.hid (own_below Ot_19.out bw_span_25)
          clear bw_span_25
          have kspan_25_0 : w_span_25.cell? ⟨wr0.heap.size, 0, none⟩ = some (.int .i64 t_23_x0) := by rw [← hw_span_25]; exact box_new _ _ _ 0 _ rfl
          have kspan_25_1 : w_span_25.cell? ⟨wr0.heap.size, 1, none⟩ = some (.int .i64 t_23_x1) := by rw [← hw_span_25]; exact box_new _ _ _ 1 _ rfl
          have kspan_25_2 : w_span_25.cell? ⟨wr0.heap.size, 2, none⟩ = some (.int .i64 t_23_x2) := by rw [← hw_span_25]; exact box_new _ _ _ 2 _ rfl
          replace H := bind_hid H
          obtain ⟨t_32, qt_32, H⟩ := H
          go_wp2_with fail
          clear ct_23_0 ct_23_1 ct_23_2
          go_at_call 86
          refine (Go.Proofs.Ytkinlkmmelkdnaa.GiWithin.C (day_10l0) (t_23_x0) (t_23_x1)  _    qt_32).mono ?_
          rintro e_t_32 wt_32 ⟨rfl, bt_32⟩
          have HBwt_32 := Lib.hid (Below.step HBw_span_25.out bt_32)
          replace ct_23_0__193 := cell_below bt_32 ct_23_0__193
          replace ct_23_1__194 := cell_below bt_32 ct_23_1__194
          replace ct_23_2__195 := cell_below bt_32 ct_23_2__195
          replace kspan_25_0 := cell_below bt_32 kspan_25_0
          replace kspan_25_1 := cell_below bt_32 kspan_25_1
          replace kspan_25_2 := cell_below bt_32 kspan_25_2
          replace Ot_19 := Lib.hid (own_below Ot_19.out bt_32)
          clear bt_32
          cases t_32 with
          | false =>
            replace H := ite_f H
            replace H := app_hid H
            go_wp2_with fail
            go_roundg m0
            case measure => omega
            case rel => exact ⟨k0 + 1, _, by omega, by go_num, rfl, H, HBwt_32, Ot_19⟩
          | true =>
            replace H := ite_t H
            replace H := let_hid H
            obtain ⟨t_35, ht_35, H⟩ := H
            replace H := app_hid H
            go_wp2_with fail
            go_roundg m0
            case measure => omega
            case rel => exact ⟨k0 + 1, _, by omega, by go_num, rfl, H, HBwt_32, Ot_19⟩
end Go.Proofs.Ytkinlkmmelkdnaa.GiFirstWithout

/- loop.example/g01062/laws.eqRate as a plain function, and the contract of the program's: where the plain one has an answer, the program has it. Conditions: slices read as lists. -/
namespace Go.Proofs.Ytkinlkmmelkdnaa.GlEqRate
set_option linter.unusedVariables false
set_option linter.unusedSimpArgs false
open Go.RowKit
open Go.Proofs.Ytkinlkmmelkdnaa.Rowed Go.Proofs.Ytkinlkmmelkdnaa.Turn Go.Proofs.Ytkinlkmmelkdnaa.Aid Go.Proofs.Ytkinlkmmelkdnaa.GoP Go.Proofs.Ytkinlkmmelkdnaa.GoM

def P (a : Go.Proofs.Ytkinlkmmelkdnaa.PRate.Rate) (b : Go.Proofs.Ytkinlkmmelkdnaa.PRate.Rate) : Option (Bool) :=
  unRate a fun (a_zone : Int) (a_grams : Int) (a_from_ : Int) (a_until_ : Int) (a_cents : Int) =>
  unRate b fun (b_zone : Int) (b_grams : Int) (b_from_ : Int) (b_until_ : Int) (b_cents : Int) =>
  letK (a_zone != b_zone) fun (t_7 : Bool) =>
  iteK t_7
  (some false)
  (letK (a_grams != b_grams) fun (t_13 : Bool) =>
  iteK t_13
  (some false)
  (letK (a_from_ != b_from_) fun (t_19 : Bool) =>
  iteK t_19
  (some false)
  (letK (a_until_ != b_until_) fun (t_25 : Bool) =>
  iteK t_25
  (some false)
  (letK (a_cents != b_cents) fun (t_31 : Bool) =>
  iteK t_31
  (some false)
  (some true)))))

set_option maxRecDepth 100000 in
set_option maxHeartbeats 2000000 in
theorem C (a : Go.Proofs.Ytkinlkmmelkdnaa.PRate.Rate) (b : Go.Proofs.Ytkinlkmmelkdnaa.PRate.Rate)   (w : World)   {r : Bool} (H : Hid (P a b = some r)) :
    Calls Try.prog 77 #[a.val, b.val] w (Gives (.bool r) w) := by
  have HB := Lib.hid (Below.refl w.heap.size w)
  unfold P at H
  obtain ⟨a_zone, a_grams, a_from_, a_until_, a_cents⟩ := a
  replace H := unRate_hid H
  obtain ⟨b_zone, b_grams, b_from_, b_until_, b_cents⟩ := b
  replace H := unRate_hid H
  unfold Go.Proofs.Ytkinlkmmelkdnaa.PRate.Rate.val
  go_enter Try.func77, Try.ntmps77
  obtain ⟨w_a_0, hw_a_0⟩ : ∃ x, w.alloc (.cells #[.int .i64 a_zone, .int .i64 a_grams, .int .i64 a_from_, .int .i64 a_until_, .int .i64 a_cents] 25) = x := ⟨_, rfl⟩
  have bw_a_0 : Below w.heap.size w w_a_0 := by rw [← hw_a_0]; exact (Below.refl _ _).alloc (Nat.le_refl _) _
  have HBw_a_0 := Lib.hid (Below.step HB.out bw_a_0)
  clear bw_a_0
  have ka_0_0 : w_a_0.cell? ⟨w.heap.size, 0, none⟩ = some (.int .i64 a_zone) := by rw [← hw_a_0]; exact box_new _ _ _ 0 _ rfl
  have ka_0_1 : w_a_0.cell? ⟨w.heap.size, 1, none⟩ = some (.int .i64 a_grams) := by rw [← hw_a_0]; exact box_new _ _ _ 1 _ rfl
  have ka_0_2 : w_a_0.cell? ⟨w.heap.size, 2, none⟩ = some (.int .i64 a_from_) := by rw [← hw_a_0]; exact box_new _ _ _ 2 _ rfl
  have ka_0_3 : w_a_0.cell? ⟨w.heap.size, 3, none⟩ = some (.int .i64 a_until_) := by rw [← hw_a_0]; exact box_new _ _ _ 3 _ rfl
  have ka_0_4 : w_a_0.cell? ⟨w.heap.size, 4, none⟩ = some (.int .i64 a_cents) := by rw [← hw_a_0]; exact box_new _ _ _ 4 _ rfl
  obtain ⟨w_b_1, hw_b_1⟩ : ∃ x, w_a_0.alloc (.cells #[.int .i64 b_zone, .int .i64 b_grams, .int .i64 b_from_, .int .i64 b_until_, .int .i64 b_cents] 25) = x := ⟨_, rfl⟩
  have bw_b_1 : Below w_a_0.heap.size w_a_0 w_b_1 := by rw [← hw_b_1]; exact (Below.refl _ _).alloc (Nat.le_refl _) _
  have HBw_b_1 := Lib.hid (Below.step HBw_a_0.out bw_b_1)
  have ka_0_0__155 := cell_below bw_b_1 ka_0_0
  have ka_0_1__156 := cell_below bw_b_1 ka_0_1
  have ka_0_2__157 := cell_below bw_b_1 ka_0_2
  have ka_0_3__158 := cell_below bw_b_1 ka_0_3
  have ka_0_4__159 := cell_below bw_b_1 ka_0_4
  clear bw_b_1
  have kb_1_0 : w_b_1.cell? ⟨w_a_0.heap.size, 0, none⟩ = some (.int .i64 b_zone) := by rw [← hw_b_1]; exact box_new _ _ _ 0 _ rfl
  have kb_1_1 : w_b_1.cell? ⟨w_a_0.heap.size, 1, none⟩ = some (.int .i64 b_grams) := by rw [← hw_b_1]; exact box_new _ _ _ 1 _ rfl
  have kb_1_2 : w_b_1.cell? ⟨w_a_0.heap.size, 2, none⟩ = some (.int .i64 b_from_) := by rw [← hw_b_1]; exact box_new _ _ _ 2 _ rfl
  have kb_1_3 : w_b_1.cell? ⟨w_a_0.heap.size, 3, none⟩ = some (.int .i64 b_until_) := by rw [← hw_b_1]; exact box_new _ _ _ 3 _ rfl
  have kb_1_4 : w_b_1.cell? ⟨w_a_0.heap.size, 4, none⟩ = some (.int .i64 b_cents) := by rw [← hw_b_1]; exact box_new _ _ _ 4 _ rfl
  replace H := let_hid H
  obtain ⟨t_7, ht_7, H⟩ := H
  cases t_7 with
  | false =>
    replace H := ite_f H
    replace H := let_hid H
    obtain ⟨t_13, ht_13, H⟩ := H
    cases t_13 with
    | false =>
      replace H := ite_f H
      replace H := let_hid H
      obtain ⟨t_19, ht_19, H⟩ := H
      cases t_19 with
      | false =>
        replace H := ite_f H
        replace H := let_hid H
        obtain ⟨t_25, ht_25, H⟩ := H
        cases t_25 with
        | false =>
          replace H := ite_f H
          replace H := let_hid H
          obtain ⟨t_31, ht_31, H⟩ := H
          cases t_31 with
          | false =>
            replace H := ite_f H
            obtain rfl := ret_hid H
            go_wp2_with fail
            go_ret
            exact ⟨rfl, HBw_b_1.out⟩
          | true =>
            replace H := ite_t H
            obtain rfl := ret_hid H
            go_wp2_with fail
            go_ret
            exact ⟨rfl, HBw_b_1.out⟩
        | true =>
          replace H := ite_t H
          obtain rfl := ret_hid H
          go_wp2_with fail
          go_ret
          exact ⟨rfl, HBw_b_1.out⟩
      | true =>
        replace H := ite_t H
        obtain rfl := ret_hid H
        go_wp2_with fail
        go_ret
        exact ⟨rfl, HBw_b_1.out⟩
    | true =>
      replace H := ite_t H
      obtain rfl := ret_hid H
      go_wp2_with fail
      go_ret
      exact ⟨rfl, HBw_b_1.out⟩
  | true =>
    replace H := ite_t H
    obtain rfl := ret_hid H
    go_wp2_with fail
    go_ret
    exact ⟨rfl, HBw_b_1.out⟩
end Go.Proofs.Ytkinlkmmelkdnaa.GlEqRate

/- loop.example/g01062/laws.eqRateS as a plain function, and the contract of the program's: where the plain one has an answer, the program has it. Conditions: slices read as lists. -/
namespace Go.Proofs.Ytkinlkmmelkdnaa.GlEqRateS
set_option linter.unusedVariables false
set_option linter.unusedSimpArgs false
open Go.RowKit
open Go.Proofs.Ytkinlkmmelkdnaa.Rowed Go.Proofs.Ytkinlkmmelkdnaa.Turn Go.Proofs.Ytkinlkmmelkdnaa.Aid Go.Proofs.Ytkinlkmmelkdnaa.GoP Go.Proofs.Ytkinlkmmelkdnaa.GoM

def l0 (a : (List Go.Proofs.Ytkinlkmmelkdnaa.PRate.Rate)) (b : (List Go.Proofs.Ytkinlkmmelkdnaa.PRate.Rate)) (k0 : Nat) (s : Unit) (nx0 bk0 : Unit → Option (Bool)) : Option (Bool) :=
  
  Option.bind (idx a (k0 : Int)) fun (yt_14 : Go.Proofs.Ytkinlkmmelkdnaa.PRate.Rate) =>
  unRate yt_14 fun (t_14_zone : Int) (t_14_grams : Int) (t_14_from_ : Int) (t_14_until_ : Int) (t_14_cents : Int) =>
  Option.bind (idx b (k0 : Int)) fun (yt_18 : Go.Proofs.Ytkinlkmmelkdnaa.PRate.Rate) =>
  unRate yt_18 fun (t_18_zone : Int) (t_18_grams : Int) (t_18_from_ : Int) (t_18_until_ : Int) (t_18_cents : Int) =>
  Option.bind (Go.Proofs.Ytkinlkmmelkdnaa.GlEqRate.P (Go.Proofs.Ytkinlkmmelkdnaa.PRate.Rate.mk t_14_zone t_14_grams t_14_from_ t_14_until_ t_14_cents) (Go.Proofs.Ytkinlkmmelkdnaa.PRate.Rate.mk t_18_zone t_18_grams t_18_from_ t_18_until_ t_18_cents)) fun (t_20 : Bool) =>
  letK (!t_20) fun (t_21 : Bool) =>
  iteK t_21
  (some false)
  (appK nx0 ())

def e0  (s : Unit) : Option (Bool) :=
  
  some true

def P (a : (List Go.Proofs.Ytkinlkmmelkdnaa.PRate.Rate)) (b : (List Go.Proofs.Ytkinlkmmelkdnaa.PRate.Rate)) : Option (Bool) :=
  letK ((a.length : Int) != (b.length : Int)) fun (t_5 : Bool) =>
  iteK t_5
  (some false)
  (cntK (l0 a b) (a.length) 0 () (e0 ))

set_option maxRecDepth 100000 in
set_option maxHeartbeats 2000000 in
theorem C (a : (List Go.Proofs.Ytkinlkmmelkdnaa.PRate.Rate)) (b : (List Go.Proofs.Ytkinlkmmelkdnaa.PRate.Rate)) (A0 : Option Addr) (c0 : Nat) (A1 : Option Addr) (c1 : Nat)  (w : World) (M0 : Hid (Cells w 5 A0 a.length (Go.Proofs.Ytkinlkmmelkdnaa.PRate.flat a))) (N0 : Hid (a.length ≤ 9223372036854775807)) (M1 : Hid (Cells w 5 A1 b.length (Go.Proofs.Ytkinlkmmelkdnaa.PRate.flat b))) (N1 : Hid (b.length ≤ 9223372036854775807))  {r : Bool} (H : Hid (P a b = some r)) :
    Calls Try.prog 21 #[.slice A0 a.length c0, .slice A1 b.length c1] w (Gives (.bool r) w) := by
  have HB := Lib.hid (Below.refl w.heap.size w)
  unfold P at H
  have N0o := N0.out
  have N1o := N1.out
  go_enter Try.func21, Try.ntmps21
  replace H := let_hid H
  obtain ⟨t_5, ht_5, H⟩ := H
  cases t_5 with
  | false =>
    have Hht_5 : Hid (a.length = b.length) := Lib.hid (by have := bne_eq_false_iff_eq.1 ht_5; omega)
    have nht_5 : (a.length == b.length) = true := beq_iff_eq.2 Hht_5.out
    replace H := ite_f H
    go_wp2_with fail
    go_loopg [5] (a.length) (fun m_ v5_ wr => ∃ (k0 : Nat) , k0 + m_ = a.length ∧ v5_ = .int .i64 (k0 : Int) ∧ Hid (cntK (l0 a b) m_ k0 () (e0 ) = some r) ∧ Hid (Below w.heap.size w wr))
    case atStart => exact ⟨0, by omega, rfl, H, HB⟩
    case round =>
      obtain ⟨k0, hkm0, rfl, H, HBwr0⟩ := hrel
      rename World => wr0
      cases gk with
      | zero =>
        obtain rfl : k0 = a.length := by omega
        have hc0 : decide (((a.length : Nat) : Int) < ((a.length : Nat) : Int)) = false := by simp
        replace H := cnt_zero H
        unfold e0 at H
        obtain rfl := ret_hid H
        go_wp2_with fail
        go_ret
        exact ⟨rfl, HBwr0.out⟩
      | succ m0 =>
        have hlt0 : k0 < a.length := by omega
        have hc0 : decide ((k0 : Int) < ((a.length : Nat) : Int)) = true := by simp; omega
        replace H := cnt_succ H
        unfold l0 at H
        go_wp2_with fail
        replace H := idx_hid H
        obtain ⟨nt_14, yt_14, et_14, lt_14, gt_14, H⟩ := H
        obtain rfl : k0 = nt_14 := by omega
        clear et_14
        obtain ⟨t_14_zone, t_14_grams, t_14_from_, t_14_until_, t_14_cents⟩ := yt_14
        replace H := unRate_hid H
        obtain ⟨ab_t_14, ao_t_14, zt_14, At_14, z_t_14, ct_14_0, ct_14_1, ct_14_2, ct_14_3, ct_14_4⟩ := Go.Proofs.Ytkinlkmmelkdnaa.ORate.at_ M0.out lt_14
        obtain rfl := Option.some.inj (gt_14.out.symm.trans z_t_14)
        subst At_14
        have ltt_14 := cell_lt ct_14_0
        replace ct_14_0 := cell_below HBwr0.out ct_14_0
        replace ct_14_1 := cell_below HBwr0.out ct_14_1
        replace ct_14_2 := cell_below HBwr0.out ct_14_2
        replace ct_14_3 := cell_below HBwr0.out ct_14_3
        replace ct_14_4 := cell_below HBwr0.out ct_14_4
        clear z_t_14
        have b0t_14 : (0 : Int) ≤ (k0 : Int) := by omega
        have b1t_14 : (k0 : Int) < ((a.length : Nat) : Int) := by omega
        have b2t_14 : ((k0 : Int)).toNat = k0 := by omega
        have Hct_14_0 := Lib.hid ct_14_0
        replace ct_14_0 := cell_regrown ct_14_0
        have Hct_14_1 := Lib.hid ct_14_1
        replace ct_14_1 := cell_regrown ct_14_1
        have Hct_14_2 := Lib.hid ct_14_2
        replace ct_14_2 := cell_regrown ct_14_2
        have Hct_14_3 := Lib.hid ct_14_3
        replace ct_14_3 := cell_regrown ct_14_3
        have Hct_14_4 := Lib.hid ct_14_4
        replace ct_14_4 := cell_regrown ct_14_4
        replace H := idx_hid H
        obtain ⟨nt_18, yt_18, et_18, lt_18, gt_18, H⟩ := H
        obtain rfl : k0 = nt_18 := by omega
        clear et_18
        obtain ⟨t_18_zone, t_18_grams, t_18_from_, t_18_until_, t_18_cents⟩ := yt_18
        replace H := unRate_hid H
        obtain ⟨ab_t_18, ao_t_18, zt_18, At_18, z_t_18, ct_18_0, ct_18_1, ct_18_2, ct_18_3, ct_18_4⟩ := Go.Proofs.Ytkinlkmmelkdnaa.ORate.at_ M1.out lt_18
        obtain rfl := Option.some.inj (gt_18.out.symm.trans z_t_18)
        subst At_18
        have ltt_18 := cell_lt ct_18_0
        replace ct_18_0 := cell_below HBwr0.out ct_18_0
        replace ct_18_1 := cell_below HBwr0.out ct_18_1
        replace ct_18_2 := cell_below HBwr0.out ct_18_2
        replace ct_18_3 := cell_below HBwr0.out ct_18_3
        replace ct_18_4 := cell_below HBwr0.out ct_18_4
        clear z_t_18
        have b0t_18 : (0 : Int) ≤ (k0 : Int) := by omega
        have b1t_18 : (k0 : Int) < ((b.length : Nat) : Int) := by omega
        have b2t_18 : ((k0 : Int)).toNat = k0 := by omega
        have Hct_18_0 := Lib.hid ct_18_0
        replace ct_18_0 := cell_regrown ct_18_0
        have Hct_18_1 := Lib.hid ct_18_1
        replace ct_18_1 := cell_regrown ct_18_1
        have Hct_18_2 := Lib.hid ct_18_2
        replace ct_18_2 := cell_regrown ct_18_2
        have Hct_18_3 := Lib.hid ct_18_3
        replace ct_18_3 := cell_regrown ct_18_3
        have Hct_18_4 := Lib.hid ct_18_4
        replace ct_18_4 := cell_regrown ct_18_4
        replace H := bind_hid H
        obtain ⟨t_20, qt_20, H⟩ := H
        have nt_20 : ∀ d os, Calls Try.prog 77 #[.agg #[.int .i64 t_14_zone, .int .i64 t_14_grams, .int .i64 t_14_from_, .int .i64 t_14_until_, .int .i64 t_14_cents], .agg #[.int .i64 t_18_zone, .int .i64 t_18_grams, .int .i64 t_18_from_, .int .i64 t_18_until_, .int .i64 t_18_cents]] (Go.Sort.grow (redrawn wr0 d) os) fun e w'' => e = .returned (.bool t_20) ∧ ∃ p : Regrown, w'' = Go.Sort.grow (redrawn wr0 p.d) p.os := fun d os => Calls.regrown_of (Go.Proofs.Ytkinlkmmelkdnaa.GlEqRate.C ((Go.Proofs.Ytkinlkmmelkdnaa.PRate.Rate.mk t_14_zone t_14_grams t_14_from_ t_14_until_ t_14_cents)) ((Go.Proofs.Ytkinlkmmelkdnaa.PRate.Rate.mk t_18_zone t_18_grams t_18_from_ t_18_until_ t_18_cents))  _    qt_20)
        cases t_20 with
        | false =>
          replace H := let_hid H
          obtain ⟨t_21, ht_21, H⟩ := H
          obtain rfl : t_21 = true := ht_21.symm
          refine wp_region_quiet_below (by kernel_rfl) (by kernel_rfl) ?_
          repeat (go_big_quiet_step (first | (go_at_call 77; exact nt_20 _ _)))
          refine wpQuiet_nil ?_
          intro Y6 hY6
          replace hY6 := below_class hY6
          clear nt_20
          replace ct_14_0 := Hct_14_0.out
          clear Hct_14_0
          replace ct_14_1 := Hct_14_1.out
          clear Hct_14_1
          replace ct_14_2 := Hct_14_2.out
          clear Hct_14_2
          replace ct_14_3 := Hct_14_3.out
          clear Hct_14_3
          replace ct_14_4 := Hct_14_4.out
          clear Hct_14_4
          replace ct_18_0 := Hct_18_0.out
          clear Hct_18_0
          replace ct_18_1 := Hct_18_1.out
          clear Hct_18_1
          replace ct_18_2 := Hct_18_2.out
          clear Hct_18_2
          replace ct_18_3 := Hct_18_3.out
          clear Hct_18_3
          replace ct_18_4 := Hct_18_4.out
          clear Hct_18_4
          have HBY6 := Lib.hid (Below.step HBwr0.out hY6)
          replace ct_14_0 := cell_below hY6 ct_14_0
          replace ct_14_1 := cell_below hY6 ct_14_1
          replace ct_14_2 := cell_below hY6 ct_14_2
          replace ct_14_3 := cell_below hY6 ct_14_3
          replace ct_14_4 := cell_below hY6 ct_14_4
          replace ct_18_0 := cell_below hY6 ct_18_0
          replace ct_18_1 := cell_below hY6 ct_18_1
          replace ct_18_2 := cell_below hY6 ct_18_2
          replace ct_18_3 := cell_below hY6 ct_18_3
          replace ct_18_4 := cell_below hY6 ct_18_4
          clear hY6
          replace H := ite_t H
          obtain rfl := ret_hid H
          go_wp2_with fail
          go_ret
          exact ⟨rfl, HBY6.out⟩
        | true =>
          replace H := let_hid H
          obtain ⟨t_21, ht_21, H⟩ := H
          obtain rfl : t_21 = false := ht_21.symm
          refine wp_region_quiet_below (by kernel_rfl) (by kernel_rfl) ?_
          repeat (go_big_quiet_step (first | (go_at_call 77; exact nt_20 _ _)))
          refine wpQuiet_nil ?_
          intro Y6 hY6
          replace hY6 := below_class hY6
          clear nt_20
          replace ct_14_0 := Hct_14_0.out
          clear Hct_14_0
          replace ct_14_1 := Hct_14_1.out
          clear Hct_14_1
          replace ct_14_2 := Hct_14_2.out
          clear Hct_14_2
          replace ct_14_3 := Hct_14_3.out
          clear Hct_14_3
          replace ct_14_4 := Hct_14_4.out
          clear Hct_14_4
          replace ct_18_0 := Hct_18_0.out
          clear Hct_18_0
          replace ct_18_1 := Hct_18_1.out
          clear Hct_18_1
          replace ct_18_2 := Hct_18_2.out
          clear Hct_18_2
          replace ct_18_3 := Hct_18_3.out
          clear Hct_18_3
          replace ct_18_4 := Hct_18_4.out
          clear Hct_18_4
          have HBY6 := Lib.hid (Below.step HBwr0.out hY6)
          replace ct_14_0 := cell_below hY6 ct_14_0
          replace ct_14_1 := cell_below hY6 ct_14_1
          replace ct_14_2 := cell_below hY6 ct_14_2
          replace ct_14_3 := cell_below hY6 ct_14_3
          replace ct_14_4 := cell_below hY6 ct_14_4
          replace ct_18_0 := cell_below hY6 ct_18_0
          replace ct_18_1 := cell_below hY6 ct_18_1
          replace ct_18_2 := cell_below hY6 ct_18_2
          replace ct_18_3 := cell_below hY6 ct_18_3
          replace ct_18_4 := cell_below hY6 ct_18_4
          clear hY6
          replace H := ite_f H
          replace H := app_hid H
          go_wp2_with fail
          go_roundg m0
          case measure => omega
          case rel => exact ⟨k0 + 1, by omega, by go_num, H, HBY6⟩
  | true =>
    have nht_5 : ¬ (a.length = b.length) := by have := bne_iff_ne.1 ht_5; omega
    replace H := ite_t H
    obtain rfl := ret_hid H
    go_wp2_with fail
    go_ret
    exact ⟨rfl, HB.out⟩
end Go.Proofs.Ytkinlkmmelkdnaa.GlEqRateS

/- loop.example/g01062/laws.FnExactFirstWithout as a plain function, and the contract of the program's: where the plain one has an answer, the program has it. Conditions: slices read as lists. -/
namespace Go.Proofs.Ytkinlkmmelkdnaa.GlFnExactFirstWithout
set_option linter.unusedVariables false
set_option linter.unusedSimpArgs false
open Go.RowKit
open Go.Proofs.Ytkinlkmmelkdnaa.Rowed Go.Proofs.Ytkinlkmmelkdnaa.Turn Go.Proofs.Ytkinlkmmelkdnaa.Aid Go.Proofs.Ytkinlkmmelkdnaa.GoP Go.Proofs.Ytkinlkmmelkdnaa.GoM

def P (fuel : Nat) (aList : (List Go.Proofs.Ytkinlkmmelkdnaa.PRate.Rate)) (aZone : Int) (aGrams : Int) (aFrom : Int) : Option (Bool) :=
  Option.bind (Go.Proofs.Ytkinlkmmelkdnaa.GlSzRateS.P aList 1048576) fun (t_4 : Int) =>
  letK (decide (t_4 < 0)) fun (t_7 : Bool) =>
  iteK t_7
  (some true)
  (Option.bind (Go.Proofs.Ytkinlkmmelkdnaa.GlToRateS.P aList) fun (t_10 : (List Go.Proofs.Ytkinlkmmelkdnaa.PRate.Rate)) =>
  bind2 (Go.Proofs.Ytkinlkmmelkdnaa.GsFirstWithout.P fuel t_10 aZone aGrams aFrom) fun (t_14a : Int) (t_14b : Bool) =>
  Option.bind (Go.Proofs.Ytkinlkmmelkdnaa.GlToRateS.P aList) fun (t_21 : (List Go.Proofs.Ytkinlkmmelkdnaa.PRate.Rate)) =>
  bind2 (Go.Proofs.Ytkinlkmmelkdnaa.GiFirstWithout.P t_21 aZone aGrams aFrom) fun (t_27a : Int) (t_27b : Bool) =>
  letK (t_27a != t_14a) fun (t_35 : Bool) =>
  joinK (fun (t_40 : Bool) =>
  iteK t_40
  (some false)
  (Option.bind (Go.Proofs.Ytkinlkmmelkdnaa.GlToRateS.P aList) fun (t_44 : (List Go.Proofs.Ytkinlkmmelkdnaa.PRate.Rate)) =>
  Option.bind (Go.Proofs.Ytkinlkmmelkdnaa.GlEqRateS.P t_21 t_44) fun (t_45 : Bool) =>
  letK (!t_45) fun (t_46 : Bool) =>
  iteK t_46
  (some false)
  (some true))) fun jt_40 => iteK t_35 (appK jt_40 true) (letK (!(t_27b == t_14b)) fun (t_39 : Bool) =>
  appK jt_40 t_39))

set_option maxRecDepth 100000 in
set_option maxHeartbeats 2000000 in
theorem C (fuel : Nat) (aList : (List Go.Proofs.Ytkinlkmmelkdnaa.PRate.Rate)) (aZone : Int) (aGrams : Int) (aFrom : Int) (A0 : Option Addr) (c0 : Nat)  (w : World) (M0 : Hid (Cells w 5 A0 aList.length (Go.Proofs.Ytkinlkmmelkdnaa.PRate.flat aList))) (N0 : Hid (aList.length ≤ 9223372036854775807))  {r : Bool} (H : Hid (P fuel aList aZone aGrams aFrom = some r)) :
    Calls Try.prog 7 #[.slice A0 aList.length c0, .int .i64 aZone, .int .i64 aGrams, .int .i64 aFrom] w (Gives (.bool r) w) := by
  have HB := Lib.hid (Below.refl w.heap.size w)
  unfold P at H
  have N0o := N0.out
  go_enter Try.func7, Try.ntmps7
  replace H := bind_hid H
  obtain ⟨t_4, qt_4, H⟩ := H
  go_wp2_with fail
  go_at_call 17
  refine (Go.Proofs.Ytkinlkmmelkdnaa.GlSzRateS.C (aList) (1048576) A0 c0 _   (Lib.hid (Cells.below M0.out HB.out)) N0 qt_4).mono ?_
  rintro e_t_4 wt_4 ⟨rfl, bt_4⟩
  have HBwt_4 := Lib.hid (Below.step HB.out bt_4)
  clear bt_4
  replace H := let_hid H
  obtain ⟨t_7, ht_7, H⟩ := H
  cases t_7 with
  | false =>
    replace H := ite_f H
    replace H := bind_hid H
    obtain ⟨t_10, qt_10, H⟩ := H
    go_wp2_with fail
    go_at_call 19
    refine (Go.Proofs.Ytkinlkmmelkdnaa.GlToRateS.C (aList) A0 c0 _   (Lib.hid (Cells.below M0.out HBwt_4.out)) N0 qt_10).mono ?_
    rintro e_t_10 wt_10 ⟨At_10, ct_10, rfl, ot_10, bt_10⟩
    have Ot_10 := Lib.hid (own_lower ot_10 HBwt_4.out.size)
    clear ot_10
    have HBwt_10 := Lib.hid (Below.step HBwt_4.out bt_10)
    clear bt_10
    replace H := bind2_hid H
    obtain ⟨t_14a, t_14b, qt_14, H⟩ := H
    go_wp2_with fail
    go_at_call 30
    refine (Go.Proofs.Ytkinlkmmelkdnaa.GsFirstWithout.C fuel (t_10) (aZone) (aGrams) (aFrom) At_10 ct_10 _   (Lib.hid (own_cells Ot_10.out)) (Lib.hid (own_max Ot_10.out)) qt_14).mono ?_
    rintro e_t_14 wt_14 ⟨rfl, bt_14⟩
    have HBwt_14 := Lib.hid (Below.step HBwt_10.out bt_14)
    replace Ot_10 := Lib.hid (own_below Ot_10.out bt_14)
    clear bt_14
    replace H := bind_hid H
    obtain ⟨t_21, qt_21, H⟩ := H
    go_wp2_with fail
    go_at_call 19
    refine (Go.Proofs.Ytkinlkmmelkdnaa.GlToRateS.C (aList) A0 c0 _   (Lib.hid (Cells.below M0.out HBwt_14.out)) N0 qt_21).mono ?_
    rintro e_t_21 wt_21 ⟨At_21, ct_21, rfl, ot_21, bt_21⟩
    have Dt_21_t_10 := Lib.hid (apart_call ot_21 Ot_10.out)
    have Ot_21 := Lib.hid (own_lower ot_21 HBwt_14.out.size)
    clear ot_21
    have HBwt_21 := Lib.hid (Below.step HBwt_14.out bt_21)
    replace Ot_10 := Lib.hid (own_below Ot_10.out bt_21)
    clear bt_21
    replace H := bind2_hid H
    obtain ⟨t_27a, t_27b, qt_27, H⟩ := H
    go_wp2_with fail
    go_at_call 31
    refine (Go.Proofs.Ytkinlkmmelkdnaa.GiFirstWithout.C (t_21) (aZone) (aGrams) (aFrom) At_21 ct_21 _   (Lib.hid (own_cells Ot_21.out)) (Lib.hid (own_max Ot_21.out)) qt_27).mono ?_
    rintro e_t_27 wt_27 ⟨rfl, bt_27⟩
    have HBwt_27 := Lib.hid (Below.step HBwt_21.out bt_27)
    replace Ot_10 := Lib.hid (own_below Ot_10.out bt_27)
    replace Ot_21 := Lib.hid (own_below Ot_21.out bt_27)
    clear bt_27
    replace H := let_hid H
    obtain ⟨t_35, ht_35, H⟩ := H
    replace H := join_hid H
    cases t_35 with
    | false =>
      replace H := ite_f H
      replace H := let_hid H
      obtain ⟨t_39, ht_39, H⟩ := H
      replace H := app_hid H
      cases t_39 with
      | false =>
        replace H := ite_f H
        replace H := bind_hid H
        obtain ⟨t_44, qt_44, H⟩ := H
        go_wp2_with fail
        go_at_call 19
        refine (Go.Proofs.Ytkinlkmmelkdnaa.GlToRateS.C (aList) A0 c0 _   (Lib.hid (Cells.below M0.out HBwt_27.out)) N0 qt_44).mono ?_
        rintro e_t_44 wt_44 ⟨At_44, ct_44, rfl, ot_44, bt_44⟩
        have Dt_44_t_10 := Lib.hid (apart_call ot_44 Ot_10.out)
        have Dt_44_t_21 := Lib.hid (apart_call ot_44 Ot_21.out)
        have Ot_44 := Lib.hid (own_lower ot_44 HBwt_27.out.size)
        clear ot_44
        have HBwt_44 := Lib.hid (Below.step HBwt_27.out bt_44)
        replace Ot_10 := Lib.hid (own_below Ot_10.out bt_44)
        replace Ot_21 := Lib.hid (own_below Ot_21.out bt_44)
        clear bt_44
        replace H := bind_hid H
        obtain ⟨t_45, qt_45, H⟩ := H
        go_wp2_with fail
        go_at_call 21
        refine (Go.Proofs.Ytkinlkmmelkdnaa.GlEqRateS.C (t_21) (t_44) At_21 ct_21 At_44 ct_44 _   (Lib.hid (own_cells Ot_21.out)) (Lib.hid (own_max Ot_21.out)) (Lib.hid (own_cells Ot_44.out)) (Lib.hid (own_max Ot_44.out)) qt_45).mono ?_
        rintro e_t_45 wt_45 ⟨rfl, bt_45⟩
        have HBwt_45 := Lib.hid (Below.step HBwt_44.out bt_45)
        replace Ot_10 := Lib.hid (own_below Ot_10.out bt_45)
        replace Ot_21 := Lib.hid (own_below Ot_21.out bt_45)
        replace Ot_44 := Lib.hid (own_below Ot_44.out bt_45)
        clear bt_45
        cases t_45 with
        | false =>
          replace H := let_hid H
          obtain ⟨t_46, ht_46, H⟩ := H
          obtain rfl : t_46 = true := ht_46.symm
          replace H := ite_t H
          obtain rfl := ret_hid H
          go_wp2_with fail
          go_ret
          exact ⟨rfl, HBwt_45.out⟩
        | true =>
          replace H := let_hid H
          obtain ⟨t_46, ht_46, H⟩ := H
          obtain rfl : t_46 = false := ht_46.symm
          replace H := ite_f H
          obtain rfl := ret_hid H
          go_wp2_with fail
          go_ret
          exact ⟨rfl, HBwt_45.out⟩
      | true =>
        replace H := ite_t H
        obtain rfl := ret_hid H
        go_wp2_with fail
        go_ret
        exact ⟨rfl, HBwt_27.out⟩
    | true =>
      replace H := ite_t H
      replace H := app_hid H
      replace H := ite_t H
      obtain rfl := ret_hid H
      go_wp2_with fail
      go_ret
      exact ⟨rfl, HBwt_27.out⟩
  | true =>
    replace H := ite_t H
    obtain rfl := ret_hid H
    go_wp2_with fail
    go_ret
    exact ⟨rfl, HBwt_4.out⟩
end Go.Proofs.Ytkinlkmmelkdnaa.GlFnExactFirstWithout

/- Plain words on stamps: what a stamp is, when one is valid, when a list of them is; the cells of a list of records. No condition. -/
namespace Go.Proofs.Ytkinlkmmelkdnaa.PlainStamp
set_option linter.unusedVariables false

/-- a number lies in a..b -/
def inB (x a b : Int) : Bool := decide (a ≤ x ∧ x ≤ b)
theorem inB_yes {x a b : Int} (h1 : a ≤ x) (h2 : x ≤ b) : inB x a b = true := by unfold inB; exact decide_eq_true ⟨h1, h2⟩
theorem inB_of {x a b : Int} (h : inB x a b = true) : a ≤ x ∧ x ≤ b := by unfold inB at h; exact of_decide_eq_true h
theorem inB_no {x a b : Int} (h : x < a ∨ b < x) : inB x a b = false := by unfold inB; exact decide_eq_false (by omega)

structure St where
  id : Int
  face : Int
  color : Int
  year : Int
deriving DecidableEq

def St.cells (s : St) : List Value := [.int .i64 s.id, .int .i64 s.face, .int .i64 s.color, .int .i64 s.year]
def St.val (s : St) : Value := .agg #[.int .i64 s.id, .int .i64 s.face, .int .i64 s.color, .int .i64 s.year]
/-- each field fits an int -/
def St.fits (s : St) : Prop := (Lit.int .i64 s.id).wf = true ∧ (Lit.int .i64 s.face).wf = true ∧ (Lit.int .i64 s.color).wf = true ∧ (Lit.int .i64 s.year).wf = true

def okSt (s : St) : Bool := inB s.id 1 999 && inB s.face 0 9999 && inB s.color 0 99 && inB s.year 1840 2100
theorem okSt_yes {s : St} (h : okSt s = true) : (1 ≤ s.id ∧ s.id ≤ 999) ∧ (0 ≤ s.face ∧ s.face ≤ 9999) ∧ (0 ≤ s.color ∧ s.color ≤ 99) ∧ (1840 ≤ s.year ∧ s.year ≤ 2100) := by
  unfold okSt at h
  simp only [Bool.and_eq_true] at h
  exact ⟨inB_of h.1.1.1, inB_of h.1.1.2, inB_of h.1.2, inB_of h.2⟩

/-- the stamp at k is valid, and its id is above the one ahead of it -/
def okAt (l : List St) (k : Nat) : Bool :=
  match l[k]? with
  | none => true
  | some s => okSt s && (decide (k = 0) || (match l[k-1]? with | none => true | some r => decide (r.id < s.id)))
def okUp (l : List St) (k : Nat) : Bool := (List.range k).all (okAt l)
theorem okUp_zero (l : List St) : okUp l 0 = true := by simp [okUp]
theorem okUp_succ (l : List St) (k : Nat) : okUp l (k + 1) = (okUp l k && okAt l k) := by simp [okUp, List.range_succ, List.all_append]
theorem okUp_not {l : List St} {k n : Nat} (h : okAt l k = false) (hk : k < n) : okUp l n = false := by
  unfold okUp
  rw [Bool.eq_false_iff]
  intro hall
  have := List.all_eq_true.1 hall k (List.mem_range.2 hk)
  rw [h] at this; exact absurd this (by simp)
/-- a list of at most twelve valid stamps with rising ids -/
def okSts (l : List St) : Bool := decide (l.length ≤ 12) && okUp l l.length
theorem okAt_of {l : List St} {k : Nat} {s : St} (hs : l[k]? = some s) (h : okAt l k = true) : okSt s = true ∧ ∀ r, 0 < k → l[k-1]? = some r → r.id < s.id := by
  unfold okAt at h
  rw [hs] at h
  simp only [Bool.and_eq_true, Bool.or_eq_true, decide_eq_true_eq] at h
  refine ⟨h.1, fun r hk hr => ?_⟩
  rcases h.2 with h0 | h0
  · omega
  · rw [hr] at h0; simpa using h0
theorem okSts_len {l : List St} (h : okSts l = true) : l.length ≤ 12 := by unfold okSts at h; simp only [Bool.and_eq_true, decide_eq_true_eq] at h; exact h.1
theorem okSts_at {l : List St} (h : okSts l = true) {k : Nat} {s : St} (hs : l[k]? = some s) : okSt s = true ∧ ∀ r, 0 < k → l[k-1]? = some r → r.id < s.id := by
  unfold okSts at h
  simp only [Bool.and_eq_true, decide_eq_true_eq] at h
  exact okAt_of hs (List.all_eq_true.1 h.2 k (List.mem_range.2 (List.getElem?_eq_some_iff.1 hs).1))
theorem okSts_mem {l : List St} (h : okSts l = true) {s : St} (hs : s ∈ l) : okSt s = true := by
  obtain ⟨k, hk⟩ := List.getElem?_of_mem hs
  exact (okSts_at h hk).1

/-- the cells of a list of stamps, one after the other -/
def flat (l : List St) : List Value := l.flatMap St.cells
theorem flat_nil : flat [] = [] := rfl
theorem flat_cons (s : St) (l : List St) : flat (s :: l) = s.cells ++ flat l := by simp [flat]
theorem flat_len (l : List St) : (flat l).length = l.length * 4 := by
  induction l with
  | nil => rfl
  | cons s l ih => rw [flat_cons, List.length_append, ih]; simp [St.cells]; omega
theorem flat_at : ∀ (l : List St) (k : Nat) (s : St), l[k]? = some s → ∀ j, j < 4 → (flat l)[k * 4 + j]? = s.cells[j]?
  | [], k, s, h, _, _ => by simp at h
  | r :: l, 0, s, h, j, hj => by
    obtain rfl : r = s := by simpa using h
    rw [flat_cons, List.getElem?_append_left (by simp [St.cells]; omega)]; simp
  | r :: l, k + 1, s, h, j, hj => by
    rw [flat_cons, List.getElem?_append_right (by simp [St.cells]; omega), show (k + 1) * 4 + j - r.cells.length = k * 4 + j by simp [St.cells]; omega]
    exact flat_at l k s (by simpa using h) j hj
end Go.Proofs.Ytkinlkmmelkdnaa.PlainStamp

/- Words for reckoning with plain functions; within and l1In. No condition. -/
namespace Go.Proofs.Ytkinlkmmelkdnaa.QBase
set_option linter.unusedVariables false
set_option linter.unusedSimpArgs false
open Go.RowKit
open Go.Proofs.Ytkinlkmmelkdnaa.GoP Go.Proofs.Ytkinlkmmelkdnaa.PlainStamp

theorem iteK_if {ρ : Type} (c : Bool) (a b : Option ρ) : iteK c a b = if c = true then a else b := by cases c <;> rfl
theorem bind2_some {α β ρ : Type} (a : α) (b : β) (f : α → β → Option ρ) : bind2 (some (a, b)) f = f a b := rfl
theorem bind3_some {α β γ ρ : Type} (a : α) (b : β) (c : γ) (f : α → β → γ → Option ρ) : bind3 (some (a, b, c)) f = f a b c := rfl
theorem unp2_mk {α β ρ : Type} (a : α) (b : β) (f : α → β → Option ρ) : unp2 (a, b) f = f a b := rfl
theorem unp3_mk {α β γ ρ : Type} (a : α) (b : β) (c : γ) (f : α → β → γ → Option ρ) : unp3 (a, b, c) f = f a b c := rfl
theorem guardK_pos {ρ : Type} {p : Prop} [Decidable p] {a : Option ρ} (h : p) : guardK p a = a := if_pos h
theorem cut2 {α β : Type} {x : Option (α × β)} {p : α × β} (h : x = some p) : x = some (p.1, p.2) := h
theorem cut3 {α β γ : Type} {x : Option (α × β × γ)} {p : α × β × γ} (h : x = some p) : x = some (p.1, p.2.1, p.2.2) := h
theorem within_eq (n a b : Int) : GiWithin.P n a b = some (inB n a b) := by
  simp only [GiWithin.P, letK, joinK, appK, iteK_if, inB]
  by_cases h1 : a ≤ n <;> by_cases h2 : n ≤ b <;> simp [h1, h2]
theorem l1In_eq (n a b : Int) : GsL1In.P n a b = some (inB n a b) := by
  simp only [GsL1In.P, letK, joinK, appK, iteK_if, inB]
  by_cases h1 : a ≤ n <;> by_cases h2 : n ≤ b <;> simp [h1, h2]
end Go.Proofs.Ytkinlkmmelkdnaa.QBase

/- Reckoning with the loops of plain functions; lists of valid records with rising ids. No condition. -/
namespace Go.Proofs.Ytkinlkmmelkdnaa.QLoop
set_option linter.unusedVariables false
open Go.RowKit
open Go.Proofs.Ytkinlkmmelkdnaa.GoP Go.Proofs.Ytkinlkmmelkdnaa.QBase

theorem cnt_ex {σ ρ : Type} {f : Nat → σ → (σ → Option ρ) → (σ → Option ρ) → Option ρ} {fin : σ → Option ρ} {Q : ρ → Prop} {n : Nat} (I : Nat → σ → Prop)
    (step : ∀ k s nx, k < n → I k s → (∀ s', I (k + 1) s' → ∃ r, nx s' = some r ∧ Q r) → ∃ r, f k s nx fin = some r ∧ Q r) (done : ∀ s, I n s → ∃ r, fin s = some r ∧ Q r) :
    ∀ m k s, k + m = n → I k s → ∃ r, cntK f m k s fin = some r ∧ Q r := by
  intro m
  induction m with
  | zero => intro k s hk hI; obtain rfl : k = n := by omega
            exact done s hI
  | succ m ih => intro k s hk hI; exact step k s _ (by omega) hI (fun s' h' => ih (k + 1) s' (by omega) h')
theorem cnt_is {σ ρ : Type} {f : Nat → σ → (σ → Option ρ) → (σ → Option ρ) → Option ρ} {fin : σ → Option ρ} {n : Nat} (r : ρ) (I : Nat → σ → Prop)
    (step : ∀ k s nx, k < n → I k s → (∀ s', I (k + 1) s' → nx s' = some r) → f k s nx fin = some r) (done : ∀ s, I n s → fin s = some r) (s : σ) (h0 : I 0 s) : cntK f n 0 s fin = some r := by
  obtain ⟨r', h, rfl⟩ := cnt_ex (Q := fun x => x = r) I (fun k s nx hk hI hn => ⟨r, step k s nx hk hI (fun s' h' => by obtain ⟨_, h, rfl⟩ := hn s' h'; exact h), rfl⟩) (fun s h => ⟨r, done s h, rfl⟩) n 0 s (by omega) h0
  exact h
theorem at_lt {α : Type} {l : List α} {k : Nat} (h : k < l.length) : ∃ x, l[k]? = some x ∧ idx l (k : Int) = some x := ⟨l[k], List.getElem?_eq_getElem h, by rw [idx_nat, List.getElem?_eq_getElem h]⟩
theorem idx_pred {α : Type} {l : List α} {k : Nat} {x : α} (hk : 0 < k) (hb : k ≤ 9223372036854775807) (h : l[k - 1]? = some x) : idx l (IntKind.i64.wrap ((k : Int) - 1)) = some x := by
  rw [IntWalk.i64_in _ (by omega), show ((k : Int) - 1) = ((k - 1 : Nat) : Int) by omega, idx_nat, h]
theorem take_next {α : Type} {l : List α} {k : Nat} {x : α} (h : l[k]? = some x) : l.take (k + 1) = l.take k ++ [x] := by
  obtain ⟨hk, e⟩ := List.getElem?_eq_some_iff.1 h
  rw [List.take_succ_eq_append_getElem hk, e]
theorem all_next {α : Type} {p : α → Bool} {l : List α} {k : Nat} {x : α} (h : l[k]? = some x) : (l.take (k + 1)).all p = ((l.take k).all p && p x) := by
  rw [take_next h]; simp
theorem not_all {α : Type} {p : α → Bool} {l : List α} {k : Nat} {x : α} (h : l[k]? = some x) (hp : p x = false) : l.all p = false := by
  rw [Bool.eq_false_iff]
  intro ha
  have := List.all_eq_true.1 ha x (List.mem_of_getElem? h)
  rw [hp] at this; exact absurd this (by simp)
theorem wrap_in {x : Int} (h1 : -9223372036854775808 ≤ x) (h2 : x ≤ 9223372036854775807) : IntKind.i64.wrap x = x := IntWalk.i64_in _ (by omega)

/-- valid, and above the one ahead of it -/
def upAt {α : Type} (ok : α → Bool) (id : α → Int) (l : List α) (k : Nat) : Bool :=
  match l[k]? with
  | none => true
  | some s => ok s && (decide (k = 0) || (match l[k-1]? with | none => true | some r => decide (id r < id s)))
def upTo {α : Type} (ok : α → Bool) (id : α → Int) (l : List α) (k : Nat) : Bool := (List.range k).all (upAt ok id l)
theorem upTo_zero {α : Type} (ok : α → Bool) (id : α → Int) (l : List α) : upTo ok id l 0 = true := rfl
theorem upTo_succ {α : Type} (ok : α → Bool) (id : α → Int) (l : List α) (k : Nat) : upTo ok id l (k + 1) = (upTo ok id l k && upAt ok id l k) := by simp [upTo, List.range_succ, List.all_append]
theorem upTo_not {α : Type} {ok : α → Bool} {id : α → Int} {l : List α} {k n : Nat} (h : upAt ok id l k = false) (hk : k < n) : upTo ok id l n = false := by
  unfold upTo
  rw [Bool.eq_false_iff]
  intro ha
  have := List.all_eq_true.1 ha k (List.mem_range.2 hk)
  rw [h] at this; exact absurd this (by simp)
/-- a list of at most m valid records with rising ids -/
def upL {α : Type} (m : Nat) (ok : α → Bool) (id : α → Int) (l : List α) : Bool := decide (l.length ≤ m) && upTo ok id l l.length
theorem upAt_bad {α : Type} {ok : α → Bool} {id : α → Int} {l : List α} {k : Nat} {s : α} (hs : l[k]? = some s) (h : ok s = false) : upAt ok id l k = false := by unfold upAt; rw [hs]; simp [h]
theorem upAt_first {α : Type} {ok : α → Bool} {id : α → Int} {l : List α} {s : α} (hs : l[0]? = some s) (h : ok s = true) : upAt ok id l 0 = true := by unfold upAt; rw [hs]; simp [h]
theorem upAt_next {α : Type} {ok : α → Bool} {id : α → Int} {l : List α} {k : Nat} {s r : α} (hs : l[k]? = some s) (hr : l[k-1]? = some r) (hk : 0 < k) (h : ok s = true) : upAt ok id l k = decide (id r < id s) := by
  unfold upAt; rw [hs]; simp only [hr, h, Bool.true_and, decide_eq_false (show ¬ k = 0 by omega), Bool.false_or]
theorem upL_len {α : Type} {m : Nat} {ok : α → Bool} {id : α → Int} {l : List α} (h : upL m ok id l = true) : l.length ≤ m := by unfold upL at h; simp only [Bool.and_eq_true, decide_eq_true_eq] at h; exact h.1
theorem upL_ok {α : Type} {m : Nat} {ok : α → Bool} {id : α → Int} {l : List α} (h : upL m ok id l = true) {k : Nat} {s : α} (hs : l[k]? = some s) : ok s = true := by
  unfold upL at h
  simp only [Bool.and_eq_true, decide_eq_true_eq] at h
  have := List.all_eq_true.1 h.2 k (List.mem_range.2 (List.getElem?_eq_some_iff.1 hs).1)
  unfold upAt at this
  rw [hs] at this
  simp only [Bool.and_eq_true] at this
  exact this.1
theorem upL_mem {α : Type} {m : Nat} {ok : α → Bool} {id : α → Int} {l : List α} (h : upL m ok id l = true) {s : α} (hs : s ∈ l) : ok s = true := by
  obtain ⟨k, hk⟩ := List.getElem?_of_mem hs
  exact upL_ok h hk
/-- a loop that goes through a list of records and stops with 'false' at the first that is bad -/
theorem up_loop {α : Type} {ok : α → Bool} {id : α → Int} {l : List α} {R : Type} {no : R} {f : Nat → Unit → (Unit → Option R) → (Unit → Option R) → Option R} {fin : Unit → Option R}
    (step : ∀ k nx s, l[k]? = some s → (ok s = false → f k () nx fin = some no) ∧ (ok s = true → (k = 0 → f k () nx fin = nx ()) ∧ (0 < k → ∀ r, l[k-1]? = some r → (id r < id s → f k () nx fin = nx ()) ∧ (id s ≤ id r → f k () nx fin = some no)))) :
    cntK f l.length 0 () fin = if upTo ok id l l.length then fin () else some no := by
  have key : ∀ m k, k + m = l.length → upTo ok id l k = true → cntK f m k () fin = if upTo ok id l l.length then fin () else some no := by
    intro m
    induction m with
    | zero => intro k hk hu; obtain rfl : k = l.length := by omega
              rw [hu]; rfl
    | succ m ih =>
      intro k hk hu
      have hlt : k < l.length := by omega
      obtain ⟨s, hs, _⟩ := at_lt hlt
      obtain ⟨h1, h2⟩ := step k (fun s' => cntK f m (k + 1) s' fin) s hs
      show f k () _ fin = _
      cases hok : ok s with
      | false => rw [h1 hok, upTo_not (upAt_bad hs hok) hlt]; rfl
      | true =>
        obtain ⟨h3, h4⟩ := h2 hok
        by_cases hk0 : k = 0
        · rw [h3 hk0]
          subst hk0
          exact ih 1 (by omega) (by rw [upTo_succ, hu, upAt_first hs hok]; rfl)
        · obtain ⟨r, hr, _⟩ := at_lt (l := l) (k := k - 1) (by omega)
          obtain ⟨h5, h6⟩ := h4 (by omega) r hr
          by_cases hlt2 : id r < id s
          · rw [h5 hlt2]
            exact ih (k + 1) (by omega) (by rw [upTo_succ, hu, upAt_next hs hr (by omega) hok]; simpa using hlt2)
          · rw [h6 (by omega), upTo_not (by rw [upAt_next hs hr (by omega) hok]; simpa using hlt2) hlt]; rfl
  exact key l.length 0 (by omega) (upTo_zero ok id l)
end Go.Proofs.Ytkinlkmmelkdnaa.QLoop

/- Chapter 8: rates: the plain functions of the program and of the reference agree, and the laws answer true. (QSort) No condition but those of each theorem. -/
namespace Go.Proofs.Ytkinlkmmelkdnaa.QSort
set_option linter.unusedVariables false
set_option linter.unusedSimpArgs false
open Go.RowKit
open Go.Proofs.Ytkinlkmmelkdnaa.GoP Go.Proofs.Ytkinlkmmelkdnaa.PlainStamp Go.Proofs.Ytkinlkmmelkdnaa.QBase Go.Proofs.Ytkinlkmmelkdnaa.QLoop

def sortI (l : List Int) : List Int := l.mergeSort fun x y => decide (x ≤ y)
theorem sortI_mem {l : List Int} {x : Int} : x ∈ sortI l ↔ x ∈ l := List.mem_mergeSort
theorem sortI_len (l : List Int) : (sortI l).length = l.length := List.length_mergeSort _
theorem sortI_up (l : List Int) : List.Pairwise (fun a b => a ≤ b) (sortI l) := by
  have h := List.pairwise_mergeSort (le := fun x y : Int => decide (x ≤ y)) (fun a b c h1 h2 => by simp at *; omega) (fun a b => by simp; omega) l
  exact h.imp (fun h => by simpa using h)
def compI (l : List Int) : List Int := Lib.compact l
theorem comp_key (l : List Int) (hs : List.Pairwise (fun a b => a ≤ b) l) : ∀ m, m ≤ l.length → List.Pairwise (fun a b => a < b) (Lib.compactUpTo l.toArray m) ∧ (∀ x, x ∈ Lib.compactUpTo l.toArray m ↔ ∃ j, j < m ∧ l[j]? = some x) := by
  intro m
  induction m with
  | zero => intro _; simp [Lib.compactUpTo]
  | succ m ih =>
    intro hm
    obtain ⟨h1, h2⟩ := ih (by omega)
    have hle : ∀ {i j : Nat} {x y : Int}, i ≤ j → l[i]? = some x → l[j]? = some y → x ≤ y := by
      intro i j x y hij hx hy
      obtain ⟨a1, a2⟩ := List.getElem?_eq_some_iff.1 hx
      obtain ⟨b1, b2⟩ := List.getElem?_eq_some_iff.1 hy
      by_cases he : i = j
      · subst he; rw [hx] at hy; simp at hy; omega
      · have := List.pairwise_iff_getElem.1 hs i j a1 b1 (by omega)
        rw [a2, b2] at this; exact this
    have hx : l[m]? = some l[m] := List.getElem?_eq_getElem (by omega)
    have g : l.toArray[m]! = l[m] := by simp [hx]
    rw [Lib.compactUpTo_succ]
    by_cases hk : Lib.keeps l.toArray m = true
    · rw [if_pos hk, g]
      have hlt : ∀ x, x ∈ Lib.compactUpTo l.toArray m → x < l[m] := by
        intro x hxm
        obtain ⟨j, hj, hjx⟩ := (h2 x).1 hxm
        have hp : m - 1 < l.length := by omega
        have h3 : x ≤ l[m-1] := hle (i := j) (j := m - 1) (by omega) hjx (List.getElem?_eq_getElem hp)
        have h4 : l[m-1] ≤ l[m] := hle (i := m - 1) (j := m) (by omega) (List.getElem?_eq_getElem hp) hx
        have h5 : l[m] ≠ l[m-1] := by
          unfold Lib.keeps at hk
          rw [decide_eq_true_eq] at hk
          rcases hk with h0 | h0
          · omega
          · rw [g] at h0
            have : l.toArray[m-1]! = l[m-1] := by simp [List.getElem?_eq_getElem hp]
            rw [this] at h0; exact h0
        omega
      refine ⟨List.pairwise_append.2 ⟨h1, by simp, fun a ha b hb => by simp at hb; subst hb; exact hlt a ha⟩, fun x => ?_⟩
      rw [List.mem_append, h2, List.mem_singleton]
      constructor
      · rintro (⟨j, hj, hjx⟩ | rfl)
        · exact ⟨j, by omega, hjx⟩
        · exact ⟨m, by omega, hx⟩
      · rintro ⟨j, hj, hjx⟩
        by_cases he : j = m
        · subst he; rw [hx] at hjx; simp at hjx; exact Or.inr hjx.symm
        · exact Or.inl ⟨j, by omega, hjx⟩
    · rw [if_neg hk, List.append_nil]
      refine ⟨h1, fun x => ?_⟩
      rw [h2]
      constructor
      · rintro ⟨j, hj, hjx⟩; exact ⟨j, by omega, hjx⟩
      · rintro ⟨j, hj, hjx⟩
        by_cases he : j = m
        · subst he
          have hm0 : ¬ (j = 0) ∧ l.toArray[j]! = l.toArray[j-1]! := by
            unfold Lib.keeps at hk
            simpa using hk
          have hp : j - 1 < l.length := by omega
          have h6 : l.toArray[j-1]! = l[j-1] := by simp [List.getElem?_eq_getElem hp]
          rw [hx] at hjx
          refine ⟨j - 1, by omega, ?_⟩
          rw [List.getElem?_eq_getElem hp, ← hjx, ← g, hm0.2, h6]
        · exact ⟨j, by omega, hjx⟩
theorem compI_up {l : List Int} (hs : List.Pairwise (fun a b => a ≤ b) l) : List.Pairwise (fun a b => a < b) (compI l) := (comp_key l hs l.length (Nat.le_refl _)).1
theorem compI_mem {l : List Int} (hs : List.Pairwise (fun a b => a ≤ b) l) {x : Int} : x ∈ compI l ↔ x ∈ l := by
  unfold compI Lib.compact
  rw [(comp_key l hs l.length (Nat.le_refl _)).2 x]
  constructor
  · rintro ⟨j, _, hj⟩; exact List.mem_of_getElem? hj
  · intro h
    obtain ⟨j, hj⟩ := List.getElem?_of_mem h
    exact ⟨j, (List.getElem?_eq_some_iff.1 hj).1, hj⟩
theorem compI_len (l : List Int) : (compI l).length ≤ l.length := Lib.compact_length_le l
theorem sort_eq (l : List Int) (h : l.length ≤ 1000000) : GxSlicesSortIntInt.P l = some (sortI l) := by unfold GxSlicesSortIntInt.P sortI; rw [if_pos (by omega)]
theorem comp_eq (l : List Int) : GxSlicesCompactIntInt.P l = some (compI l) := rfl
end Go.Proofs.Ytkinlkmmelkdnaa.QSort

/- Chapter 8: rates: the plain functions of the program and of the reference agree, and the laws answer true. (QFold) No condition but those of each theorem. -/
namespace Go.Proofs.Ytkinlkmmelkdnaa.QFold
set_option linter.unusedVariables false
set_option linter.unusedSimpArgs false
open Go.RowKit
open Go.Proofs.Ytkinlkmmelkdnaa.GoP Go.Proofs.Ytkinlkmmelkdnaa.PlainStamp Go.Proofs.Ytkinlkmmelkdnaa.QBase Go.Proofs.Ytkinlkmmelkdnaa.QLoop

theorem fold_loop {α σ R : Type} {l : List α} {g : σ → α → σ} {f : Nat → σ → (σ → Option R) → (σ → Option R) → Option R} {fin : σ → Option R} (s0 : σ)
    (step : ∀ k nx x s, l[k]? = some x → f k s nx fin = nx (g s x)) : cntK f l.length 0 s0 fin = fin (l.foldl g s0) := by
  have key : ∀ m k s, k + m = l.length → cntK f m k s fin = fin ((l.drop k).foldl g s) := by
    intro m
    induction m with
    | zero => intro k s hk; rw [List.drop_of_length_le (by omega)]; rfl
    | succ m ih =>
      intro k s hk
      obtain ⟨x, hx, _⟩ := at_lt (l := l) (k := k) (by omega)
      obtain ⟨hlt, e⟩ := List.getElem?_eq_some_iff.1 hx
      show f k s _ fin = _
      rw [step k _ x s hx, ih (k + 1) _ (by omega), List.drop_eq_getElem_cons hlt, e]; rfl
  exact key l.length 0 s0 (by omega)
theorem find_val {α R : Type} {l : List α} {p : α → Bool} {f : Nat → Unit → (Unit → Option R) → (Unit → Option R) → Option R} {fin : Unit → Option R} {yes : α → Option R}
    (step : ∀ k nx x, l[k]? = some x → f k () nx fin = if p x = true then yes x else nx ()) : cntK f l.length 0 () fin = match l.find? p with | some x => yes x | none => fin () := by
  have key : ∀ m k, k + m = l.length → cntK f m k () fin = match (l.drop k).find? p with | some x => yes x | none => fin () := by
    intro m
    induction m with
    | zero => intro k hk; rw [List.drop_of_length_le (by omega)]; rfl
    | succ m ih =>
      intro k hk
      obtain ⟨x, hx, _⟩ := at_lt (l := l) (k := k) (by omega)
      obtain ⟨hlt, e⟩ := List.getElem?_eq_some_iff.1 hx
      show f k () _ fin = _
      rw [step k _ x hx, List.drop_eq_getElem_cons hlt, e, List.find?_cons]
      cases hp : p x with
      | true => simp
      | false => simp only [Bool.false_eq_true, if_false]; exact ih (k + 1) (by omega)
  exact key l.length 0 (by omega)
theorem find_congr {α : Type} {l : List α} {p q : α → Bool} (h : ∀ x ∈ l, p x = q x) : l.find? p = l.find? q := by
  induction l with
  | nil => rfl
  | cons x l ih => rw [List.find?_cons, List.find?_cons, h x (by simp), ih (fun y hy => h y (by simp [hy]))]
end Go.Proofs.Ytkinlkmmelkdnaa.QFold

/- Lists of valid records in strictly rising order of any kind; texts in the order of their bytes. (QOrd) No condition but those of each theorem. -/
namespace Go.Proofs.Ytkinlkmmelkdnaa.QOrd
set_option linter.unusedVariables false
set_option linter.unusedSimpArgs false
open Go.RowKit
open Go.Proofs.Ytkinlkmmelkdnaa.GoP Go.Proofs.Ytkinlkmmelkdnaa.PlainStamp Go.Proofs.Ytkinlkmmelkdnaa.QBase Go.Proofs.Ytkinlkmmelkdnaa.QLoop

/-- texts in the order of their bytes -/
def bl (a b : ByteArray) : Bool := Op.bytesLess a.toList b.toList
theorem bl_self' : ∀ x, Op.bytesLess x x = false
  | [] => rfl
  | a :: x => by
    have h1 : ¬ a < a := fun k => by rw [UInt8.lt_iff_toNat_lt] at k; omega
    simp [Op.bytesLess, h1, bl_self' x]
theorem bl_total' : ∀ x y, x ≠ y → Op.bytesLess x y = !(Op.bytesLess y x)
  | [], [], h => absurd rfl h
  | [], b :: y, _ => by simp [Op.bytesLess]
  | a :: x, [], _ => by simp [Op.bytesLess]
  | a :: x, b :: y, h => by
    by_cases hab : a = b
    · subst hab
      have h1 : ¬ a < a := fun k => by rw [UInt8.lt_iff_toNat_lt] at k; omega
      have := bl_total' x y (fun e => h (by rw [e]))
      simp [Op.bytesLess, h1, this]
    · have hne : a.toNat ≠ b.toNat := fun e => hab (UInt8.toNat_inj.1 e)
      by_cases hlt : a < b
      · have h2 : ¬ b < a := fun k => by rw [UInt8.lt_iff_toNat_lt] at k hlt; omega
        simp [Op.bytesLess, hlt, h2, Ne.symm hab]
      · have h2 : b < a := by rw [UInt8.lt_iff_toNat_lt] at hlt ⊢; omega
        simp [Op.bytesLess, hlt, h2, hab]
theorem bl_trans' : ∀ x y z, Op.bytesLess x y = true → Op.bytesLess y z = true → Op.bytesLess x z = true
  | [], _, [], h1, h2 => by rename_i y; cases y <;> simp [Op.bytesLess] at h1 h2
  | [], _, c :: z, _, _ => by simp [Op.bytesLess]
  | a :: x, [], _, h1, _ => by simp [Op.bytesLess] at h1
  | a :: x, b :: y, [], _, h2 => by simp [Op.bytesLess] at h2
  | a :: x, b :: y, c :: z, h1, h2 => by
    simp only [Op.bytesLess, Bool.or_eq_true, decide_eq_true_eq, Bool.and_eq_true, beq_iff_eq] at h1 h2 ⊢
    rcases h1 with h1 | ⟨rfl, h1⟩
    · rcases h2 with h2 | ⟨rfl, h2⟩
      · left; rw [UInt8.lt_iff_toNat_lt] at h1 h2 ⊢; omega
      · left; exact h1
    · rcases h2 with h2 | ⟨rfl, h2⟩
      · left; exact h2
      · right; exact ⟨rfl, bl_trans' x y z h1 h2⟩
theorem list_inj {a b : ByteArray} (h : a.toList = b.toList) : a = b := by
  rw [Lib.toList_data, Lib.toList_data] at h
  cases a; cases b; congr 1; exact Array.toList_inj.1 h
theorem bl_self (a : ByteArray) : bl a a = false := bl_self' _
theorem bl_total {a b : ByteArray} (h : a ≠ b) : bl a b = !(bl b a) := bl_total' _ _ (fun e => h (list_inj e))
theorem bl_trans {a b c : ByteArray} (h1 : bl a b = true) (h2 : bl b c = true) : bl a c = true := bl_trans' _ _ _ h1 h2
theorem bl_asymm {a b : ByteArray} (h : bl a b = true) : bl b a = false := by
  by_cases e : a = b
  · rw [e]; exact bl_self b
  · rw [bl_total e] at h; simpa using h
theorem bl_ne {a b : ByteArray} (h : bl a b = true) : a ≠ b := fun e => by rw [e, bl_self] at h; exact absurd h (by simp)
/-- 'not above', as the program asks it -/
theorem bl_le (a b : ByteArray) : (Op.bytesLess a.toList b.toList || a.toList == b.toList) = !(bl b a) := by
  by_cases e : a = b
  · subst e; rw [bl_self]; simp
  · have h1 : (a.toList == b.toList) = false := by rw [beq_eq_false_iff_ne]; exact fun h => e (list_inj h)
    rw [h1, Bool.or_false]; exact bl_total e
theorem bl_lt (a b : ByteArray) : Op.bytesLess a.toList b.toList = bl a b := rfl
theorem eq_list (a b : ByteArray) : (a.toList == b.toList) = decide (a = b) := by
  by_cases e : a = b
  · subst e; simp
  · rw [decide_eq_false e, beq_eq_false_iff_ne]; exact fun h => e (list_inj h)

/-- valid, and behind the one ahead of it -/
def riseAt {α : Type} (ok : α → Bool) (lt : α → α → Bool) (l : List α) (k : Nat) : Bool :=
  match l[k]? with
  | none => true
  | some s => ok s && (decide (k = 0) || (match l[k-1]? with | none => true | some r => lt r s))
def riseTo {α : Type} (ok : α → Bool) (lt : α → α → Bool) (l : List α) (k : Nat) : Bool := (List.range k).all (riseAt ok lt l)
theorem riseTo_zero {α : Type} (ok : α → Bool) (lt : α → α → Bool) (l : List α) : riseTo ok lt l 0 = true := rfl
theorem riseTo_succ {α : Type} (ok : α → Bool) (lt : α → α → Bool) (l : List α) (k : Nat) : riseTo ok lt l (k + 1) = (riseTo ok lt l k && riseAt ok lt l k) := by simp [riseTo, List.range_succ, List.all_append]
theorem riseTo_not {α : Type} {ok : α → Bool} {lt : α → α → Bool} {l : List α} {k n : Nat} (h : riseAt ok lt l k = false) (hk : k < n) : riseTo ok lt l n = false := by
  unfold riseTo
  rw [Bool.eq_false_iff]
  intro ha
  have := List.all_eq_true.1 ha k (List.mem_range.2 hk)
  rw [h] at this; exact absurd this (by simp)
def riseL {α : Type} (m : Nat) (ok : α → Bool) (lt : α → α → Bool) (l : List α) : Bool := decide (l.length ≤ m) && riseTo ok lt l l.length
theorem riseAt_bad {α : Type} {ok : α → Bool} {lt : α → α → Bool} {l : List α} {k : Nat} {s : α} (hs : l[k]? = some s) (h : ok s = false) : riseAt ok lt l k = false := by unfold riseAt; rw [hs]; simp [h]
theorem riseAt_first {α : Type} {ok : α → Bool} {lt : α → α → Bool} {l : List α} {s : α} (hs : l[0]? = some s) (h : ok s = true) : riseAt ok lt l 0 = true := by unfold riseAt; rw [hs]; simp [h]
theorem riseAt_next {α : Type} {ok : α → Bool} {lt : α → α → Bool} {l : List α} {k : Nat} {s r : α} (hs : l[k]? = some s) (hr : l[k-1]? = some r) (hk : 0 < k) (h : ok s = true) : riseAt ok lt l k = lt r s := by
  unfold riseAt; rw [hs]; simp only [hr, h, Bool.true_and, decide_eq_false (show ¬ k = 0 by omega), Bool.false_or]
theorem riseL_len {α : Type} {m : Nat} {ok : α → Bool} {lt : α → α → Bool} {l : List α} (h : riseL m ok lt l = true) : l.length ≤ m := by unfold riseL at h; simp only [Bool.and_eq_true, decide_eq_true_eq] at h; exact h.1
theorem riseTo_at {α : Type} {ok : α → Bool} {lt : α → α → Bool} {l : List α} {n : Nat} (h : riseTo ok lt l n = true) {k : Nat} (hk : k < n) : riseAt ok lt l k = true := List.all_eq_true.1 h k (List.mem_range.2 hk)
theorem riseL_ok {α : Type} {m : Nat} {ok : α → Bool} {lt : α → α → Bool} {l : List α} (h : riseL m ok lt l = true) {k : Nat} {s : α} (hs : l[k]? = some s) : ok s = true := by
  unfold riseL at h
  simp only [Bool.and_eq_true, decide_eq_true_eq] at h
  have := riseTo_at h.2 (List.getElem?_eq_some_iff.1 hs).1
  unfold riseAt at this
  rw [hs] at this
  simp only [Bool.and_eq_true] at this
  exact this.1
theorem riseL_mem {α : Type} {m : Nat} {ok : α → Bool} {lt : α → α → Bool} {l : List α} (h : riseL m ok lt l = true) {s : α} (hs : s ∈ l) : ok s = true := by
  obtain ⟨k, hk⟩ := List.getElem?_of_mem hs
  exact riseL_ok h hk
theorem riseL_step {α : Type} {m : Nat} {ok : α → Bool} {lt : α → α → Bool} {l : List α} (h : riseL m ok lt l = true) {k : Nat} {x y : α} (hx : l[k]? = some x) (hy : l[k + 1]? = some y) : lt x y = true := by
  unfold riseL at h
  simp only [Bool.and_eq_true, decide_eq_true_eq] at h
  have := riseTo_at h.2 (List.getElem?_eq_some_iff.1 hy).1
  unfold riseAt at this
  rw [hy] at this
  simp only [Nat.add_sub_cancel, hx, Bool.and_eq_true, Bool.or_eq_true, decide_eq_true_eq] at this
  rcases this.2 with h0 | h0
  · omega
  · exact h0
theorem riseL_lt {α : Type} {m : Nat} {ok : α → Bool} {lt : α → α → Bool} (tr : ∀ a b c, lt a b = true → lt b c = true → lt a c = true) {l : List α} (h : riseL m ok lt l = true) {i j : Nat} {x y : α} (hij : i < j) (hx : l[i]? = some x) (hy : l[j]? = some y) : lt x y = true := by
  obtain ⟨d, rfl⟩ : ∃ d, j = i + d + 1 := ⟨j - i - 1, by omega⟩
  clear hij
  induction d generalizing y with
  | zero => exact riseL_step h hx hy
  | succ d ih =>
    obtain ⟨z, hz, _⟩ := at_lt (l := l) (k := i + d + 1) (by have := (List.getElem?_eq_some_iff.1 hy).1; omega)
    exact tr _ _ _ (ih hz) (riseL_step (k := i + d + 1) h hz (by rw [← hy]; rfl))
/-- a loop that goes through a list of records and stops with 'no' at the first that is bad -/
theorem rise_loop {α : Type} {ok : α → Bool} {lt : α → α → Bool} {l : List α} {R : Type} {no : R} {f : Nat → Unit → (Unit → Option R) → (Unit → Option R) → Option R} {fin : Unit → Option R}
    (step : ∀ k nx s, l[k]? = some s → (ok s = false → f k () nx fin = some no) ∧ (ok s = true → (k = 0 → f k () nx fin = nx ()) ∧ (0 < k → ∀ r, l[k-1]? = some r → (lt r s = true → f k () nx fin = nx ()) ∧ (lt r s = false → f k () nx fin = some no)))) :
    cntK f l.length 0 () fin = if riseTo ok lt l l.length then fin () else some no := by
  have key : ∀ m k, k + m = l.length → riseTo ok lt l k = true → cntK f m k () fin = if riseTo ok lt l l.length then fin () else some no := by
    intro m
    induction m with
    | zero => intro k hk hu; obtain rfl : k = l.length := by omega
              rw [hu]; rfl
    | succ m ih =>
      intro k hk hu
      have hlt : k < l.length := by omega
      obtain ⟨s, hs, _⟩ := at_lt hlt
      obtain ⟨h1, h2⟩ := step k (fun s' => cntK f m (k + 1) s' fin) s hs
      show f k () _ fin = _
      cases hok : ok s with
      | false => rw [h1 hok, riseTo_not (riseAt_bad hs hok) hlt]; rfl
      | true =>
        obtain ⟨h3, h4⟩ := h2 hok
        by_cases hk0 : k = 0
        · rw [h3 hk0]
          subst hk0
          exact ih 1 (by omega) (by rw [riseTo_succ, hu, riseAt_first hs hok]; rfl)
        · obtain ⟨r, hr, _⟩ := at_lt (l := l) (k := k - 1) (by omega)
          obtain ⟨h5, h6⟩ := h4 (by omega) r hr
          cases hl : lt r s with
          | true =>
            rw [h5 hl]
            exact ih (k + 1) (by omega) (by rw [riseTo_succ, hu, riseAt_next hs hr (by omega) hok, hl]; rfl)
          | false => rw [h6 hl, riseTo_not (by rw [riseAt_next hs hr (by omega) hok, hl]) hlt]; rfl
  exact key l.length 0 (by omega) (riseTo_zero ok lt l)
end Go.Proofs.Ytkinlkmmelkdnaa.QOrd

/- Chapter 8: rates: the plain functions of the program and of the reference agree, and the laws answer true. (QRiseL) No condition but those of each theorem. -/
namespace Go.Proofs.Ytkinlkmmelkdnaa.QRiseL
set_option linter.unusedVariables false
set_option linter.unusedSimpArgs false
open Go.RowKit
open Go.Proofs.Ytkinlkmmelkdnaa.GoP Go.Proofs.Ytkinlkmmelkdnaa.PlainStamp Go.Proofs.Ytkinlkmmelkdnaa.QBase Go.Proofs.Ytkinlkmmelkdnaa.QOrd Go.Proofs.Ytkinlkmmelkdnaa.QLoop

/-- the same, for a loop that counts by itself and stops behind m: the list may be longer than m -/
theorem rise_lp {α R : Type} {ok : α → Bool} {lt : α → α → Bool} {l : List α} {m : Nat} {no : R} {yes : Option R} {f : Int → (Int → Option R) → (Int → Option R) → Option R} {fin : Int → Option R}
    (stop : ∀ (k : Nat) nx, (l.length ≤ k ∨ m < k) → k ≤ l.length → k ≤ m + 1 → f (k : Int) nx fin = fin (k : Int))
    (end_ : ∀ k : Int, fin k = if l.length ≤ m then yes else some no)
    (step : ∀ (k : Nat) nx s, k ≤ m → l[k]? = some s → (ok s = false → f (k : Int) nx fin = some no) ∧ (ok s = true → (k = 0 → f (k : Int) nx fin = nx ((k + 1 : Nat) : Int)) ∧ (0 < k → ∀ r, l[k-1]? = some r → ok r = true → (lt r s = true → f (k : Int) nx fin = nx ((k + 1 : Nat) : Int)) ∧ (lt r s = false → f (k : Int) nx fin = some no)))) :
    ∀ fuel k, m + 1 - k < fuel → k ≤ l.length → k ≤ m + 1 → riseTo ok lt l k = true → loopK f fuel (k : Int) fin = if riseL m ok lt l = true then yes else some no := by
  intro fuel
  induction fuel with
  | zero => intro k h; omega
  | succ n ih =>
    intro k hf hk hm hu
    show f (k : Int) (fun s' => loopK f n s' fin) fin = _
    by_cases hs : l.length ≤ k ∨ m < k
    · rw [stop k _ hs hk hm, end_]
      by_cases hl : l.length ≤ m
      · obtain rfl : k = l.length := by omega
        rw [if_pos hl, if_pos (by unfold riseL; simp [hl, hu])]
      · rw [if_neg hl, if_neg (by unfold riseL; simp [hl])]
    · have hlt : k < l.length := by omega
      obtain ⟨s, hs', _⟩ := at_lt hlt
      obtain ⟨h1, h2⟩ := step k (fun s' => loopK f n s' fin) s (by omega) hs'
      have bad : riseAt ok lt l k = false → riseL m ok lt l = false := by
        intro h; unfold riseL; rw [riseTo_not h hlt, Bool.and_false]
      cases hok : ok s with
      | false => rw [h1 hok, bad (riseAt_bad hs' hok)]; rfl
      | true =>
        obtain ⟨h3, h4⟩ := h2 hok
        by_cases hk0 : k = 0
        · rw [h3 hk0]
          subst hk0
          exact ih 1 (by omega) (by omega) (by omega) (by rw [riseTo_succ, hu, riseAt_first hs' hok]; rfl)
        · obtain ⟨r, hr, _⟩ := at_lt (l := l) (k := k - 1) (by omega)
          have hokr : ok r = true := by
            have := riseTo_at hu (k := k - 1) (by omega)
            unfold riseAt at this; rw [hr] at this
            simp only [Bool.and_eq_true] at this; exact this.1
          obtain ⟨h5, h6⟩ := h4 (by omega) r hr hokr
          cases hl : lt r s with
          | true =>
            rw [h5 hl]
            exact ih (k + 1) (by omega) (by omega) (by omega) (by rw [riseTo_succ, hu, riseAt_next hs' hr (by omega) hok, hl]; rfl)
          | false => rw [h6 hl, bad (by rw [riseAt_next hs' hr (by omega) hok, hl])]; rfl
/-- what each step gives holds between any two -/
theorem riseL_rel {α : Type} {m : Nat} {ok : α → Bool} {lt : α → α → Bool} (rel : α → α → Prop) (st : ∀ a b, ok a = true → ok b = true → lt a b = true → rel a b) (tr : ∀ a b c, rel a b → rel b c → rel a c) {l : List α} (h : riseL m ok lt l = true) {i j : Nat} {x y : α} (hij : i < j) (hx : l[i]? = some x) (hy : l[j]? = some y) : rel x y := by
  obtain ⟨d, rfl⟩ : ∃ d, j = i + d + 1 := ⟨j - i - 1, by omega⟩
  clear hij
  induction d generalizing y with
  | zero => exact st _ _ (riseL_ok h hx) (riseL_ok h hy) (riseL_step h hx hy)
  | succ d ih =>
    obtain ⟨z, hz, _⟩ := at_lt (l := l) (k := i + d + 1) (by have := (List.getElem?_eq_some_iff.1 hy).1; omega)
    exact tr _ _ _ (ih hz) (st _ _ (riseL_ok h hz) (riseL_ok h hy) (riseL_step (k := i + d + 1) h hz (by rw [← hy]; rfl)))
end Go.Proofs.Ytkinlkmmelkdnaa.QRiseL

/- Chapter 8: rates: the plain functions of the program and of the reference agree, and the laws answer true. (Q8Rate) No condition but those of each theorem. -/
namespace Go.Proofs.Ytkinlkmmelkdnaa.Q8Rate
set_option linter.unusedVariables false
set_option linter.unusedSimpArgs false
open Go.RowKit
open Go.Proofs.Ytkinlkmmelkdnaa.GoP Go.Proofs.Ytkinlkmmelkdnaa.PlainStamp Go.Proofs.Ytkinlkmmelkdnaa.QBase Go.Proofs.Ytkinlkmmelkdnaa.QLoop Go.Proofs.Ytkinlkmmelkdnaa.PRate Go.Proofs.Ytkinlkmmelkdnaa.PrateClass

theorem isZone_eq (n : Int) : GiIsZone.P n = some (inB n 0 9) := by simp only [GiIsZone.P, within_eq, Option.bind_some]
theorem isWeight_eq (n : Int) : GiIsWeight.P n = some (inB n 1 2000) := by simp only [GiIsWeight.P, within_eq, Option.bind_some]
theorem isRateCents_eq (n : Int) : GiIsRateCents.P n = some (inB n 1 9999) := by simp only [GiIsRateCents.P, within_eq, Option.bind_some]
theorem isDay_eq (n : Int) : GiIsDay.P n = some (inB n 0 4000) := by simp only [GiIsDay.P, within_eq, Option.bind_some]
theorem l8Zone_eq (n : Int) : GsL8Zone.P n = some (inB n 0 9) := by simp only [GsL8Zone.P, l1In_eq, Option.bind_some]
theorem l8Grams_eq (n : Int) : GsL8Grams.P n = some (inB n 1 2000) := by simp only [GsL8Grams.P, l1In_eq, Option.bind_some]
theorem l8Cents_eq (n : Int) : GsL8Cents.P n = some (inB n 1 9999) := by simp only [GsL8Cents.P, l1In_eq, Option.bind_some]
theorem l2Day_eq (n : Int) : GsL2Day.P n = some (inB n 0 4000) := by simp only [GsL2Day.P, l1In_eq, Option.bind_some]
def okR (x : Rate) : Bool := inB x.zone 0 9 && inB x.grams 1 2000 && inB x.cents 1 9999 && inB x.from_ 0 4000 && inB x.until_ 0 4000 && decide (x.from_ ≤ x.until_)
theorem isRate_eq (x : Rate) : GiIsRate.P x = some (okR x) := by
  obtain ⟨a, b, c, d, e⟩ := x
  simp only [GiIsRate.P, unRate, isZone_eq, isWeight_eq, isRateCents_eq, isDay_eq, Option.bind_some, letK, joinK, appK, iteK_if, okR]
  cases inB a 0 9 <;> cases inB b 1 2000 <;> cases inB e 1 9999 <;> cases inB c 0 4000 <;> cases inB d 0 4000 <;> simp
theorem l8One_eq (x : Rate) : GsL8One.P x = some (okR x) := by
  obtain ⟨a, b, c, d, e⟩ := x
  have hx : (inB d 0 4000 && inB c 0 d) = (inB c 0 4000 && inB d 0 4000 && decide (c ≤ d)) := by unfold inB; rw [Bool.eq_iff_iff]; simp; omega
  have hy : okR ⟨a, b, c, d, e⟩ = (inB a 0 9 && inB b 1 2000 && (inB d 0 4000 && inB c 0 d) && inB e 1 9999) := by
    rw [hx]; unfold okR
    cases inB a 0 9 <;> cases inB b 1 2000 <;> cases inB e 1 9999 <;> simp
  rw [hy]
  simp only [GsL8One.P, unRate, l8Zone_eq, l8Grams_eq, l8Cents_eq, l2Day_eq, l1In_eq, Option.bind_some, letK, joinK, appK, iteK_if]
  cases inB a 0 9 <;> cases inB b 1 2000 <;> cases inB d 0 4000 <;> cases inB c 0 d <;> simp
theorem okR_of {x : Rate} (h : okR x = true) : (0 ≤ x.zone ∧ x.zone ≤ 9) ∧ (1 ≤ x.grams ∧ x.grams ≤ 2000) ∧ (1 ≤ x.cents ∧ x.cents ≤ 9999) ∧ (0 ≤ x.from_ ∧ x.from_ ≤ x.until_ ∧ x.until_ ≤ 4000) := by
  unfold okR at h
  simp only [Bool.and_eq_true, decide_eq_true_eq] at h
  have h1 := inB_of h.1.1.1.1.1
  have h2 := inB_of h.1.1.1.1.2
  have h3 := inB_of h.1.1.1.2
  have h4 := inB_of h.1.1.2
  have h5 := inB_of h.1.2
  omega
def linkR (a b : Rate) : Bool := if a.zone = b.zone ∧ a.grams = b.grams then decide (a.until_ < b.from_) else decide (a.zone < b.zone ∨ a.zone = b.zone ∧ a.grams < b.grams)
theorem compare_eq (x y : Int) : GxCmpCompareInt.P x y = some (if x < y then -1 else if y < x then 1 else 0) := by
  simp only [GxCmpCompareInt.P, GxCmpIsNaNInt.P, Option.bind_some, letK, iteK_if]
  by_cases h : x < y <;> by_cases h2 : y < x <;> simp [h, h2]
theorem or_eq (a b : Int) : GxCmpOrInt.P [a, b] = some (if a = 0 then b else a) := by
  have h0 : idx [a, b] ((0 : Nat) : Int) = some a := rfl
  have h1 : idx [a, b] ((1 : Nat) : Int) = some b := rfl
  show cntK (GxCmpOrInt.l0 [a, b]) 2 0 () GxCmpOrInt.e0 = _
  simp only [cntK, GxCmpOrInt.l0, h0, h1, Option.bind_some, letK, iteK_if, appK, GxCmpOrInt.e0, Nat.zero_add]
  by_cases ha : a = 0 <;> by_cases hb : b = 0 <;> simp [ha, hb]
theorem canFollow_eq (b a : Rate) : GiCanFollow.P b a = some (linkR a b) := by
  obtain ⟨z, g, f, u, c⟩ := b
  obtain ⟨z2, g2, f2, u2, c2⟩ := a
  simp only [GiCanFollow.P, unRate, unrateClass, GiClassOf.P, Option.bind_some, letK, iteK_if, compare_eq, or_eq, linkR]
  by_cases h1 : z = z2
  · subst h1
    by_cases h2 : g = g2
    · subst h2; simp
    · have h3 : ¬ g2 = g := fun h => h2 h.symm
      by_cases h4 : g2 < g
      · simp [h2, h3, h4]
      · by_cases h5 : g < g2
        · simp [h2, h3, h4, h5]
        · omega
  · have h3 : ¬ z2 = z := fun h => h1 h.symm
    by_cases h4 : z2 < z
    · simp [h1, h3, h4]
    · by_cases h5 : z < z2
      · simp [h1, h3, h4, h5]
      · omega
def codeR (x : Rate) : Int := (10000 * x.zone + x.grams) * 10000 + x.from_
theorem l8Code_eq {x : Rate} (h : okR x = true) : GsL8Code.P x = some (codeR x) := by
  have h1 := okR_of h
  obtain ⟨a, b, c, d, e⟩ := x
  dsimp only at h1
  simp only [GsL8Code.P, unRate, letK, codeR]
  rw [wrap_in (x := 10000 * a) (by omega) (by omega), wrap_in (x := 10000 * a + b) (by omega) (by omega), wrap_in (x := (10000 * a + b) * 10000) (by omega) (by omega), wrap_in (by omega) (by omega)]
theorem link_code {a b : Rate} (ha : okR a = true) (hb : okR b = true) : linkR a b = (decide (codeR a < codeR b) && !(decide (a.zone = b.zone) && decide (a.grams = b.grams) && decide (b.from_ ≤ a.until_))) := by
  have h1 := okR_of ha
  have h2 := okR_of hb
  unfold linkR codeR
  rw [Bool.eq_iff_iff]
  split
  · simp; omega
  · simp; omega
end Go.Proofs.Ytkinlkmmelkdnaa.Q8Rate

/- Chapter 8: rates: the plain functions of the program and of the reference agree, and the laws answer true. (Q8List) No condition but those of each theorem. -/
namespace Go.Proofs.Ytkinlkmmelkdnaa.Q8List
set_option linter.unusedVariables false
set_option linter.unusedSimpArgs false
open Go.RowKit
open Go.Proofs.Ytkinlkmmelkdnaa.GoP Go.Proofs.Ytkinlkmmelkdnaa.PlainStamp Go.Proofs.Ytkinlkmmelkdnaa.QBase Go.Proofs.Ytkinlkmmelkdnaa.QRiseL Go.Proofs.Ytkinlkmmelkdnaa.QOrd Go.Proofs.Ytkinlkmmelkdnaa.Q8Rate Go.Proofs.Ytkinlkmmelkdnaa.QLoop Go.Proofs.Ytkinlkmmelkdnaa.PRate

def okRs (l : List Rate) : Bool := riseL 16 okR linkR l
theorem areRates_eq (l : List Rate) (hl : l.length ≤ 9223372036854775807) : GiAreRates.P l = some (okRs l) := by
  simp only [GiAreRates.P, letK, iteK_if]
  by_cases h12 : l.length ≤ 16
  · rw [if_neg (by simp; omega), rise_loop (ok := okR) (lt := linkR) (no := false)]
    · unfold okRs riseL; cases riseTo okR linkR l l.length <;> simp [h12, GiAreRates.e0]
    · intro k nx s hs
      have hi : idx l (k : Int) = some s := by rw [idx_nat, hs]
      have hk : k < l.length := (List.getElem?_eq_some_iff.1 hs).1
      simp only [GiAreRates.l0, hi, Option.bind_some, unRate, isRate_eq, letK, joinK, appK, iteK_if]
      refine ⟨fun h => by simp [h], fun h => ⟨fun h0 => by subst h0; simp [h], fun h0 r hr => ?_⟩⟩
      rw [idx_pred h0 (by omega) hr]
      have hk0 : (0 : Int) < (k : Int) := by omega
      have hk1 : ¬ k = 0 := by omega
      exact ⟨fun hlt => by simp [h, hk0, hk1, canFollow_eq, hlt], fun hge => by simp [h, hk0, hk1, canFollow_eq, hge]⟩
  · rw [if_pos (by simp; omega)]; unfold okRs riseL; simp [h12]
theorem l8Good_eq {fuel : Nat} (l : List Rate) (hl : l.length ≤ 9223372036854775807) (hf : 17 < fuel) : GsL8Good.P fuel l = some (okRs l) := by
  simp only [GsL8Good.P]
  have key := rise_lp (ok := okR) (lt := linkR) (l := l) (m := 16) (no := false) (yes := some true) (f := GsL8Good.l0 l) (fin := GsL8Good.e0 l) ?_ ?_ ?_ fuel 0 (by omega) (by omega) (by omega) rfl
  · rw [show ((0 : Nat) : Int) = 0 from rfl] at key
    rw [key]; unfold okRs; cases riseL 16 okR linkR l <;> rfl
  · intro k nx hs h1 h2
    simp only [GsL8Good.l0, letK, joinK, appK, iteK_if]
    by_cases hk : l.length ≤ k
    · have : ¬ ((k : Int) < (l.length : Int)) := by omega
      simp [this]
    · have h3 : ((k : Int) < (l.length : Int)) := by omega
      have h4 : ¬ ((k : Int) ≤ 16) := by omega
      simp [h3, h4]
  · intro k
    simp only [GsL8Good.e0, letK]
    by_cases h : l.length ≤ 16
    · rw [if_pos h]; simp; omega
    · rw [if_neg h]; simp; omega
  · intro k nx s hk16 hs
    have hi : idx l (k : Int) = some s := by rw [idx_nat, hs]
    have hk : k < l.length := (List.getElem?_eq_some_iff.1 hs).1
    have h1 : ((k : Int) < (l.length : Int)) := by omega
    have h2 : (k : Int) ≤ 16 := by omega
    have hw : IntKind.i64.wrap ((k : Int) + 1) = ((k + 1 : Nat) : Int) := by rw [wrap_in (by omega) (by omega)]; omega
    simp only [GsL8Good.l0, letK, joinK, appK, iteK_if, decide_eq_true h1, decide_eq_true h2, if_true, hi, Option.bind_some, unRate, l8One_eq, hw]
    refine ⟨fun h => by simp [h], fun h => ⟨fun h0 => by subst h0; simp [h], fun h0 r hr hokr => ?_⟩⟩
    rw [idx_pred h0 (by omega) hr]
    have hk0 : (0 : Int) < (k : Int) := by omega
    have hk1 : ¬ k = 0 := by omega
    simp only [Option.bind_some, l8Code_eq h, l8Code_eq hokr, link_code hokr h]
    have he : ∀ x : Rate, Rate.mk x.zone x.grams x.from_ x.until_ x.cents = x := fun x => rfl
    simp only [h, decide_eq_true hk0, Bool.not_true, Bool.false_eq_true, if_false, if_true]
    constructor
    · intro hlt
      simp only [Bool.and_eq_true, decide_eq_true_eq, Bool.not_eq_true'] at hlt
      obtain ⟨c1, c2⟩ := hlt
      have : ¬ (codeR s ≤ codeR r) := by omega
      by_cases e1 : r.zone = s.zone
      · by_cases e2 : r.grams = s.grams
        · have e3 : ¬ (s.from_ ≤ r.until_) := by simpa [e1, e2] using c2
          simp [this, e1, e2, e3]
        · simp [this, e1, e2]
      · simp [this, e1]
    · intro hge
      by_cases c1 : codeR r < codeR s
      · have : ¬ (codeR s ≤ codeR r) := by omega
        simp only [decide_eq_true c1, Bool.true_and, Bool.not_eq_false', Bool.and_eq_true, decide_eq_true_eq] at hge
        simp [this, hge.1.1, hge.1.2, hge.2]
      · have : codeR s ≤ codeR r := by omega
        simp [this]
theorem rs_mem {l : List Rate} (h : okRs l = true) {x : Rate} (hx : x ∈ l) : okR x = true := riseL_mem h hx
end Go.Proofs.Ytkinlkmmelkdnaa.Q8List

/- Chapter 8: rates: the plain functions of the program and of the reference agree, and the laws answer true. (Q8For) No condition but those of each theorem. -/
namespace Go.Proofs.Ytkinlkmmelkdnaa.Q8For
set_option linter.unusedVariables false
set_option linter.unusedSimpArgs false
open Go.RowKit
open Go.Proofs.Ytkinlkmmelkdnaa.GoP Go.Proofs.Ytkinlkmmelkdnaa.PlainStamp Go.Proofs.Ytkinlkmmelkdnaa.QBase Go.Proofs.Ytkinlkmmelkdnaa.QFold Go.Proofs.Ytkinlkmmelkdnaa.QRiseL Go.Proofs.Ytkinlkmmelkdnaa.QOrd Go.Proofs.Ytkinlkmmelkdnaa.Q8List Go.Proofs.Ytkinlkmmelkdnaa.Q8Rate Go.Proofs.Ytkinlkmmelkdnaa.QLoop Go.Proofs.Ytkinlkmmelkdnaa.PRate

def onB (day zone grams : Int) (r : Rate) : Bool := decide (r.zone = zone) && decide (grams ≤ r.grams) && inB day r.from_ r.until_
def rateV (l : List Rate) (day zone grams : Int) : Int := match l.find? (onB day zone grams) with | some r => r.cents | none => 0
theorem rateOn_eq (l : List Rate) (day zone grams : Int) : GiRateOn.P l day zone grams = some (rateV l day zone grams) := by
  simp only [GiRateOn.P]
  rw [find_val (p := onB day zone grams) (yes := fun x => some x.cents)]
  · unfold rateV; cases l.find? (onB day zone grams) <;> rfl
  · intro k nx x hx
    have hi : idx l (k : Int) = some x := by rw [idx_nat, hx]
    simp only [GiRateOn.l0, hi, Option.bind_some, unRate, within_eq, letK, joinK, appK, iteK_if, onB]
    by_cases h1 : x.zone = zone <;> by_cases h2 : grams ≤ x.grams <;> simp [h1, h2]
theorem l8For_eq (l : List Rate) (day zone grams : Int) : GsL8For.P l day zone grams = some (rateV l day zone grams) := by
  simp only [GsL8For.P]
  rw [find_val (p := onB day zone grams) (yes := fun x => some x.cents)]
  · unfold rateV; cases l.find? (onB day zone grams) <;> rfl
  · intro k nx x hx
    have hi : idx l (k : Int) = some x := by rw [idx_nat, hx]
    simp only [GsL8For.l0, hi, Option.bind_some, unRate, l1In_eq, letK, joinK, appK, iteK_if, onB]
    by_cases h1 : x.zone = zone <;> by_cases h2 : grams ≤ x.grams <;> simp [h1, h2]
theorem rateV_nonneg {l : List Rate} (h : okRs l = true) (day zone grams : Int) : 0 ≤ rateV l day zone grams := by
  unfold rateV
  cases hf : l.find? (onB day zone grams) with
  | none => exact Int.le_refl _
  | some r => have := okR_of (rs_mem h (List.mem_of_find?_eq_some hf)); dsimp only; omega
theorem canSend_eq (l : List Rate) (zone grams : Int) (hl : l.length ≤ 9223372036854775807) : GiCanSend.P l zone grams = some (okRs l && inB zone 0 9 && inB grams 1 2000) := by
  simp only [GiCanSend.P, areRates_eq l hl, isZone_eq, isWeight_eq, Option.bind_some, joinK, appK, iteK_if]
  cases okRs l <;> cases inB zone 0 9 <;> simp
end Go.Proofs.Ytkinlkmmelkdnaa.Q8For

/- Chapter 8: rates: the plain functions of the program and of the reference agree, and the laws answer true. (Q8Days) No condition but those of each theorem. -/
namespace Go.Proofs.Ytkinlkmmelkdnaa.Q8Days
set_option linter.unusedVariables false
set_option linter.unusedSimpArgs false
open Go.RowKit
open Go.Proofs.Ytkinlkmmelkdnaa.GoP Go.Proofs.Ytkinlkmmelkdnaa.PlainStamp Go.Proofs.Ytkinlkmmelkdnaa.QBase Go.Proofs.Ytkinlkmmelkdnaa.QSort Go.Proofs.Ytkinlkmmelkdnaa.QFold Go.Proofs.Ytkinlkmmelkdnaa.QRiseL Go.Proofs.Ytkinlkmmelkdnaa.QOrd Go.Proofs.Ytkinlkmmelkdnaa.Q8For Go.Proofs.Ytkinlkmmelkdnaa.Q8List Go.Proofs.Ytkinlkmmelkdnaa.Q8Rate Go.Proofs.Ytkinlkmmelkdnaa.QLoop Go.Proofs.Ytkinlkmmelkdnaa.PRate

/-- the days on which a rate can differ from that of the day before -/
def tdays (l : List Rate) : List Int := compI (sortI (l.flatMap fun r => [r.from_, r.until_ + 1]))
theorem mem_days {l : List Rate} {d : Int} : d ∈ tdays l ↔ ∃ r ∈ l, d = r.from_ ∨ d = r.until_ + 1 := by
  unfold tdays
  rw [compI_mem (sortI_up _), sortI_mem, List.mem_flatMap]
  simp
theorem days_up (l : List Rate) : List.Pairwise (fun a b => a < b) (tdays l) := compI_up (sortI_up _)
theorem flat_two (l : List Rate) : (l.flatMap fun r => [r.from_, r.until_ + 1]).length = 2 * l.length := by
  induction l with
  | nil => rfl
  | cons x l ih => rw [List.flatMap_cons, List.length_append, ih]; simp; omega
theorem days_len (l : List Rate) : (tdays l).length ≤ 2 * l.length := by
  have h := compI_len (sortI (l.flatMap fun r => [r.from_, r.until_ + 1]))
  rw [sortI_len, flat_two] at h
  exact h
theorem days_eq {l : List Rate} (h : okRs l = true) : GiTurningDays.P l = some (tdays l) := by
  have h16 := riseL_len h
  simp only [GiTurningDays.P]
  refine cnt_is _ (fun k s => s = (l.take k).flatMap fun r => [r.from_, r.until_ + 1]) ?_ ?_ _ (by simp)
  · intro k s nx hk hI hn
    obtain ⟨x, hx, hi⟩ := at_lt (l := l) (k := k) hk
    have hok := okR_of (rs_mem h (List.mem_of_getElem? hx))
    simp only [GiTurningDays.l0, hi, Option.bind_some, unRate, letK, appK]
    have hs : s.length ≤ 2 * 16 := by rw [hI, flat_two, List.length_take]; omega
    rw [wrap_in (by omega) (by omega), guardK_pos (by simp; omega)]
    exact hn _ (by rw [take_next hx, List.flatMap_append, hI]; simp)
  · intro s hI
    rw [List.take_of_length_le (Nat.le_refl _)] at hI
    have hs : s.length ≤ 1000000 := by rw [hI, flat_two]; omega
    simp only [GiTurningDays.e0, letK, sort_eq s hs, comp_eq, Option.bind_some]
    rw [hI]; rfl
/-- between two turning days the rate is the same -/
theorem rate_same {l : List Rate} (h : okRs l = true) {zone grams a d : Int} (had : a ≤ d) (hn : ∀ t ∈ tdays l, a < t → d < t) : rateV l d zone grams = rateV l a zone grams := by
  unfold rateV
  rw [find_congr (q := onB a zone grams)]
  intro r hr
  have hok := okR_of (rs_mem h hr)
  have h1 := hn r.from_ (mem_days.2 ⟨r, hr, .inl rfl⟩)
  have h2 := hn (r.until_ + 1) (mem_days.2 ⟨r, hr, .inr rfl⟩)
  have : inB d r.from_ r.until_ = inB a r.from_ r.until_ := by unfold inB; rw [Bool.eq_iff_iff]; simp; omega
  unfold onB
  rw [this]
theorem rate_none {l : List Rate} {zone grams d : Int} (hn : ∀ r ∈ l, ¬ (r.from_ ≤ d ∧ d ≤ r.until_)) : rateV l d zone grams = 0 := by
  unfold rateV
  have : l.find? (onB d zone grams) = none := by
    rw [List.find?_eq_none]
    intro r hr
    have := hn r hr
    unfold onB inB
    simp only [Bool.and_eq_true, decide_eq_true_eq]
    omega
  rw [this]
theorem day_range {l : List Rate} (h : okRs l = true) {d : Int} (hd : d ∈ tdays l) : 0 ≤ d ∧ d ≤ 4001 := by
  obtain ⟨r, hr, e⟩ := mem_days.1 hd
  have hok := okR_of (rs_mem h hr)
  omega
end Go.Proofs.Ytkinlkmmelkdnaa.Q8Days

/- Chapter 8: rates: the plain functions of the program and of the reference agree, and the laws answer true. (Q8Span) No condition but those of each theorem. -/
namespace Go.Proofs.Ytkinlkmmelkdnaa.Q8Span
set_option linter.unusedVariables false
set_option linter.unusedSimpArgs false
open Go.RowKit
open Go.Proofs.Ytkinlkmmelkdnaa.GoP Go.Proofs.Ytkinlkmmelkdnaa.PlainStamp Go.Proofs.Ytkinlkmmelkdnaa.QBase Go.Proofs.Ytkinlkmmelkdnaa.QLoop Go.Proofs.Ytkinlkmmelkdnaa.PIntA3

/-- the last one's end put off to a day -/
def bump (l : List IntA3) (d c : Int) : List IntA3 := match l.getLast? with | none => l | some y => l.dropLast ++ [⟨y.x0, d, c⟩]
theorem bump_end (l : List IntA3) (y : IntA3) (d c : Int) : bump (l ++ [y]) d c = l ++ [⟨y.x0, d, c⟩] := by simp [bump]
theorem bump_two (l : List IntA3) (d c e g : Int) : bump (bump l d c) e g = bump l e g := by
  rcases List.eq_nil_or_concat l with rfl | ⟨m, y, rfl⟩
  · rfl
  · rw [List.concat_eq_append, bump_end, bump_end, bump_end]
def stepS (f : Nat → Int) (s : List IntA3 × Int) (d : Nat) : List IntA3 × Int :=
  if 0 < f d then (if f d = s.2 then bump s.1 d (f d) else s.1 ++ [⟨d, d, f d⟩], f d) else (s.1, 0)
def refS (f : Nat → Int) : Nat → List IntA3 × Int
  | 0 => ([], 0)
  | n + 1 => stepS f (refS f n) n
/-- what the last span of the days ahead of n is -/
theorem ref_inv {f : Nat → Int} (hf : ∀ d, 0 ≤ f d) (n : Nat) : 0 ≤ (refS f n).2 ∧ (0 < (refS f n).2 → ∃ m y, (refS f n).1 = m ++ [y] ∧ y.x1 = (n : Int) - 1 ∧ y.x2 = (refS f n).2) ∧ ((refS f n).2 = 0 → ∀ m y, (refS f n).1 = m ++ [y] → y.x1 < (n : Int) - 1) := by
  induction n with
  | zero => exact ⟨by simp [refS], fun h => by simp [refS] at h, fun _ m y h => by simp [refS] at h⟩
  | succ n ih =>
    obtain ⟨h0, h1, h2⟩ := ih
    have hn := hf n
    show 0 ≤ (stepS f (refS f n) n).2 ∧ (0 < (stepS f (refS f n) n).2 → ∃ m y, (stepS f (refS f n) n).1 = m ++ [y] ∧ y.x1 = ((n + 1 : Nat) : Int) - 1 ∧ y.x2 = (stepS f (refS f n) n).2) ∧ ((stepS f (refS f n) n).2 = 0 → ∀ m y, (stepS f (refS f n) n).1 = m ++ [y] → y.x1 < ((n + 1 : Nat) : Int) - 1)
    unfold stepS
    by_cases hp : 0 < f n
    · rw [if_pos hp]
      refine ⟨hn, fun _ => ?_, fun h => by dsimp only at h; omega⟩
      dsimp only
      by_cases he : f n = (refS f n).2
      · rw [if_pos he]
        obtain ⟨m, y, e, _, _⟩ := h1 (by omega)
        rw [e, bump_end]
        exact ⟨m, _, rfl, by dsimp only; omega, rfl⟩
      · rw [if_neg he]
        exact ⟨_, _, rfl, by dsimp only; omega, rfl⟩
    · rw [if_neg hp]
      refine ⟨Int.le_refl _, fun h => by dsimp only at h; omega, fun _ m y e => ?_⟩
      dsimp only at e
      by_cases hz : (refS f n).2 = 0
      · have := h2 hz m y e; omega
      · obtain ⟨m2, y2, e2, h3, _⟩ := h1 (by omega)
        rw [e] at e2
        have := (List.append_inj' e2 rfl).2
        simp only [List.cons.injEq, and_true] at this
        subst this; omega
/-- whether the day's rate goes on the last span -/
def goesOn (l : List IntA3) (d c : Int) : Bool := match l.getLast? with | none => false | some y => decide (y.x1 = d - 1) && decide (y.x2 = c)
theorem goes_ref {f : Nat → Int} (hf : ∀ d, 0 ≤ f d) {n : Nat} (hn : 0 < f n) : goesOn (refS f n).1 n (f n) = decide (f n = (refS f n).2) := by
  obtain ⟨h0, h1, h2⟩ := ref_inv hf n
  by_cases hz : (refS f n).2 = 0
  · rw [decide_eq_false (by omega)]
    unfold goesOn
    rcases List.eq_nil_or_concat (refS f n).1 with e | ⟨m, y, e⟩
    · rw [e]; rfl
    · rw [List.concat_eq_append] at e
      have := h2 hz m y e
      rw [e]; simp only [List.getLast?_append, List.getLast?_singleton, Option.some_or]
      rw [decide_eq_false (by omega)]; rfl
  · obtain ⟨m, y, e, e1, e2⟩ := h1 (by omega)
    unfold goesOn
    rw [e]; simp only [List.getLast?_append, List.getLast?_singleton, Option.some_or]
    rw [decide_eq_true e1, e2, Bool.true_and]
    by_cases hc : f n = (refS f n).2
    · rw [decide_eq_true hc, decide_eq_true hc.symm]
    · rw [decide_eq_false hc, decide_eq_false (fun h => hc h.symm)]
/-- one more span, or the last one put off -/
def addS (l : List IntA3) (a b c : Int) : List IntA3 := if c = 0 then l else if goesOn l a c = true then bump l b c else l ++ [⟨a, b, c⟩]
theorem run_zero {f : Nat → Int} {a b : Nat} (hab : a ≤ b) (h : ∀ d, a ≤ d → d < b → f d = 0) : (refS f b).1 = (refS f a).1 := by
  induction b with
  | zero => obtain rfl : a = 0 := by omega
            rfl
  | succ b ih =>
    by_cases he : a = b + 1
    · subst he; rfl
    · have h1 := h b (by omega) (by omega)
      show (stepS f (refS f b) b).1 = _
      unfold stepS
      rw [if_neg (by omega)]
      exact ih (by omega) (fun d h2 h3 => h d h2 (by omega))
theorem run_pos {f : Nat → Int} {a b : Nat} {c : Int} (hc : 0 < c) (hab : a < b) (h : ∀ d, a ≤ d → d < b → f d = c) : refS f b = (if c = (refS f a).2 then bump (refS f a).1 ((b : Int) - 1) c else (refS f a).1 ++ [⟨a, (b : Int) - 1, c⟩], c) := by
  induction b with
  | zero => omega
  | succ b ih =>
    have h1 := h b (by omega) (by omega)
    show stepS f (refS f b) b = _
    unfold stepS
    rw [h1, if_pos hc]
    have hb : ((b + 1 : Nat) : Int) - 1 = b := by omega
    rw [hb]
    by_cases he : a = b
    · subst he; rfl
    · rw [ih (by omega) (fun d h2 h3 => h d h2 (by omega))]
      dsimp only
      rw [if_pos rfl]
      by_cases hl : c = (refS f a).2
      · rw [if_pos hl, if_pos hl, bump_two]
      · rw [if_neg hl, if_neg hl, bump_end]
theorem run_add {f : Nat → Int} (hf : ∀ d, 0 ≤ f d) {a b : Nat} (hab : a < b) (h : ∀ d, a ≤ d → d < b → f d = f a) : (refS f b).1 = addS (refS f a).1 a ((b : Int) - 1) (f a) := by
  unfold addS
  by_cases hc : f a = 0
  · rw [if_pos hc]; exact run_zero (by omega) (fun d h1 h2 => by rw [h d h1 h2, hc])
  · have hp : 0 < f a := by have := hf a; omega
    rw [if_neg hc, goes_ref hf hp, run_pos hp hab h]
    by_cases he : f a = (refS f a).2
    · rw [if_pos he, if_pos (by simpa using he)]
    · rw [if_neg he, if_neg (by simpa using he)]
/-- spans: each holds days with a rate alone, one behind the other, and each day ahead of n that has a rate is in one -/
def cov (y : IntA3) (d : Int) : Prop := y.x0 ≤ d ∧ d ≤ y.x1
theorem ref_cov {f : Nat → Int} (hf : ∀ d, 0 ≤ f d) (n : Nat) : (∀ y ∈ (refS f n).1, 0 ≤ y.x0 ∧ y.x0 ≤ y.x1 ∧ y.x1 < (n : Int) ∧ ∀ d : Nat, cov y d → 0 < f d ∧ f d = y.x2) ∧ List.Pairwise (fun y z : IntA3 => y.x1 < z.x0) (refS f n).1 ∧ (∀ d : Nat, d < n → 0 < f d → ∃ y ∈ (refS f n).1, cov y d) := by
  induction n with
  | zero => exact ⟨by simp [refS], by simp [refS], fun d h => by omega⟩
  | succ n ih =>
    obtain ⟨h1, h2, h3⟩ := ih
    obtain ⟨g0, g1, g2⟩ := ref_inv hf n
    have hn := hf n
    show (∀ y ∈ (stepS f (refS f n) n).1, 0 ≤ y.x0 ∧ y.x0 ≤ y.x1 ∧ y.x1 < ((n + 1 : Nat) : Int) ∧ ∀ d : Nat, cov y d → 0 < f d ∧ f d = y.x2) ∧ List.Pairwise (fun y z : IntA3 => y.x1 < z.x0) (stepS f (refS f n) n).1 ∧ (∀ d : Nat, d < n + 1 → 0 < f d → ∃ y ∈ (stepS f (refS f n) n).1, cov y d)
    unfold stepS
    by_cases hp : 0 < f n
    · rw [if_pos hp]
      dsimp only
      by_cases he : f n = (refS f n).2
      · rw [if_pos he]
        obtain ⟨m, y, e, e1, e2⟩ := g1 (by omega)
        rw [e] at h1 h2 h3 ⊢
        rw [bump_end]
        rw [List.pairwise_append] at h2
        obtain ⟨p1, p2, p3⟩ := h2
        have hy := h1 y (by simp)
        refine ⟨fun z hz => ?_, List.pairwise_append.2 ⟨p1, by simp, fun z hz u hu => ?_⟩, fun d hd hfd => ?_⟩
        · rw [List.mem_append, List.mem_singleton] at hz
          rcases hz with hz | rfl
          · obtain ⟨q1, q2, q3, q4⟩ := h1 z (by simp [hz])
            exact ⟨q1, q2, by omega, q4⟩
          · dsimp only [cov] at *
            refine ⟨by omega, by omega, by omega, fun d ⟨a1, a2⟩ => ?_⟩
            by_cases hd : d = n
            · subst hd; exact ⟨hp, rfl⟩
            · have := hy.2.2.2 d ⟨a1, by omega⟩
              exact ⟨this.1, by omega⟩
        · simp only [List.mem_singleton] at hu
          subst hu
          exact p3 z hz y (by simp)
        · by_cases hdn : d = n
          · subst hdn
            exact ⟨_, by simp; exact Or.inr rfl, by dsimp only [cov]; omega⟩
          · obtain ⟨z, hz, hz2⟩ := h3 d (by omega) hfd
            rw [List.mem_append, List.mem_singleton] at hz
            rcases hz with hz | rfl
            · exact ⟨z, by simp [hz], hz2⟩
            · exact ⟨_, by simp; exact Or.inr rfl, by dsimp only [cov] at *; omega⟩
      · rw [if_neg he]
        refine ⟨fun z hz => ?_, List.pairwise_append.2 ⟨h2, by simp, fun z hz u hu => ?_⟩, fun d hd hfd => ?_⟩
        · rw [List.mem_append, List.mem_singleton] at hz
          rcases hz with hz | rfl
          · obtain ⟨q1, q2, q3, q4⟩ := h1 z hz
            exact ⟨q1, q2, by omega, q4⟩
          · dsimp only [cov]
            refine ⟨by omega, by omega, by omega, fun d ⟨a1, a2⟩ => ?_⟩
            obtain rfl : d = n := by omega
            exact ⟨hp, rfl⟩
        · simp only [List.mem_singleton] at hu
          subst hu
          exact (h1 z hz).2.2.1
        · by_cases hdn : d = n
          · subst hdn
            exact ⟨_, by simp; exact Or.inr rfl, by dsimp only [cov]; omega⟩
          · obtain ⟨z, hz, hz2⟩ := h3 d (by omega) hfd
            exact ⟨z, by simp [hz], hz2⟩
    · rw [if_neg hp]
      dsimp only
      refine ⟨fun z hz => ?_, h2, fun d hd hfd => ?_⟩
      · obtain ⟨q1, q2, q3, q4⟩ := h1 z hz
        exact ⟨q1, q2, by omega, q4⟩
      · by_cases hdn : d = n
        · subst hdn; omega
        · exact h3 d (by omega) hfd
/-- the first day from a day on that is in no span -/
def skipS (l : List IntA3) (d : Int) : Int := l.foldl (fun d y => if y.x0 ≤ d ∧ d ≤ y.x1 then y.x1 + 1 else d) d
theorem skip_ge (l : List IntA3) (d : Int) : d ≤ skipS l d := by
  unfold skipS
  induction l generalizing d with
  | nil => simp
  | cons y l ih =>
    rw [List.foldl_cons]
    have := ih (if y.x0 ≤ d ∧ d ≤ y.x1 then y.x1 + 1 else d)
    split at this <;> rename_i h
    · rw [if_pos h]; omega
    · rw [if_neg h]; omega
theorem skip_out {l : List IntA3} (hp : List.Pairwise (fun y z : IntA3 => y.x1 < z.x0) l) (hl : ∀ y ∈ l, y.x0 ≤ y.x1) (d : Int) : ∀ y ∈ l, ¬ cov y (skipS l d) := by
  induction l generalizing d with
  | nil => intro y hy; simp at hy
  | cons z l ih =>
    rw [List.pairwise_cons] at hp
    have ih' := fun d => ih hp.2 (fun y hy => hl y (by simp [hy])) d
    intro y hy
    unfold skipS
    rw [List.foldl_cons]
    change ¬ cov y (skipS l (if z.x0 ≤ d ∧ d ≤ z.x1 then z.x1 + 1 else d))
    rw [List.mem_cons] at hy
    rcases hy with rfl | hy
    · have hz := hl y (by simp)
      by_cases hc : y.x0 ≤ d ∧ d ≤ y.x1
      · rw [if_pos hc]
        have := skip_ge l (y.x1 + 1)
        intro h; unfold cov at h; omega
      · rw [if_neg hc]
        by_cases hd : y.x1 < d
        · have := skip_ge l d
          intro h; unfold cov at h; omega
        · have same : skipS l d = d := by
            have key : ∀ l : List IntA3, (∀ u ∈ l, y.x1 < u.x0) → skipS l d = d := by
              intro l
              induction l with
              | nil => intro _; rfl
              | cons u l ih2 =>
                intro hu
                unfold skipS
                rw [List.foldl_cons, if_neg (by have := hu u (by simp); omega)]
                exact ih2 (fun v hv => hu v (by simp [hv]))
            exact key l hp.1
          rw [same]; intro h; unfold cov at h; omega
    · exact ih' _ y hy
theorem skip_in {f : Nat → Int} {n : Nat} {l : List IntA3} (hl : ∀ y ∈ l, 0 ≤ y.x0 ∧ y.x0 ≤ y.x1 ∧ y.x1 < (n : Int) ∧ ∀ d : Nat, cov y d → 0 < f d ∧ f d = y.x2) (d e : Nat) (h1 : d ≤ e) (h2 : (e : Int) < skipS l d) : 0 < f e := by
  induction l generalizing d with
  | nil => simp [skipS] at h2; omega
  | cons z l ih =>
    unfold skipS at h2
    rw [List.foldl_cons] at h2
    obtain ⟨q1, q2, q3, q4⟩ := hl z (by simp)
    have hl' : ∀ y ∈ l, _ := fun (y : IntA3) (hy : y ∈ l) => hl y (by simp [hy])
    by_cases hc : z.x0 ≤ (d : Int) ∧ (d : Int) ≤ z.x1
    · rw [if_pos hc] at h2
      by_cases he : (e : Int) ≤ z.x1
      · exact (q4 e ⟨by omega, he⟩).1
      · have hz : ((z.x1 + 1).toNat : Int) = z.x1 + 1 := by omega
        rw [← hz] at h2
        exact ih hl' (z.x1 + 1).toNat (by omega) h2
    · rw [if_neg hc] at h2
      exact ih hl' d h1 h2
theorem skip_le {n : Nat} {l : List IntA3} (hl : ∀ y ∈ l, y.x1 < (n : Int)) (d : Int) (hd : d ≤ n) : skipS l d ≤ n := by
  unfold skipS
  induction l generalizing d with
  | nil => simpa using hd
  | cons z l ih =>
    rw [List.foldl_cons]
    have := hl z (by simp)
    refine ih (fun y hy => hl y (by simp [hy])) _ ?_
    split <;> omega
end Go.Proofs.Ytkinlkmmelkdnaa.Q8Span

/- Loops that test each place, and loops without a count. No condition. -/
namespace Go.Proofs.Ytkinlkmmelkdnaa.QAll
set_option linter.unusedVariables false
set_option linter.unusedSimpArgs false
open Go.RowKit
open Go.Proofs.Ytkinlkmmelkdnaa.GoP Go.Proofs.Ytkinlkmmelkdnaa.QBase Go.Proofs.Ytkinlkmmelkdnaa.QLoop

/-- each number below n is good -/
def allN (n : Nat) (p : Nat → Bool) : Bool := (List.range n).all p
theorem allN_iff {n : Nat} {p : Nat → Bool} : allN n p = true ↔ ∀ i, i < n → p i = true := by unfold allN; simp
theorem allN_no {n k : Nat} {p : Nat → Bool} (hk : k < n) (h : p k = false) : allN n p = false := by
  rw [Bool.eq_false_iff]; intro ha; rw [allN_iff.1 ha k hk] at h; exact absurd h (by simp)
theorem allN_eq {n m : Nat} {p q : Nat → Bool} (h : (∀ i, i < n → p i = true) ↔ (∀ i, i < m → q i = true)) : allN n p = allN m q := by
  rw [Bool.eq_iff_iff, allN_iff, allN_iff]; exact h
theorem all_cnt {ρ : Type} {n : Nat} {p : Nat → Bool} {no : ρ} {f : Nat → Unit → (Unit → Option ρ) → (Unit → Option ρ) → Option ρ} {fin : Unit → Option ρ}
    (step : ∀ k nx, k < n → (p k = false → f k () nx fin = some no) ∧ (p k = true → f k () nx fin = nx ())) : cntK f n 0 () fin = if allN n p = true then fin () else some no := by
  have key : ∀ m k, k + m = n → (∀ i, i < k → p i = true) → cntK f m k () fin = if allN n p = true then fin () else some no := by
    intro m
    induction m with
    | zero => intro k hk hu; obtain rfl : k = n := by omega
              rw [allN_iff.2 hu]; rfl
    | succ m ih =>
      intro k hk hu
      obtain ⟨h1, h2⟩ := step k (fun s' => cntK f m (k + 1) s' fin) (by omega)
      show f k () _ fin = _
      cases hp : p k with
      | false => rw [h1 hp, allN_no (by omega) hp]; rfl
      | true =>
        rw [h2 hp]
        refine ih (k + 1) (by omega) (fun i hi => ?_)
        by_cases he : i = k
        · rw [he]; exact hp
        · exact hu i (by omega)
  exact key n 0 (by omega) (fun i hi => by omega)
theorem lp_ex {σ ρ : Type} {f : σ → (σ → Option ρ) → (σ → Option ρ) → Option ρ} {fin : σ → Option ρ} {Q : ρ → Prop} {n : Nat} (I : Nat → σ → Prop)
    (step : ∀ k s nx, k < n → I k s → (∀ s', I (k + 1) s' → ∃ r, nx s' = some r ∧ Q r) → ∃ r, f s nx fin = some r ∧ Q r) (done : ∀ s nx, I n s → ∃ r, f s nx fin = some r ∧ Q r) :
    ∀ fuel k s, k ≤ n → n - k < fuel → I k s → ∃ r, loopK f fuel s fin = some r ∧ Q r := by
  intro fuel
  induction fuel with
  | zero => intro k s hk hf; omega
  | succ m ih =>
    intro k s hk hf hI
    show ∃ r, f s _ fin = some r ∧ Q r
    by_cases he : k = n
    · subst he; exact done s _ hI
    · exact step k s _ (by omega) hI (fun s' h' => ih (k + 1) s' (by omega) (by omega) h')
theorem all_lp {ρ : Type} {n : Nat} {p : Nat → Bool} {no : ρ} {f : Int → (Int → Option ρ) → (Int → Option ρ) → Option ρ} {fin : Int → Option ρ}
    (step : ∀ (k : Nat) nx, k < n → (p k = false → f (k : Int) nx fin = some no) ∧ (p k = true → f (k : Int) nx fin = nx ((k + 1 : Nat) : Int))) (stop : ∀ nx, f (n : Int) nx fin = fin (n : Int))
    (fuel : Nat) (hf : n < fuel) : loopK f fuel 0 fin = if allN n p = true then fin (n : Int) else some no := by
  have key : ∀ fuel k, k ≤ n → n - k < fuel → (∀ i, i < k → p i = true) → loopK f fuel (k : Int) fin = if allN n p = true then fin (n : Int) else some no := by
    intro fuel
    induction fuel with
    | zero => intro k hk hf; omega
    | succ m ih =>
      intro k hk hf hu
      show f (k : Int) _ fin = _
      by_cases he : k = n
      · subst he; rw [stop, allN_iff.2 hu]; rfl
      · obtain ⟨h1, h2⟩ := step k (fun s' => loopK f m s' fin) (by omega)
        cases hp : p k with
        | false => rw [h1 hp, allN_no (by omega) hp]; rfl
        | true =>
          rw [h2 hp]
          refine ih (k + 1) (by omega) (by omega) (fun i hi => ?_)
          by_cases he : i = k
          · rw [he]; exact hp
          · exact hu i (by omega)
  exact key fuel 0 (by omega) (by omega) (fun i hi => by omega)
theorem next_i {k : Nat} (h : k ≤ 9223372036854775806) : IntKind.i64.wrap ((k : Int) + 1) = ((k + 1 : Nat) : Int) := by rw [wrap_in (by omega) (by omega)]; omega
end Go.Proofs.Ytkinlkmmelkdnaa.QAll

/- Rising rows: what a rising row gives; loops that sum; loops from one on. No condition. -/
namespace Go.Proofs.Ytkinlkmmelkdnaa.QUp
set_option linter.unusedVariables false
set_option linter.unusedSimpArgs false
open Go.RowKit
open Go.Proofs.Ytkinlkmmelkdnaa.GoP Go.Proofs.Ytkinlkmmelkdnaa.QBase Go.Proofs.Ytkinlkmmelkdnaa.QLoop Go.Proofs.Ytkinlkmmelkdnaa.QAll

theorem upTo_at {α : Type} {ok : α → Bool} {id : α → Int} {l : List α} {n : Nat} (h : upTo ok id l n = true) {k : Nat} (hk : k < n) : upAt ok id l k = true := List.all_eq_true.1 h k (List.mem_range.2 hk)
theorem upTo_ok {α : Type} {ok : α → Bool} {id : α → Int} {l : List α} {n : Nat} (h : upTo ok id l n = true) {k : Nat} (hk : k < n) {x : α} (hx : l[k]? = some x) : ok x = true := by
  have := upTo_at h hk
  unfold upAt at this
  rw [hx] at this
  simp only [Bool.and_eq_true] at this
  exact this.1
theorem upTo_step {α : Type} {ok : α → Bool} {id : α → Int} {l : List α} {n : Nat} (h : upTo ok id l n = true) {k : Nat} (hk : k + 1 < n) {x y : α} (hx : l[k]? = some x) (hy : l[k + 1]? = some y) : id x < id y := by
  have := upTo_at h hk
  unfold upAt at this
  rw [hy] at this
  simp only [Nat.add_sub_cancel, hx, Bool.and_eq_true, Bool.or_eq_true, decide_eq_true_eq] at this
  rcases this.2 with h0 | h0
  · omega
  · exact h0
theorem upTo_lt {α : Type} {ok : α → Bool} {id : α → Int} {l : List α} {n : Nat} (h : upTo ok id l n = true) (hn : n ≤ l.length) {i : Nat} : ∀ d {x y : α}, i + d + 1 < n → l[i]? = some x → l[i + d + 1]? = some y → id x < id y := by
  intro d
  induction d with
  | zero => intro x y hk hx hy; exact upTo_step h hk hx hy
  | succ d ih =>
    intro x y hk hx hy
    obtain ⟨z, hz, _⟩ := at_lt (l := l) (k := i + d + 1) (by omega)
    have h1 := ih (by omega) hx hz
    have h2 := upTo_step (k := i + d + 1) h (by omega) hz (by rw [← hy]; rfl)
    omega
/-- rising numbers: the later one is greater -/
theorem up_less {α : Type} {ok : α → Bool} {id : α → Int} {l : List α} (h : upTo ok id l l.length = true) {i j : Nat} {x y : α} (hij : i < j) (hx : l[i]? = some x) (hy : l[j]? = some y) : id x < id y := by
  have hj := (List.getElem?_eq_some_iff.1 hy).1
  exact upTo_lt h (Nat.le_refl _) (j - i - 1) (by omega) hx (by rw [← hy]; congr 1; omega)
/-- a loop with fuel, from k on, by an invariant -/
theorem lp_is {σ ρ : Type} {f : σ → (σ → Option ρ) → (σ → Option ρ) → Option ρ} {fin : σ → Option ρ} {n : Nat} (r : ρ) (I : Nat → σ → Prop)
    (step : ∀ k s nx, k < n → I k s → (∀ s', I (k + 1) s' → nx s' = some r) → f s nx fin = some r) (done : ∀ s nx, I n s → f s nx fin = some r) (fuel : Nat) (k : Nat) (s : σ) (hk : k ≤ n) (hf : n - k < fuel) (hI : I k s) : loopK f fuel s fin = some r := by
  obtain ⟨r', h, rfl⟩ := lp_ex (Q := fun x => x = r) I (fun k s nx hk hI hn => ⟨r, step k s nx hk hI (fun s' h' => by obtain ⟨_, h, rfl⟩ := hn s' h'; exact h), rfl⟩) (fun s nx h => ⟨r, done s nx h, rfl⟩) fuel k s hk hf hI
  exact h
theorem most_eq (a b : Int) (h : (if b < a then a else b) = max a b := by omega) : (if b < a then a else b) = max a b := h
end Go.Proofs.Ytkinlkmmelkdnaa.QUp

/- loop.example/g01062/spec.RateSpans as a plain function, and the contract of the program's: where the plain one has an answer, the program has it. Conditions: slices read as lists. -/
namespace Go.Proofs.Ytkinlkmmelkdnaa.GsRateSpans
set_option linter.unusedVariables false
set_option linter.unusedSimpArgs false
open Go.RowKit
open Go.Proofs.Ytkinlkmmelkdnaa.Rowed Go.Proofs.Ytkinlkmmelkdnaa.Turn Go.Proofs.Ytkinlkmmelkdnaa.Aid Go.Proofs.Ytkinlkmmelkdnaa.GoP Go.Proofs.Ytkinlkmmelkdnaa.GoM

def l0 (list : (List Go.Proofs.Ytkinlkmmelkdnaa.PRate.Rate)) (zone : Int) (grams : Int) (s : (List Go.Proofs.Ytkinlkmmelkdnaa.PIntA3.IntA3) × Int × Int) (nx0 bk0 : (List Go.Proofs.Ytkinlkmmelkdnaa.PIntA3.IntA3) × Int × Int → Option ((List Go.Proofs.Ytkinlkmmelkdnaa.PIntA3.IntA3) × Bool)) : Option ((List Go.Proofs.Ytkinlkmmelkdnaa.PIntA3.IntA3) × Bool) :=
  unp3 s fun out_8l0 last_9l0 day_10l0 =>
  letK (decide (day_10l0 ≤ 4000)) fun (t_23 : Bool) =>
  iteK t_23
  (Option.bind (Go.Proofs.Ytkinlkmmelkdnaa.GsL8For.P list day_10l0 zone grams) fun (t_28 : Int) =>
  letK (decide (0 < t_28)) fun (t_31 : Bool) =>
  joinK (fun (t_36 : Bool) =>
  iteK t_36
  (letK (IntKind.i64.wrap ((out_8l0.length : Int) - 1)) fun (t_40 : Int) =>
  Option.bind (idx out_8l0 t_40) fun (yt_46 : Go.Proofs.Ytkinlkmmelkdnaa.PIntA3.IntA3) =>
  unIntA3 yt_46 fun (t_46_x0 : Int) (t_46_x1 : Int) (t_46_x2 : Int) =>
  Option.bind (idx out_8l0 t_40) fun (yt_52 : Go.Proofs.Ytkinlkmmelkdnaa.PIntA3.IntA3) =>
  unIntA3 yt_52 fun (t_52_x0 : Int) (t_52_x1 : Int) (t_52_x2 : Int) =>
  letK (out_8l0.set (t_40).toNat (Go.Proofs.Ytkinlkmmelkdnaa.PIntA3.IntA3.mk t_46_x0 day_10l0 t_28)) fun (l53_53 : (List Go.Proofs.Ytkinlkmmelkdnaa.PIntA3.IntA3)) =>
  letK (IntKind.i64.wrap (day_10l0 + 1)) fun (t_68 : Int) =>
  appK nx0 (l53_53, t_28, t_68))
  (letK (decide (0 < t_28)) fun (t_55 : Bool) =>
  iteK t_55
  (guardK (out_8l0.length ≤ 1099511627776) <|
  letK (out_8l0 ++ [(Go.Proofs.Ytkinlkmmelkdnaa.PIntA3.IntA3.mk day_10l0 day_10l0 t_28)]) fun (t_63 : (List Go.Proofs.Ytkinlkmmelkdnaa.PIntA3.IntA3)) =>
  letK (IntKind.i64.wrap (day_10l0 + 1)) fun (t_68 : Int) =>
  appK nx0 (t_63, t_28, t_68))
  (letK (IntKind.i64.wrap (day_10l0 + 1)) fun (t_68 : Int) =>
  appK nx0 (out_8l0, t_28, t_68)))) fun jt_36 => iteK t_31 (letK (t_28 == last_9l0) fun (t_35 : Bool) =>
  appK jt_36 t_35) (appK jt_36 false))
  (appK bk0 (out_8l0, last_9l0, day_10l0))

def e0  (s : (List Go.Proofs.Ytkinlkmmelkdnaa.PIntA3.IntA3) × Int × Int) : Option ((List Go.Proofs.Ytkinlkmmelkdnaa.PIntA3.IntA3) × Bool) :=
  unp3 s fun out_8l0 last_9l0 day_10l0 =>
  some (out_8l0, true)

def P (fuel : Nat) (list : (List Go.Proofs.Ytkinlkmmelkdnaa.PRate.Rate)) (zone : Int) (grams : Int) : Option ((List Go.Proofs.Ytkinlkmmelkdnaa.PIntA3.IntA3) × Bool) :=
  Option.bind (Go.Proofs.Ytkinlkmmelkdnaa.GsL8Good.P fuel list) fun (t_5 : Bool) =>
  letK (!t_5) fun (t_6 : Bool) =>
  joinK (fun (t_11 : Bool) =>
  joinK (fun (t_16 : Bool) =>
  iteK t_16
  (some (([] : List Go.Proofs.Ytkinlkmmelkdnaa.PIntA3.IntA3), false))
  (loopK (l0 list zone grams) fuel (([] : List Go.Proofs.Ytkinlkmmelkdnaa.PIntA3.IntA3), 0, 0) (e0 ))) fun jt_16 => iteK t_11 (appK jt_16 true) (Option.bind (Go.Proofs.Ytkinlkmmelkdnaa.GsL8Grams.P grams) fun (t_14 : Bool) =>
  letK (!t_14) fun (t_15 : Bool) =>
  appK jt_16 t_15)) fun jt_11 => iteK t_6 (appK jt_11 true) (Option.bind (Go.Proofs.Ytkinlkmmelkdnaa.GsL8Zone.P zone) fun (t_9 : Bool) =>
  letK (!t_9) fun (t_10 : Bool) =>
  appK jt_11 t_10)

set_option maxRecDepth 100000 in
set_option maxHeartbeats 2000000 in
theorem C (fuel : Nat) (list : (List Go.Proofs.Ytkinlkmmelkdnaa.PRate.Rate)) (zone : Int) (grams : Int) (A0 : Option Addr) (c0 : Nat)  (w : World) (M0 : Hid (Cells w 5 A0 list.length (Go.Proofs.Ytkinlkmmelkdnaa.PRate.flat list))) (N0 : Hid (list.length ≤ 9223372036854775807))  {r0 : (List Go.Proofs.Ytkinlkmmelkdnaa.PIntA3.IntA3)} {r1 : Bool} (H : Hid (P fuel list zone grams = some (r0, r1))) :
    Calls Try.prog 24 #[.slice A0 list.length c0, .int .i64 zone, .int .i64 grams] w (fun e w' => ∃ A_r0 c_r0, e = .returned (.tuple #[.slice A_r0 r0.length c_r0, .bool r1]) ∧ w'.ownsRow w.heap.size 90 3 (.slice A_r0 r0.length c_r0) r0.length (Go.Proofs.Ytkinlkmmelkdnaa.PIntA3.flat r0) ∧ Below w.heap.size w w') := by
  have HB := Lib.hid (Below.refl w.heap.size w)
  unfold P at H
  have N0o := N0.out
  obtain ⟨i0_90, hi_90, hz0_90, hz1_90, hz2_90⟩ := Aid.info_parts (P := Try.prog) (T := 90) (z := .agg #[.int .i64 0, .int .i64 0, .int .i64 0]) (s := 3) (b := 24) (by kernel_rfl)
  go_enter Try.func24, Try.ntmps24
  obtain ⟨w_t_2, hw_t_2⟩ : ∃ x, w.alloc (.cells #[] 90) = x := ⟨_, rfl⟩
  have bw_t_2 : Below w.heap.size w w_t_2 := by rw [← hw_t_2]; exact (Below.refl _ _).alloc (Nat.le_refl _) _
  have Ot_2 : Hid (w_t_2.ownsRow w.heap.size 90 3 (.slice (some ⟨w.heap.size, 0, none⟩) 0 0) 0 []) := Lib.hid (by rw [← hw_t_2]; exact own_empty HB.out.size)
  have HBw_t_2 := Lib.hid (Below.step HB.out bw_t_2)
  clear bw_t_2
  replace H := bind_hid H
  obtain ⟨t_5, qt_5, H⟩ := H
  go_wp2_with fail
  go_at_call 75
  refine (Go.Proofs.Ytkinlkmmelkdnaa.GsL8Good.C fuel (list) A0 c0 _   (Lib.hid (Cells.below M0.out HBw_t_2.out)) N0 qt_5).mono ?_
  rintro e_t_5 wt_5 ⟨rfl, bt_5⟩
  have HBwt_5 := Lib.hid (Below.step HBw_t_2.out bt_5)
  replace Ot_2 := Lib.hid (own_below Ot_2.out bt_5)
  clear bt_5
  cases t_5 with
  | false =>
    replace H := let_hid H
    obtain ⟨t_6, ht_6, H⟩ := H
    obtain rfl : t_6 = true := ht_6.symm
    replace H := join_hid H
    replace H := ite_t H
    replace H := app_hid H
    replace H := join_hid H
    replace H := ite_t H
    replace H := app_hid H
    replace H := ite_t H
    cases ret_hid H
    go_wp2_with fail
    go_ret2
    exact ⟨(some ⟨w.heap.size, 0, none⟩), 0, rfl, Ot_2.out, HBwt_5.out⟩
  | true =>
    replace H := let_hid H
    obtain ⟨t_6, ht_6, H⟩ := H
    obtain rfl : t_6 = false := ht_6.symm
    replace H := join_hid H
    replace H := ite_f H
    replace H := bind_hid H
    obtain ⟨t_9, qt_9, H⟩ := H
    go_wp2_with fail
    go_at_call 79
    refine (Go.Proofs.Ytkinlkmmelkdnaa.GsL8Zone.C (zone)  _    qt_9).mono ?_
    rintro e_t_9 wt_9 ⟨rfl, bt_9⟩
    have HBwt_9 := Lib.hid (Below.step HBwt_5.out bt_9)
    replace Ot_2 := Lib.hid (own_below Ot_2.out bt_9)
    clear bt_9
    cases t_9 with
    | false =>
      replace H := let_hid H
      obtain ⟨t_10, ht_10, H⟩ := H
      obtain rfl : t_10 = true := ht_10.symm
      replace H := app_hid H
      replace H := join_hid H
      replace H := ite_t H
      replace H := app_hid H
      replace H := ite_t H
      cases ret_hid H
      go_wp2_with fail
      go_ret2
      exact ⟨(some ⟨w.heap.size, 0, none⟩), 0, rfl, Ot_2.out, HBwt_9.out⟩
    | true =>
      replace H := let_hid H
      obtain ⟨t_10, ht_10, H⟩ := H
      obtain rfl : t_10 = false := ht_10.symm
      replace H := app_hid H
      replace H := join_hid H
      replace H := ite_f H
      replace H := bind_hid H
      obtain ⟨t_14, qt_14, H⟩ := H
      go_wp2_with fail
      go_at_call 80
      refine (Go.Proofs.Ytkinlkmmelkdnaa.GsL8Grams.C (grams)  _    qt_14).mono ?_
      rintro e_t_14 wt_14 ⟨rfl, bt_14⟩
      have HBwt_14 := Lib.hid (Below.step HBwt_9.out bt_14)
      replace Ot_2 := Lib.hid (own_below Ot_2.out bt_14)
      clear bt_14
      cases t_14 with
      | false =>
        replace H := let_hid H
        obtain ⟨t_15, ht_15, H⟩ := H
        obtain rfl : t_15 = true := ht_15.symm
        replace H := app_hid H
        replace H := ite_t H
        cases ret_hid H
        go_wp2_with fail
        go_ret2
        exact ⟨(some ⟨w.heap.size, 0, none⟩), 0, rfl, Ot_2.out, HBwt_14.out⟩
      | true =>
        replace H := let_hid H
        obtain ⟨t_15, ht_15, H⟩ := H
        obtain rfl : t_15 = false := ht_15.symm
        replace H := app_hid H
        replace H := ite_f H
        go_wp2_with fail
        go_loopg [8, 9, 10] (fuel) (fun m_ v8_ v9_ v10_ wr => ∃ (out_8l0 : (List Go.Proofs.Ytkinlkmmelkdnaa.PIntA3.IntA3)) (last_9l0 : Int) (day_10l0 : Int) (Aout_8l0 : Option Addr) (cout_8l0 : Nat), v8_ = .slice Aout_8l0 out_8l0.length cout_8l0 ∧ v9_ = .int .i64 last_9l0 ∧ v10_ = .int .i64 day_10l0 ∧ Hid (loopK (l0 list zone grams) m_ (out_8l0, last_9l0, day_10l0) (e0 ) = some (r0, r1)) ∧ Hid (Below w.heap.size w wr) ∧ Hid (wr.ownsRow w.heap.size 90 3 (.slice Aout_8l0 out_8l0.length cout_8l0) out_8l0.length (Go.Proofs.Ytkinlkmmelkdnaa.PIntA3.flat out_8l0)))
        case atStart => exact ⟨_, _, _, _, _, rfl, rfl, rfl, H, HBwt_14, Ot_2⟩
        case round =>
          obtain ⟨out_8l0, last_9l0, day_10l0, Aout_8l0, cout_8l0, rfl, rfl, rfl, H, HBwr0, Oout_8l0⟩ := hrel
          rename World => wr0
          cases gk with
          | zero => exact (loop_zero H).elim
          | succ m0 =>
            replace H := loop_succ H
            unfold l0 at H
            replace H := unp3_hid H
            replace H := let_hid H
            obtain ⟨t_23, ht_23, H⟩ := H
            cases t_23 with
            | false =>
              replace H := ite_f H
              replace H := app_hid H
              unfold e0 at H
              replace H := unp3_hid H
              cases ret_hid H
              go_wp2_with fail
              go_ret2
              exact ⟨Aout_8l0, cout_8l0, rfl, Oout_8l0.out, HBwr0.out⟩
            | true =>
              replace H := ite_t H
              replace H := bind_hid H
              obtain ⟨t_28, qt_28, H⟩ := H
              go_wp2_with fail
              go_at_call 81
              refine (Go.Proofs.Ytkinlkmmelkdnaa.GsL8For.C (list) (day_10l0) (zone) (grams) A0 c0 _   (Lib.hid (Cells.below M0.out HBwr0.out)) N0 qt_28).mono ?_
              rintro e_t_28 wt_28 ⟨rfl, bt_28⟩
              have HBwt_28 := Lib.hid (Below.step HBwr0.out bt_28)
              replace Oout_8l0 := Lib.hid (own_below Oout_8l0.out bt_28)
              clear bt_28
              replace H := let_hid H
              obtain ⟨t_31, ht_31, H⟩ := H
              replace H := join_hid H
              cases t_31 with
              | false =>
                replace H := ite_f H
                replace H := app_hid H
                replace H := ite_f H
                replace H := let_hid H
                obtain ⟨t_55, ht_55, H⟩ := H
                obtain rfl := ht_31.symm.trans ht_55
                replace H := ite_f H
                replace H := let_hid H
                obtain ⟨t_68, ht_68, H⟩ := H
                replace H := app_hid H
                go_wp2_with fail
                go_roundg m0
                case measure => omega
                case rel => exact ⟨_, _, _, _, _, rfl, rfl, rfl, H, HBwt_28, Oout_8l0⟩
              | true =>
                replace H := ite_t H
                replace H := let_hid H
                obtain ⟨t_35, ht_35, H⟩ := H
                replace H := app_hid H
                cases t_35 with
                | false =>
                  replace H := ite_f H
                  replace H := let_hid H
                  obtain ⟨t_55, ht_55, H⟩ := H
                  obtain rfl := ht_31.symm.trans ht_55
                  replace H := ite_t H
                  obtain ⟨w_t_62, hw_t_62⟩ : ∃ x, wt_28.alloc (.cells #[.int .i64 day_10l0, .int .i64 day_10l0, .int .i64 t_28] 90) = x := ⟨_, rfl⟩
                  have bw_t_62 : Below wt_28.heap.size wt_28 w_t_62 := by rw [← hw_t_62]; exact (Below.refl _ _).alloc (Nat.le_refl _) _
                  have HBw_t_62 := Lib.hid (Below.step HBwt_28.out bw_t_62)
                  replace Oout_8l0 := Lib.hid (own_below Oout_8l0.out bw_t_62)
                  clear bw_t_62
                  replace H := guard_hid H
                  obtain ⟨hlt_63, H⟩ := H
                  replace H := let_hid H
                  obtain ⟨t_63, ht_63, H⟩ := H
                  have hht_63 := Lib.hid ht_63
                  clear ht_63
                  have hst_63 := HBw_t_62.out.size
                  go_wp2_with (at_builtin; refine wpList_append_own_at _ rfl _ _ 38 rfl w.heap.size 90 i0_90 (.agg #[.int .i64 0, .int .i64 0, .int .i64 0]) 3 24 Try.underlying38 hi_90 hz0_90 hz1_90 hz2_90 rfl (by decide) _ _ _ rfl Oout_8l0.out ⟨wt_28.heap.size, 0, none⟩ 1 1 [.int .i64 day_10l0, .int .i64 day_10l0, .int .i64 t_28] rfl rfl (news_new hw_t_62) (one_cells rfl) (by unfold maxLen; omega) (by omega) hst_63 ?_; intro vt_63 wt_63 ot_63 gt_63 zt_63 yt_63; clear zt_63; obtain ⟨qt_63, ct_63, rfl, pt_63⟩ := own_push hht_63.out (Go.Proofs.Ytkinlkmmelkdnaa.PIntA3.flat_snoc _ _) rfl ot_63; have Pt_63 := Lib.hid pt_63; have Yt_63 := Lib.hid yt_63; have Gt_63 := Lib.hid gt_63; clear ot_63 gt_63 pt_63 yt_63; refine stop_in ?_)
                  refine stop_out ?_
                  have HBwt_63 := Lib.hid (HBw_t_62.out.grown Gt_63.out hst_63 (fun q hq => (Oout_8l0.out.lt q hq).1))
                  clear hst_63
                  clear Oout_8l0 Yt_63 Gt_63
                  replace H := let_hid H
                  obtain ⟨t_68, ht_68, H⟩ := H
                  replace H := app_hid H
                  go_wp2_with fail
                  go_roundg m0
                  case measure => omega
                  case rel => exact ⟨_, _, _, _, _, rfl, rfl, rfl, H, HBwt_63, Pt_63⟩
                | true =>
                  replace H := ite_t H
                  replace H := let_hid H
                  obtain ⟨t_40, ht_40, H⟩ := H
                  try have hv_t_40 : (out_8l0.length : Int) - 1 = t_40 := by rw [← ht_40]; exact (IntWalk.i64_in _ (by omega)).symm
                  try have hv2_t_40 : IntKind.i64.wrap t_40 = t_40 := by rw [← hv_t_40]; exact IntWalk.i64_in _ (by omega)
                  replace H := idx_hid H
                  obtain ⟨nt_46, yt_46, et_46, lt_46, gt_46, H⟩ := H
                  subst et_46
                  obtain ⟨t_46_x0, t_46_x1, t_46_x2⟩ := yt_46
                  replace H := unIntA3_hid H
                  obtain ⟨qt_46, Qt_46⟩ := own_some Oout_8l0.out (by omega)
                  subst Qt_46
                  obtain ⟨ab_t_46, ao_t_46, zt_46, At_46, z_t_46, ct_46_0, ct_46_1, ct_46_2⟩ := Go.Proofs.Ytkinlkmmelkdnaa.OIntA3.at_ (own_cells Oout_8l0.out) (k := nt_46) (by omega)
                  obtain rfl := Option.some.inj (gt_46.out.symm.trans z_t_46)
                  simp only [Option.some.injEq, Addr.mk.injEq] at At_46
                  obtain ⟨rfl, rfl, _⟩ := At_46
                  clear z_t_46
                  simp only [Nat.zero_add] at ct_46_0 ct_46_1 ct_46_2
                  have b0t_46 : (0 : Int) ≤ (nt_46 : Int) := by omega
                  have b1t_46 : (nt_46 : Int) < ((out_8l0.length : Nat) : Int) := by omega
                  have b2t_46 : ((nt_46 : Int)).toNat = nt_46 := by omega
                  replace H := idx_hid H
                  obtain ⟨nt_52, yt_52, et_52, lt_52, gt_52, H⟩ := H
                  obtain rfl : nt_46 = nt_52 := by omega
                  clear et_52
                  obtain rfl := Option.some.inj (gt_46.out.symm.trans gt_52.out)
                  clear gt_52 lt_52
                  replace H := unIntA3_hid H
                  replace H := let_hid H
                  obtain ⟨l53_53, hl53_53, H⟩ := H
                  try simp only [Int.toNat_natCast] at hl53_53
                  obtain ⟨wl53_53, hwl53_53⟩ : ∃ x, (((wt_28).setCell ⟨qt_46, nt_46 * 3, none⟩ (.int .i64 t_46_x0)).setCell ⟨qt_46, nt_46 * 3 + 1, none⟩ (.int .i64 day_10l0)).setCell ⟨qt_46, nt_46 * 3 + 2, none⟩ (.int .i64 t_28) = x := ⟨_, rfl⟩
                  have z0l53_53 := Oout_8l0.out.frozenAt (nt_46 * 3)
                  have z1l53_53 := Oout_8l0.out.frozenAt (nt_46 * 3 + 1)
                  have z2l53_53 := Oout_8l0.out.frozenAt (nt_46 * 3 + 2)
                  have Sl53_53 := Lib.hid (own_stores [(nt_46 * 3, .int .i64 t_46_x0), (nt_46 * 3 + 1, .int .i64 day_10l0), (nt_46 * 3 + 2, .int .i64 t_28)] Oout_8l0.out)
                  have nl53_53 : Hid (l53_53.length = out_8l0.length) := Lib.hid (by rw [← hl53_53, List.length_set])
                  have Pl53_53 : Hid (wl53_53.ownsRow w.heap.size 90 3 (.slice (some ⟨qt_46, 0, none⟩) out_8l0.length cout_8l0) out_8l0.length (Go.Proofs.Ytkinlkmmelkdnaa.PIntA3.flat l53_53)) := Lib.hid (by have es_ := set_self gt_46.out; have e0_ := flat_set Go.Proofs.Ytkinlkmmelkdnaa.PIntA3.IntA3.cells 3 (fun _ => rfl) out_8l0 (nt_46) 0 (Go.Proofs.Ytkinlkmmelkdnaa.PIntA3.IntA3.mk t_46_x0 t_46_x1 t_46_x2) (Go.Proofs.Ytkinlkmmelkdnaa.PIntA3.IntA3.mk t_46_x0 t_46_x1 t_46_x2) (.int .i64 t_46_x0) lt_46 (by decide) rfl; have e1_ := flat_set Go.Proofs.Ytkinlkmmelkdnaa.PIntA3.IntA3.cells 3 (fun _ => rfl) out_8l0 (nt_46) 1 (Go.Proofs.Ytkinlkmmelkdnaa.PIntA3.IntA3.mk t_46_x0 t_46_x1 t_46_x2) (Go.Proofs.Ytkinlkmmelkdnaa.PIntA3.IntA3.mk t_46_x0 day_10l0 t_46_x2) (.int .i64 day_10l0) lt_46 (by decide) rfl; have e2_ := flat_set Go.Proofs.Ytkinlkmmelkdnaa.PIntA3.IntA3.cells 3 (fun _ => rfl) out_8l0 (nt_46) 2 (Go.Proofs.Ytkinlkmmelkdnaa.PIntA3.IntA3.mk t_46_x0 day_10l0 t_46_x2) (Go.Proofs.Ytkinlkmmelkdnaa.PIntA3.IntA3.mk t_46_x0 day_10l0 t_28) (.int .i64 t_28) lt_46 (by decide) rfl; rw [es_] at e0_; have e_ : ([(nt_46 * 3, .int .i64 t_46_x0), (nt_46 * 3 + 1, .int .i64 day_10l0), (nt_46 * 3 + 2, .int .i64 t_28)] : List (Nat × Value)).foldl (fun xs p => xs.set p.1 p.2) (Go.Proofs.Ytkinlkmmelkdnaa.PIntA3.flat out_8l0) = (Go.Proofs.Ytkinlkmmelkdnaa.PIntA3.flat l53_53) := (by rw [← hl53_53]; show _ = List.flatMap Go.Proofs.Ytkinlkmmelkdnaa.PIntA3.IntA3.cells _; first | (rw [← e2_, ← e1_, ← e0_]; first | done | rfl) | (rw [← e2_, ← e1_, es_, ← e0_]; first | done | rfl)); rw [← hwl53_53, ← e_]; exact Sl53_53.out.1)
                  have Gl53_53 : Hid (wt_28.grownBy wl53_53 (Value.slice (some ⟨qt_46, 0, none⟩) out_8l0.length cout_8l0).ownBlock) := Lib.hid (by rw [← hwl53_53]; exact Sl53_53.out.2)
                  have HBwl53_53 := Lib.hid (HBwt_28.out.grown Gl53_53.out HBwt_28.out.size (fun q hq => (Oout_8l0.out.lt q hq).1))
                  have hhl53_53 := Lib.hid hl53_53
                  clear hl53_53 Sl53_53
                  clear Oout_8l0 Gl53_53
                  replace H := let_hid H
                  obtain ⟨t_68, ht_68, H⟩ := H
                  replace H := app_hid H
                  go_wp2_with fail
                  clear z0l53_53 z1l53_53 z2l53_53 ct_46_0 ct_46_1 ct_46_2
                  have hc_ := nl53_53.out
                  have hv_ : (Value.slice (some ⟨qt_46, 0, none⟩) out_8l0.length cout_8l0 : Value) = Value.slice (some ⟨qt_46, 0, none⟩) l53_53.length cout_8l0 := by rw [hc_]
                  try rw [hv_]
                  replace Pl53_53 := Lib.hid (own_len hc_ Pl53_53.out)
                  clear hc_ hv_
                  go_wp2_with fail
                  go_roundg m0
                  case measure => omega
                  case rel => exact ⟨_, _, _, _, _, rfl, rfl, rfl, H, HBwl53_53, Pl53_53⟩
end Go.Proofs.Ytkinlkmmelkdnaa.GsRateSpans

/- loop.example/g01062/impl.RateSpans as a plain function, and the contract of the program's: where the plain one has an answer, the program has it. Conditions: slices read as lists. -/
namespace Go.Proofs.Ytkinlkmmelkdnaa.GiRateSpans
set_option linter.unusedVariables false
set_option linter.unusedSimpArgs false
open Go.RowKit
open Go.Proofs.Ytkinlkmmelkdnaa.Rowed Go.Proofs.Ytkinlkmmelkdnaa.Turn Go.Proofs.Ytkinlkmmelkdnaa.Aid Go.Proofs.Ytkinlkmmelkdnaa.GoP Go.Proofs.Ytkinlkmmelkdnaa.GoM

def P (list : (List Go.Proofs.Ytkinlkmmelkdnaa.PRate.Rate)) (zone : Int) (grams : Int) : Option ((List Go.Proofs.Ytkinlkmmelkdnaa.PIntA3.IntA3) × Bool) :=
  Option.bind (Go.Proofs.Ytkinlkmmelkdnaa.GiCanSend.P list zone grams) fun (t_5 : Bool) =>
  letK (!t_5) fun (t_6 : Bool) =>
  iteK t_6
  (some (([] : List Go.Proofs.Ytkinlkmmelkdnaa.PIntA3.IntA3), false))
  (Option.bind (Go.Proofs.Ytkinlkmmelkdnaa.GiSpansOf.P list zone grams) fun (t_13 : (List Go.Proofs.Ytkinlkmmelkdnaa.PIntA3.IntA3)) =>
  some (t_13, true))

set_option maxRecDepth 100000 in
set_option maxHeartbeats 2000000 in
theorem C (list : (List Go.Proofs.Ytkinlkmmelkdnaa.PRate.Rate)) (zone : Int) (grams : Int) (A0 : Option Addr) (c0 : Nat)  (w : World) (M0 : Hid (Cells w 5 A0 list.length (Go.Proofs.Ytkinlkmmelkdnaa.PRate.flat list))) (N0 : Hid (list.length ≤ 9223372036854775807))  {r0 : (List Go.Proofs.Ytkinlkmmelkdnaa.PIntA3.IntA3)} {r1 : Bool} (H : Hid (P list zone grams = some (r0, r1))) :
    Calls Try.prog 25 #[.slice A0 list.length c0, .int .i64 zone, .int .i64 grams] w (fun e w' => ∃ A_r0 c_r0, e = .returned (.tuple #[.slice A_r0 r0.length c_r0, .bool r1]) ∧ w'.ownsRow w.heap.size 90 3 (.slice A_r0 r0.length c_r0) r0.length (Go.Proofs.Ytkinlkmmelkdnaa.PIntA3.flat r0) ∧ Below w.heap.size w w') := by
  have HB := Lib.hid (Below.refl w.heap.size w)
  unfold P at H
  have N0o := N0.out
  go_enter Try.func25, Try.ntmps25
  replace H := bind_hid H
  obtain ⟨t_5, qt_5, H⟩ := H
  go_wp2_with fail
  go_at_call 82
  refine (Go.Proofs.Ytkinlkmmelkdnaa.GiCanSend.C (list) (zone) (grams) A0 c0 _   (Lib.hid (Cells.below M0.out HB.out)) N0 qt_5).mono ?_
  rintro e_t_5 wt_5 ⟨rfl, bt_5⟩
  have HBwt_5 := Lib.hid (Below.step HB.out bt_5)
  clear bt_5
  cases t_5 with
  | false =>
    replace H := let_hid H
    obtain ⟨t_6, ht_6, H⟩ := H
    obtain rfl : t_6 = true := ht_6.symm
    replace H := ite_t H
    obtain ⟨w_t_7, hw_t_7⟩ : ∃ x, wt_5.alloc (.cells #[] 90) = x := ⟨_, rfl⟩
    have bw_t_7 : Below wt_5.heap.size wt_5 w_t_7 := by rw [← hw_t_7]; exact (Below.refl _ _).alloc (Nat.le_refl _) _
    have Ot_7 : Hid (w_t_7.ownsRow w.heap.size 90 3 (.slice (some ⟨wt_5.heap.size, 0, none⟩) 0 0) 0 []) := Lib.hid (by rw [← hw_t_7]; exact own_empty HBwt_5.out.size)
    have HBw_t_7 := Lib.hid (Below.step HBwt_5.out bw_t_7)
    clear bw_t_7
    cases ret_hid H
    go_wp2_with fail
    go_ret2
    exact ⟨(some ⟨wt_5.heap.size, 0, none⟩), 0, rfl, Ot_7.out, HBw_t_7.out⟩
  | true =>
    replace H := let_hid H
    obtain ⟨t_6, ht_6, H⟩ := H
    obtain rfl : t_6 = false := ht_6.symm
    replace H := ite_f H
    replace H := bind_hid H
    obtain ⟨t_13, qt_13, H⟩ := H
    go_wp2_with fail
    go_at_call 84
    refine (Go.Proofs.Ytkinlkmmelkdnaa.GiSpansOf.C (list) (zone) (grams) A0 c0 _   (Lib.hid (Cells.below M0.out HBwt_5.out)) N0 qt_13).mono ?_
    rintro e_t_13 wt_13 ⟨At_13, ct_13, rfl, ot_13, bt_13⟩
    have Ot_13 := Lib.hid (own_lower ot_13 HBwt_5.out.size)
    clear ot_13
    have HBwt_13 := Lib.hid (Below.step HBwt_5.out bt_13)
    clear bt_13
    cases ret_hid H
    go_wp2_with fail
    go_ret2
    exact ⟨At_13, ct_13, rfl, Ot_13.out, HBwt_13.out⟩
end Go.Proofs.Ytkinlkmmelkdnaa.GiRateSpans

