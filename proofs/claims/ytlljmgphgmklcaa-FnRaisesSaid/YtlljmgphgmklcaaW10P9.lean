/- Texts on which the proofs of several laws stand, one behind the other (9 of 13). No condition of their own. -/
import Derived.Test.YtlljmgphgmklcaaChecked
import Derived.Test.YtlljmgphgmklcaaW10P1
import Derived.WalkKit
import Derived.Laws.StructEq
import Derived.ChangeKeysEq
import Derived.WalkSpells
import Derived.WalkLawsBesides
import Derived.BigQuiet
import Derived.OwnWalk
import Derived.Deep.LoopGhost
import Derived.Deep.QuietTactic
import Derived.IntWalk
import Derived.Lib.QuietBelow
import Derived.Test.YtlljmgphgmklcaaW10P4
import Derived.Test.YtlljmgphgmklcaaW10P5
import Derived.Test.YtlljmgphgmklcaaW10P3
import Derived.Test.YtlljmgphgmklcaaW10P2
import Derived.Test.YtlljmgphgmklcaaW10P7
/- loop.example/g01062/laws.vRates as a plain function, and the contract of the program's: where the plain one has an answer, the program has it. Conditions: slices read as lists. -/
namespace Go.Proofs.Ytlljmgphgmklcaa.GlVRates
set_option linter.unusedVariables false
set_option linter.unusedSimpArgs false
open Go.RowKit
open Go.Proofs.Ytlljmgphgmklcaa.Rowed Go.Proofs.Ytlljmgphgmklcaa.Turn Go.Proofs.Ytlljmgphgmklcaa.Aid Go.Proofs.Ytlljmgphgmklcaa.GoP Go.Proofs.Ytlljmgphgmklcaa.GoM

def l0 (a : (List Go.Proofs.Ytlljmgphgmklcaa.PRate.Rate)) (b : (List Go.Proofs.Ytlljmgphgmklcaa.PRate.Rate)) (k0 : Nat) (s : Unit) (nx0 bk0 : Unit → Option (Bool)) : Option (Bool) :=
  
  Option.bind (idx a (k0 : Int)) fun (yt_14 : Go.Proofs.Ytlljmgphgmklcaa.PRate.Rate) =>
  unRate yt_14 fun (t_14_zone : Int) (t_14_grams : Int) (t_14_from_ : Int) (t_14_until_ : Int) (t_14_cents : Int) =>
  Option.bind (idx b (k0 : Int)) fun (yt_18 : Go.Proofs.Ytlljmgphgmklcaa.PRate.Rate) =>
  unRate yt_18 fun (t_18_zone : Int) (t_18_grams : Int) (t_18_from_ : Int) (t_18_until_ : Int) (t_18_cents : Int) =>
  letK (!(t_14_zone == t_18_zone && t_14_grams == t_18_grams && t_14_from_ == t_18_from_ && t_14_until_ == t_18_until_ && t_14_cents == t_18_cents)) fun (t_20 : Bool) =>
  iteK t_20
  (some false)
  (appK nx0 ())

def e0  (s : Unit) : Option (Bool) :=
  
  some true

def P (a : (List Go.Proofs.Ytlljmgphgmklcaa.PRate.Rate)) (b : (List Go.Proofs.Ytlljmgphgmklcaa.PRate.Rate)) : Option (Bool) :=
  letK ((a.length : Int) != (b.length : Int)) fun (t_5 : Bool) =>
  iteK t_5
  (some false)
  (cntK (l0 a b) (a.length) 0 () (e0 ))

set_option maxRecDepth 100000
theorem eqr_104 (x0 x1 x2 x3 x4 y0 y1 y2 y3 y4 : Int) : ∀ W, (Op.equalIn 10000 104 (.agg #[Value.int IntKind.i64 x0, Value.int IntKind.i64 x1, Value.int IntKind.i64 x2, Value.int IntKind.i64 x3, Value.int IntKind.i64 x4]) (.agg #[Value.int IntKind.i64 y0, Value.int IntKind.i64 y1, Value.int IntKind.i64 y2, Value.int IntKind.i64 y3, Value.int IntKind.i64 y4])).run Try.prog W = .ok (x0 == y0 && x1 == y1 && x2 == y2 && x3 == y3 && x4 == y4) W := by
  intro W
  rw [run_equalIn_agg W _ _ _ _ (by kernel_rfl) (by kernel_rfl)]
  obtain ⟨f, hf⟩ : ∃ f, (Try.prog.fieldsOf 104).toList = f := ⟨_, rfl⟩
  have : (Try.prog.fieldsOf 104).toList.map (fun f => (f.name, f.type, f.offset)) = [("Zone", 3, 0), ("Grams", 3, 1), ("From", 3, 2), ("Until", 3, 3), ("Cents", 3, 4)] := by kernel_rfl
  rw [hf] at this ⊢
  match f, this with
  | [f0, f1, f2, f3, f4], h =>
    simp only [List.map_cons, List.map_nil, List.cons.injEq, Prod.mk.injEq, and_true] at h
    obtain ⟨⟨a0, b0, d0⟩, ⟨a1, b1, d1⟩, ⟨a2, b2, d2⟩, ⟨a3, b3, d3⟩, a4, b4, d4⟩ := h
    simp only [Op.eqFields, a0, b0, d0, a1, b1, d1, a2, b2, d2, a3, b3, d3, a4, b4, d4]
    have p0 : ∀ (w : World) (x0 x1 x2 x3 x4 : Int), (part 3 #[Value.int IntKind.i64 x0, Value.int IntKind.i64 x1, Value.int IntKind.i64 x2, Value.int IntKind.i64 x3, Value.int IntKind.i64 x4] 0).run Try.prog w = .ok (.int .i64 x0) w := fun w x0 x1 x2 x3 x4 => run_part_plain w (by kernel_rfl) rfl
    have p1 : ∀ (w : World) (x0 x1 x2 x3 x4 : Int), (part 3 #[Value.int IntKind.i64 x0, Value.int IntKind.i64 x1, Value.int IntKind.i64 x2, Value.int IntKind.i64 x3, Value.int IntKind.i64 x4] 1).run Try.prog w = .ok (.int .i64 x1) w := fun w x0 x1 x2 x3 x4 => run_part_plain w (by kernel_rfl) rfl
    have p2 : ∀ (w : World) (x0 x1 x2 x3 x4 : Int), (part 3 #[Value.int IntKind.i64 x0, Value.int IntKind.i64 x1, Value.int IntKind.i64 x2, Value.int IntKind.i64 x3, Value.int IntKind.i64 x4] 2).run Try.prog w = .ok (.int .i64 x2) w := fun w x0 x1 x2 x3 x4 => run_part_plain w (by kernel_rfl) rfl
    have p3 : ∀ (w : World) (x0 x1 x2 x3 x4 : Int), (part 3 #[Value.int IntKind.i64 x0, Value.int IntKind.i64 x1, Value.int IntKind.i64 x2, Value.int IntKind.i64 x3, Value.int IntKind.i64 x4] 3).run Try.prog w = .ok (.int .i64 x3) w := fun w x0 x1 x2 x3 x4 => run_part_plain w (by kernel_rfl) rfl
    have p4 : ∀ (w : World) (x0 x1 x2 x3 x4 : Int), (part 3 #[Value.int IntKind.i64 x0, Value.int IntKind.i64 x1, Value.int IntKind.i64 x2, Value.int IntKind.i64 x3, Value.int IntKind.i64 x4] 4).run Try.prog w = .ok (.int .i64 x4) w := fun w x0 x1 x2 x3 x4 => run_part_plain w (by kernel_rfl) rfl
    have e0 : ∀ (w : World) (d : Nat) (x y : Int), (Op.equalIn (d + 1) 3 (.int .i64 x) (.int .i64 y)).run Try.prog w = .ok (x == y) w := fun w d x y => run_equalIn_int w d 3 .i64 .i64 x y Try.underlying3
    have e1 : ∀ (w : World) (x y : Int), (Op.equalIn 9999 3 (.int .i64 x) (.int .i64 y)).run Try.prog w = .ok (x == y) w := fun w x y => e0 w 9998 x y
    rw [if_pos (by decide)]; rw [if_pos (by decide)]; rw [if_pos (by decide)]; rw [if_pos (by decide)]; rw [if_pos (by decide)]
    simp only [Sem.run_bind, p0, p1, p2, p3, p4, e1, Result.andThen_ok, Sem.run_ite, Sem.run_pure]
    cases x0 == y0 <;> cases x1 == y1 <;> cases x2 == y2 <;> cases x3 == y3 <;> cases x4 == y4 <;> rfl
theorem eqla_104 (x0 x1 x2 x3 x4 y0 y1 y2 y3 y4 : Int) : ∀ W, (binOp .eql 104 (.agg #[Value.int IntKind.i64 x0, Value.int IntKind.i64 x1, Value.int IntKind.i64 x2, Value.int IntKind.i64 x3, Value.int IntKind.i64 x4]) (.agg #[Value.int IntKind.i64 y0, Value.int IntKind.i64 y1, Value.int IntKind.i64 y2, Value.int IntKind.i64 y3, Value.int IntKind.i64 y4])).run Try.prog W = .ok (.bool (x0 == y0 && x1 == y1 && x2 == y2 && x3 == y3 && x4 == y4)) W := by
  intro W
  rw [run_eql_struct, eqr_104]; rfl
theorem neqa_104 (x0 x1 x2 x3 x4 y0 y1 y2 y3 y4 : Int) : ∀ W, (binOp .neq 104 (.agg #[Value.int IntKind.i64 x0, Value.int IntKind.i64 x1, Value.int IntKind.i64 x2, Value.int IntKind.i64 x3, Value.int IntKind.i64 x4]) (.agg #[Value.int IntKind.i64 y0, Value.int IntKind.i64 y1, Value.int IntKind.i64 y2, Value.int IntKind.i64 y3, Value.int IntKind.i64 y4])).run Try.prog W = .ok (.bool (!(x0 == y0 && x1 == y1 && x2 == y2 && x3 == y3 && x4 == y4))) W := by
  intro W
  rw [run_neq_struct, eqr_104]; rfl

set_option maxRecDepth 100000 in
set_option maxHeartbeats 2000000 in
theorem C (a : (List Go.Proofs.Ytlljmgphgmklcaa.PRate.Rate)) (b : (List Go.Proofs.Ytlljmgphgmklcaa.PRate.Rate)) (A0 : Option Addr) (c0 : Nat) (A1 : Option Addr) (c1 : Nat)  (w : World) (M0 : Hid (Cells w 5 A0 a.length (Go.Proofs.Ytlljmgphgmklcaa.PRate.flat a))) (N0 : Hid (a.length ≤ 9223372036854775807)) (M1 : Hid (Cells w 5 A1 b.length (Go.Proofs.Ytlljmgphgmklcaa.PRate.flat b))) (N1 : Hid (b.length ≤ 9223372036854775807))  {r : Bool} (H : Hid (P a b = some r)) :
    Calls Try.prog 65 #[.slice A0 a.length c0, .slice A1 b.length c1] w (Gives (.bool r) w) := by
  have HB := Lib.hid (Below.refl w.heap.size w)
  unfold P at H
  have N0o := N0.out
  have N1o := N1.out
  go_enter Try.func65, Try.ntmps65
  replace H := let_hid H
  obtain ⟨t_5, ht_5, H⟩ := H
  cases t_5 with
  | false =>
    have Hht_5 : Hid (a.length = b.length) := Lib.hid (by have := bne_eq_false_iff_eq.1 ht_5; omega)
    have nht_5 : (a.length == b.length) = true := beq_iff_eq.2 Hht_5.out
    replace H := ite_f H
    go_wp2_with fail
    go_loopg [5] (a.length) (fun m_ v5_ wr => ∃ (k0 : Nat) , k0 + m_ = a.length ∧ v5_ = .int .i64 (k0 : Int) ∧ Hid (cntK (l0 a b) m_ k0 () (e0 ) = some r) ∧ Hid (Below w.heap.size w wr))
    case atStart => exact ⟨0, by omega, rfl, H, HB⟩
    case round =>
      obtain ⟨k0, hkm0, rfl, H, HBwr0⟩ := hrel
      rename World => wr0
      cases gk with
      | zero =>
        obtain rfl : k0 = a.length := by omega
        have hc0 : decide (((a.length : Nat) : Int) < ((a.length : Nat) : Int)) = false := by simp
        replace H := cnt_zero H
        unfold e0 at H
        obtain rfl := ret_hid H
        go_wp2_with fail
        go_ret
        exact ⟨rfl, HBwr0.out⟩
      | succ m0 =>
        have hlt0 : k0 < a.length := by omega
        have hc0 : decide ((k0 : Int) < ((a.length : Nat) : Int)) = true := by simp; omega
        replace H := cnt_succ H
        unfold l0 at H
        go_wp2_with fail
        replace H := idx_hid H
        obtain ⟨nt_14, yt_14, et_14, lt_14, gt_14, H⟩ := H
        obtain rfl : k0 = nt_14 := by omega
        clear et_14
        obtain ⟨t_14_zone, t_14_grams, t_14_from_, t_14_until_, t_14_cents⟩ := yt_14
        replace H := unRate_hid H
        obtain ⟨ab_t_14, ao_t_14, zt_14, At_14, z_t_14, ct_14_0, ct_14_1, ct_14_2, ct_14_3, ct_14_4⟩ := Go.Proofs.Ytlljmgphgmklcaa.ORate.at_ M0.out lt_14
        obtain rfl := Option.some.inj (gt_14.out.symm.trans z_t_14)
        subst At_14
        have ltt_14 := cell_lt ct_14_0
        replace ct_14_0 := cell_below HBwr0.out ct_14_0
        replace ct_14_1 := cell_below HBwr0.out ct_14_1
        replace ct_14_2 := cell_below HBwr0.out ct_14_2
        replace ct_14_3 := cell_below HBwr0.out ct_14_3
        replace ct_14_4 := cell_below HBwr0.out ct_14_4
        clear z_t_14
        have b0t_14 : (0 : Int) ≤ (k0 : Int) := by omega
        have b1t_14 : (k0 : Int) < ((a.length : Nat) : Int) := by omega
        have b2t_14 : ((k0 : Int)).toNat = k0 := by omega
        have Hct_14_0 := Lib.hid ct_14_0
        replace ct_14_0 := cell_regrown ct_14_0
        have Hct_14_1 := Lib.hid ct_14_1
        replace ct_14_1 := cell_regrown ct_14_1
        have Hct_14_2 := Lib.hid ct_14_2
        replace ct_14_2 := cell_regrown ct_14_2
        have Hct_14_3 := Lib.hid ct_14_3
        replace ct_14_3 := cell_regrown ct_14_3
        have Hct_14_4 := Lib.hid ct_14_4
        replace ct_14_4 := cell_regrown ct_14_4
        replace H := idx_hid H
        obtain ⟨nt_18, yt_18, et_18, lt_18, gt_18, H⟩ := H
        obtain rfl : k0 = nt_18 := by omega
        clear et_18
        obtain ⟨t_18_zone, t_18_grams, t_18_from_, t_18_until_, t_18_cents⟩ := yt_18
        replace H := unRate_hid H
        obtain ⟨ab_t_18, ao_t_18, zt_18, At_18, z_t_18, ct_18_0, ct_18_1, ct_18_2, ct_18_3, ct_18_4⟩ := Go.Proofs.Ytlljmgphgmklcaa.ORate.at_ M1.out lt_18
        obtain rfl := Option.some.inj (gt_18.out.symm.trans z_t_18)
        subst At_18
        have ltt_18 := cell_lt ct_18_0
        replace ct_18_0 := cell_below HBwr0.out ct_18_0
        replace ct_18_1 := cell_below HBwr0.out ct_18_1
        replace ct_18_2 := cell_below HBwr0.out ct_18_2
        replace ct_18_3 := cell_below HBwr0.out ct_18_3
        replace ct_18_4 := cell_below HBwr0.out ct_18_4
        clear z_t_18
        have b0t_18 : (0 : Int) ≤ (k0 : Int) := by omega
        have b1t_18 : (k0 : Int) < ((b.length : Nat) : Int) := by omega
        have b2t_18 : ((k0 : Int)).toNat = k0 := by omega
        have Hct_18_0 := Lib.hid ct_18_0
        replace ct_18_0 := cell_regrown ct_18_0
        have Hct_18_1 := Lib.hid ct_18_1
        replace ct_18_1 := cell_regrown ct_18_1
        have Hct_18_2 := Lib.hid ct_18_2
        replace ct_18_2 := cell_regrown ct_18_2
        have Hct_18_3 := Lib.hid ct_18_3
        replace ct_18_3 := cell_regrown ct_18_3
        have Hct_18_4 := Lib.hid ct_18_4
        replace ct_18_4 := cell_regrown ct_18_4
        replace H := let_hid H
        obtain ⟨t_20, ht_20, H⟩ := H
        have ct_20 : ∀ W, (binOp .neq 104 (.agg #[.int .i64 t_14_zone, .int .i64 t_14_grams, .int .i64 t_14_from_, .int .i64 t_14_until_, .int .i64 t_14_cents]) (.agg #[.int .i64 t_18_zone, .int .i64 t_18_grams, .int .i64 t_18_from_, .int .i64 t_18_until_, .int .i64 t_18_cents])).run Try.prog W = .ok (.bool t_20) W := fun W => by rw [neqa_104, ht_20]
        refine wp_region_quiet_below (by kernel_rfl) (by kernel_rfl) ?_
        repeat (go_big_quiet_step (fail))
        refine wpQuiet_nil ?_
        intro Y6 hY6
        replace hY6 := below_class hY6
        replace ct_14_0 := Hct_14_0.out
        clear Hct_14_0
        replace ct_14_1 := Hct_14_1.out
        clear Hct_14_1
        replace ct_14_2 := Hct_14_2.out
        clear Hct_14_2
        replace ct_14_3 := Hct_14_3.out
        clear Hct_14_3
        replace ct_14_4 := Hct_14_4.out
        clear Hct_14_4
        replace ct_18_0 := Hct_18_0.out
        clear Hct_18_0
        replace ct_18_1 := Hct_18_1.out
        clear Hct_18_1
        replace ct_18_2 := Hct_18_2.out
        clear Hct_18_2
        replace ct_18_3 := Hct_18_3.out
        clear Hct_18_3
        replace ct_18_4 := Hct_18_4.out
        clear Hct_18_4
        have HBY6 := Lib.hid (Below.step HBwr0.out hY6)
        replace ct_14_0 := cell_below hY6 ct_14_0
        replace ct_14_1 := cell_below hY6 ct_14_1
        replace ct_14_2 := cell_below hY6 ct_14_2
        replace ct_14_3 := cell_below hY6 ct_14_3
        replace ct_14_4 := cell_below hY6 ct_14_4
        replace ct_18_0 := cell_below hY6 ct_18_0
        replace ct_18_1 := cell_below hY6 ct_18_1
        replace ct_18_2 := cell_below hY6 ct_18_2
        replace ct_18_3 := cell_below hY6 ct_18_3
        replace ct_18_4 := cell_below hY6 ct_18_4
        clear hY6
        cases t_20 with
        | false =>
          replace H := ite_f H
          replace H := app_hid H
          go_wp2_with fail
          go_roundg m0
          case measure => omega
          case rel => exact ⟨k0 + 1, by omega, by go_num, H, HBY6⟩
        | true =>
          replace H := ite_t H
          obtain rfl := ret_hid H
          go_wp2_with fail
          go_ret
          exact ⟨rfl, HBY6.out⟩
  | true =>
    have nht_5 : ¬ (a.length = b.length) := by have := bne_iff_ne.1 ht_5; omega
    replace H := ite_t H
    obtain rfl := ret_hid H
    go_wp2_with fail
    go_ret
    exact ⟨rfl, HB.out⟩
end Go.Proofs.Ytlljmgphgmklcaa.GlVRates

/- loop.example/g01062/impl.rateOn as a plain function, and the contract of the program's: where the plain one has an answer, the program has it. Conditions: slices read as lists. -/
namespace Go.Proofs.Ytlljmgphgmklcaa.GiRateOn
set_option linter.unusedVariables false
set_option linter.unusedSimpArgs false
open Go.RowKit
open Go.Proofs.Ytlljmgphgmklcaa.Rowed Go.Proofs.Ytlljmgphgmklcaa.Turn Go.Proofs.Ytlljmgphgmklcaa.Aid Go.Proofs.Ytlljmgphgmklcaa.GoP Go.Proofs.Ytlljmgphgmklcaa.GoM

def l0 (list : (List Go.Proofs.Ytlljmgphgmklcaa.PRate.Rate)) (day : Int) (zone : Int) (grams : Int) (k0 : Nat) (s : Unit) (nx0 bk0 : Unit → Option (Int)) : Option (Int) :=
  
  Option.bind (idx list (k0 : Int)) fun (yt_5 : Go.Proofs.Ytlljmgphgmklcaa.PRate.Rate) =>
  unRate yt_5 fun (t_5_zone : Int) (t_5_grams : Int) (t_5_from_ : Int) (t_5_until_ : Int) (t_5_cents : Int) =>
  letK (t_5_zone == zone) fun (t_12 : Bool) =>
  joinK (fun (t_18 : Bool) =>
  joinK (fun (t_26 : Bool) =>
  iteK t_26
  (some t_5_cents)
  (appK nx0 ())) fun jt_26 => iteK t_18 (Option.bind (Go.Proofs.Ytlljmgphgmklcaa.GiWithin.P day t_5_from_ t_5_until_) fun (t_25 : Bool) =>
  appK jt_26 t_25) (appK jt_26 false)) fun jt_18 => iteK t_12 (letK (decide (grams ≤ t_5_grams)) fun (t_17 : Bool) =>
  appK jt_18 t_17) (appK jt_18 false)

def e0  (s : Unit) : Option (Int) :=
  
  some 0

def P (list : (List Go.Proofs.Ytlljmgphgmklcaa.PRate.Rate)) (day : Int) (zone : Int) (grams : Int) : Option (Int) :=
  cntK (l0 list day zone grams) (list.length) 0 () (e0 )

set_option maxRecDepth 100000 in
set_option maxHeartbeats 2000000 in
theorem C (list : (List Go.Proofs.Ytlljmgphgmklcaa.PRate.Rate)) (day : Int) (zone : Int) (grams : Int) (A0 : Option Addr) (c0 : Nat)  (w : World) (M0 : Hid (Cells w 5 A0 list.length (Go.Proofs.Ytlljmgphgmklcaa.PRate.flat list))) (N0 : Hid (list.length ≤ 9223372036854775807))  {r : Int} (H : Hid (P list day zone grams = some r)) :
    Calls Try.prog 131 #[.slice A0 list.length c0, .int .i64 day, .int .i64 zone, .int .i64 grams] w (Gives (.int .i64 r) w) := by
  have HB := Lib.hid (Below.refl w.heap.size w)
  unfold P at H
  have N0o := N0.out
  go_enter Try.func131, Try.ntmps131
  go_wp2_with fail
  go_loopg [13] (list.length) (fun m_ v13_ wr => ∃ (k0 : Nat) , k0 + m_ = list.length ∧ v13_ = .int .i64 (k0 : Int) ∧ Hid (cntK (l0 list day zone grams) m_ k0 () (e0 ) = some r) ∧ Hid (Below w.heap.size w wr))
  case atStart => exact ⟨0, by omega, rfl, H, HB⟩
  case round =>
    obtain ⟨k0, hkm0, rfl, H, HBwr0⟩ := hrel
    rename World => wr0
    cases gk with
    | zero =>
      obtain rfl : k0 = list.length := by omega
      have hc0 : decide (((list.length : Nat) : Int) < ((list.length : Nat) : Int)) = false := by simp
      replace H := cnt_zero H
      unfold e0 at H
      obtain rfl := ret_hid H
      go_wp2_with fail
      go_ret
      exact ⟨rfl, HBwr0.out⟩
    | succ m0 =>
      have hlt0 : k0 < list.length := by omega
      have hc0 : decide ((k0 : Int) < ((list.length : Nat) : Int)) = true := by simp; omega
      replace H := cnt_succ H
      unfold l0 at H
      replace H := idx_hid H
      obtain ⟨nt_5, yt_5, et_5, lt_5, gt_5, H⟩ := H
      obtain rfl : k0 = nt_5 := by omega
      clear et_5
      obtain ⟨t_5_zone, t_5_grams, t_5_from_, t_5_until_, t_5_cents⟩ := yt_5
      replace H := unRate_hid H
      obtain ⟨ab_t_5, ao_t_5, zt_5, At_5, z_t_5, ct_5_0, ct_5_1, ct_5_2, ct_5_3, ct_5_4⟩ := Go.Proofs.Ytlljmgphgmklcaa.ORate.at_ M0.out lt_5
      obtain rfl := Option.some.inj (gt_5.out.symm.trans z_t_5)
      subst At_5
      have ltt_5 := cell_lt ct_5_0
      replace ct_5_0 := cell_below HBwr0.out ct_5_0
      replace ct_5_1 := cell_below HBwr0.out ct_5_1
      replace ct_5_2 := cell_below HBwr0.out ct_5_2
      replace ct_5_3 := cell_below HBwr0.out ct_5_3
      replace ct_5_4 := cell_below HBwr0.out ct_5_4
      clear z_t_5
      have b0t_5 : (0 : Int) ≤ (k0 : Int) := by omega
      have b1t_5 : (k0 : Int) < ((list.length : Nat) : Int) := by omega
      have b2t_5 : ((k0 : Int)).toNat = k0 := by omega
      obtain ⟨w_r_7, hw_r_7⟩ : ∃ x, wr0.alloc (.cells #[.int .i64 t_5_zone, .int .i64 t_5_grams, .int .i64 t_5_from_, .int .i64 t_5_until_, .int .i64 t_5_cents] 104) = x := ⟨_, rfl⟩
      have bw_r_7 : Below wr0.heap.size wr0 w_r_7 := by rw [← hw_r_7]; exact (Below.refl _ _).alloc (Nat.le_refl _) _
      have HBw_r_7 := Lib.hid (Below.step HBwr0.out bw_r_7)
      have ct_5_0__1444 := cell_below bw_r_7 ct_5_0
      have ct_5_1__1445 := cell_below bw_r_7 ct_5_1
      have ct_5_2__1446 := cell_below bw_r_7 ct_5_2
      have ct_5_3__1447 := cell_below bw_r_7 ct_5_3
      have ct_5_4__1448 := cell_below bw_r_7 ct_5_4
      clear bw_r_7
      have kr_7_0 : w_r_7.cell? ⟨wr0.heap.size, 0, none⟩ = some (.int .i64 t_5_zone) := by rw [← hw_r_7]; exact box_new _ _ _ 0 _ rfl
      have kr_7_1 : w_r_7.cell? ⟨wr0.heap.size, 1, none⟩ = some (.int .i64 t_5_grams) := by rw [← hw_r_7]; exact box_new _ _ _ 1 _ rfl
      have kr_7_2 : w_r_7.cell? ⟨wr0.heap.size, 2, none⟩ = some (.int .i64 t_5_from_) := by rw [← hw_r_7]; exact box_new _ _ _ 2 _ rfl
      have kr_7_3 : w_r_7.cell? ⟨wr0.heap.size, 3, none⟩ = some (.int .i64 t_5_until_) := by rw [← hw_r_7]; exact box_new _ _ _ 3 _ rfl
      have kr_7_4 : w_r_7.cell? ⟨wr0.heap.size, 4, none⟩ = some (.int .i64 t_5_cents) := by rw [← hw_r_7]; exact box_new _ _ _ 4 _ rfl
      replace H := let_hid H
      obtain ⟨t_12, ht_12, H⟩ := H
      replace H := join_hid H
      cases t_12 with
      | false =>
        replace H := ite_f H
        replace H := app_hid H
        replace H := join_hid H
        replace H := ite_f H
        replace H := app_hid H
        replace H := ite_f H
        replace H := app_hid H
        go_wp2_with fail
        clear ct_5_0 ct_5_1 ct_5_2 ct_5_3 ct_5_4
        go_roundg m0
        case measure => omega
        case rel => exact ⟨k0 + 1, by omega, by go_num, H, HBw_r_7⟩
      | true =>
        replace H := ite_t H
        replace H := let_hid H
        obtain ⟨t_17, ht_17, H⟩ := H
        replace H := app_hid H
        replace H := join_hid H
        cases t_17 with
        | false =>
          replace H := ite_f H
          replace H := app_hid H
          replace H := ite_f H
          replace H := app_hid H
          go_wp2_with fail
          clear ct_5_0 ct_5_1 ct_5_2 ct_5_3 ct_5_4
          go_roundg m0
          case measure => omega
          case rel => exact ⟨k0 + 1, by omega, by go_num, H, HBw_r_7⟩
        | true =>
          replace H := ite_t H
          replace H := bind_hid H
          obtain ⟨t_25, qt_25, H⟩ := H
          go_wp2_with fail
          clear ct_5_0 ct_5_1 ct_5_2 ct_5_3 ct_5_4
          go_at_call 78
          refine (Go.Proofs.Ytlljmgphgmklcaa.GiWithin.C (day) (t_5_from_) (t_5_until_)  _    qt_25).mono ?_
          rintro e_t_25 wt_25 ⟨rfl, bt_25⟩
          have HBwt_25 := Lib.hid (Below.step HBw_r_7.out bt_25)
          replace ct_5_0__1444 := cell_below bt_25 ct_5_0__1444
          replace ct_5_1__1445 := cell_below bt_25 ct_5_1__1445
          replace ct_5_2__1446 := cell_below bt_25 ct_5_2__1446
          replace ct_5_3__1447 := cell_below bt_25 ct_5_3__1447
          replace ct_5_4__1448 := cell_below bt_25 ct_5_4__1448
          replace kr_7_0 := cell_below bt_25 kr_7_0
          replace kr_7_1 := cell_below bt_25 kr_7_1
          replace kr_7_2 := cell_below bt_25 kr_7_2
          replace kr_7_3 := cell_below bt_25 kr_7_3
          replace kr_7_4 := cell_below bt_25 kr_7_4
          clear bt_25
          replace H := app_hid H
          cases t_25 with
          | false =>
            replace H := ite_f H
            replace H := app_hid H
            go_wp2_with fail
            go_roundg m0
            case measure => omega
            case rel => exact ⟨k0 + 1, by omega, by go_num, H, HBwt_25⟩
          | true =>
            replace H := ite_t H
            obtain rfl := ret_hid H
            go_wp2_with fail
            go_ret
            exact ⟨rfl, HBwt_25.out⟩
end Go.Proofs.Ytlljmgphgmklcaa.GiRateOn

/- loop.example/g01062/impl.RateFor as a plain function, and the contract of the program's: where the plain one has an answer, the program has it. Conditions: slices read as lists. -/
namespace Go.Proofs.Ytlljmgphgmklcaa.GiRateFor
set_option linter.unusedVariables false
set_option linter.unusedSimpArgs false
open Go.RowKit
open Go.Proofs.Ytlljmgphgmklcaa.Rowed Go.Proofs.Ytlljmgphgmklcaa.Turn Go.Proofs.Ytlljmgphgmklcaa.Aid Go.Proofs.Ytlljmgphgmklcaa.GoP Go.Proofs.Ytlljmgphgmklcaa.GoM

def P (list : (List Go.Proofs.Ytlljmgphgmklcaa.PRate.Rate)) (day : Int) (zone : Int) (grams : Int) : Option (Int × Bool) :=
  Option.bind (Go.Proofs.Ytlljmgphgmklcaa.GiCanSend.P list zone grams) fun (t_5 : Bool) =>
  letK (!t_5) fun (t_6 : Bool) =>
  joinK (fun (t_11 : Bool) =>
  iteK t_11
  (some (0, false))
  (Option.bind (Go.Proofs.Ytlljmgphgmklcaa.GiRateOn.P list day zone grams) fun (t_18 : Int) =>
  letK (decide (0 < t_18)) fun (t_22 : Bool) =>
  some (t_18, t_22))) fun jt_11 => iteK t_6 (appK jt_11 true) (Option.bind (Go.Proofs.Ytlljmgphgmklcaa.GiIsDay.P day) fun (t_9 : Bool) =>
  letK (!t_9) fun (t_10 : Bool) =>
  appK jt_11 t_10)

set_option maxRecDepth 100000 in
set_option maxHeartbeats 2000000 in
theorem C (list : (List Go.Proofs.Ytlljmgphgmklcaa.PRate.Rate)) (day : Int) (zone : Int) (grams : Int) (A0 : Option Addr) (c0 : Nat)  (w : World) (M0 : Hid (Cells w 5 A0 list.length (Go.Proofs.Ytlljmgphgmklcaa.PRate.flat list))) (N0 : Hid (list.length ≤ 9223372036854775807))  {r0 : Int} {r1 : Bool} (H : Hid (P list day zone grams = some (r0, r1))) :
    Calls Try.prog 66 #[.slice A0 list.length c0, .int .i64 day, .int .i64 zone, .int .i64 grams] w (Gives (.tuple #[.int .i64 r0, .bool r1]) w) := by
  have HB := Lib.hid (Below.refl w.heap.size w)
  unfold P at H
  have N0o := N0.out
  go_enter Try.func66, Try.ntmps66
  replace H := bind_hid H
  obtain ⟨t_5, qt_5, H⟩ := H
  go_wp2_with fail
  go_at_call 124
  refine (Go.Proofs.Ytlljmgphgmklcaa.GiCanSend.C (list) (zone) (grams) A0 c0 _   (Lib.hid (Cells.below M0.out HB.out)) N0 qt_5).mono ?_
  rintro e_t_5 wt_5 ⟨rfl, bt_5⟩
  have HBwt_5 := Lib.hid (Below.step HB.out bt_5)
  clear bt_5
  cases t_5 with
  | false =>
    replace H := let_hid H
    obtain ⟨t_6, ht_6, H⟩ := H
    obtain rfl : t_6 = true := ht_6.symm
    replace H := join_hid H
    replace H := ite_t H
    replace H := app_hid H
    replace H := ite_t H
    cases ret_hid H
    go_wp2_with fail
    go_ret2
    exact ⟨rfl, HBwt_5.out⟩
  | true =>
    replace H := let_hid H
    obtain ⟨t_6, ht_6, H⟩ := H
    obtain rfl : t_6 = false := ht_6.symm
    replace H := join_hid H
    replace H := ite_f H
    replace H := bind_hid H
    obtain ⟨t_9, qt_9, H⟩ := H
    go_wp2_with fail
    go_at_call 79
    refine (Go.Proofs.Ytlljmgphgmklcaa.GiIsDay.C (day)  _    qt_9).mono ?_
    rintro e_t_9 wt_9 ⟨rfl, bt_9⟩
    have HBwt_9 := Lib.hid (Below.step HBwt_5.out bt_9)
    clear bt_9
    cases t_9 with
    | false =>
      replace H := let_hid H
      obtain ⟨t_10, ht_10, H⟩ := H
      obtain rfl : t_10 = true := ht_10.symm
      replace H := app_hid H
      replace H := ite_t H
      cases ret_hid H
      go_wp2_with fail
      go_ret2
      exact ⟨rfl, HBwt_9.out⟩
    | true =>
      replace H := let_hid H
      obtain ⟨t_10, ht_10, H⟩ := H
      obtain rfl : t_10 = false := ht_10.symm
      replace H := app_hid H
      replace H := ite_f H
      replace H := bind_hid H
      obtain ⟨t_18, qt_18, H⟩ := H
      go_wp2_with fail
      go_at_call 131
      refine (Go.Proofs.Ytlljmgphgmklcaa.GiRateOn.C (list) (day) (zone) (grams) A0 c0 _   (Lib.hid (Cells.below M0.out HBwt_9.out)) N0 qt_18).mono ?_
      rintro e_t_18 wt_18 ⟨rfl, bt_18⟩
      have HBwt_18 := Lib.hid (Below.step HBwt_9.out bt_18)
      clear bt_18
      replace H := let_hid H
      obtain ⟨t_22, ht_22, H⟩ := H
      cases ret_hid H
      go_wp2_with fail
      go_ret2
      exact ⟨rfl, HBwt_18.out⟩
end Go.Proofs.Ytlljmgphgmklcaa.GiRateFor

/- loop.example/g01062/spec.DrawCheapestZones as a plain function, and the contract of the program's: where the plain one has an answer, the program has it. Conditions: slices read as lists. -/
namespace Go.Proofs.Ytlljmgphgmklcaa.GsDrawCheapestZones
set_option linter.unusedVariables false
set_option linter.unusedSimpArgs false
open Go.RowKit
open Go.Proofs.Ytlljmgphgmklcaa.Rowed Go.Proofs.Ytlljmgphgmklcaa.Turn Go.Proofs.Ytlljmgphgmklcaa.Aid Go.Proofs.Ytlljmgphgmklcaa.GoP Go.Proofs.Ytlljmgphgmklcaa.GoM

def P (fuel : Nat) (tapes : List Int → Go.Proofs.Ytlljmgphgmklcaa.GoC.Tape) (code : (List Int)) : Option ((List Go.Proofs.Ytlljmgphgmklcaa.PRate.Rate) × Int × Int) :=
  letK (tapes code) fun (t_5 : Go.Proofs.Ytlljmgphgmklcaa.GoC.Tape) =>
  bind2 (Go.Proofs.Ytlljmgphgmklcaa.GsL1CurRates.P fuel t_5) fun (t_8 : (List Go.Proofs.Ytlljmgphgmklcaa.PRate.Rate)) (t_8_tp : Go.Proofs.Ytlljmgphgmklcaa.GoC.Tape) =>
  bind2 (Go.Proofs.Ytlljmgphgmklcaa.GsL1CurRateDay.P t_8_tp) fun (t_10 : Int) (t_10_tp : Go.Proofs.Ytlljmgphgmklcaa.GoC.Tape) =>
  letK ([1, 20, 21, 51, 101, 0]) fun (t_12 : (List Int)) =>
  bind2 (Go.Proofs.Ytlljmgphgmklcaa.GsL1CurAmong.P t_10_tp t_12) fun (t_13 : Int) (t_13_tp : Go.Proofs.Ytlljmgphgmklcaa.GoC.Tape) =>
  some (t_8, t_10, t_13)

set_option maxRecDepth 100000 in
set_option maxHeartbeats 2000000 in
theorem C (fuel : Nat) (tapes : List Int → Go.Proofs.Ytlljmgphgmklcaa.GoC.Tape) (code : (List Int)) (A0 : Option Addr) (c0 : Nat)  (w : World) (HE : Hid (Go.Proofs.Ytlljmgphgmklcaa.GoC.Tells tapes)) (M0 : Hid (Cells w 1 A0 code.length (Go.Proofs.Ytlljmgphgmklcaa.GoC.u8s code))) (N0 : Hid (code.length ≤ 9223372036854775807)) (V0 : Hid (∀ z ∈ code, 0 ≤ z ∧ z ≤ 255))  {r0 : (List Go.Proofs.Ytlljmgphgmklcaa.PRate.Rate)} {r1 : Int} {r2 : Int} (H : Hid (P fuel tapes code = some (r0, r1, r2))) :
    Calls Try.prog 68 #[.slice A0 code.length c0] w (fun e w' => ∃ A_r0 c_r0, e = .returned (.tuple #[.slice A_r0 r0.length c_r0, .int .i64 r1, .int .i64 r2]) ∧ w'.ownsRow w.heap.size 104 5 (.slice A_r0 r0.length c_r0) r0.length (Go.Proofs.Ytlljmgphgmklcaa.PRate.flat r0) ∧ Below w.heap.size w w') := by
  have HB := Lib.hid (Below.refl w.heap.size w)
  unfold P at H
  have N0o := N0.out
  go_enter Try.func68, Try.ntmps68
  replace H := let_hid H
  obtain ⟨t_5, ht_5, H⟩ := H
  obtain ⟨w_t_5, hw_t_5⟩ : ∃ x, w.alloc (.cells #[.slice A0 code.length c0, .int .i64 0, .int .u64 0] 129) = x := ⟨_, rfl⟩
  have bw_t_5 : Below w.heap.size w w_t_5 := by rw [← hw_t_5]; exact (Below.refl _ _).alloc (Nat.le_refl _) _
  have Kt_5 : Hid (Go.Proofs.Ytlljmgphgmklcaa.GoC.CurIs w_t_5 w.heap.size w.heap.size A0 c0 t_5) := Lib.hid (by rw [← hw_t_5, ← ht_5]; exact Go.Proofs.Ytlljmgphgmklcaa.GoC.cur_new HB.out.size (Cells.below M0.out HB.out) (fun a_ ha_ h0_ => by subst ha_; exact Go.Proofs.Ytlljmgphgmklcaa.GoC.cells_lt M0.out (by unfold Go.Proofs.Ytlljmgphgmklcaa.GoC.u8s; rw [List.length_map]; exact h0_)) (HE.out.2.2 code V0.out N0.out))
  have hht_5 := Lib.hid ht_5
  clear ht_5
  have HBw_t_5 := Lib.hid (Below.step HB.out bw_t_5)
  clear bw_t_5
  replace H := bind2_hid H
  obtain ⟨t_8, t_8_tp, qt_8, H⟩ := H
  go_wp2_with fail
  go_at_call 114
  refine (Go.Proofs.Ytlljmgphgmklcaa.GsL1CurRates.C fuel (t_5) (w.heap.size) (A0) (c0) (w.heap.size) _   Kt_5 qt_8).mono ?_
  rintro e_t_8 wt_8 ⟨At_8, ct_8, rfl, ot_8, kt_8, gt_8⟩
  have Dt_8_t_5 := Lib.hid (Go.Proofs.Ytlljmgphgmklcaa.GoC.apart_callcur ot_8 Kt_5.out)
  have Ot_8 := Lib.hid (own_lower ot_8 HBw_t_5.out.size)
  clear ot_8
  have Kt_8 := Lib.hid kt_8
  have Gt_8 : Hid (w_t_5.grownBy wt_8 (Value.slice (some ⟨w.heap.size, 0, none⟩) 1 1).ownBlock) := Lib.hid gt_8
  clear kt_8 gt_8
  have HBwt_8 := Lib.hid (Go.Proofs.Ytlljmgphgmklcaa.GoC.below_cur HBw_t_5.out Gt_8.out HBw_t_5.out.size (Go.Proofs.Ytlljmgphgmklcaa.GoC.cur_lt Kt_5.out).1)
  clear Kt_5 Gt_8
  replace H := bind2_hid H
  obtain ⟨t_10, t_10_tp, qt_10, H⟩ := H
  go_wp2_with fail
  go_at_call 123
  refine (Go.Proofs.Ytlljmgphgmklcaa.GsL1CurRateDay.C (t_8_tp) (w.heap.size) (A0) (c0) (w.heap.size) _   Kt_8 qt_10).mono ?_
  rintro e_t_10 wt_10 ⟨rfl, kt_10, gt_10⟩
  have Kt_10 := Lib.hid kt_10
  have Gt_10 : Hid (wt_8.grownBy wt_10 (Value.slice (some ⟨w.heap.size, 0, none⟩) 1 1).ownBlock) := Lib.hid gt_10
  clear kt_10 gt_10
  have HBwt_10 := Lib.hid (Go.Proofs.Ytlljmgphgmklcaa.GoC.below_cur HBwt_8.out Gt_10.out HBwt_8.out.size (Go.Proofs.Ytlljmgphgmklcaa.GoC.cur_lt Kt_8.out).1)
  replace Ot_8 := Lib.hid (own_other Ot_8.out Gt_10.out (Apart.symm Dt_8_t_5.out))
  clear Kt_8 Gt_10
  replace H := let_hid H
  obtain ⟨t_12, ht_12, H⟩ := H
  obtain ⟨w_t_12, hw_t_12⟩ : ∃ x, wt_10.alloc (.cells #[.int .i64 1, .int .i64 20, .int .i64 21, .int .i64 51, .int .i64 101, .int .i64 0] 3) = x := ⟨_, rfl⟩
  have bw_t_12 : Below wt_10.heap.size wt_10 w_t_12 := by rw [← hw_t_12]; exact (Below.refl _ _).alloc (Nat.le_refl _) _
  have hs_t_12 := HBwt_10.out.size
  have nt_12 : t_12.length = 6 := by rw [← ht_12]; rfl
  have Ot_12 : Hid (w_t_12.ownsRow w.heap.size 3 1 (.slice (some ⟨wt_10.heap.size, 0, none⟩) 6 6) 6 (Go.Proofs.Ytlljmgphgmklcaa.HelpInt.iv t_12)) := by
    rw [← hw_t_12, ← ht_12]
    have e_ : ([.int .i64 1, .int .i64 20, .int .i64 21, .int .i64 51, .int .i64 101, .int .i64 0] : List Value) = (Go.Proofs.Ytlljmgphgmklcaa.HelpInt.iv ([1, 20, 21, 51, 101, 0] : List Int)) := rfl
    exact Lib.hid (own_laid (n := 6) hs_t_12 e_ rfl (by unfold maxLen; omega))
  clear hs_t_12
  have hht_12 := Lib.hid ht_12
  clear ht_12
  replace nt_12 := Lib.hid nt_12
  have Dt_12_t_8 := Lib.hid (apart_fresh Ot_8.out)
  have Dt_12_t_5 := Lib.hid (Go.Proofs.Ytlljmgphgmklcaa.GoC.apart_cur Kt_10.out)
  have HBw_t_12 := Lib.hid (Below.step HBwt_10.out bw_t_12)
  replace Ot_8 := Lib.hid (own_below Ot_8.out bw_t_12)
  replace Kt_10 := Lib.hid (Go.Proofs.Ytlljmgphgmklcaa.GoC.cur_below Kt_10.out bw_t_12)
  clear bw_t_12
  replace H := bind2_hid H
  obtain ⟨t_13, t_13_tp, qt_13, H⟩ := H
  go_wp2_with fail
  have hc_ := nt_12.out
  have hv_ : (Value.slice (some ⟨wt_10.heap.size, 0, none⟩) 6 6 : Value) = Value.slice (some ⟨wt_10.heap.size, 0, none⟩) t_12.length 6 := by rw [hc_]
  try rw [hv_]
  replace Ot_12 := Lib.hid (own_len hc_ Ot_12.out)
  clear hc_ hv_
  go_wp2_with fail
  go_at_call 119
  refine (Go.Proofs.Ytlljmgphgmklcaa.GsL1CurAmong.C (t_10_tp) (t_12) (some ⟨wt_10.heap.size, 0, none⟩) 6 (w.heap.size) (A0) (c0) (w.heap.size) _   (Lib.hid (own_cells Ot_12.out)) (Lib.hid (own_max Ot_12.out)) Kt_10 (Lib.hid (fun _ => Dt_12_t_5.out)) qt_13).mono ?_
  rintro e_t_13 wt_13 ⟨rfl, kt_13, gt_13⟩
  have Kt_13 := Lib.hid kt_13
  have Gt_13 : Hid (w_t_12.grownBy wt_13 (Value.slice (some ⟨w.heap.size, 0, none⟩) 1 1).ownBlock) := Lib.hid gt_13
  clear kt_13 gt_13
  have HBwt_13 := Lib.hid (Go.Proofs.Ytlljmgphgmklcaa.GoC.below_cur HBw_t_12.out Gt_13.out HBw_t_12.out.size (Go.Proofs.Ytlljmgphgmklcaa.GoC.cur_lt Kt_10.out).1)
  replace Ot_8 := Lib.hid (own_other Ot_8.out Gt_13.out (Apart.symm Dt_8_t_5.out))
  replace Ot_12 := Lib.hid (own_other Ot_12.out Gt_13.out (Apart.symm Dt_12_t_5.out))
  clear Kt_10 Gt_13
  cases ret_hid H
  go_wp2_with fail
  go_ret3
  exact ⟨At_8, ct_8, rfl, Ot_8.out, HBwt_13.out⟩
end Go.Proofs.Ytlljmgphgmklcaa.GsDrawCheapestZones

/- loop.example/g01062/impl.CheapestZones as a plain function, and the contract of the program's: where the plain one has an answer, the program has it. Conditions: slices read as lists. -/
namespace Go.Proofs.Ytlljmgphgmklcaa.GiCheapestZones
set_option linter.unusedVariables false
set_option linter.unusedSimpArgs false
open Go.RowKit
open Go.Proofs.Ytlljmgphgmklcaa.Rowed Go.Proofs.Ytlljmgphgmklcaa.Turn Go.Proofs.Ytlljmgphgmklcaa.Aid Go.Proofs.Ytlljmgphgmklcaa.GoP Go.Proofs.Ytlljmgphgmklcaa.GoM

def j0 (nx0 : ((List Int) × Int) → Option ((List Int) × Bool)) (k0 : Nat) (s : (List Int) × Int) : Option ((List Int) × Bool) :=
  unp2 s fun zones_8j0 least_9j0 =>
  guardK (zones_8j0.length ≤ 1099511627776) <|
  letK (zones_8j0 ++ [(k0 : Int)]) fun (t_49 : (List Int)) =>
  appK nx0 (t_49, least_9j0)

def l0 (list : (List Go.Proofs.Ytlljmgphgmklcaa.PRate.Rate)) (day : Int) (grams : Int) (k0 : Nat) (s : (List Int) × Int) (nx0 bk0 : (List Int) × Int → Option ((List Int) × Bool)) : Option ((List Int) × Bool) :=
  unp2 s fun zones_8l0 least_9l0 =>
  Option.bind (Go.Proofs.Ytlljmgphgmklcaa.GiRateOn.P list day (k0 : Int) grams) fun (t_29 : Int) =>
  letK (t_29 == 0) fun (t_32 : Bool) =>
  joinK (fun (t_37 : Bool) =>
  iteK t_37
  (appK nx0 (zones_8l0, least_9l0))
  (letK (decide (t_29 < least_9l0)) fun (t_40 : Bool) =>
  iteK t_40
  (guardK ((0 : Int) ≤ 0 ∧ (0 : Int) ≤ (zones_8l0.length : Int)) <|
  letK (List.take (Int.toNat 0) zones_8l0) fun (t_44 : (List Int)) =>
  j0 nx0 k0 (t_44, t_29))
  (j0 nx0 k0 (zones_8l0, least_9l0)))) fun jt_37 => iteK t_32 (appK jt_37 true) (letK (decide (least_9l0 < t_29)) fun (t_36 : Bool) =>
  appK jt_37 t_36)

def e0  (s : (List Int) × Int) : Option ((List Int) × Bool) :=
  unp2 s fun zones_8l0 least_9l0 =>
  some (zones_8l0, true)

def P (list : (List Go.Proofs.Ytlljmgphgmklcaa.PRate.Rate)) (day : Int) (grams : Int) : Option ((List Int) × Bool) :=
  Option.bind (Go.Proofs.Ytlljmgphgmklcaa.GiAreRates.P list) fun (t_3 : Bool) =>
  letK (!t_3) fun (t_4 : Bool) =>
  joinK (fun (t_9 : Bool) =>
  joinK (fun (t_14 : Bool) =>
  iteK t_14
  (some (([] : List Int), false))
  (cntK (l0 list day grams) (10) 0 (([] : List Int), 10000) (e0 ))) fun jt_14 => iteK t_9 (appK jt_14 true) (Option.bind (Go.Proofs.Ytlljmgphgmklcaa.GiIsWeight.P grams) fun (t_12 : Bool) =>
  letK (!t_12) fun (t_13 : Bool) =>
  appK jt_14 t_13)) fun jt_9 => iteK t_4 (appK jt_9 true) (Option.bind (Go.Proofs.Ytlljmgphgmklcaa.GiIsDay.P day) fun (t_7 : Bool) =>
  letK (!t_7) fun (t_8 : Bool) =>
  appK jt_9 t_8)

set_option maxRecDepth 100000 in
set_option maxHeartbeats 2000000 in
theorem C (list : (List Go.Proofs.Ytlljmgphgmklcaa.PRate.Rate)) (day : Int) (grams : Int) (A0 : Option Addr) (c0 : Nat)  (w : World) (M0 : Hid (Cells w 5 A0 list.length (Go.Proofs.Ytlljmgphgmklcaa.PRate.flat list))) (N0 : Hid (list.length ≤ 9223372036854775807))  {r0 : (List Int)} {r1 : Bool} (H : Hid (P list day grams = some (r0, r1))) :
    Calls Try.prog 69 #[.slice A0 list.length c0, .int .i64 day, .int .i64 grams] w (fun e w' => ∃ A_r0 c_r0, e = .returned (.tuple #[.slice A_r0 r0.length c_r0, .bool r1]) ∧ w'.ownsRow w.heap.size 3 1 (.slice A_r0 r0.length c_r0) r0.length (Go.Proofs.Ytlljmgphgmklcaa.HelpInt.iv r0) ∧ Below w.heap.size w w') := by
  have HB := Lib.hid (Below.refl w.heap.size w)
  unfold P at H
  have N0o := N0.out
  obtain ⟨i0_3, hi_3, hz0_3, hz1_3, hz2_3⟩ := Aid.info_parts (P := Try.prog) (T := 3) (z := .int .i64 0) (s := 1) (b := 8) (by kernel_rfl)
  go_enter Try.func69, Try.ntmps69
  replace H := bind_hid H
  obtain ⟨t_3, qt_3, H⟩ := H
  go_wp2_with fail
  go_at_call 67
  refine (Go.Proofs.Ytlljmgphgmklcaa.GiAreRates.C (list) A0 c0 _   (Lib.hid (Cells.below M0.out HB.out)) N0 qt_3).mono ?_
  rintro e_t_3 wt_3 ⟨rfl, bt_3⟩
  have HBwt_3 := Lib.hid (Below.step HB.out bt_3)
  clear bt_3
  cases t_3 with
  | false =>
    replace H := let_hid H
    obtain ⟨t_4, ht_4, H⟩ := H
    obtain rfl : t_4 = true := ht_4.symm
    replace H := join_hid H
    replace H := ite_t H
    replace H := app_hid H
    replace H := join_hid H
    replace H := ite_t H
    replace H := app_hid H
    replace H := ite_t H
    obtain ⟨w_t_15, hw_t_15⟩ : ∃ x, wt_3.alloc (.cells #[] 3) = x := ⟨_, rfl⟩
    have bw_t_15 : Below wt_3.heap.size wt_3 w_t_15 := by rw [← hw_t_15]; exact (Below.refl _ _).alloc (Nat.le_refl _) _
    have Ot_15 : Hid (w_t_15.ownsRow w.heap.size 3 1 (.slice (some ⟨wt_3.heap.size, 0, none⟩) 0 0) 0 []) := Lib.hid (by rw [← hw_t_15]; exact own_empty HBwt_3.out.size)
    have HBw_t_15 := Lib.hid (Below.step HBwt_3.out bw_t_15)
    clear bw_t_15
    cases ret_hid H
    go_wp2_with fail
    go_ret2
    exact ⟨(some ⟨wt_3.heap.size, 0, none⟩), 0, rfl, Ot_15.out, HBw_t_15.out⟩
  | true =>
    replace H := let_hid H
    obtain ⟨t_4, ht_4, H⟩ := H
    obtain rfl : t_4 = false := ht_4.symm
    replace H := join_hid H
    replace H := ite_f H
    replace H := bind_hid H
    obtain ⟨t_7, qt_7, H⟩ := H
    go_wp2_with fail
    go_at_call 79
    refine (Go.Proofs.Ytlljmgphgmklcaa.GiIsDay.C (day)  _    qt_7).mono ?_
    rintro e_t_7 wt_7 ⟨rfl, bt_7⟩
    have HBwt_7 := Lib.hid (Below.step HBwt_3.out bt_7)
    clear bt_7
    cases t_7 with
    | false =>
      replace H := let_hid H
      obtain ⟨t_8, ht_8, H⟩ := H
      obtain rfl : t_8 = true := ht_8.symm
      replace H := app_hid H
      replace H := join_hid H
      replace H := ite_t H
      replace H := app_hid H
      replace H := ite_t H
      obtain ⟨w_t_15, hw_t_15⟩ : ∃ x, wt_7.alloc (.cells #[] 3) = x := ⟨_, rfl⟩
      have bw_t_15 : Below wt_7.heap.size wt_7 w_t_15 := by rw [← hw_t_15]; exact (Below.refl _ _).alloc (Nat.le_refl _) _
      have Ot_15 : Hid (w_t_15.ownsRow w.heap.size 3 1 (.slice (some ⟨wt_7.heap.size, 0, none⟩) 0 0) 0 []) := Lib.hid (by rw [← hw_t_15]; exact own_empty HBwt_7.out.size)
      have HBw_t_15 := Lib.hid (Below.step HBwt_7.out bw_t_15)
      clear bw_t_15
      cases ret_hid H
      go_wp2_with fail
      go_ret2
      exact ⟨(some ⟨wt_7.heap.size, 0, none⟩), 0, rfl, Ot_15.out, HBw_t_15.out⟩
    | true =>
      replace H := let_hid H
      obtain ⟨t_8, ht_8, H⟩ := H
      obtain rfl : t_8 = false := ht_8.symm
      replace H := app_hid H
      replace H := join_hid H
      replace H := ite_f H
      replace H := bind_hid H
      obtain ⟨t_12, qt_12, H⟩ := H
      go_wp2_with fail
      go_at_call 81
      refine (Go.Proofs.Ytlljmgphgmklcaa.GiIsWeight.C (grams)  _    qt_12).mono ?_
      rintro e_t_12 wt_12 ⟨rfl, bt_12⟩
      have HBwt_12 := Lib.hid (Below.step HBwt_7.out bt_12)
      clear bt_12
      cases t_12 with
      | false =>
        replace H := let_hid H
        obtain ⟨t_13, ht_13, H⟩ := H
        obtain rfl : t_13 = true := ht_13.symm
        replace H := app_hid H
        replace H := ite_t H
        obtain ⟨w_t_15, hw_t_15⟩ : ∃ x, wt_12.alloc (.cells #[] 3) = x := ⟨_, rfl⟩
        have bw_t_15 : Below wt_12.heap.size wt_12 w_t_15 := by rw [← hw_t_15]; exact (Below.refl _ _).alloc (Nat.le_refl _) _
        have Ot_15 : Hid (w_t_15.ownsRow w.heap.size 3 1 (.slice (some ⟨wt_12.heap.size, 0, none⟩) 0 0) 0 []) := Lib.hid (by rw [← hw_t_15]; exact own_empty HBwt_12.out.size)
        have HBw_t_15 := Lib.hid (Below.step HBwt_12.out bw_t_15)
        clear bw_t_15
        cases ret_hid H
        go_wp2_with fail
        go_ret2
        exact ⟨(some ⟨wt_12.heap.size, 0, none⟩), 0, rfl, Ot_15.out, HBw_t_15.out⟩
      | true =>
        replace H := let_hid H
        obtain ⟨t_13, ht_13, H⟩ := H
        obtain rfl : t_13 = false := ht_13.symm
        replace H := app_hid H
        replace H := ite_f H
        obtain ⟨w_t_18, hw_t_18⟩ : ∃ x, wt_12.alloc (.cells #[] 3) = x := ⟨_, rfl⟩
        have bw_t_18 : Below wt_12.heap.size wt_12 w_t_18 := by rw [← hw_t_18]; exact (Below.refl _ _).alloc (Nat.le_refl _) _
        have Ot_18 : Hid (w_t_18.ownsRow w.heap.size 3 1 (.slice (some ⟨wt_12.heap.size, 0, none⟩) 0 0) 0 []) := Lib.hid (by rw [← hw_t_18]; exact own_empty HBwt_12.out.size)
        have HBw_t_18 := Lib.hid (Below.step HBwt_12.out bw_t_18)
        clear bw_t_18
        go_wp2_with fail
        go_loopg [27, 8, 9] (10) (fun m_ v27_ v8_ v9_ wr => ∃ (k0 : Nat) (zones_8l0 : (List Int)) (least_9l0 : Int) (Azones_8l0 : Option Addr) (czones_8l0 : Nat), k0 + m_ = 10 ∧ v27_ = .int .i64 (k0 : Int) ∧ v8_ = .slice Azones_8l0 zones_8l0.length czones_8l0 ∧ v9_ = .int .i64 least_9l0 ∧ Hid (cntK (l0 list day grams) m_ k0 (zones_8l0, least_9l0) (e0 ) = some (r0, r1)) ∧ Hid (Below w.heap.size w wr) ∧ Hid (wr.ownsRow w.heap.size 3 1 (.slice Azones_8l0 zones_8l0.length czones_8l0) zones_8l0.length (Go.Proofs.Ytlljmgphgmklcaa.HelpInt.iv zones_8l0)))
        case atStart => exact ⟨0, _, _, _, _, by omega, rfl, rfl, rfl, H, HBw_t_18, Ot_18⟩
        case round =>
          obtain ⟨k0, zones_8l0, least_9l0, Azones_8l0, czones_8l0, hkm0, rfl, rfl, rfl, H, HBwr0, Ozones_8l0⟩ := hrel
          rename World => wr0
          cases gk with
          | zero =>
            obtain rfl : k0 = 10 := by omega
            have hc0 : decide (((10 : Nat) : Int) < ((10 : Nat) : Int)) = false := by simp
            replace H := cnt_zero H
            unfold e0 at H
            replace H := unp2_hid H
            cases ret_hid H
            go_wp2_with fail
            go_ret2
            exact ⟨Azones_8l0, czones_8l0, rfl, Ozones_8l0.out, HBwr0.out⟩
          | succ m0 =>
            have hlt0 : k0 < 10 := by omega
            have hc0 : decide ((k0 : Int) < ((10 : Nat) : Int)) = true := by simp; omega
            replace H := cnt_succ H
            have hd0 : decide ((k0 : Int) < 10) = true := by simp; omega
            unfold l0 at H
            replace H := unp2_hid H
            replace H := bind_hid H
            obtain ⟨t_29, qt_29, H⟩ := H
            go_wp2_with fail
            go_at_call 131
            refine (Go.Proofs.Ytlljmgphgmklcaa.GiRateOn.C (list) (day) ((k0 : Int)) (grams) A0 c0 _   (Lib.hid (Cells.below M0.out HBwr0.out)) N0 qt_29).mono ?_
            rintro e_t_29 wt_29 ⟨rfl, bt_29⟩
            have HBwt_29 := Lib.hid (Below.step HBwr0.out bt_29)
            replace Ozones_8l0 := Lib.hid (own_below Ozones_8l0.out bt_29)
            clear bt_29
            replace H := let_hid H
            obtain ⟨t_32, ht_32, H⟩ := H
            replace H := join_hid H
            cases t_32 with
            | false =>
              replace H := ite_f H
              replace H := let_hid H
              obtain ⟨t_36, ht_36, H⟩ := H
              replace H := app_hid H
              cases t_36 with
              | false =>
                replace H := ite_f H
                replace H := let_hid H
                obtain ⟨t_40, ht_40, H⟩ := H
                cases t_40 with
                | false =>
                  replace H := ite_f H
                  unfold j0 at H
                  replace H := unp2_hid H
                  obtain ⟨w_t_48, hw_t_48⟩ : ∃ x, wt_29.alloc (.cells #[.int .i64 (k0 : Int)] 3) = x := ⟨_, rfl⟩
                  have bw_t_48 : Below wt_29.heap.size wt_29 w_t_48 := by rw [← hw_t_48]; exact (Below.refl _ _).alloc (Nat.le_refl _) _
                  have HBw_t_48 := Lib.hid (Below.step HBwt_29.out bw_t_48)
                  replace Ozones_8l0 := Lib.hid (own_below Ozones_8l0.out bw_t_48)
                  clear bw_t_48
                  replace H := guard_hid H
                  obtain ⟨hlt_49, H⟩ := H
                  replace H := let_hid H
                  obtain ⟨t_49, ht_49, H⟩ := H
                  have hht_49 := Lib.hid ht_49
                  clear ht_49
                  have hst_49 := HBw_t_48.out.size
                  go_wp2_with (at_builtin; refine wpList_append_own_at _ rfl _ _ 48 rfl w.heap.size 3 i0_3 (.int .i64 0) 1 8 Try.underlying48 hi_3 hz0_3 hz1_3 hz2_3 rfl (by decide) _ _ _ rfl Ozones_8l0.out ⟨wt_29.heap.size, 0, none⟩ 1 1 [.int .i64 (k0 : Int)] rfl rfl (news_new hw_t_48) (one_cells rfl) (by unfold maxLen; omega) (by omega) hst_49 ?_; intro vt_49 wt_49 ot_49 gt_49 zt_49 yt_49; clear zt_49; obtain ⟨qt_49, ct_49, rfl, pt_49⟩ := own_push hht_49.out (Go.Proofs.Ytlljmgphgmklcaa.HelpInt.iv_snoc _ _) rfl ot_49; have Pt_49 := Lib.hid pt_49; have Yt_49 := Lib.hid yt_49; have Gt_49 := Lib.hid gt_49; clear ot_49 gt_49 pt_49 yt_49; refine stop_in ?_)
                  refine stop_out ?_
                  have HBwt_49 := Lib.hid (HBw_t_48.out.grown Gt_49.out hst_49 (fun q hq => (Ozones_8l0.out.lt q hq).1))
                  clear hst_49
                  clear Ozones_8l0 Yt_49 Gt_49
                  replace H := app_hid H
                  go_wp2_with fail
                  go_roundg m0
                  case measure => omega
                  case rel => exact ⟨k0 + 1, _, _, _, _, by omega, by go_num, rfl, rfl, H, HBwt_49, Pt_49⟩
                | true =>
                  replace H := ite_t H
                  replace H := guard_hid H
                  obtain ⟨hl_t_44, H⟩ := H
                  replace H := let_hid H
                  obtain ⟨t_44, ht_44, H⟩ := H
                  have dt_44 : ((Go.Proofs.Ytlljmgphgmklcaa.HelpInt.iv zones_8l0)).take (Int.toNat 0 * 1) = (Go.Proofs.Ytlljmgphgmklcaa.HelpInt.iv t_44) := by
                    rw [← ht_44]
                    simp [Go.Proofs.Ytlljmgphgmklcaa.HelpInt.iv, List.map_take]
                  have nt_44 : Int.toNat 0 = t_44.length := by rw [← ht_44, List.length_take]; omega
                  obtain ⟨rt_44, Ot_44⟩ := slice_head (P := Try.prog) (t := 48) (e := 3) (k := .i64) (by kernel_rfl) (by kernel_rfl) hi_3 hz1_3 Ozones_8l0.out hl_t_44 nt_44 dt_44
                  replace Ot_44 := Lib.hid Ot_44
                  clear dt_44 nt_44 hl_t_44
                  have hht_44 := Lib.hid ht_44
                  clear ht_44
                  unfold j0 at H
                  replace H := unp2_hid H
                  obtain ⟨w_t_48, hw_t_48⟩ : ∃ x, wt_29.alloc (.cells #[.int .i64 (k0 : Int)] 3) = x := ⟨_, rfl⟩
                  have bw_t_48 : Below wt_29.heap.size wt_29 w_t_48 := by rw [← hw_t_48]; exact (Below.refl _ _).alloc (Nat.le_refl _) _
                  have HBw_t_48 := Lib.hid (Below.step HBwt_29.out bw_t_48)
                  replace Ot_44 := Lib.hid (own_below Ot_44.out bw_t_48)
                  clear bw_t_48
                  replace H := guard_hid H
                  obtain ⟨hlt_49, H⟩ := H
                  replace H := let_hid H
                  obtain ⟨t_49, ht_49, H⟩ := H
                  have hht_49 := Lib.hid ht_49
                  clear ht_49
                  have hst_49 := HBw_t_48.out.size
                  go_wp2_with (at_builtin; refine wpList_append_own_at _ rfl _ _ 48 rfl w.heap.size 3 i0_3 (.int .i64 0) 1 8 Try.underlying48 hi_3 hz0_3 hz1_3 hz2_3 rfl (by decide) _ _ _ rfl Ot_44.out ⟨wt_29.heap.size, 0, none⟩ 1 1 [.int .i64 (k0 : Int)] rfl rfl (news_new hw_t_48) (one_cells rfl) (by unfold maxLen; omega) (by omega) hst_49 ?_; intro vt_49 wt_49 ot_49 gt_49 zt_49 yt_49; clear zt_49; obtain ⟨qt_49, ct_49, rfl, pt_49⟩ := own_push hht_49.out (Go.Proofs.Ytlljmgphgmklcaa.HelpInt.iv_snoc _ _) rfl ot_49; have Pt_49 := Lib.hid pt_49; have Yt_49 := Lib.hid yt_49; have Gt_49 := Lib.hid gt_49; clear ot_49 gt_49 pt_49 yt_49; refine stop_in ?_)
                  refine stop_out ?_
                  have HBwt_49 := Lib.hid (HBw_t_48.out.grown Gt_49.out hst_49 (fun q hq => (Ot_44.out.lt q hq).1))
                  clear hst_49
                  clear Ot_44 Yt_49 Gt_49
                  replace H := app_hid H
                  go_wp2_with fail
                  go_roundg m0
                  case measure => omega
                  case rel => exact ⟨k0 + 1, _, _, _, _, by omega, by go_num, rfl, rfl, H, HBwt_49, Pt_49⟩
              | true =>
                replace H := ite_t H
                replace H := app_hid H
                go_wp2_with fail
                go_roundg m0
                case measure => omega
                case rel => exact ⟨k0 + 1, _, _, _, _, by omega, by go_num, rfl, rfl, H, HBwt_29, Ozones_8l0⟩
            | true =>
              replace H := ite_t H
              replace H := app_hid H
              replace H := ite_t H
              replace H := app_hid H
              go_wp2_with fail
              go_roundg m0
              case measure => omega
              case rel => exact ⟨k0 + 1, _, _, _, _, by omega, by go_num, rfl, rfl, H, HBwt_29, Ozones_8l0⟩
end Go.Proofs.Ytlljmgphgmklcaa.GiCheapestZones

/- loop.example/g01062/spec.l8For as a plain function, and the contract of the program's: where the plain one has an answer, the program has it. Conditions: slices read as lists. -/
namespace Go.Proofs.Ytlljmgphgmklcaa.GsL8For
set_option linter.unusedVariables false
set_option linter.unusedSimpArgs false
open Go.RowKit
open Go.Proofs.Ytlljmgphgmklcaa.Rowed Go.Proofs.Ytlljmgphgmklcaa.Turn Go.Proofs.Ytlljmgphgmklcaa.Aid Go.Proofs.Ytlljmgphgmklcaa.GoP Go.Proofs.Ytlljmgphgmklcaa.GoM

def l0 (list : (List Go.Proofs.Ytlljmgphgmklcaa.PRate.Rate)) (day : Int) (zone : Int) (grams : Int) (k0 : Nat) (s : Unit) (nx0 bk0 : Unit → Option (Int)) : Option (Int) :=
  
  Option.bind (idx list (k0 : Int)) fun (yt_8 : Go.Proofs.Ytlljmgphgmklcaa.PRate.Rate) =>
  unRate yt_8 fun (t_8_zone : Int) (t_8_grams : Int) (t_8_from_ : Int) (t_8_until_ : Int) (t_8_cents : Int) =>
  letK (t_8_zone == zone) fun (t_15 : Bool) =>
  joinK (fun (t_21 : Bool) =>
  joinK (fun (t_29 : Bool) =>
  iteK t_29
  (some t_8_cents)
  (appK nx0 ())) fun jt_29 => iteK t_21 (Option.bind (Go.Proofs.Ytlljmgphgmklcaa.GsL1In.P day t_8_from_ t_8_until_) fun (t_28 : Bool) =>
  appK jt_29 t_28) (appK jt_29 false)) fun jt_21 => iteK t_15 (letK (decide (grams ≤ t_8_grams)) fun (t_20 : Bool) =>
  appK jt_21 t_20) (appK jt_21 false)

def e0  (s : Unit) : Option (Int) :=
  
  some 0

def P (list : (List Go.Proofs.Ytlljmgphgmklcaa.PRate.Rate)) (day : Int) (zone : Int) (grams : Int) : Option (Int) :=
  cntK (l0 list day zone grams) (list.length) 0 () (e0 )

set_option maxRecDepth 100000 in
set_option maxHeartbeats 2000000 in
theorem C (list : (List Go.Proofs.Ytlljmgphgmklcaa.PRate.Rate)) (day : Int) (zone : Int) (grams : Int) (A0 : Option Addr) (c0 : Nat)  (w : World) (M0 : Hid (Cells w 5 A0 list.length (Go.Proofs.Ytlljmgphgmklcaa.PRate.flat list))) (N0 : Hid (list.length ≤ 9223372036854775807))  {r : Int} (H : Hid (P list day zone grams = some r)) :
    Calls Try.prog 100 #[.slice A0 list.length c0, .int .i64 day, .int .i64 zone, .int .i64 grams] w (Gives (.int .i64 r) w) := by
  have HB := Lib.hid (Below.refl w.heap.size w)
  unfold P at H
  have N0o := N0.out
  go_enter Try.func100, Try.ntmps100
  go_wp2_with fail
  go_loopg [9] (list.length) (fun m_ v9_ wr => ∃ (k0 : Nat) , k0 + m_ = list.length ∧ v9_ = .int .i64 (k0 : Int) ∧ Hid (cntK (l0 list day zone grams) m_ k0 () (e0 ) = some r) ∧ Hid (Below w.heap.size w wr))
  case atStart => exact ⟨0, by omega, rfl, H, HB⟩
  case round =>
    obtain ⟨k0, hkm0, rfl, H, HBwr0⟩ := hrel
    rename World => wr0
    cases gk with
    | zero =>
      obtain rfl : k0 = list.length := by omega
      have hc0 : decide (((list.length : Nat) : Int) < ((list.length : Nat) : Int)) = false := by simp
      replace H := cnt_zero H
      unfold e0 at H
      obtain rfl := ret_hid H
      go_wp2_with fail
      go_ret
      exact ⟨rfl, HBwr0.out⟩
    | succ m0 =>
      have hlt0 : k0 < list.length := by omega
      have hc0 : decide ((k0 : Int) < ((list.length : Nat) : Int)) = true := by simp; omega
      replace H := cnt_succ H
      unfold l0 at H
      replace H := idx_hid H
      obtain ⟨nt_8, yt_8, et_8, lt_8, gt_8, H⟩ := H
      obtain rfl : k0 = nt_8 := by omega
      clear et_8
      obtain ⟨t_8_zone, t_8_grams, t_8_from_, t_8_until_, t_8_cents⟩ := yt_8
      replace H := unRate_hid H
      obtain ⟨ab_t_8, ao_t_8, zt_8, At_8, z_t_8, ct_8_0, ct_8_1, ct_8_2, ct_8_3, ct_8_4⟩ := Go.Proofs.Ytlljmgphgmklcaa.ORate.at_ M0.out lt_8
      obtain rfl := Option.some.inj (gt_8.out.symm.trans z_t_8)
      subst At_8
      have ltt_8 := cell_lt ct_8_0
      replace ct_8_0 := cell_below HBwr0.out ct_8_0
      replace ct_8_1 := cell_below HBwr0.out ct_8_1
      replace ct_8_2 := cell_below HBwr0.out ct_8_2
      replace ct_8_3 := cell_below HBwr0.out ct_8_3
      replace ct_8_4 := cell_below HBwr0.out ct_8_4
      clear z_t_8
      have b0t_8 : (0 : Int) ≤ (k0 : Int) := by omega
      have b1t_8 : (k0 : Int) < ((list.length : Nat) : Int) := by omega
      have b2t_8 : ((k0 : Int)).toNat = k0 := by omega
      obtain ⟨w_r_10, hw_r_10⟩ : ∃ x, wr0.alloc (.cells #[.int .i64 t_8_zone, .int .i64 t_8_grams, .int .i64 t_8_from_, .int .i64 t_8_until_, .int .i64 t_8_cents] 104) = x := ⟨_, rfl⟩
      have bw_r_10 : Below wr0.heap.size wr0 w_r_10 := by rw [← hw_r_10]; exact (Below.refl _ _).alloc (Nat.le_refl _) _
      have HBw_r_10 := Lib.hid (Below.step HBwr0.out bw_r_10)
      have ct_8_0__1449 := cell_below bw_r_10 ct_8_0
      have ct_8_1__1450 := cell_below bw_r_10 ct_8_1
      have ct_8_2__1451 := cell_below bw_r_10 ct_8_2
      have ct_8_3__1452 := cell_below bw_r_10 ct_8_3
      have ct_8_4__1453 := cell_below bw_r_10 ct_8_4
      clear bw_r_10
      have kr_10_0 : w_r_10.cell? ⟨wr0.heap.size, 0, none⟩ = some (.int .i64 t_8_zone) := by rw [← hw_r_10]; exact box_new _ _ _ 0 _ rfl
      have kr_10_1 : w_r_10.cell? ⟨wr0.heap.size, 1, none⟩ = some (.int .i64 t_8_grams) := by rw [← hw_r_10]; exact box_new _ _ _ 1 _ rfl
      have kr_10_2 : w_r_10.cell? ⟨wr0.heap.size, 2, none⟩ = some (.int .i64 t_8_from_) := by rw [← hw_r_10]; exact box_new _ _ _ 2 _ rfl
      have kr_10_3 : w_r_10.cell? ⟨wr0.heap.size, 3, none⟩ = some (.int .i64 t_8_until_) := by rw [← hw_r_10]; exact box_new _ _ _ 3 _ rfl
      have kr_10_4 : w_r_10.cell? ⟨wr0.heap.size, 4, none⟩ = some (.int .i64 t_8_cents) := by rw [← hw_r_10]; exact box_new _ _ _ 4 _ rfl
      replace H := let_hid H
      obtain ⟨t_15, ht_15, H⟩ := H
      replace H := join_hid H
      cases t_15 with
      | false =>
        replace H := ite_f H
        replace H := app_hid H
        replace H := join_hid H
        replace H := ite_f H
        replace H := app_hid H
        replace H := ite_f H
        replace H := app_hid H
        go_wp2_with fail
        clear ct_8_0 ct_8_1 ct_8_2 ct_8_3 ct_8_4
        go_roundg m0
        case measure => omega
        case rel => exact ⟨k0 + 1, by omega, by go_num, H, HBw_r_10⟩
      | true =>
        replace H := ite_t H
        replace H := let_hid H
        obtain ⟨t_20, ht_20, H⟩ := H
        replace H := app_hid H
        replace H := join_hid H
        cases t_20 with
        | false =>
          replace H := ite_f H
          replace H := app_hid H
          replace H := ite_f H
          replace H := app_hid H
          go_wp2_with fail
          clear ct_8_0 ct_8_1 ct_8_2 ct_8_3 ct_8_4
          go_roundg m0
          case measure => omega
          case rel => exact ⟨k0 + 1, by omega, by go_num, H, HBw_r_10⟩
        | true =>
          replace H := ite_t H
          replace H := bind_hid H
          obtain ⟨t_28, qt_28, H⟩ := H
          go_wp2_with fail
          clear ct_8_0 ct_8_1 ct_8_2 ct_8_3 ct_8_4
          go_at_call 113
          refine (Go.Proofs.Ytlljmgphgmklcaa.GsL1In.C (day) (t_8_from_) (t_8_until_)  _    qt_28).mono ?_
          rintro e_t_28 wt_28 ⟨rfl, bt_28⟩
          have HBwt_28 := Lib.hid (Below.step HBw_r_10.out bt_28)
          replace ct_8_0__1449 := cell_below bt_28 ct_8_0__1449
          replace ct_8_1__1450 := cell_below bt_28 ct_8_1__1450
          replace ct_8_2__1451 := cell_below bt_28 ct_8_2__1451
          replace ct_8_3__1452 := cell_below bt_28 ct_8_3__1452
          replace ct_8_4__1453 := cell_below bt_28 ct_8_4__1453
          replace kr_10_0 := cell_below bt_28 kr_10_0
          replace kr_10_1 := cell_below bt_28 kr_10_1
          replace kr_10_2 := cell_below bt_28 kr_10_2
          replace kr_10_3 := cell_below bt_28 kr_10_3
          replace kr_10_4 := cell_below bt_28 kr_10_4
          clear bt_28
          replace H := app_hid H
          cases t_28 with
          | false =>
            replace H := ite_f H
            replace H := app_hid H
            go_wp2_with fail
            go_roundg m0
            case measure => omega
            case rel => exact ⟨k0 + 1, by omega, by go_num, H, HBwt_28⟩
          | true =>
            replace H := ite_t H
            obtain rfl := ret_hid H
            go_wp2_with fail
            go_ret
            exact ⟨rfl, HBwt_28.out⟩
end Go.Proofs.Ytlljmgphgmklcaa.GsL8For

/- loop.example/g01062/spec.CheapestZones as a plain function, and the contract of the program's: where the plain one has an answer, the program has it. Conditions: slices read as lists. -/
namespace Go.Proofs.Ytlljmgphgmklcaa.GsCheapestZones
set_option linter.unusedVariables false
set_option linter.unusedSimpArgs false
open Go.RowKit
open Go.Proofs.Ytlljmgphgmklcaa.Rowed Go.Proofs.Ytlljmgphgmklcaa.Turn Go.Proofs.Ytlljmgphgmklcaa.Aid Go.Proofs.Ytlljmgphgmklcaa.GoP Go.Proofs.Ytlljmgphgmklcaa.GoM

def l0 (list : (List Go.Proofs.Ytlljmgphgmklcaa.PRate.Rate)) (day : Int) (grams : Int) (k0 : Nat) (s : (List Int) × Int) (nx0 bk0 : (List Int) × Int → Option ((List Int) × Bool)) : Option ((List Int) × Bool) :=
  unp2 s fun out_8l0 least_9l0 =>
  Option.bind (Go.Proofs.Ytlljmgphgmklcaa.GsL8For.P list day (k0 : Int) grams) fun (t_28 : Int) =>
  letK (t_28 == 0) fun (t_31 : Bool) =>
  joinK (fun (t_40 : Bool) =>
  iteK t_40
  (appK nx0 (out_8l0, least_9l0))
  (letK (t_28 == least_9l0) fun (t_44 : Bool) =>
  iteK t_44
  (guardK (out_8l0.length ≤ 1099511627776) <|
  letK (out_8l0 ++ [(k0 : Int)]) fun (t_49 : (List Int)) =>
  appK nx0 (t_49, least_9l0))
  (letK ([(k0 : Int)]) fun (t_52 : (List Int)) =>
  appK nx0 (t_52, t_28)))) fun jt_40 => iteK t_31 (appK jt_40 true) (letK (decide (0 < least_9l0)) fun (t_34 : Bool) =>
  joinK (fun (t_39 : Bool) =>
  appK jt_40 t_39) fun jt_39 => iteK t_34 (letK (decide (least_9l0 < t_28)) fun (t_38 : Bool) =>
  appK jt_39 t_38) (appK jt_39 false))

def e0  (s : (List Int) × Int) : Option ((List Int) × Bool) :=
  unp2 s fun out_8l0 least_9l0 =>
  some (out_8l0, true)

def P (fuel : Nat) (list : (List Go.Proofs.Ytlljmgphgmklcaa.PRate.Rate)) (day : Int) (grams : Int) : Option ((List Int) × Bool) :=
  Option.bind (Go.Proofs.Ytlljmgphgmklcaa.GsL8Good.P fuel list) fun (t_5 : Bool) =>
  letK (!t_5) fun (t_6 : Bool) =>
  joinK (fun (t_11 : Bool) =>
  joinK (fun (t_16 : Bool) =>
  iteK t_16
  (some (([] : List Int), false))
  (cntK (l0 list day grams) (10) 0 (([] : List Int), 0) (e0 ))) fun jt_16 => iteK t_11 (appK jt_16 true) (Option.bind (Go.Proofs.Ytlljmgphgmklcaa.GsL8Grams.P grams) fun (t_14 : Bool) =>
  letK (!t_14) fun (t_15 : Bool) =>
  appK jt_16 t_15)) fun jt_11 => iteK t_6 (appK jt_11 true) (Option.bind (Go.Proofs.Ytlljmgphgmklcaa.GsL2Day.P day) fun (t_9 : Bool) =>
  letK (!t_9) fun (t_10 : Bool) =>
  appK jt_11 t_10)

set_option maxRecDepth 100000 in
set_option maxHeartbeats 2000000 in
theorem C (fuel : Nat) (list : (List Go.Proofs.Ytlljmgphgmklcaa.PRate.Rate)) (day : Int) (grams : Int) (A0 : Option Addr) (c0 : Nat)  (w : World) (M0 : Hid (Cells w 5 A0 list.length (Go.Proofs.Ytlljmgphgmklcaa.PRate.flat list))) (N0 : Hid (list.length ≤ 9223372036854775807))  {r0 : (List Int)} {r1 : Bool} (H : Hid (P fuel list day grams = some (r0, r1))) :
    Calls Try.prog 70 #[.slice A0 list.length c0, .int .i64 day, .int .i64 grams] w (fun e w' => ∃ A_r0 c_r0, e = .returned (.tuple #[.slice A_r0 r0.length c_r0, .bool r1]) ∧ w'.ownsRow w.heap.size 3 1 (.slice A_r0 r0.length c_r0) r0.length (Go.Proofs.Ytlljmgphgmklcaa.HelpInt.iv r0) ∧ Below w.heap.size w w') := by
  have HB := Lib.hid (Below.refl w.heap.size w)
  unfold P at H
  have N0o := N0.out
  obtain ⟨i0_3, hi_3, hz0_3, hz1_3, hz2_3⟩ := Aid.info_parts (P := Try.prog) (T := 3) (z := .int .i64 0) (s := 1) (b := 8) (by kernel_rfl)
  go_enter Try.func70, Try.ntmps70
  obtain ⟨w_t_2, hw_t_2⟩ : ∃ x, w.alloc (.cells #[] 3) = x := ⟨_, rfl⟩
  have bw_t_2 : Below w.heap.size w w_t_2 := by rw [← hw_t_2]; exact (Below.refl _ _).alloc (Nat.le_refl _) _
  have Ot_2 : Hid (w_t_2.ownsRow w.heap.size 3 1 (.slice (some ⟨w.heap.size, 0, none⟩) 0 0) 0 []) := Lib.hid (by rw [← hw_t_2]; exact own_empty HB.out.size)
  have HBw_t_2 := Lib.hid (Below.step HB.out bw_t_2)
  clear bw_t_2
  replace H := bind_hid H
  obtain ⟨t_5, qt_5, H⟩ := H
  go_wp2_with fail
  go_at_call 89
  refine (Go.Proofs.Ytlljmgphgmklcaa.GsL8Good.C fuel (list) A0 c0 _   (Lib.hid (Cells.below M0.out HBw_t_2.out)) N0 qt_5).mono ?_
  rintro e_t_5 wt_5 ⟨rfl, bt_5⟩
  have HBwt_5 := Lib.hid (Below.step HBw_t_2.out bt_5)
  replace Ot_2 := Lib.hid (own_below Ot_2.out bt_5)
  clear bt_5
  cases t_5 with
  | false =>
    replace H := let_hid H
    obtain ⟨t_6, ht_6, H⟩ := H
    obtain rfl : t_6 = true := ht_6.symm
    replace H := join_hid H
    replace H := ite_t H
    replace H := app_hid H
    replace H := join_hid H
    replace H := ite_t H
    replace H := app_hid H
    replace H := ite_t H
    cases ret_hid H
    go_wp2_with fail
    go_ret2
    exact ⟨(some ⟨w.heap.size, 0, none⟩), 0, rfl, Ot_2.out, HBwt_5.out⟩
  | true =>
    replace H := let_hid H
    obtain ⟨t_6, ht_6, H⟩ := H
    obtain rfl : t_6 = false := ht_6.symm
    replace H := join_hid H
    replace H := ite_f H
    replace H := bind_hid H
    obtain ⟨t_9, qt_9, H⟩ := H
    go_wp2_with fail
    go_at_call 129
    refine (Go.Proofs.Ytlljmgphgmklcaa.GsL2Day.C (day)  _    qt_9).mono ?_
    rintro e_t_9 wt_9 ⟨rfl, bt_9⟩
    have HBwt_9 := Lib.hid (Below.step HBwt_5.out bt_9)
    replace Ot_2 := Lib.hid (own_below Ot_2.out bt_9)
    clear bt_9
    cases t_9 with
    | false =>
      replace H := let_hid H
      obtain ⟨t_10, ht_10, H⟩ := H
      obtain rfl : t_10 = true := ht_10.symm
      replace H := app_hid H
      replace H := join_hid H
      replace H := ite_t H
      replace H := app_hid H
      replace H := ite_t H
      cases ret_hid H
      go_wp2_with fail
      go_ret2
      exact ⟨(some ⟨w.heap.size, 0, none⟩), 0, rfl, Ot_2.out, HBwt_9.out⟩
    | true =>
      replace H := let_hid H
      obtain ⟨t_10, ht_10, H⟩ := H
      obtain rfl : t_10 = false := ht_10.symm
      replace H := app_hid H
      replace H := join_hid H
      replace H := ite_f H
      replace H := bind_hid H
      obtain ⟨t_14, qt_14, H⟩ := H
      go_wp2_with fail
      go_at_call 134
      refine (Go.Proofs.Ytlljmgphgmklcaa.GsL8Grams.C (grams)  _    qt_14).mono ?_
      rintro e_t_14 wt_14 ⟨rfl, bt_14⟩
      have HBwt_14 := Lib.hid (Below.step HBwt_9.out bt_14)
      replace Ot_2 := Lib.hid (own_below Ot_2.out bt_14)
      clear bt_14
      cases t_14 with
      | false =>
        replace H := let_hid H
        obtain ⟨t_15, ht_15, H⟩ := H
        obtain rfl : t_15 = true := ht_15.symm
        replace H := app_hid H
        replace H := ite_t H
        cases ret_hid H
        go_wp2_with fail
        go_ret2
        exact ⟨(some ⟨w.heap.size, 0, none⟩), 0, rfl, Ot_2.out, HBwt_14.out⟩
      | true =>
        replace H := let_hid H
        obtain ⟨t_15, ht_15, H⟩ := H
        obtain rfl : t_15 = false := ht_15.symm
        replace H := app_hid H
        replace H := ite_f H
        go_wp2_with fail
        go_loopg [10, 8, 9] (10) (fun m_ v10_ v8_ v9_ wr => ∃ (k0 : Nat) (out_8l0 : (List Int)) (least_9l0 : Int) (Aout_8l0 : Option Addr) (cout_8l0 : Nat), k0 + m_ = 10 ∧ v10_ = .int .i64 (k0 : Int) ∧ v8_ = .slice Aout_8l0 out_8l0.length cout_8l0 ∧ v9_ = .int .i64 least_9l0 ∧ Hid (cntK (l0 list day grams) m_ k0 (out_8l0, least_9l0) (e0 ) = some (r0, r1)) ∧ Hid (Below w.heap.size w wr) ∧ Hid (wr.ownsRow w.heap.size 3 1 (.slice Aout_8l0 out_8l0.length cout_8l0) out_8l0.length (Go.Proofs.Ytlljmgphgmklcaa.HelpInt.iv out_8l0)))
        case atStart => exact ⟨0, _, _, _, _, by omega, rfl, rfl, rfl, H, HBwt_14, Ot_2⟩
        case round =>
          obtain ⟨k0, out_8l0, least_9l0, Aout_8l0, cout_8l0, hkm0, rfl, rfl, rfl, H, HBwr0, Oout_8l0⟩ := hrel
          rename World => wr0
          cases gk with
          | zero =>
            obtain rfl : k0 = 10 := by omega
            have hc0 : decide (((10 : Nat) : Int) < ((10 : Nat) : Int)) = false := by simp
            replace H := cnt_zero H
            unfold e0 at H
            replace H := unp2_hid H
            cases ret_hid H
            go_wp2_with fail
            go_ret2
            exact ⟨Aout_8l0, cout_8l0, rfl, Oout_8l0.out, HBwr0.out⟩
          | succ m0 =>
            have hlt0 : k0 < 10 := by omega
            have hc0 : decide ((k0 : Int) < ((10 : Nat) : Int)) = true := by simp; omega
            replace H := cnt_succ H
            have hd0 : decide ((k0 : Int) < 10) = true := by simp; omega
            unfold l0 at H
            replace H := unp2_hid H
            replace H := bind_hid H
            obtain ⟨t_28, qt_28, H⟩ := H
            go_wp2_with fail
            go_at_call 100
            refine (Go.Proofs.Ytlljmgphgmklcaa.GsL8For.C (list) (day) ((k0 : Int)) (grams) A0 c0 _   (Lib.hid (Cells.below M0.out HBwr0.out)) N0 qt_28).mono ?_
            rintro e_t_28 wt_28 ⟨rfl, bt_28⟩
            have HBwt_28 := Lib.hid (Below.step HBwr0.out bt_28)
            replace Oout_8l0 := Lib.hid (own_below Oout_8l0.out bt_28)
            clear bt_28
            replace H := let_hid H
            obtain ⟨t_31, ht_31, H⟩ := H
            replace H := join_hid H
            cases t_31 with
            | false =>
              replace H := ite_f H
              replace H := let_hid H
              obtain ⟨t_34, ht_34, H⟩ := H
              replace H := join_hid H
              cases t_34 with
              | false =>
                replace H := ite_f H
                replace H := app_hid H
                replace H := app_hid H
                replace H := ite_f H
                replace H := let_hid H
                obtain ⟨t_44, ht_44, H⟩ := H
                cases t_44 with
                | false =>
                  replace H := ite_f H
                  replace H := let_hid H
                  obtain ⟨t_52, ht_52, H⟩ := H
                  obtain ⟨w_t_52, hw_t_52⟩ : ∃ x, wt_28.alloc (.cells #[.int .i64 (k0 : Int)] 3) = x := ⟨_, rfl⟩
                  have bw_t_52 : Below wt_28.heap.size wt_28 w_t_52 := by rw [← hw_t_52]; exact (Below.refl _ _).alloc (Nat.le_refl _) _
                  have hs_t_52 := HBwt_28.out.size
                  have nt_52 : t_52.length = 1 := by rw [← ht_52]; rfl
                  have Ot_52 : Hid (w_t_52.ownsRow w.heap.size 3 1 (.slice (some ⟨wt_28.heap.size, 0, none⟩) 1 1) 1 (Go.Proofs.Ytlljmgphgmklcaa.HelpInt.iv t_52)) := by
                    rw [← hw_t_52, ← ht_52]
                    have e_ : ([.int .i64 (k0 : Int)] : List Value) = (Go.Proofs.Ytlljmgphgmklcaa.HelpInt.iv ([(k0 : Int)] : List Int)) := rfl
                    exact Lib.hid (own_laid (n := 1) hs_t_52 e_ rfl (by unfold maxLen; omega))
                  clear hs_t_52
                  have hht_52 := Lib.hid ht_52
                  clear ht_52
                  replace nt_52 := Lib.hid nt_52
                  have Dt_52_out_8l0 := Lib.hid (apart_fresh Oout_8l0.out)
                  have HBw_t_52 := Lib.hid (Below.step HBwt_28.out bw_t_52)
                  replace Oout_8l0 := Lib.hid (own_below Oout_8l0.out bw_t_52)
                  clear bw_t_52
                  replace H := app_hid H
                  go_wp2_with fail
                  have hc_ := nt_52.out
                  have hv_ : (Value.slice (some ⟨wt_28.heap.size, 0, none⟩) 1 1 : Value) = Value.slice (some ⟨wt_28.heap.size, 0, none⟩) t_52.length 1 := by rw [hc_]
                  try rw [hv_]
                  replace Ot_52 := Lib.hid (own_len hc_ Ot_52.out)
                  clear hc_ hv_
                  go_wp2_with fail
                  go_roundg m0
                  case measure => omega
                  case rel => exact ⟨k0 + 1, _, _, _, _, by omega, by go_num, rfl, rfl, H, HBw_t_52, Ot_52⟩
                | true =>
                  replace H := ite_t H
                  obtain ⟨w_t_48, hw_t_48⟩ : ∃ x, wt_28.alloc (.cells #[.int .i64 (k0 : Int)] 3) = x := ⟨_, rfl⟩
                  have bw_t_48 : Below wt_28.heap.size wt_28 w_t_48 := by rw [← hw_t_48]; exact (Below.refl _ _).alloc (Nat.le_refl _) _
                  have HBw_t_48 := Lib.hid (Below.step HBwt_28.out bw_t_48)
                  replace Oout_8l0 := Lib.hid (own_below Oout_8l0.out bw_t_48)
                  clear bw_t_48
                  replace H := guard_hid H
                  obtain ⟨hlt_49, H⟩ := H
                  replace H := let_hid H
                  obtain ⟨t_49, ht_49, H⟩ := H
                  have hht_49 := Lib.hid ht_49
                  clear ht_49
                  have hst_49 := HBw_t_48.out.size
                  go_wp2_with (at_builtin; refine wpList_append_own_at _ rfl _ _ 48 rfl w.heap.size 3 i0_3 (.int .i64 0) 1 8 Try.underlying48 hi_3 hz0_3 hz1_3 hz2_3 rfl (by decide) _ _ _ rfl Oout_8l0.out ⟨wt_28.heap.size, 0, none⟩ 1 1 [.int .i64 (k0 : Int)] rfl rfl (news_new hw_t_48) (one_cells rfl) (by unfold maxLen; omega) (by omega) hst_49 ?_; intro vt_49 wt_49 ot_49 gt_49 zt_49 yt_49; clear zt_49; obtain ⟨qt_49, ct_49, rfl, pt_49⟩ := own_push hht_49.out (Go.Proofs.Ytlljmgphgmklcaa.HelpInt.iv_snoc _ _) rfl ot_49; have Pt_49 := Lib.hid pt_49; have Yt_49 := Lib.hid yt_49; have Gt_49 := Lib.hid gt_49; clear ot_49 gt_49 pt_49 yt_49; refine stop_in ?_)
                  refine stop_out ?_
                  have HBwt_49 := Lib.hid (HBw_t_48.out.grown Gt_49.out hst_49 (fun q hq => (Oout_8l0.out.lt q hq).1))
                  clear hst_49
                  clear Oout_8l0 Yt_49 Gt_49
                  replace H := app_hid H
                  go_wp2_with fail
                  go_roundg m0
                  case measure => omega
                  case rel => exact ⟨k0 + 1, _, _, _, _, by omega, by go_num, rfl, rfl, H, HBwt_49, Pt_49⟩
              | true =>
                replace H := ite_t H
                replace H := let_hid H
                obtain ⟨t_38, ht_38, H⟩ := H
                replace H := app_hid H
                replace H := app_hid H
                cases t_38 with
                | false =>
                  replace H := ite_f H
                  replace H := let_hid H
                  obtain ⟨t_44, ht_44, H⟩ := H
                  cases t_44 with
                  | false =>
                    replace H := ite_f H
                    replace H := let_hid H
                    obtain ⟨t_52, ht_52, H⟩ := H
                    obtain ⟨w_t_52, hw_t_52⟩ : ∃ x, wt_28.alloc (.cells #[.int .i64 (k0 : Int)] 3) = x := ⟨_, rfl⟩
                    have bw_t_52 : Below wt_28.heap.size wt_28 w_t_52 := by rw [← hw_t_52]; exact (Below.refl _ _).alloc (Nat.le_refl _) _
                    have hs_t_52 := HBwt_28.out.size
                    have nt_52 : t_52.length = 1 := by rw [← ht_52]; rfl
                    have Ot_52 : Hid (w_t_52.ownsRow w.heap.size 3 1 (.slice (some ⟨wt_28.heap.size, 0, none⟩) 1 1) 1 (Go.Proofs.Ytlljmgphgmklcaa.HelpInt.iv t_52)) := by
                      rw [← hw_t_52, ← ht_52]
                      have e_ : ([.int .i64 (k0 : Int)] : List Value) = (Go.Proofs.Ytlljmgphgmklcaa.HelpInt.iv ([(k0 : Int)] : List Int)) := rfl
                      exact Lib.hid (own_laid (n := 1) hs_t_52 e_ rfl (by unfold maxLen; omega))
                    clear hs_t_52
                    have hht_52 := Lib.hid ht_52
                    clear ht_52
                    replace nt_52 := Lib.hid nt_52
                    have Dt_52_out_8l0 := Lib.hid (apart_fresh Oout_8l0.out)
                    have HBw_t_52 := Lib.hid (Below.step HBwt_28.out bw_t_52)
                    replace Oout_8l0 := Lib.hid (own_below Oout_8l0.out bw_t_52)
                    clear bw_t_52
                    replace H := app_hid H
                    go_wp2_with fail
                    have hc_ := nt_52.out
                    have hv_ : (Value.slice (some ⟨wt_28.heap.size, 0, none⟩) 1 1 : Value) = Value.slice (some ⟨wt_28.heap.size, 0, none⟩) t_52.length 1 := by rw [hc_]
                    try rw [hv_]
                    replace Ot_52 := Lib.hid (own_len hc_ Ot_52.out)
                    clear hc_ hv_
                    go_wp2_with fail
                    go_roundg m0
                    case measure => omega
                    case rel => exact ⟨k0 + 1, _, _, _, _, by omega, by go_num, rfl, rfl, H, HBw_t_52, Ot_52⟩
                  | true =>
                    replace H := ite_t H
                    obtain ⟨w_t_48, hw_t_48⟩ : ∃ x, wt_28.alloc (.cells #[.int .i64 (k0 : Int)] 3) = x := ⟨_, rfl⟩
                    have bw_t_48 : Below wt_28.heap.size wt_28 w_t_48 := by rw [← hw_t_48]; exact (Below.refl _ _).alloc (Nat.le_refl _) _
                    have HBw_t_48 := Lib.hid (Below.step HBwt_28.out bw_t_48)
                    replace Oout_8l0 := Lib.hid (own_below Oout_8l0.out bw_t_48)
                    clear bw_t_48
                    replace H := guard_hid H
                    obtain ⟨hlt_49, H⟩ := H
                    replace H := let_hid H
                    obtain ⟨t_49, ht_49, H⟩ := H
                    have hht_49 := Lib.hid ht_49
                    clear ht_49
                    have hst_49 := HBw_t_48.out.size
                    go_wp2_with (at_builtin; refine wpList_append_own_at _ rfl _ _ 48 rfl w.heap.size 3 i0_3 (.int .i64 0) 1 8 Try.underlying48 hi_3 hz0_3 hz1_3 hz2_3 rfl (by decide) _ _ _ rfl Oout_8l0.out ⟨wt_28.heap.size, 0, none⟩ 1 1 [.int .i64 (k0 : Int)] rfl rfl (news_new hw_t_48) (one_cells rfl) (by unfold maxLen; omega) (by omega) hst_49 ?_; intro vt_49 wt_49 ot_49 gt_49 zt_49 yt_49; clear zt_49; obtain ⟨qt_49, ct_49, rfl, pt_49⟩ := own_push hht_49.out (Go.Proofs.Ytlljmgphgmklcaa.HelpInt.iv_snoc _ _) rfl ot_49; have Pt_49 := Lib.hid pt_49; have Yt_49 := Lib.hid yt_49; have Gt_49 := Lib.hid gt_49; clear ot_49 gt_49 pt_49 yt_49; refine stop_in ?_)
                    refine stop_out ?_
                    have HBwt_49 := Lib.hid (HBw_t_48.out.grown Gt_49.out hst_49 (fun q hq => (Oout_8l0.out.lt q hq).1))
                    clear hst_49
                    clear Oout_8l0 Yt_49 Gt_49
                    replace H := app_hid H
                    go_wp2_with fail
                    go_roundg m0
                    case measure => omega
                    case rel => exact ⟨k0 + 1, _, _, _, _, by omega, by go_num, rfl, rfl, H, HBwt_49, Pt_49⟩
                | true =>
                  replace H := ite_t H
                  replace H := app_hid H
                  go_wp2_with fail
                  go_roundg m0
                  case measure => omega
                  case rel => exact ⟨k0 + 1, _, _, _, _, by omega, by go_num, rfl, rfl, H, HBwt_28, Oout_8l0⟩
            | true =>
              replace H := ite_t H
              replace H := app_hid H
              replace H := ite_t H
              replace H := app_hid H
              go_wp2_with fail
              go_roundg m0
              case measure => omega
              case rel => exact ⟨k0 + 1, _, _, _, _, by omega, by go_num, rfl, rfl, H, HBwt_28, Oout_8l0⟩
end Go.Proofs.Ytlljmgphgmklcaa.GsCheapestZones

/- loop.example/g01062/laws.vInts as a plain function, and the contract of the program's: where the plain one has an answer, the program has it. Conditions: slices read as lists. -/
namespace Go.Proofs.Ytlljmgphgmklcaa.GlVInts
set_option linter.unusedVariables false
set_option linter.unusedSimpArgs false
open Go.RowKit
open Go.Proofs.Ytlljmgphgmklcaa.Rowed Go.Proofs.Ytlljmgphgmklcaa.Turn Go.Proofs.Ytlljmgphgmklcaa.Aid Go.Proofs.Ytlljmgphgmklcaa.GoP Go.Proofs.Ytlljmgphgmklcaa.GoM

def l0 (a : (List Int)) (b : (List Int)) (k0 : Nat) (s : Unit) (nx0 bk0 : Unit → Option (Bool)) : Option (Bool) :=
  
  Option.bind (idx a (k0 : Int)) fun (yt_14 : Int) =>
  Option.bind (idx b (k0 : Int)) fun (yt_18 : Int) =>
  letK (yt_14 != yt_18) fun (t_20 : Bool) =>
  iteK t_20
  (some false)
  (appK nx0 ())

def e0  (s : Unit) : Option (Bool) :=
  
  some true

def P (a : (List Int)) (b : (List Int)) : Option (Bool) :=
  letK ((a.length : Int) != (b.length : Int)) fun (t_5 : Bool) =>
  iteK t_5
  (some false)
  (cntK (l0 a b) (a.length) 0 () (e0 ))

set_option maxRecDepth 100000 in
set_option maxHeartbeats 2000000 in
theorem C (a : (List Int)) (b : (List Int)) (A0 : Option Addr) (c0 : Nat) (A1 : Option Addr) (c1 : Nat)  (w : World) (M0 : Hid (Cells w 1 A0 a.length (Go.Proofs.Ytlljmgphgmklcaa.HelpInt.iv a))) (N0 : Hid (a.length ≤ 9223372036854775807)) (M1 : Hid (Cells w 1 A1 b.length (Go.Proofs.Ytlljmgphgmklcaa.HelpInt.iv b))) (N1 : Hid (b.length ≤ 9223372036854775807))  {r : Bool} (H : Hid (P a b = some r)) :
    Calls Try.prog 55 #[.slice A0 a.length c0, .slice A1 b.length c1] w (Gives (.bool r) w) := by
  have HB := Lib.hid (Below.refl w.heap.size w)
  unfold P at H
  have N0o := N0.out
  have N1o := N1.out
  go_enter Try.func55, Try.ntmps55
  replace H := let_hid H
  obtain ⟨t_5, ht_5, H⟩ := H
  cases t_5 with
  | false =>
    have Hht_5 : Hid (a.length = b.length) := Lib.hid (by have := bne_eq_false_iff_eq.1 ht_5; omega)
    have nht_5 : (a.length == b.length) = true := beq_iff_eq.2 Hht_5.out
    replace H := ite_f H
    go_wp2_with fail
    go_loopg [5] (a.length) (fun m_ v5_ wr => ∃ (k0 : Nat) , k0 + m_ = a.length ∧ v5_ = .int .i64 (k0 : Int) ∧ Hid (cntK (l0 a b) m_ k0 () (e0 ) = some r) ∧ Hid (Below w.heap.size w wr))
    case atStart => exact ⟨0, by omega, rfl, H, HB⟩
    case round =>
      obtain ⟨k0, hkm0, rfl, H, HBwr0⟩ := hrel
      rename World => wr0
      cases gk with
      | zero =>
        obtain rfl : k0 = a.length := by omega
        have hc0 : decide (((a.length : Nat) : Int) < ((a.length : Nat) : Int)) = false := by simp
        replace H := cnt_zero H
        unfold e0 at H
        obtain rfl := ret_hid H
        go_wp2_with fail
        go_ret
        exact ⟨rfl, HBwr0.out⟩
      | succ m0 =>
        have hlt0 : k0 < a.length := by omega
        have hc0 : decide ((k0 : Int) < ((a.length : Nat) : Int)) = true := by simp; omega
        replace H := cnt_succ H
        unfold l0 at H
        go_wp2_with fail
        replace H := idx_hid H
        obtain ⟨nt_14, yt_14, et_14, lt_14, gt_14, H⟩ := H
        obtain rfl : k0 = nt_14 := by omega
        clear et_14
        obtain ⟨ab_t_14, ao_t_14, zt_14, At_14, z_t_14, ct_14_0⟩ := Go.Proofs.Ytlljmgphgmklcaa.HelpInt.Ints.at_ M0.out lt_14
        obtain rfl := Option.some.inj (gt_14.out.symm.trans z_t_14)
        subst At_14
        have ltt_14 := cell_lt ct_14_0
        replace ct_14_0 := cell_below HBwr0.out ct_14_0
        clear z_t_14
        have b0t_14 : (0 : Int) ≤ (k0 : Int) := by omega
        have b1t_14 : (k0 : Int) < ((a.length : Nat) : Int) := by omega
        have b2t_14 : ((k0 : Int)).toNat = k0 := by omega
        have Hct_14_0 := Lib.hid ct_14_0
        replace ct_14_0 := cell_regrown ct_14_0
        replace H := idx_hid H
        obtain ⟨nt_18, yt_18, et_18, lt_18, gt_18, H⟩ := H
        obtain rfl : k0 = nt_18 := by omega
        clear et_18
        obtain ⟨ab_t_18, ao_t_18, zt_18, At_18, z_t_18, ct_18_0⟩ := Go.Proofs.Ytlljmgphgmklcaa.HelpInt.Ints.at_ M1.out lt_18
        obtain rfl := Option.some.inj (gt_18.out.symm.trans z_t_18)
        subst At_18
        have ltt_18 := cell_lt ct_18_0
        replace ct_18_0 := cell_below HBwr0.out ct_18_0
        clear z_t_18
        have b0t_18 : (0 : Int) ≤ (k0 : Int) := by omega
        have b1t_18 : (k0 : Int) < ((b.length : Nat) : Int) := by omega
        have b2t_18 : ((k0 : Int)).toNat = k0 := by omega
        have Hct_18_0 := Lib.hid ct_18_0
        replace ct_18_0 := cell_regrown ct_18_0
        replace H := let_hid H
        obtain ⟨t_20, ht_20, H⟩ := H
        refine wp_region_quiet_below (by kernel_rfl) (by kernel_rfl) ?_
        repeat (go_big_quiet_step (fail))
        refine wpQuiet_nil ?_
        intro Y6 hY6
        replace hY6 := below_class hY6
        replace ct_14_0 := Hct_14_0.out
        clear Hct_14_0
        replace ct_18_0 := Hct_18_0.out
        clear Hct_18_0
        have HBY6 := Lib.hid (Below.step HBwr0.out hY6)
        replace ct_14_0 := cell_below hY6 ct_14_0
        replace ct_18_0 := cell_below hY6 ct_18_0
        clear hY6
        cases t_20 with
        | false =>
          replace H := ite_f H
          replace H := app_hid H
          go_wp2_with fail
          go_roundg m0
          case measure => omega
          case rel => exact ⟨k0 + 1, by omega, by go_num, H, HBY6⟩
        | true =>
          replace H := ite_t H
          obtain rfl := ret_hid H
          go_wp2_with fail
          go_ret
          exact ⟨rfl, HBY6.out⟩
  | true =>
    have nht_5 : ¬ (a.length = b.length) := by have := bne_iff_ne.1 ht_5; omega
    replace H := ite_t H
    obtain rfl := ret_hid H
    go_wp2_with fail
    go_ret
    exact ⟨rfl, HB.out⟩
end Go.Proofs.Ytlljmgphgmklcaa.GlVInts

/- loop.example/g01062/spec.DrawAreRates as a plain function, and the contract of the program's: where the plain one has an answer, the program has it. Conditions: slices read as lists. -/
namespace Go.Proofs.Ytlljmgphgmklcaa.GsDrawAreRates
set_option linter.unusedVariables false
set_option linter.unusedSimpArgs false
open Go.RowKit
open Go.Proofs.Ytlljmgphgmklcaa.Rowed Go.Proofs.Ytlljmgphgmklcaa.Turn Go.Proofs.Ytlljmgphgmklcaa.Aid Go.Proofs.Ytlljmgphgmklcaa.GoP Go.Proofs.Ytlljmgphgmklcaa.GoM

def P (fuel : Nat) (tapes : List Int → Go.Proofs.Ytlljmgphgmklcaa.GoC.Tape) (code : (List Int)) : Option ((List Go.Proofs.Ytlljmgphgmklcaa.PRate.Rate)) :=
  letK (tapes code) fun (t_3 : Go.Proofs.Ytlljmgphgmklcaa.GoC.Tape) =>
  bind2 (Go.Proofs.Ytlljmgphgmklcaa.GsL1CurRates.P fuel t_3) fun (t_6 : (List Go.Proofs.Ytlljmgphgmklcaa.PRate.Rate)) (t_6_tp : Go.Proofs.Ytlljmgphgmklcaa.GoC.Tape) =>
  some t_6

set_option maxRecDepth 100000 in
set_option maxHeartbeats 2000000 in
theorem C (fuel : Nat) (tapes : List Int → Go.Proofs.Ytlljmgphgmklcaa.GoC.Tape) (code : (List Int)) (A0 : Option Addr) (c0 : Nat)  (w : World) (HE : Hid (Go.Proofs.Ytlljmgphgmklcaa.GoC.Tells tapes)) (M0 : Hid (Cells w 1 A0 code.length (Go.Proofs.Ytlljmgphgmklcaa.GoC.u8s code))) (N0 : Hid (code.length ≤ 9223372036854775807)) (V0 : Hid (∀ z ∈ code, 0 ≤ z ∧ z ≤ 255))  {r : (List Go.Proofs.Ytlljmgphgmklcaa.PRate.Rate)} (H : Hid (P fuel tapes code = some r)) :
    Calls Try.prog 135 #[.slice A0 code.length c0] w (fun e w' => ∃ A_r c_r, e = .returned (.slice A_r r.length c_r) ∧ w'.ownsRow w.heap.size 104 5 (.slice A_r r.length c_r) r.length (Go.Proofs.Ytlljmgphgmklcaa.PRate.flat r) ∧ Below w.heap.size w w') := by
  have HB := Lib.hid (Below.refl w.heap.size w)
  unfold P at H
  have N0o := N0.out
  go_enter Try.func135, Try.ntmps135
  replace H := let_hid H
  obtain ⟨t_3, ht_3, H⟩ := H
  obtain ⟨w_t_3, hw_t_3⟩ : ∃ x, w.alloc (.cells #[.slice A0 code.length c0, .int .i64 0, .int .u64 0] 129) = x := ⟨_, rfl⟩
  have bw_t_3 : Below w.heap.size w w_t_3 := by rw [← hw_t_3]; exact (Below.refl _ _).alloc (Nat.le_refl _) _
  have Kt_3 : Hid (Go.Proofs.Ytlljmgphgmklcaa.GoC.CurIs w_t_3 w.heap.size w.heap.size A0 c0 t_3) := Lib.hid (by rw [← hw_t_3, ← ht_3]; exact Go.Proofs.Ytlljmgphgmklcaa.GoC.cur_new HB.out.size (Cells.below M0.out HB.out) (fun a_ ha_ h0_ => by subst ha_; exact Go.Proofs.Ytlljmgphgmklcaa.GoC.cells_lt M0.out (by unfold Go.Proofs.Ytlljmgphgmklcaa.GoC.u8s; rw [List.length_map]; exact h0_)) (HE.out.2.2 code V0.out N0.out))
  have hht_3 := Lib.hid ht_3
  clear ht_3
  have HBw_t_3 := Lib.hid (Below.step HB.out bw_t_3)
  clear bw_t_3
  replace H := bind2_hid H
  obtain ⟨t_6, t_6_tp, qt_6, H⟩ := H
  go_wp2_with fail
  go_at_call 114
  refine (Go.Proofs.Ytlljmgphgmklcaa.GsL1CurRates.C fuel (t_3) (w.heap.size) (A0) (c0) (w.heap.size) _   Kt_3 qt_6).mono ?_
  rintro e_t_6 wt_6 ⟨At_6, ct_6, rfl, ot_6, kt_6, gt_6⟩
  have Dt_6_t_3 := Lib.hid (Go.Proofs.Ytlljmgphgmklcaa.GoC.apart_callcur ot_6 Kt_3.out)
  have Ot_6 := Lib.hid (own_lower ot_6 HBw_t_3.out.size)
  clear ot_6
  have Kt_6 := Lib.hid kt_6
  have Gt_6 : Hid (w_t_3.grownBy wt_6 (Value.slice (some ⟨w.heap.size, 0, none⟩) 1 1).ownBlock) := Lib.hid gt_6
  clear kt_6 gt_6
  have HBwt_6 := Lib.hid (Go.Proofs.Ytlljmgphgmklcaa.GoC.below_cur HBw_t_3.out Gt_6.out HBw_t_3.out.size (Go.Proofs.Ytlljmgphgmklcaa.GoC.cur_lt Kt_3.out).1)
  clear Kt_3 Gt_6
  obtain rfl := ret_hid H
  go_wp2_with fail
  go_ret
  exact ⟨At_6, ct_6, rfl, Ot_6.out, HBwt_6.out⟩
end Go.Proofs.Ytlljmgphgmklcaa.GsDrawAreRates

/- loop.example/g01062/spec.DrawStrangeRates as a plain function, and the contract of the program's: where the plain one has an answer, the program has it. Conditions: slices read as lists. -/
namespace Go.Proofs.Ytlljmgphgmklcaa.GsDrawStrangeRates
set_option linter.unusedVariables false
set_option linter.unusedSimpArgs false
open Go.RowKit
open Go.Proofs.Ytlljmgphgmklcaa.Rowed Go.Proofs.Ytlljmgphgmklcaa.Turn Go.Proofs.Ytlljmgphgmklcaa.Aid Go.Proofs.Ytlljmgphgmklcaa.GoP Go.Proofs.Ytlljmgphgmklcaa.GoM

def P (fuel : Nat) (tapes : List Int → Go.Proofs.Ytlljmgphgmklcaa.GoC.Tape) (code : (List Int)) : Option ((List Go.Proofs.Ytlljmgphgmklcaa.PRate.Rate)) :=
  Option.bind (Go.Proofs.Ytlljmgphgmklcaa.GsDrawAreRates.P fuel tapes code) fun (t_2 : (List Go.Proofs.Ytlljmgphgmklcaa.PRate.Rate)) =>
  some t_2

set_option maxRecDepth 100000 in
set_option maxHeartbeats 2000000 in
theorem C (fuel : Nat) (tapes : List Int → Go.Proofs.Ytlljmgphgmklcaa.GoC.Tape) (code : (List Int)) (A0 : Option Addr) (c0 : Nat)  (w : World) (HE : Hid (Go.Proofs.Ytlljmgphgmklcaa.GoC.Tells tapes)) (M0 : Hid (Cells w 1 A0 code.length (Go.Proofs.Ytlljmgphgmklcaa.GoC.u8s code))) (N0 : Hid (code.length ≤ 9223372036854775807)) (V0 : Hid (∀ z ∈ code, 0 ≤ z ∧ z ≤ 255))  {r : (List Go.Proofs.Ytlljmgphgmklcaa.PRate.Rate)} (H : Hid (P fuel tapes code = some r)) :
    Calls Try.prog 71 #[.slice A0 code.length c0] w (fun e w' => ∃ A_r c_r, e = .returned (.slice A_r r.length c_r) ∧ w'.ownsRow w.heap.size 104 5 (.slice A_r r.length c_r) r.length (Go.Proofs.Ytlljmgphgmklcaa.PRate.flat r) ∧ Below w.heap.size w w') := by
  have HB := Lib.hid (Below.refl w.heap.size w)
  unfold P at H
  have N0o := N0.out
  go_enter Try.func71, Try.ntmps71
  replace H := bind_hid H
  obtain ⟨t_2, qt_2, H⟩ := H
  go_wp2_with fail
  go_at_call 135
  refine (Go.Proofs.Ytlljmgphgmklcaa.GsDrawAreRates.C fuel tapes (code) A0 c0 _  HE (Lib.hid (Cells.below M0.out HB.out)) N0 V0 qt_2).mono ?_
  rintro e_t_2 wt_2 ⟨At_2, ct_2, rfl, ot_2, bt_2⟩
  have Ot_2 := Lib.hid (own_lower ot_2 HB.out.size)
  clear ot_2
  have HBwt_2 := Lib.hid (Below.step HB.out bt_2)
  clear bt_2
  obtain rfl := ret_hid H
  go_wp2_with fail
  go_ret
  exact ⟨At_2, ct_2, rfl, Ot_2.out, HBwt_2.out⟩
end Go.Proofs.Ytlljmgphgmklcaa.GsDrawStrangeRates

/- loop.example/g01062/impl.isDearer as a plain function, and the contract of the program's: where the plain one has an answer, the program has it. Conditions: slices read as lists. -/
namespace Go.Proofs.Ytlljmgphgmklcaa.GiIsDearer
set_option linter.unusedVariables false
set_option linter.unusedSimpArgs false
open Go.RowKit
open Go.Proofs.Ytlljmgphgmklcaa.Rowed Go.Proofs.Ytlljmgphgmklcaa.Turn Go.Proofs.Ytlljmgphgmklcaa.Aid Go.Proofs.Ytlljmgphgmklcaa.GoP Go.Proofs.Ytlljmgphgmklcaa.GoM

def P (r_0 : Go.Proofs.Ytlljmgphgmklcaa.PRate.Rate) (heavier : Go.Proofs.Ytlljmgphgmklcaa.PRate.Rate) : Option (Bool) :=
  unRate r_0 fun (r_0_zone : Int) (r_0_grams : Int) (r_0_from_ : Int) (r_0_until_ : Int) (r_0_cents : Int) =>
  unRate heavier fun (heavier_zone : Int) (heavier_grams : Int) (heavier_from_ : Int) (heavier_until_ : Int) (heavier_cents : Int) =>
  letK (r_0_zone == heavier_zone) fun (t_7 : Bool) =>
  joinK (fun (t_14 : Bool) =>
  joinK (fun (t_21 : Bool) =>
  joinK (fun (t_34 : Bool) =>
  some t_34) fun jt_34 => iteK t_21 (letK (max r_0_from_ heavier_from_) fun (t_27 : Int) =>
  letK (min r_0_until_ heavier_until_) fun (t_32 : Int) =>
  letK (decide (t_27 ≤ t_32)) fun (t_33 : Bool) =>
  appK jt_34 t_33) (appK jt_34 false)) fun jt_21 => iteK t_14 (letK (decide (heavier_cents < r_0_cents)) fun (t_20 : Bool) =>
  appK jt_21 t_20) (appK jt_21 false)) fun jt_14 => iteK t_7 (letK (decide (r_0_grams < heavier_grams)) fun (t_13 : Bool) =>
  appK jt_14 t_13) (appK jt_14 false)

set_option maxRecDepth 100000 in
set_option maxHeartbeats 2000000 in
theorem C (r_0 : Go.Proofs.Ytlljmgphgmklcaa.PRate.Rate) (heavier : Go.Proofs.Ytlljmgphgmklcaa.PRate.Rate)   (w : World)   {r : Bool} (H : Hid (P r_0 heavier = some r)) :
    Calls Try.prog 138 #[r_0.val, heavier.val] w (Gives (.bool r) w) := by
  have HB := Lib.hid (Below.refl w.heap.size w)
  unfold P at H
  obtain ⟨r_0_zone, r_0_grams, r_0_from_, r_0_until_, r_0_cents⟩ := r_0
  replace H := unRate_hid H
  obtain ⟨heavier_zone, heavier_grams, heavier_from_, heavier_until_, heavier_cents⟩ := heavier
  replace H := unRate_hid H
  unfold Go.Proofs.Ytlljmgphgmklcaa.PRate.Rate.val
  go_enter Try.func138, Try.ntmps138
  obtain ⟨w_r_0, hw_r_0⟩ : ∃ x, w.alloc (.cells #[.int .i64 r_0_zone, .int .i64 r_0_grams, .int .i64 r_0_from_, .int .i64 r_0_until_, .int .i64 r_0_cents] 104) = x := ⟨_, rfl⟩
  have bw_r_0 : Below w.heap.size w w_r_0 := by rw [← hw_r_0]; exact (Below.refl _ _).alloc (Nat.le_refl _) _
  have HBw_r_0 := Lib.hid (Below.step HB.out bw_r_0)
  clear bw_r_0
  have kr_0_0 : w_r_0.cell? ⟨w.heap.size, 0, none⟩ = some (.int .i64 r_0_zone) := by rw [← hw_r_0]; exact box_new _ _ _ 0 _ rfl
  have kr_0_1 : w_r_0.cell? ⟨w.heap.size, 1, none⟩ = some (.int .i64 r_0_grams) := by rw [← hw_r_0]; exact box_new _ _ _ 1 _ rfl
  have kr_0_2 : w_r_0.cell? ⟨w.heap.size, 2, none⟩ = some (.int .i64 r_0_from_) := by rw [← hw_r_0]; exact box_new _ _ _ 2 _ rfl
  have kr_0_3 : w_r_0.cell? ⟨w.heap.size, 3, none⟩ = some (.int .i64 r_0_until_) := by rw [← hw_r_0]; exact box_new _ _ _ 3 _ rfl
  have kr_0_4 : w_r_0.cell? ⟨w.heap.size, 4, none⟩ = some (.int .i64 r_0_cents) := by rw [← hw_r_0]; exact box_new _ _ _ 4 _ rfl
  obtain ⟨w_heavier_1, hw_heavier_1⟩ : ∃ x, w_r_0.alloc (.cells #[.int .i64 heavier_zone, .int .i64 heavier_grams, .int .i64 heavier_from_, .int .i64 heavier_until_, .int .i64 heavier_cents] 104) = x := ⟨_, rfl⟩
  have bw_heavier_1 : Below w_r_0.heap.size w_r_0 w_heavier_1 := by rw [← hw_heavier_1]; exact (Below.refl _ _).alloc (Nat.le_refl _) _
  have HBw_heavier_1 := Lib.hid (Below.step HBw_r_0.out bw_heavier_1)
  have kr_0_0__1454 := cell_below bw_heavier_1 kr_0_0
  have kr_0_1__1455 := cell_below bw_heavier_1 kr_0_1
  have kr_0_2__1456 := cell_below bw_heavier_1 kr_0_2
  have kr_0_3__1457 := cell_below bw_heavier_1 kr_0_3
  have kr_0_4__1458 := cell_below bw_heavier_1 kr_0_4
  clear bw_heavier_1
  have kheavier_1_0 : w_heavier_1.cell? ⟨w_r_0.heap.size, 0, none⟩ = some (.int .i64 heavier_zone) := by rw [← hw_heavier_1]; exact box_new _ _ _ 0 _ rfl
  have kheavier_1_1 : w_heavier_1.cell? ⟨w_r_0.heap.size, 1, none⟩ = some (.int .i64 heavier_grams) := by rw [← hw_heavier_1]; exact box_new _ _ _ 1 _ rfl
  have kheavier_1_2 : w_heavier_1.cell? ⟨w_r_0.heap.size, 2, none⟩ = some (.int .i64 heavier_from_) := by rw [← hw_heavier_1]; exact box_new _ _ _ 2 _ rfl
  have kheavier_1_3 : w_heavier_1.cell? ⟨w_r_0.heap.size, 3, none⟩ = some (.int .i64 heavier_until_) := by rw [← hw_heavier_1]; exact box_new _ _ _ 3 _ rfl
  have kheavier_1_4 : w_heavier_1.cell? ⟨w_r_0.heap.size, 4, none⟩ = some (.int .i64 heavier_cents) := by rw [← hw_heavier_1]; exact box_new _ _ _ 4 _ rfl
  replace H := let_hid H
  obtain ⟨t_7, ht_7, H⟩ := H
  replace H := join_hid H
  cases t_7 with
  | false =>
    replace H := ite_f H
    replace H := app_hid H
    replace H := join_hid H
    replace H := ite_f H
    replace H := app_hid H
    replace H := join_hid H
    replace H := ite_f H
    replace H := app_hid H
    obtain rfl := ret_hid H
    go_wp2_with fail
    go_ret
    exact ⟨rfl, HBw_heavier_1.out⟩
  | true =>
    replace H := ite_t H
    replace H := let_hid H
    obtain ⟨t_13, ht_13, H⟩ := H
    replace H := app_hid H
    replace H := join_hid H
    cases t_13 with
    | false =>
      replace H := ite_f H
      replace H := app_hid H
      replace H := join_hid H
      replace H := ite_f H
      replace H := app_hid H
      obtain rfl := ret_hid H
      go_wp2_with fail
      go_ret
      exact ⟨rfl, HBw_heavier_1.out⟩
    | true =>
      replace H := ite_t H
      replace H := let_hid H
      obtain ⟨t_20, ht_20, H⟩ := H
      replace H := app_hid H
      replace H := join_hid H
      cases t_20 with
      | false =>
        replace H := ite_f H
        replace H := app_hid H
        obtain rfl := ret_hid H
        go_wp2_with fail
        go_ret
        exact ⟨rfl, HBw_heavier_1.out⟩
      | true =>
        replace H := ite_t H
        replace H := let_hid H
        obtain ⟨t_27, ht_27, H⟩ := H
        replace H := let_hid H
        obtain ⟨t_32, ht_32, H⟩ := H
        replace H := let_hid H
        obtain ⟨t_33, ht_33, H⟩ := H
        replace H := app_hid H
        obtain rfl := ret_hid H
        go_wp2_with fail
        go_ret
        exact ⟨rfl, HBw_heavier_1.out⟩
end Go.Proofs.Ytlljmgphgmklcaa.GiIsDearer

/- loop.example/g01062/impl.StrangeRates$1 as a plain function, and the contract of the program's: where the plain one has an answer, the program has it. Conditions: slices read as lists. -/
namespace Go.Proofs.Ytlljmgphgmklcaa.GiStrangeRates1
set_option linter.unusedVariables false
set_option linter.unusedSimpArgs false
open Go.RowKit
open Go.Proofs.Ytlljmgphgmklcaa.Rowed Go.Proofs.Ytlljmgphgmklcaa.Turn Go.Proofs.Ytlljmgphgmklcaa.Aid Go.Proofs.Ytlljmgphgmklcaa.GoP Go.Proofs.Ytlljmgphgmklcaa.GoM

def P (other : Go.Proofs.Ytlljmgphgmklcaa.PRate.Rate) (hq0_zone : Int) (hq0_grams : Int) (hq0_from_ : Int) (hq0_until_ : Int) (hq0_cents : Int) : Option (Bool) :=
  unRate other fun (other_zone : Int) (other_grams : Int) (other_from_ : Int) (other_until_ : Int) (other_cents : Int) =>
  Option.bind (Go.Proofs.Ytlljmgphgmklcaa.GiIsDearer.P (Go.Proofs.Ytlljmgphgmklcaa.PRate.Rate.mk other_zone other_grams other_from_ other_until_ other_cents) (Go.Proofs.Ytlljmgphgmklcaa.PRate.Rate.mk hq0_zone hq0_grams hq0_from_ hq0_until_ hq0_cents)) fun (t_4 : Bool) =>
  some t_4

set_option maxRecDepth 100000 in
set_option maxHeartbeats 2000000 in
theorem C (other : Go.Proofs.Ytlljmgphgmklcaa.PRate.Rate) (hq0_zone : Int) (hq0_grams : Int) (hq0_from_ : Int) (hq0_until_ : Int) (hq0_cents : Int)  (gq0 : Nat) (w : World)  (Fq0_0h : Hid (w.cell? ⟨gq0, 0, none⟩ = some (.int .i64 hq0_zone))) (Fq0_1h : Hid (w.cell? ⟨gq0, 1, none⟩ = some (.int .i64 hq0_grams))) (Fq0_2h : Hid (w.cell? ⟨gq0, 2, none⟩ = some (.int .i64 hq0_from_))) (Fq0_3h : Hid (w.cell? ⟨gq0, 3, none⟩ = some (.int .i64 hq0_until_))) (Fq0_4h : Hid (w.cell? ⟨gq0, 4, none⟩ = some (.int .i64 hq0_cents))) {r : Bool} (H : Hid (P other hq0_zone hq0_grams hq0_from_ hq0_until_ hq0_cents = some r)) :
    Calls Try.prog 137 #[other.val, .pointer (some ⟨gq0, 0, none⟩)] w (Gives (.bool r) w) := by
  have HB := Lib.hid (Below.refl w.heap.size w)
  unfold P at H
  obtain ⟨other_zone, other_grams, other_from_, other_until_, other_cents⟩ := other
  replace H := unRate_hid H
  unfold Go.Proofs.Ytlljmgphgmklcaa.PRate.Rate.val
  have Fq0_0 := Fq0_0h.out
  have Fq0_1 := Fq0_1h.out
  have Fq0_2 := Fq0_2h.out
  have Fq0_3 := Fq0_3h.out
  have Fq0_4 := Fq0_4h.out
  go_enter Try.func137, Try.ntmps137
  obtain ⟨w_other_0, hw_other_0⟩ : ∃ x, w.alloc (.cells #[.int .i64 other_zone, .int .i64 other_grams, .int .i64 other_from_, .int .i64 other_until_, .int .i64 other_cents] 104) = x := ⟨_, rfl⟩
  have bw_other_0 : Below w.heap.size w w_other_0 := by rw [← hw_other_0]; exact (Below.refl _ _).alloc (Nat.le_refl _) _
  have HBw_other_0 := Lib.hid (Below.step HB.out bw_other_0)
  have Fq0_0__1459 := cell_below bw_other_0 Fq0_0
  have Fq0_1__1460 := cell_below bw_other_0 Fq0_1
  have Fq0_2__1461 := cell_below bw_other_0 Fq0_2
  have Fq0_3__1462 := cell_below bw_other_0 Fq0_3
  have Fq0_4__1463 := cell_below bw_other_0 Fq0_4
  clear bw_other_0
  have kother_0_0 : w_other_0.cell? ⟨w.heap.size, 0, none⟩ = some (.int .i64 other_zone) := by rw [← hw_other_0]; exact box_new _ _ _ 0 _ rfl
  have kother_0_1 : w_other_0.cell? ⟨w.heap.size, 1, none⟩ = some (.int .i64 other_grams) := by rw [← hw_other_0]; exact box_new _ _ _ 1 _ rfl
  have kother_0_2 : w_other_0.cell? ⟨w.heap.size, 2, none⟩ = some (.int .i64 other_from_) := by rw [← hw_other_0]; exact box_new _ _ _ 2 _ rfl
  have kother_0_3 : w_other_0.cell? ⟨w.heap.size, 3, none⟩ = some (.int .i64 other_until_) := by rw [← hw_other_0]; exact box_new _ _ _ 3 _ rfl
  have kother_0_4 : w_other_0.cell? ⟨w.heap.size, 4, none⟩ = some (.int .i64 other_cents) := by rw [← hw_other_0]; exact box_new _ _ _ 4 _ rfl
  replace H := bind_hid H
  obtain ⟨t_4, qt_4, H⟩ := H
  go_wp2_with fail
  clear Fq0_0 Fq0_1 Fq0_2 Fq0_3 Fq0_4
  go_at_call 138
  refine (Go.Proofs.Ytlljmgphgmklcaa.GiIsDearer.C ((Go.Proofs.Ytlljmgphgmklcaa.PRate.Rate.mk other_zone other_grams other_from_ other_until_ other_cents)) ((Go.Proofs.Ytlljmgphgmklcaa.PRate.Rate.mk hq0_zone hq0_grams hq0_from_ hq0_until_ hq0_cents))  _    qt_4).mono ?_
  rintro e_t_4 wt_4 ⟨rfl, bt_4⟩
  have HBwt_4 := Lib.hid (Below.step HBw_other_0.out bt_4)
  replace Fq0_0__1459 := cell_below bt_4 Fq0_0__1459
  replace Fq0_1__1460 := cell_below bt_4 Fq0_1__1460
  replace Fq0_2__1461 := cell_below bt_4 Fq0_2__1461
  replace Fq0_3__1462 := cell_below bt_4 Fq0_3__1462
  replace Fq0_4__1463 := cell_below bt_4 Fq0_4__1463
  replace kother_0_0 := cell_below bt_4 kother_0_0
  replace kother_0_1 := cell_below bt_4 kother_0_1
  replace kother_0_2 := cell_below bt_4 kother_0_2
  replace kother_0_3 := cell_below bt_4 kother_0_3
  replace kother_0_4 := cell_below bt_4 kother_0_4
  clear bt_4
  obtain rfl := ret_hid H
  go_wp2_with fail
  go_ret
  exact ⟨rfl, HBwt_4.out⟩
end Go.Proofs.Ytlljmgphgmklcaa.GiStrangeRates1

