/- Texts on which the proofs of several laws stand, one behind the other (7 of 20). No condition of their own. -/
import Derived.Test.YtpaakpbbahbhcaaX13P6
import Derived.Test.YtpaakpbbahbhcaaX13P1
import Derived.Laws.Rows
import Derived.Deep.MidRow
import Derived.Deep.WholeRow
import Derived.Test.YtpaakpbbahbhcaaChecked
import Derived.Test.YtpaakpbbahbhcaaX13P2
import Derived.Test.YtpaakpbbahbhcaaX13P3
import Derived.WalkKit
import Derived.WalkSpells
import Derived.WalkLawsBesides
import Derived.BigQuiet
import Derived.OwnWalk
import Derived.Deep.LoopGhost
import Derived.Deep.QuietTactic
import Derived.IntWalk
import Derived.Lib.QuietBelow
import Derived.Deep.RegionHeld3
import Derived.Laws.EntriesVeiled
import Derived.Test.YtpaakpbbahbhcaaX13P5
import Derived.StillTailTactics
/- Words on arrays of arrays of numbers: variables, values, results. No condition but those of each theorem. -/
namespace Go.Proofs.Ytpaakpbbahbhcaa.GoX
set_option linter.unusedVariables false
open Go.RowKit
open Go.Proofs.Ytpaakpbbahbhcaa.HelpInt Go.Proofs.Ytpaakpbbahbhcaa.GoM Go.Proofs.Ytpaakpbbahbhcaa.GoA
theorem iv_one (l : List Int) : (iv l).toArray.all (·.oneCell') = true := by
  rw [List.all_toArray]
  exact List.all_eq_true.2 fun u hu => by unfold iv at hu; obtain ⟨y, _, rfl⟩ := List.mem_map.1 hu; rfl
theorem iv_size (l : List Int) : (iv l).toArray.size = l.length := by unfold iv; simp
theorem wpList_store_new {P : Program} {ops : Array Oper} {rest : List Oper} {o : Oper} {a : Act} {w : World} {Q : Exit → Act → World → Prop} (hgd : o.guard = none) (ty : TypeId) (x y : Operand) (ho : o.op = .store ty x y)
    (t : TypeId) (c c' : Array Value) (hx : a.eval x = .pointer (some ⟨w.heap.size, 0, none⟩)) (hy : a.eval y = .agg c') (hi : (P.info? ty).map (·.size) = some c'.size) (hold : c.size = c'.size) (h1 : c'.all (·.oneCell') = true)
    (h : wpList P ops Q rest (a.put o.dst undef) (w.alloc (.cells c' t))) : wpList P ops Q (o :: rest) a (w.alloc (.cells c t)) :=
  wpList_plain hgd fun _ hK => wp_store_row ty x y ho _ c' hx hy t c (heap_alloc_last w _) hi hold h1 (by rw [World.setRow_alloc_new]; exact hK _ _ h)
theorem own_block {w : World} {b T n g : Nat} {xs : List Value} (h : w.ownsRow b T 1 (.slice (some ⟨g, 0, none⟩) n n) n xs) : w.heap[g]? = some (.cells xs.toArray T (0, 0)) := by
  rcases h.2 with ⟨h1, _⟩ | ⟨g2, cap, cur, hv, hb, hg, h3, h4, hs, ht⟩
  · simp at h1
  · simp only [Value.slice.injEq, Option.some.injEq, Addr.mk.injEq, and_true, true_and] at hv
    obtain ⟨rfl, rfl⟩ := hv
    have e : cur = xs.toArray := by
      rw [← ht, List.take_of_length_le (by rw [Array.length_toList, hs]; omega)]
    rw [hg, e]
theorem own_there {w : World} {b T n g : Nat} {l m : List Int} (hl : l.length = n) (hm : m.length = n) (h : w.ownsRow b T 1 (.slice (some ⟨g, 0, none⟩) n n) n (iv l)) : w.there g 0 (iv m).toArray.size := by
  intro j hj
  rw [iv_size, hm] at hj
  rw [Nat.zero_add]
  refine ⟨?_, h.frozenAt j⟩
  rw [row_at h hl j hj]; rfl
theorem own_setAll {w : World} {b T n g : Nat} {l m : List Int} (hl : l.length = n) (hm : m.length = n) (h : w.ownsRow b T 1 (.slice (some ⟨g, 0, none⟩) n n) n (iv l)) :
    (w.setCells g 0 (iv m).toArray.toList).ownsRow b T 1 (.slice (some ⟨g, 0, none⟩) n n) n (iv m) ∧ w.grownBy (w.setCells g 0 (iv m).toArray.toList) (some g) := by
  have e1 : (iv m).length = n := by unfold iv; simp [hm]
  have e2 : (iv l).length = n := by unfold iv; simp [hl]
  have h2 := Go.Proofs.Ytpaakpbbahbhcaa.GoK.own_setCells (iv m) 0 h (by omega)
  rw [Nat.zero_add, List.drop_of_length_le (by omega), List.take_zero, List.nil_append, List.append_nil] at h2
  exact h2
theorem ext_at (l : List Int) (a m : Nat) (h : a + m ≤ l.length) : (iv l).toArray.extract a (a + m) = (iv ((List.range m).map fun j => nth l (a + j))).toArray := by
  apply Array.ext_getElem?
  intro i
  rw [Array.getElem?_extract, iv_size]
  by_cases hi : i < m
  · rw [if_pos (by omega)]
    have h1 : a + i < l.length := by omega
    simp only [List.getElem?_toArray]
    unfold iv
    rw [List.getElem?_map, List.getElem?_eq_getElem h1, List.getElem?_map, List.getElem?_map, List.getElem?_range hi]
    simp [nth, List.getD_eq_getElem?_getD, List.getElem?_eq_getElem h1]
  · rw [if_neg (by omega)]
    simp only [List.getElem?_toArray]
    unfold iv
    rw [List.getElem?_map, List.getElem?_map, List.getElem?_eq_none (by simp; omega)]; rfl
theorem run_index_mat {P : Program} {t e : TypeId} {n m : Nat} {e' : TypeId} {n' : Nat} (hu : P.underlying t = some (.array n e)) (he : P.underlying e = some (.array n' e')) (hi : (P.info? e).map (·.size) = some m) {l : List Int} {i : Nat} (hn : i < n) (hl : l.length = n * m) {k : IntKind} (w : World) :
    (Instr.index t (.agg (iv l).toArray) (.int k (i : Int))).run P w = .ok (.agg (iv ((List.range m).map fun j => nth l (i * m + j))).toArray) w := by
  have hle : i * m + m ≤ l.length := by
    rw [hl]
    have : (i + 1) * m ≤ n * m := Nat.mul_le_mul_right m hn
    rw [Nat.add_mul] at this; omega
  have h0 : (0 : Int) ≤ (i : Int) ∧ (i : Int) < (n : Int) := by omega
  cases hq : P.info? e with
  | none => simp [hq] at hi
  | some q =>
    have hs : q.size = m := by simpa [hq] using hi
    have hagg : (isAgg e).run P w = .ok true w := by
      unfold isAgg
      rw [Sem.run_bind, run_underlying he w]
      rfl
    have hz : (sizeOf e).run P w = .ok m w := by simp [sizeOf, typeInfo, hq, hs]
    have := ext_at l (i * m) m hle
    simp only [Instr.index, asIntOf, Sem.run_bind, Sem.run_pure, Result.andThen_ok, run_underlying hu w, if_pos h0, hz, Int.toNat_natCast, part, hagg, if_true, this]
end Go.Proofs.Ytpaakpbbahbhcaa.GoX

/- loop.example/g01062/impl.canJoin as a plain function, and the contract of the program's: where the plain one has an answer, the program has it. Conditions: slices read as lists. -/
namespace Go.Proofs.Ytpaakpbbahbhcaa.GiCanJoin
set_option linter.unusedVariables false
set_option linter.unusedSimpArgs false
open Go.RowKit
open Go.Proofs.Ytpaakpbbahbhcaa.Rowed Go.Proofs.Ytpaakpbbahbhcaa.Turn Go.Proofs.Ytpaakpbbahbhcaa.Aid Go.Proofs.Ytpaakpbbahbhcaa.GoP Go.Proofs.Ytpaakpbbahbhcaa.GoM

def P (list : (List Go.Proofs.Ytpaakpbbahbhcaa.PSighting.Sighting)) (limit : Int) : Option (Bool) :=
  Option.bind (Go.Proofs.Ytpaakpbbahbhcaa.GiAreSightings.P list) fun (t_2 : Bool) =>
  joinK (fun (t_6 : Bool) =>
  some t_6) fun jt_6 => iteK t_2 (Option.bind (Go.Proofs.Ytpaakpbbahbhcaa.GiWithin.P limit (-30) 16) fun (t_5 : Bool) =>
  appK jt_6 t_5) (appK jt_6 false)

set_option maxRecDepth 100000 in
set_option maxHeartbeats 2000000 in
theorem C (list : (List Go.Proofs.Ytpaakpbbahbhcaa.PSighting.Sighting)) (limit : Int) (A0 : Option Addr) (c0 : Nat)  (w : World) (M0 : Hid (Go.Proofs.Ytpaakpbbahbhcaa.GoV.ReadNest w Go.Proofs.Ytpaakpbbahbhcaa.GoVSighting.lay A0 list)) (N0 : Hid (list.length ≤ 9223372036854775807))  {r : Bool} (H : Hid (P list limit = some r)) :
    Calls Try.prog 61 #[.slice A0 list.length c0, .int .i64 limit] w (Gives (.bool r) w) := by
  have HB := Lib.hid (Below.refl w.heap.size w)
  unfold P at H
  have N0o := N0.out
  go_enter Try.func61, Try.ntmps61
  replace H := bind_hid H
  obtain ⟨t_2, qt_2, H⟩ := H
  go_wp2_with fail
  go_at_call 28
  refine (Go.Proofs.Ytpaakpbbahbhcaa.GiAreSightings.C (list) A0 c0 _   (Lib.hid (Go.Proofs.Ytpaakpbbahbhcaa.GoV.read_below M0.out HB.out)) N0 qt_2).mono ?_
  rintro e_t_2 wt_2 ⟨rfl, bt_2⟩
  have HBwt_2 := Lib.hid (Below.step HB.out bt_2)
  clear bt_2
  replace H := join_hid H
  cases t_2 with
  | false =>
    replace H := ite_f H
    replace H := app_hid H
    obtain rfl := ret_hid H
    go_wp2_with fail
    go_ret
    exact ⟨rfl, HBwt_2.out⟩
  | true =>
    replace H := ite_t H
    replace H := bind_hid H
    obtain ⟨t_5, qt_5, H⟩ := H
    go_wp2_with fail
    go_at_call 87
    refine (Go.Proofs.Ytpaakpbbahbhcaa.GiWithin.C (limit) ((-30)) (16)  _    qt_5).mono ?_
    rintro e_t_5 wt_5 ⟨rfl, bt_5⟩
    have HBwt_5 := Lib.hid (Below.step HBwt_2.out bt_5)
    clear bt_5
    replace H := app_hid H
    obtain rfl := ret_hid H
    go_wp2_with fail
    go_ret
    exact ⟨rfl, HBwt_5.out⟩
end Go.Proofs.Ytpaakpbbahbhcaa.GiCanJoin

/- What is held of the worlds of a region that draws its order may grow on the way. No condition. -/
namespace Go.Proofs.Ytpaakpbbahbhcaa.GoR
set_option linter.unusedVariables false
end Go.Proofs.Ytpaakpbbahbhcaa.GoR

/- loop.example/g01062/impl.bondsOf as a plain function, and the contract of the program's: where the plain one has an answer, the program has it. Conditions: slices read as lists. -/
namespace Go.Proofs.Ytpaakpbbahbhcaa.GiBondsOf
set_option linter.unusedVariables false
set_option linter.unusedSimpArgs false
open Go.RowKit
open Go.Proofs.Ytpaakpbbahbhcaa.Rowed Go.Proofs.Ytpaakpbbahbhcaa.Turn Go.Proofs.Ytpaakpbbahbhcaa.Aid Go.Proofs.Ytpaakpbbahbhcaa.GoP Go.Proofs.Ytpaakpbbahbhcaa.GoM

def l1 (list : (List Go.Proofs.Ytpaakpbbahbhcaa.PSighting.Sighting)) (k0 : Nat) (t_9_id : Int) (t_9_year : Int) (t_9_town : ByteArray) (t_9_traits : (List Int)) (k1 : Nat) (s : (List Int)) (nx1 bk1 : (List Int) → Option ((List Int))) : Option ((List Int)) :=
  letK s fun held_3l1 =>
  Option.bind (idx list (k1 : Int)) fun (yt_19 : Go.Proofs.Ytpaakpbbahbhcaa.PSighting.Sighting) =>
  unSighting yt_19 fun (t_19_id : Int) (t_19_year : Int) (t_19_town : ByteArray) (t_19_traits : (List Int)) =>
  Option.bind (Go.Proofs.Ytpaakpbbahbhcaa.GiEvidence.P t_9_id t_9_year t_9_town t_9_traits t_19_id t_19_year t_19_town t_19_traits) fun (t_28 : Int) =>
  guardK ((0 : Int) ≤ (k0 : Int) ∧ ((k0 : Int) : Int) < 10) <|
  guardK ((0 : Int) ≤ (k1 : Int) ∧ ((k1 : Int) : Int) < 10) <|
  letK (held_3l1.set (k0 * 10 + k1) t_28) fun (l31_31 : (List Int)) =>
  appK nx1 (l31_31)

def e1 (nx0 : ((List Int)) → Option ((List Int))) (k0 : Nat) (s : (List Int)) : Option ((List Int)) :=
  letK s fun held_3l1 =>
  guardK ((0 : Int) ≤ (k0 : Int) ∧ ((k0 : Int) : Int) < 10) <|
  guardK ((0 : Int) ≤ (k0 : Int) ∧ ((k0 : Int) : Int) < 10) <|
  letK (held_3l1.set (k0 * 10 + k0) 16) fun (l38_38 : (List Int)) =>
  appK nx0 (l38_38)

def l0 (list : (List Go.Proofs.Ytpaakpbbahbhcaa.PSighting.Sighting)) (k0 : Nat) (s : (List Int)) (nx0 bk0 : (List Int) → Option ((List Int))) : Option ((List Int)) :=
  letK s fun held_3l0 =>
  Option.bind (idx list (k0 : Int)) fun (yt_9 : Go.Proofs.Ytpaakpbbahbhcaa.PSighting.Sighting) =>
  unSighting yt_9 fun (t_9_id : Int) (t_9_year : Int) (t_9_town : ByteArray) (t_9_traits : (List Int)) =>
  cntK (l1 list k0 t_9_id t_9_year t_9_town t_9_traits) (list.length) 0 (held_3l0) (e1 nx0 k0)

def l4 (k2 : Nat) (k3 : Nat) (k4 : Nat) (s : (List Int)) (nx4 bk4 : (List Int) → Option ((List Int))) : Option ((List Int)) :=
  letK s fun held_3l4 =>
  guardK ((0 : Int) ≤ (k3 : Int) ∧ ((k3 : Int) : Int) < 10) <|
  guardK ((0 : Int) ≤ (k2 : Int) ∧ ((k2 : Int) : Int) < 10) <|
  letK (Go.Proofs.Ytpaakpbbahbhcaa.GoA.nth held_3l4 (k3 * 10 + k2)) fun (t_63 : Int) =>
  guardK ((0 : Int) ≤ (k2 : Int) ∧ ((k2 : Int) : Int) < 10) <|
  guardK ((0 : Int) ≤ (k4 : Int) ∧ ((k4 : Int) : Int) < 10) <|
  letK (Go.Proofs.Ytpaakpbbahbhcaa.GoA.nth held_3l4 (k2 * 10 + k4)) fun (t_68 : Int) =>
  letK (min t_63 t_68) fun (t_69 : Int) =>
  guardK ((0 : Int) ≤ (k3 : Int) ∧ ((k3 : Int) : Int) < 10) <|
  guardK ((0 : Int) ≤ (k4 : Int) ∧ ((k4 : Int) : Int) < 10) <|
  letK (Go.Proofs.Ytpaakpbbahbhcaa.GoA.nth held_3l4 (k3 * 10 + k4)) fun (t_77 : Int) =>
  letK (max t_77 t_69) fun (t_79 : Int) =>
  guardK ((0 : Int) ≤ (k3 : Int) ∧ ((k3 : Int) : Int) < 10) <|
  guardK ((0 : Int) ≤ (k4 : Int) ∧ ((k4 : Int) : Int) < 10) <|
  letK (held_3l4.set (k3 * 10 + k4) t_79) fun (l82_82 : (List Int)) =>
  appK nx4 (l82_82)

def e4 (nx3 : ((List Int)) → Option ((List Int))) (s : (List Int)) : Option ((List Int)) :=
  letK s fun held_3l4 =>
  appK nx3 (held_3l4)

def l3 (list : (List Go.Proofs.Ytpaakpbbahbhcaa.PSighting.Sighting)) (k2 : Nat) (k3 : Nat) (s : (List Int)) (nx3 bk3 : (List Int) → Option ((List Int))) : Option ((List Int)) :=
  letK s fun held_3l3 =>
  cntK (l4 k2 k3) (list.length) 0 (held_3l3) (e4 nx3)

def e3 (nx2 : ((List Int)) → Option ((List Int))) (s : (List Int)) : Option ((List Int)) :=
  letK s fun held_3l3 =>
  appK nx2 (held_3l3)

def l2 (list : (List Go.Proofs.Ytpaakpbbahbhcaa.PSighting.Sighting)) (k2 : Nat) (s : (List Int)) (nx2 bk2 : (List Int) → Option ((List Int))) : Option ((List Int)) :=
  letK s fun held_3l2 =>
  cntK (l3 list k2) (list.length) 0 (held_3l2) (e3 nx2)

def e2  (s : (List Int)) : Option ((List Int)) :=
  letK s fun held_3l2 =>
  guardK (held_3l2.length = 100) <|
  letK (held_3l2) fun (l90_90 : (List Int)) =>
  some l90_90

def e0 (list : (List Go.Proofs.Ytpaakpbbahbhcaa.PSighting.Sighting)) (s : (List Int)) : Option ((List Int)) :=
  letK s fun held_3l0 =>
  cntK (l2 list) (list.length) 0 (held_3l0) (e2 )

def P (list : (List Go.Proofs.Ytpaakpbbahbhcaa.PSighting.Sighting)) : Option ((List Int)) :=
  letK ((List.replicate 100 0)) fun (vt_0 : (List Int)) =>
  letK ((List.replicate 100 0)) fun (vheld_2 : (List Int)) =>
  cntK (l0 list) (list.length) 0 (vheld_2) (e0 list)

set_option maxRecDepth 100000 in
set_option maxHeartbeats 2000000 in
theorem C (list : (List Go.Proofs.Ytpaakpbbahbhcaa.PSighting.Sighting)) (A0 : Option Addr) (c0 : Nat)  (w : World) (M0 : Hid (Go.Proofs.Ytpaakpbbahbhcaa.GoV.ReadNest w Go.Proofs.Ytpaakpbbahbhcaa.GoVSighting.lay A0 list)) (N0 : Hid (list.length ≤ 9223372036854775807))  {r : (List Int)} (H : Hid (P list = some r)) :
    Calls Try.prog 54 #[.slice A0 list.length c0] w (Gives (.agg (Go.Proofs.Ytpaakpbbahbhcaa.HelpInt.iv r).toArray) w) := by
  have HB := Lib.hid (Below.refl w.heap.size w)
  unfold P at H
  have N0o := N0.out
  go_enter Try.func54, Try.ntmps54
  replace H := let_hid H
  obtain ⟨vt_0, hvt_0, H⟩ := H
  have ezt_0 : Try.zeroCells62 = (Go.Proofs.Ytpaakpbbahbhcaa.HelpInt.iv (List.replicate 100 0)).toArray := by kernel_rfl
  obtain ⟨w_t_0, hw_t_0⟩ : ∃ x, w.alloc (.cells Try.zeroCells62 62) = x := ⟨_, rfl⟩
  have bw_t_0 : Below w.heap.size w w_t_0 := by rw [← hw_t_0]; exact (Below.refl _ _).alloc (Nat.le_refl _) _
  have hs_t_0 := HB.out.size
  have nt_0 : vt_0.length = 100 := by rw [← hvt_0, List.length_replicate]
  have Ot_0 : Hid (w_t_0.ownsRow w.heap.size 62 1 (.slice (some ⟨w.heap.size, 0, none⟩) 100 100) 100 (Go.Proofs.Ytpaakpbbahbhcaa.HelpInt.iv vt_0)) := Lib.hid (by rw [← hw_t_0, ezt_0, hvt_0]; exact own_laid (n := 100) hs_t_0 rfl (by unfold Go.Proofs.Ytpaakpbbahbhcaa.HelpInt.iv; rw [List.length_map, nt_0]) (by unfold maxLen; omega))
  clear hs_t_0 ezt_0
  have hht_0 := Lib.hid hvt_0
  clear hvt_0
  replace nt_0 := Lib.hid nt_0
  have HBw_t_0 := Lib.hid (Below.step HB.out bw_t_0)
  clear bw_t_0
  have hzheld_2 : (List.replicate 100 0).length = 100 := by rw [List.length_replicate]
  replace H := let_hid H
  obtain ⟨vheld_2, hvheld_2, H⟩ := H
  have nheld_2 : vheld_2.length = 100 := by rw [← hvheld_2]; exact hzheld_2
  clear hzheld_2
  have ezheld_2 : Try.zeroCells62 = (Go.Proofs.Ytpaakpbbahbhcaa.HelpInt.iv (List.replicate 100 0)).toArray := by kernel_rfl
  replace ezheld_2 := Lib.hid ezheld_2
  have hhheld_2 := Lib.hid hvheld_2
  clear hvheld_2
  have hs_held_2 := HBw_t_0.out.size
  have nheld_2h := Lib.hid nheld_2
  clear nheld_2
  go_wp2_with (refine Go.Proofs.Ytpaakpbbahbhcaa.GoX.wpList_store_new rfl 62 (.tmp 3) (.tmp 12) rfl 62 _ (Go.Proofs.Ytpaakpbbahbhcaa.HelpInt.iv vheld_2).toArray rfl (by rw [← hhheld_2.out]; exact congrArg Value.agg ezheld_2.out) (by rw [Go.Proofs.Ytpaakpbbahbhcaa.GoX.iv_size, nheld_2h.out]; kernel_rfl) (by rw [Go.Proofs.Ytpaakpbbahbhcaa.GoX.iv_size, nheld_2h.out]; kernel_rfl) (Go.Proofs.Ytpaakpbbahbhcaa.GoX.iv_one _) ?_; refine stop_in ?_)
  refine stop_out ?_
  have Dheld_2_t_0 := Lib.hid (apart_fresh Ot_0.out)
  obtain ⟨w_held_2, hw_held_2⟩ : ∃ x, w_t_0.alloc (.cells (Go.Proofs.Ytpaakpbbahbhcaa.HelpInt.iv vheld_2).toArray 62) = x := ⟨_, rfl⟩
  have bw_held_2 : Below w_t_0.heap.size w_t_0 w_held_2 := by rw [← hw_held_2]; exact (Below.refl _ _).alloc (Nat.le_refl _) _
  try simp only [hw_held_2]
  have Oheld_2 : Hid (w_held_2.ownsRow w.heap.size 62 1 (.slice (some ⟨w_t_0.heap.size, 0, none⟩) 100 100) 100 (Go.Proofs.Ytpaakpbbahbhcaa.HelpInt.iv vheld_2)) := Lib.hid (by rw [← hw_held_2]; exact own_laid (n := 100) hs_held_2 rfl (by unfold Go.Proofs.Ytpaakpbbahbhcaa.HelpInt.iv; rw [List.length_map, nheld_2h.out]) (by unfold maxLen; omega))
  clear hs_held_2
  clear ezheld_2
  have HBw_held_2 := Lib.hid (Below.step HBw_t_0.out bw_held_2)
  replace Ot_0 := Lib.hid (own_below Ot_0.out bw_held_2)
  clear bw_held_2
  go_wp2_with fail
  go_loopg [15] (list.length) (fun m_ v15_ wr => ∃ (k0 : Nat) (held_3l0 : (List Int)), k0 + m_ = list.length ∧ v15_ = .int .i64 (k0 : Int) ∧ Hid (cntK (l0 list) m_ k0 (held_3l0) (e0 list) = some r) ∧ Hid (Below w.heap.size w wr) ∧ Hid (wr.ownsRow w.heap.size 62 1 (.slice (some ⟨w_t_0.heap.size, 0, none⟩) 100 100) 100 (Go.Proofs.Ytpaakpbbahbhcaa.HelpInt.iv held_3l0)) ∧ Hid (held_3l0.length = 100) ∧ Hid (wr.ownsRow w.heap.size 62 1 (.slice (some ⟨w.heap.size, 0, none⟩) 100 100) 100 (Go.Proofs.Ytpaakpbbahbhcaa.HelpInt.iv vt_0)) ∧ Hid (Apart (some ⟨w_t_0.heap.size, 0, none⟩) (some ⟨w.heap.size, 0, none⟩)))
  case atStart => exact ⟨0, _, by omega, rfl, H, HBw_held_2, Oheld_2, Lib.hid (nheld_2h.out), Ot_0, Lib.hid Dheld_2_t_0.out⟩
  case round =>
    obtain ⟨k0, held_3l0, hkm0, rfl, H, HBwr0, Oheld_3l0, hnheld_3l0, Ot_0, Dheld_3l0_t_0⟩ := hrel
    rename World => wr0
    cases gk with
    | zero =>
      obtain rfl : k0 = list.length := by omega
      have hc0 : decide (((list.length : Nat) : Int) < ((list.length : Nat) : Int)) = false := by simp
      replace H := cnt_zero H
      unfold e0 at H
      replace H := let_hid H
      obtain ⟨_, rfl, H⟩ := H
      go_wp2_with fail
      go_loopg [42] (list.length) (fun m_ v42_ wr => ∃ (k2 : Nat) (held_3l2 : (List Int)), k2 + m_ = list.length ∧ v42_ = .int .i64 (k2 : Int) ∧ Hid (cntK (l2 list) m_ k2 (held_3l2) (e2 ) = some r) ∧ Hid (Below w.heap.size w wr) ∧ Hid (wr.ownsRow w.heap.size 62 1 (.slice (some ⟨w_t_0.heap.size, 0, none⟩) 100 100) 100 (Go.Proofs.Ytpaakpbbahbhcaa.HelpInt.iv held_3l2)) ∧ Hid (held_3l2.length = 100) ∧ Hid (wr.ownsRow w.heap.size 62 1 (.slice (some ⟨w.heap.size, 0, none⟩) 100 100) 100 (Go.Proofs.Ytpaakpbbahbhcaa.HelpInt.iv vt_0)) ∧ Hid (Apart (some ⟨w_t_0.heap.size, 0, none⟩) (some ⟨w.heap.size, 0, none⟩)))
      case atStart => exact ⟨0, _, by omega, rfl, H, HBwr0, Oheld_3l0, Lib.hid (hnheld_3l0.out), Ot_0, Lib.hid Dheld_3l0_t_0.out⟩
      case round =>
        obtain ⟨k2, held_3l2, hkm2, rfl, H, HBwr2, Oheld_3l2, hnheld_3l2, Ot_0, Dheld_3l2_t_0⟩ := hrel
        rename World => wr2
        cases gk with
        | zero =>
          obtain rfl : k2 = list.length := by omega
          have hc2 : decide (((list.length : Nat) : Int) < ((list.length : Nat) : Int)) = false := by simp
          replace H := cnt_zero H
          unfold e2 at H
          replace H := let_hid H
          obtain ⟨_, rfl, H⟩ := H
          go_wp2_with (refine wpList_load_row rfl 62 (.tmp 3) rfl w_t_0.heap.size rfl 62 (Go.Proofs.Ytpaakpbbahbhcaa.HelpInt.iv held_3l2).toArray (0, 0) _ (Go.Proofs.Ytpaakpbbahbhcaa.GoX.own_block Oheld_3l2.out) Try.underlying62 rfl (by rw [Go.Proofs.Ytpaakpbbahbhcaa.GoX.iv_size, hnheld_3l2.out]; kernel_rfl) ?_; refine stop_in ?_)
          refine stop_out ?_
          replace H := guard_hid H
          obtain ⟨hzl90_90, H⟩ := H
          replace H := let_hid H
          obtain ⟨l90_90, hl90_90, H⟩ := H
          replace hzl90_90 := Lib.hid hzl90_90
          have hhl90_90 := Lib.hid hl90_90
          clear hl90_90
          go_wp2_with (refine wpList_store_mid rfl 62 (.tmp 2) (.tmp 80) rfl w.heap.size 0 (Go.Proofs.Ytpaakpbbahbhcaa.HelpInt.iv held_3l2).toArray rfl rfl (Go.Proofs.Ytpaakpbbahbhcaa.GoX.own_there nt_0.out hzl90_90.out Ot_0.out) (by rw [Go.Proofs.Ytpaakpbbahbhcaa.GoX.iv_size, hzl90_90.out]; kernel_rfl) (Go.Proofs.Ytpaakpbbahbhcaa.GoX.iv_one _) ?_; refine stop_in ?_)
          refine stop_out ?_
          have Sl90_90 := Lib.hid (Go.Proofs.Ytpaakpbbahbhcaa.GoX.own_setAll nt_0.out hzl90_90.out Ot_0.out)
          obtain ⟨wl90_90, hwl90_90⟩ : ∃ x, wr2.setCells w.heap.size 0 (Go.Proofs.Ytpaakpbbahbhcaa.HelpInt.iv held_3l2) = x := ⟨_, rfl⟩
          try simp only [hwl90_90]
          have Sl90_90b : wl90_90.ownsRow w.heap.size 62 1 (.slice (some ⟨w.heap.size, 0, none⟩) 100 100) 100 (Go.Proofs.Ytpaakpbbahbhcaa.HelpInt.iv held_3l2) ∧ wr2.grownBy wl90_90 (some w.heap.size) := by rw [← hwl90_90]; exact Sl90_90.out
          replace Sl90_90 := Lib.hid Sl90_90b
          clear Sl90_90b
          have Pl90_90 : Hid (wl90_90.ownsRow w.heap.size 62 1 (.slice (some ⟨w.heap.size, 0, none⟩) 100 100) 100 (Go.Proofs.Ytpaakpbbahbhcaa.HelpInt.iv l90_90)) := Lib.hid (by rw [← hhl90_90.out]; exact Sl90_90.out.1)
          have Gl90_90 : Hid (wr2.grownBy wl90_90 (Value.slice (some ⟨w.heap.size, 0, none⟩) 100 100).ownBlock) := Lib.hid Sl90_90.out.2
          have nl90_90 : Hid (l90_90.length = 100) := Lib.hid (by rw [← hhl90_90.out]; exact hzl90_90.out)
          clear Sl90_90 hzl90_90
          have HBwl90_90 := Lib.hid (HBwr2.out.grown Gl90_90.out HBwr2.out.size (fun q hq => (Ot_0.out.lt q hq).1))
          replace Oheld_3l2 := Lib.hid (own_other Oheld_3l2.out Gl90_90.out (Apart.symm Dheld_3l2_t_0.out))
          clear Ot_0 Gl90_90
          obtain rfl := ret_hid H
          go_wp2_with fail
          (try simp only [Exit.inBlock, Exit.then])
          refine bodyPost_ret (v := .agg (Go.Proofs.Ytpaakpbbahbhcaa.HelpInt.iv l90_90).toArray) ?hr_ ?hd_ ?_
          case hd_ => rfl
          case hr_ => exact results_cell_row Try.results54 _ _ w.heap.size 62 _ (0, 0) _ rfl (Go.Proofs.Ytpaakpbbahbhcaa.GoX.own_block Pl90_90.out) Try.underlying62 rfl (by rw [Go.Proofs.Ytpaakpbbahbhcaa.GoX.iv_size, nl90_90.out]; kernel_rfl)
          exact ⟨rfl, HBwl90_90.out⟩
        | succ m2 =>
          have hlt2 : k2 < list.length := by omega
          have hc2 : decide ((k2 : Int) < ((list.length : Nat) : Int)) = true := by simp; omega
          replace H := cnt_succ H
          unfold l2 at H
          replace H := let_hid H
          obtain ⟨_, rfl, H⟩ := H
          go_wp2_with fail
          go_loopg [47] (list.length) (fun m_ v47_ wr => ∃ (k3 : Nat) (held_3l3 : (List Int)), k3 + m_ = list.length ∧ v47_ = .int .i64 (k3 : Int) ∧ Hid (cntK (l3 list k2) m_ k3 (held_3l3) (e3 (fun s' => cntK (l2 list) m2 (k2 + 1) s' (e2 ))) = some r) ∧ Hid (Below w.heap.size w wr) ∧ Hid (wr.ownsRow w.heap.size 62 1 (.slice (some ⟨w_t_0.heap.size, 0, none⟩) 100 100) 100 (Go.Proofs.Ytpaakpbbahbhcaa.HelpInt.iv held_3l3)) ∧ Hid (held_3l3.length = 100) ∧ Hid (wr.ownsRow w.heap.size 62 1 (.slice (some ⟨w.heap.size, 0, none⟩) 100 100) 100 (Go.Proofs.Ytpaakpbbahbhcaa.HelpInt.iv vt_0)) ∧ Hid (Apart (some ⟨w_t_0.heap.size, 0, none⟩) (some ⟨w.heap.size, 0, none⟩)))
          case atStart => exact ⟨0, _, by omega, rfl, H, HBwr2, Oheld_3l2, Lib.hid (hnheld_3l2.out), Ot_0, Lib.hid Dheld_3l2_t_0.out⟩
          case round =>
            obtain ⟨k3, held_3l3, hkm3, rfl, H, HBwr3, Oheld_3l3, hnheld_3l3, Ot_0, Dheld_3l3_t_0⟩ := hrel
            rename World => wr3
            cases gk with
            | zero =>
              obtain rfl : k3 = list.length := by omega
              have hc3 : decide (((list.length : Nat) : Int) < ((list.length : Nat) : Int)) = false := by simp
              replace H := cnt_zero H
              unfold e3 at H
              replace H := let_hid H
              obtain ⟨_, rfl, H⟩ := H
              replace H := app_hid H
              go_wp2_with fail
              go_roundg m2
              case measure => omega
              case rel => exact ⟨k2 + 1, _, by omega, by go_num, H, HBwr3, Oheld_3l3, Lib.hid (hnheld_3l3.out), Ot_0, Lib.hid Dheld_3l3_t_0.out⟩
            | succ m3 =>
              have hlt3 : k3 < list.length := by omega
              have hc3 : decide ((k3 : Int) < ((list.length : Nat) : Int)) = true := by simp; omega
              replace H := cnt_succ H
              unfold l3 at H
              replace H := let_hid H
              obtain ⟨_, rfl, H⟩ := H
              go_wp2_with fail
              go_loopg [52] (list.length) (fun m_ v52_ wr => ∃ (k4 : Nat) (held_3l4 : (List Int)), k4 + m_ = list.length ∧ v52_ = .int .i64 (k4 : Int) ∧ Hid (cntK (l4 k2 k3) m_ k4 (held_3l4) (e4 (fun s' => cntK (l3 list k2) m3 (k3 + 1) s' (e3 (fun s' => cntK (l2 list) m2 (k2 + 1) s' (e2 ))))) = some r) ∧ Hid (Below w.heap.size w wr) ∧ Hid (wr.ownsRow w.heap.size 62 1 (.slice (some ⟨w_t_0.heap.size, 0, none⟩) 100 100) 100 (Go.Proofs.Ytpaakpbbahbhcaa.HelpInt.iv held_3l4)) ∧ Hid (held_3l4.length = 100) ∧ Hid (wr.ownsRow w.heap.size 62 1 (.slice (some ⟨w.heap.size, 0, none⟩) 100 100) 100 (Go.Proofs.Ytpaakpbbahbhcaa.HelpInt.iv vt_0)) ∧ Hid (Apart (some ⟨w_t_0.heap.size, 0, none⟩) (some ⟨w.heap.size, 0, none⟩)))
              case atStart => exact ⟨0, _, by omega, rfl, H, HBwr3, Oheld_3l3, Lib.hid (hnheld_3l3.out), Ot_0, Lib.hid Dheld_3l3_t_0.out⟩
              case round =>
                obtain ⟨k4, held_3l4, hkm4, rfl, H, HBwr4, Oheld_3l4, hnheld_3l4, Ot_0, Dheld_3l4_t_0⟩ := hrel
                rename World => wr4
                cases gk with
                | zero =>
                  obtain rfl : k4 = list.length := by omega
                  have hc4 : decide (((list.length : Nat) : Int) < ((list.length : Nat) : Int)) = false := by simp
                  replace H := cnt_zero H
                  unfold e4 at H
                  replace H := let_hid H
                  obtain ⟨_, rfl, H⟩ := H
                  replace H := app_hid H
                  go_wp2_with fail
                  go_roundg m3
                  case measure => omega
                  case rel => exact ⟨k3 + 1, _, by omega, by go_num, H, HBwr4, Oheld_3l4, Lib.hid (hnheld_3l4.out), Ot_0, Lib.hid Dheld_3l4_t_0.out⟩
                | succ m4 =>
                  have hlt4 : k4 < list.length := by omega
                  have hc4 : decide ((k4 : Int) < ((list.length : Nat) : Int)) = true := by simp; omega
                  replace H := cnt_succ H
                  unfold l4 at H
                  replace H := let_hid H
                  obtain ⟨_, rfl, H⟩ := H
                  go_wp2_with fail
                  replace H := guard_hid H
                  obtain ⟨hgt_61, H⟩ := H
                  have b0t_61 : (0 : Int) ≤ (k3 : Int) := by omega
                  have b1t_61 : (k3 : Int) < ((10 : Nat) : Int) := by omega
                  have b4t_61 : (k3 : Int) < (10 : Int) := by omega
                  have b2t_61 : ((k3 : Int)).toNat = k3 := by omega
                  have b3t_61 : k3 < 10 := by omega
                  replace H := guard_hid H
                  obtain ⟨hgt_62, H⟩ := H
                  have b0t_62 : (0 : Int) ≤ (k2 : Int) := by omega
                  have b1t_62 : (k2 : Int) < ((10 : Nat) : Int) := by omega
                  have b4t_62 : (k2 : Int) < (10 : Int) := by omega
                  have b2t_62 : ((k2 : Int)).toNat = k2 := by omega
                  have b3t_62 : k2 < 10 := by omega
                  replace H := let_hid H
                  obtain ⟨t_63, ht_63, H⟩ := H
                  try simp only [Int.toNat_natCast] at ht_63
                  replace ht_63 := Lib.hid ht_63
                  have kct_63 : wr4.cell? ⟨w_t_0.heap.size, k3 * 10 + k2, none⟩ = some (.int .i64 t_63) := by rw [← ht_63.out]; exact Go.Proofs.Ytpaakpbbahbhcaa.GoA.row_at Oheld_3l4.out hnheld_3l4.out (k3 * 10 + k2) (by omega)
                  have Hkct_63 := Lib.hid kct_63
                  replace kct_63 := cell_regrown kct_63
                  replace H := guard_hid H
                  obtain ⟨hgt_66, H⟩ := H
                  have b0t_66 : (0 : Int) ≤ (k2 : Int) := by omega
                  have b1t_66 : (k2 : Int) < ((10 : Nat) : Int) := by omega
                  have b4t_66 : (k2 : Int) < (10 : Int) := by omega
                  have b2t_66 : ((k2 : Int)).toNat = k2 := by omega
                  have b3t_66 : k2 < 10 := by omega
                  replace H := guard_hid H
                  obtain ⟨hgt_67, H⟩ := H
                  have b0t_67 : (0 : Int) ≤ (k4 : Int) := by omega
                  have b1t_67 : (k4 : Int) < ((10 : Nat) : Int) := by omega
                  have b4t_67 : (k4 : Int) < (10 : Int) := by omega
                  have b2t_67 : ((k4 : Int)).toNat = k4 := by omega
                  have b3t_67 : k4 < 10 := by omega
                  replace H := let_hid H
                  obtain ⟨t_68, ht_68, H⟩ := H
                  try simp only [Int.toNat_natCast] at ht_68
                  replace ht_68 := Lib.hid ht_68
                  have kct_68 : wr4.cell? ⟨w_t_0.heap.size, k2 * 10 + k4, none⟩ = some (.int .i64 t_68) := by rw [← ht_68.out]; exact Go.Proofs.Ytpaakpbbahbhcaa.GoA.row_at Oheld_3l4.out hnheld_3l4.out (k2 * 10 + k4) (by omega)
                  have Hkct_68 := Lib.hid kct_68
                  replace kct_68 := cell_regrown kct_68
                  replace H := let_hid H
                  obtain ⟨t_69, ht_69, H⟩ := H
                  refine wp_region_quiet_below (by kernel_rfl) (by kernel_rfl) ?_
                  repeat (go_big_quiet_step (fail))
                  refine wpQuiet_nil ?_
                  intro Y21 hY21
                  replace hY21 := below_class hY21
                  replace kct_63 := Hkct_63.out
                  clear Hkct_63
                  replace kct_68 := Hkct_68.out
                  clear Hkct_68
                  have HBY21 := Lib.hid (Below.step HBwr4.out hY21)
                  replace kct_63 := cell_below hY21 kct_63
                  replace kct_68 := cell_below hY21 kct_68
                  replace Ot_0 := Lib.hid (own_below Ot_0.out hY21)
                  replace Oheld_3l4 := Lib.hid (own_below Oheld_3l4.out hY21)
                  clear hY21
                  go_wp2_with fail
                  obtain ⟨Z22, hZ22⟩ : ∃ x, Y21.drew = x := ⟨_, rfl⟩
                  have bd22 : Below Y21.heap.size Y21 Z22 := by rw [← hZ22]; exact (Below.refl _ _).drew
                  have HBZ22 := Lib.hid (Below.step HBY21.out bd22)
                  replace kct_63 := cell_below bd22 kct_63
                  replace kct_68 := cell_below bd22 kct_68
                  replace Ot_0 := Lib.hid (own_below Ot_0.out bd22)
                  replace Oheld_3l4 := Lib.hid (own_below Oheld_3l4.out bd22)
                  clear bd22
                  replace H := guard_hid H
                  obtain ⟨hgt_75, H⟩ := H
                  have b0t_75 : (0 : Int) ≤ (k3 : Int) := by omega
                  have b1t_75 : (k3 : Int) < ((10 : Nat) : Int) := by omega
                  have b4t_75 : (k3 : Int) < (10 : Int) := by omega
                  have b2t_75 : ((k3 : Int)).toNat = k3 := by omega
                  have b3t_75 : k3 < 10 := by omega
                  replace H := guard_hid H
                  obtain ⟨hgt_76, H⟩ := H
                  have b0t_76 : (0 : Int) ≤ (k4 : Int) := by omega
                  have b1t_76 : (k4 : Int) < ((10 : Nat) : Int) := by omega
                  have b4t_76 : (k4 : Int) < (10 : Int) := by omega
                  have b2t_76 : ((k4 : Int)).toNat = k4 := by omega
                  have b3t_76 : k4 < 10 := by omega
                  replace H := let_hid H
                  obtain ⟨t_77, ht_77, H⟩ := H
                  try simp only [Int.toNat_natCast] at ht_77
                  replace ht_77 := Lib.hid ht_77
                  have kct_77 : Z22.cell? ⟨w_t_0.heap.size, k3 * 10 + k4, none⟩ = some (.int .i64 t_77) := by rw [← ht_77.out]; exact Go.Proofs.Ytpaakpbbahbhcaa.GoA.row_at Oheld_3l4.out hnheld_3l4.out (k3 * 10 + k4) (by omega)
                  replace H := let_hid H
                  obtain ⟨t_79, ht_79, H⟩ := H
                  replace H := guard_hid H
                  obtain ⟨hgt_80, H⟩ := H
                  have b0t_80 : (0 : Int) ≤ (k3 : Int) := by omega
                  have b1t_80 : (k3 : Int) < ((10 : Nat) : Int) := by omega
                  have b4t_80 : (k3 : Int) < (10 : Int) := by omega
                  have b2t_80 : ((k3 : Int)).toNat = k3 := by omega
                  have b3t_80 : k3 < 10 := by omega
                  replace H := guard_hid H
                  obtain ⟨hgt_81, H⟩ := H
                  have b0t_81 : (0 : Int) ≤ (k4 : Int) := by omega
                  have b1t_81 : (k4 : Int) < ((10 : Nat) : Int) := by omega
                  have b4t_81 : (k4 : Int) < (10 : Int) := by omega
                  have b2t_81 : ((k4 : Int)).toNat = k4 := by omega
                  have b3t_81 : k4 < 10 := by omega
                  refine wp_region_still_tail 11 (by kernel_rfl) (by kernel_rfl) ?_
                  simp only [List.take_succ_cons, List.take_zero, List.drop_succ_cons, List.drop_zero]
                  change wpStill _ _ Y21.drew _ _ _
                  rw [hZ22]
                  repeat still_step
                  refine wpStill_nil ?_
                  change wpList _ _ _ _ _ Y21.drew
                  rw [hZ22]
                  clear hZ22
                  replace H := let_hid H
                  obtain ⟨l82_82, hl82_82, H⟩ := H
                  try simp only [Int.toNat_natCast] at hl82_82
                  have kzl82_82 : Z22.cell? ⟨w_t_0.heap.size, (k3 * 10 + k4), none⟩ = some (.int .i64 (Go.Proofs.Ytpaakpbbahbhcaa.GoA.nth held_3l4 ((k3 * 10 + k4)))) := Go.Proofs.Ytpaakpbbahbhcaa.GoA.row_at Oheld_3l4.out hnheld_3l4.out ((k3 * 10 + k4)) (by omega)
                  obtain ⟨wl82_82, hwl82_82⟩ : ∃ x, (Z22).setCell ⟨w_t_0.heap.size, (k3 * 10 + k4), none⟩ (.int .i64 t_79) = x := ⟨_, rfl⟩
                  have z0l82_82 := Oheld_3l4.out.frozenAt ((k3 * 10 + k4))
                  have Sl82_82 := Lib.hid (own_stores [((k3 * 10 + k4), .int .i64 t_79)] Oheld_3l4.out)
                  have nl82_82 : Hid (l82_82.length = 100) := Lib.hid (by rw [← hl82_82, List.length_set]; exact hnheld_3l4.out)
                  have Pl82_82 : Hid (wl82_82.ownsRow w.heap.size 62 1 (.slice (some ⟨w_t_0.heap.size, 0, none⟩) 100 100) 100 (Go.Proofs.Ytpaakpbbahbhcaa.HelpInt.iv l82_82)) := Lib.hid (by have e_ : ([((k3 * 10 + k4), .int .i64 t_79)] : List (Nat × Value)).foldl (fun xs p => xs.set p.1 p.2) (Go.Proofs.Ytpaakpbbahbhcaa.HelpInt.iv held_3l4) = (Go.Proofs.Ytpaakpbbahbhcaa.HelpInt.iv l82_82) := (by rw [← hl82_82]; first | done | simp [Go.Proofs.Ytpaakpbbahbhcaa.HelpInt.iv, List.map_set]); rw [← hwl82_82, ← e_]; exact Sl82_82.out.1)
                  have Gl82_82 : Hid (Z22.grownBy wl82_82 (Value.slice (some ⟨w_t_0.heap.size, 0, none⟩) 100 100).ownBlock) := Lib.hid (by rw [← hwl82_82]; exact Sl82_82.out.2)
                  have HBwl82_82 := Lib.hid (HBZ22.out.grown Gl82_82.out HBZ22.out.size (fun q hq => (Oheld_3l4.out.lt q hq).1))
                  have hhl82_82 := Lib.hid hl82_82
                  clear hl82_82 Sl82_82
                  replace Ot_0 := Lib.hid (own_other Ot_0.out Gl82_82.out Dheld_3l4_t_0.out)
                  clear Oheld_3l4 Gl82_82
                  replace H := app_hid H
                  go_wp2_with fail
                  clear kzl82_82 z0l82_82 kct_63 kct_68 kct_77
                  go_roundg m4
                  case measure => omega
                  case rel => exact ⟨k4 + 1, _, by omega, by go_num, H, HBwl82_82, Pl82_82, Lib.hid (nl82_82.out), Ot_0, Lib.hid Dheld_3l4_t_0.out⟩
    | succ m0 =>
      have hlt0 : k0 < list.length := by omega
      have hc0 : decide ((k0 : Int) < ((list.length : Nat) : Int)) = true := by simp; omega
      replace H := cnt_succ H
      unfold l0 at H
      replace H := let_hid H
      obtain ⟨_, rfl, H⟩ := H
      replace H := idx_hid H
      obtain ⟨nt_9, yt_9, et_9, lt_9, gt_9, H⟩ := H
      obtain rfl : k0 = nt_9 := by omega
      clear et_9
      obtain ⟨t_9_id, t_9_year, t_9_town, t_9_traits⟩ := yt_9
      replace H := unSighting_hid H
      obtain ⟨bbt_9, oot_9, zt_9, Art_9, crt_9, eAt_9, zzt_9, hKt_9, hrt_9, hqt_9, hnt_9⟩ := Go.Proofs.Ytpaakpbbahbhcaa.GoV.nest_at M0.out (k := k0) lt_9
      obtain rfl := Option.some.inj (gt_9.out.symm.trans zzt_9)
      clear zzt_9
      subst eAt_9
      have hct_9_0 : w.cell? ⟨bbt_9, oot_9 + k0 * 4, none⟩ = some (.int .i64 t_9_id) := hKt_9 0 _ rfl
      have hct_9_1 : w.cell? ⟨bbt_9, oot_9 + k0 * 4 + 1, none⟩ = some (.int .i64 t_9_year) := hKt_9 1 _ rfl
      have hct_9_2 : w.cell? ⟨bbt_9, oot_9 + k0 * 4 + 2, none⟩ = some (.string t_9_town) := hKt_9 2 _ rfl
      have hct_9_3 : w.cell? ⟨bbt_9, oot_9 + k0 * 4 + 3, none⟩ = some (.slice Art_9 t_9_traits.length crt_9) := hKt_9 3 _ rfl
      clear hKt_9
      have ltt_9 := cell_lt hct_9_0
      replace hct_9_0 := cell_below HBwr0.out hct_9_0
      replace hct_9_1 := cell_below HBwr0.out hct_9_1
      replace hct_9_2 := cell_below HBwr0.out hct_9_2
      replace hct_9_3 := cell_below HBwr0.out hct_9_3
      have Mrt_9 := Lib.hid hrt_9
      have Qrt_9 := Lib.hid hqt_9
      have Nrt_9 := Lib.hid hnt_9
      clear hrt_9 hqt_9 hnt_9
      have b0t_9 : (0 : Int) ≤ (k0 : Int) := by omega
      have b1t_9 : (k0 : Int) < ((list.length : Nat) : Int) := by omega
      have b2t_9 : ((k0 : Int)).toNat = k0 := by omega
      obtain ⟨w_s_11, hw_s_11⟩ : ∃ x, wr0.alloc (.cells #[.int .i64 t_9_id, .int .i64 t_9_year, .string t_9_town, .slice Art_9 t_9_traits.length crt_9] 67) = x := ⟨_, rfl⟩
      have bw_s_11 : Below wr0.heap.size wr0 w_s_11 := by rw [← hw_s_11]; exact (Below.refl _ _).alloc (Nat.le_refl _) _
      have Ds_11_t_0 := Lib.hid (apart_fresh Ot_0.out)
      have Ds_11_held_3l0 := Lib.hid (apart_fresh Oheld_3l0.out)
      have HBw_s_11 := Lib.hid (Below.step HBwr0.out bw_s_11)
      have hct_9_0__129 := cell_below bw_s_11 hct_9_0
      have hct_9_1__130 := cell_below bw_s_11 hct_9_1
      have hct_9_2__131 := cell_below bw_s_11 hct_9_2
      have hct_9_3__132 := cell_below bw_s_11 hct_9_3
      replace Ot_0 := Lib.hid (own_below Ot_0.out bw_s_11)
      replace Oheld_3l0 := Lib.hid (own_below Oheld_3l0.out bw_s_11)
      clear bw_s_11
      have ks_11_0 : w_s_11.cell? ⟨wr0.heap.size, 0, none⟩ = some (.int .i64 t_9_id) := by rw [← hw_s_11]; exact box_new _ _ _ 0 _ rfl
      have ks_11_1 : w_s_11.cell? ⟨wr0.heap.size, 1, none⟩ = some (.int .i64 t_9_year) := by rw [← hw_s_11]; exact box_new _ _ _ 1 _ rfl
      have ks_11_2 : w_s_11.cell? ⟨wr0.heap.size, 2, none⟩ = some (.string t_9_town) := by rw [← hw_s_11]; exact box_new _ _ _ 2 _ rfl
      have ks_11_3 : w_s_11.cell? ⟨wr0.heap.size, 3, none⟩ = some (.slice Art_9 t_9_traits.length crt_9) := by rw [← hw_s_11]; exact box_new _ _ _ 3 _ rfl
      go_wp2_with fail
      clear hct_9_0 hct_9_1 hct_9_2 hct_9_3
      go_wp2_with fail
      go_loopg [22] (list.length) (fun m_ v22_ wr => ∃ (k1 : Nat) (held_3l1 : (List Int)), k1 + m_ = list.length ∧ v22_ = .int .i64 (k1 : Int) ∧ Hid (cntK (l1 list k0 t_9_id t_9_year t_9_town t_9_traits) m_ k1 (held_3l1) (e1 (fun s' => cntK (l0 list) m0 (k0 + 1) s' (e0 list)) k0) = some r) ∧ Hid (Below w.heap.size w wr) ∧ wr.cell? ⟨wr0.heap.size, 0, none⟩ = some (.int .i64 t_9_id) ∧ wr.cell? ⟨wr0.heap.size, 1, none⟩ = some (.int .i64 t_9_year) ∧ wr.cell? ⟨wr0.heap.size, 2, none⟩ = some (.string t_9_town) ∧ wr.cell? ⟨wr0.heap.size, 3, none⟩ = some (.slice Art_9 t_9_traits.length crt_9) ∧ Hid (wr.ownsRow w.heap.size 62 1 (.slice (some ⟨w_t_0.heap.size, 0, none⟩) 100 100) 100 (Go.Proofs.Ytpaakpbbahbhcaa.HelpInt.iv held_3l1)) ∧ Hid (held_3l1.length = 100) ∧ Hid (wr.ownsRow w.heap.size 62 1 (.slice (some ⟨w.heap.size, 0, none⟩) 100 100) 100 (Go.Proofs.Ytpaakpbbahbhcaa.HelpInt.iv vt_0)) ∧ Hid (Apart (some ⟨w_t_0.heap.size, 0, none⟩) (some ⟨w.heap.size, 0, none⟩)) ∧ Hid (Apart (some ⟨w_t_0.heap.size, 0, none⟩) (some ⟨wr0.heap.size, 0, none⟩)))
      case atStart => exact ⟨0, _, by omega, rfl, H, HBw_s_11, ks_11_0, ks_11_1, ks_11_2, ks_11_3, Oheld_3l0, Lib.hid (hnheld_3l0.out), Ot_0, Lib.hid Dheld_3l0_t_0.out, Lib.hid (Apart.symm Ds_11_held_3l0.out)⟩
      case round =>
        obtain ⟨k1, held_3l1, hkm1, rfl, H, HBwr1, ks_11_0, ks_11_1, ks_11_2, ks_11_3, Oheld_3l1, hnheld_3l1, Ot_0, Dheld_3l1_t_0, Dheld_3l1_s_11⟩ := hrel
        rename World => wr1
        cases gk with
        | zero =>
          obtain rfl : k1 = list.length := by omega
          have hc1 : decide (((list.length : Nat) : Int) < ((list.length : Nat) : Int)) = false := by simp
          replace H := cnt_zero H
          unfold e1 at H
          replace H := let_hid H
          obtain ⟨_, rfl, H⟩ := H
          replace H := guard_hid H
          obtain ⟨hgt_36, H⟩ := H
          have b0t_36 : (0 : Int) ≤ (k0 : Int) := by omega
          have b1t_36 : (k0 : Int) < ((10 : Nat) : Int) := by omega
          have b4t_36 : (k0 : Int) < (10 : Int) := by omega
          have b2t_36 : ((k0 : Int)).toNat = k0 := by omega
          have b3t_36 : k0 < 10 := by omega
          replace H := guard_hid H
          obtain ⟨hgt_37, H⟩ := H
          have b0t_37 : (0 : Int) ≤ (k0 : Int) := by omega
          have b1t_37 : (k0 : Int) < ((10 : Nat) : Int) := by omega
          have b4t_37 : (k0 : Int) < (10 : Int) := by omega
          have b2t_37 : ((k0 : Int)).toNat = k0 := by omega
          have b3t_37 : k0 < 10 := by omega
          replace H := let_hid H
          obtain ⟨l38_38, hl38_38, H⟩ := H
          try simp only [Int.toNat_natCast] at hl38_38
          have kzl38_38 : wr1.cell? ⟨w_t_0.heap.size, (k0 * 10 + k0), none⟩ = some (.int .i64 (Go.Proofs.Ytpaakpbbahbhcaa.GoA.nth held_3l1 ((k0 * 10 + k0)))) := Go.Proofs.Ytpaakpbbahbhcaa.GoA.row_at Oheld_3l1.out hnheld_3l1.out ((k0 * 10 + k0)) (by omega)
          obtain ⟨wl38_38, hwl38_38⟩ : ∃ x, (wr1).setCell ⟨w_t_0.heap.size, (k0 * 10 + k0), none⟩ (.int .i64 16) = x := ⟨_, rfl⟩
          have z0l38_38 := Oheld_3l1.out.frozenAt ((k0 * 10 + k0))
          have Sl38_38 := Lib.hid (own_stores [((k0 * 10 + k0), .int .i64 16)] Oheld_3l1.out)
          have nl38_38 : Hid (l38_38.length = 100) := Lib.hid (by rw [← hl38_38, List.length_set]; exact hnheld_3l1.out)
          have Pl38_38 : Hid (wl38_38.ownsRow w.heap.size 62 1 (.slice (some ⟨w_t_0.heap.size, 0, none⟩) 100 100) 100 (Go.Proofs.Ytpaakpbbahbhcaa.HelpInt.iv l38_38)) := Lib.hid (by have e_ : ([((k0 * 10 + k0), .int .i64 16)] : List (Nat × Value)).foldl (fun xs p => xs.set p.1 p.2) (Go.Proofs.Ytpaakpbbahbhcaa.HelpInt.iv held_3l1) = (Go.Proofs.Ytpaakpbbahbhcaa.HelpInt.iv l38_38) := (by rw [← hl38_38]; first | done | simp [Go.Proofs.Ytpaakpbbahbhcaa.HelpInt.iv, List.map_set]); rw [← hwl38_38, ← e_]; exact Sl38_38.out.1)
          have Gl38_38 : Hid (wr1.grownBy wl38_38 (Value.slice (some ⟨w_t_0.heap.size, 0, none⟩) 100 100).ownBlock) := Lib.hid (by rw [← hwl38_38]; exact Sl38_38.out.2)
          have HBwl38_38 := Lib.hid (HBwr1.out.grown Gl38_38.out HBwr1.out.size (fun q hq => (Oheld_3l1.out.lt q hq).1))
          have hhl38_38 := Lib.hid hl38_38
          clear hl38_38 Sl38_38
          have ks_11_0__133 := cell_other ks_11_0 Gl38_38.out Dheld_3l1_s_11.out
          have ks_11_1__134 := cell_other ks_11_1 Gl38_38.out Dheld_3l1_s_11.out
          have ks_11_2__135 := cell_other ks_11_2 Gl38_38.out Dheld_3l1_s_11.out
          have ks_11_3__136 := cell_other ks_11_3 Gl38_38.out Dheld_3l1_s_11.out
          replace Ot_0 := Lib.hid (own_other Ot_0.out Gl38_38.out Dheld_3l1_t_0.out)
          clear Oheld_3l1 Gl38_38
          replace H := app_hid H
          go_wp2_with fail
          clear kzl38_38 z0l38_38 ks_11_0 ks_11_1 ks_11_2 ks_11_3
          go_roundg m0
          case measure => omega
          case rel => exact ⟨k0 + 1, _, by omega, by go_num, H, HBwl38_38, Pl38_38, Lib.hid (nl38_38.out), Ot_0, Lib.hid Dheld_3l1_t_0.out⟩
        | succ m1 =>
          have hlt1 : k1 < list.length := by omega
          have hc1 : decide ((k1 : Int) < ((list.length : Nat) : Int)) = true := by simp; omega
          replace H := cnt_succ H
          unfold l1 at H
          replace H := let_hid H
          obtain ⟨_, rfl, H⟩ := H
          replace H := idx_hid H
          obtain ⟨nt_19, yt_19, et_19, lt_19, gt_19, H⟩ := H
          obtain rfl : k1 = nt_19 := by omega
          clear et_19
          obtain ⟨t_19_id, t_19_year, t_19_town, t_19_traits⟩ := yt_19
          replace H := unSighting_hid H
          obtain ⟨bbt_19, oot_19, zt_19, Art_19, crt_19, eAt_19, zzt_19, hKt_19, hrt_19, hqt_19, hnt_19⟩ := Go.Proofs.Ytpaakpbbahbhcaa.GoV.nest_at M0.out (k := k1) lt_19
          obtain rfl := Option.some.inj (gt_19.out.symm.trans zzt_19)
          clear zzt_19
          simp only [Option.some.injEq, Addr.mk.injEq] at eAt_19
          obtain ⟨rfl, rfl, _⟩ := eAt_19
          have hct_19_0 : w.cell? ⟨bbt_9, oot_9 + k1 * 4, none⟩ = some (.int .i64 t_19_id) := hKt_19 0 _ rfl
          have hct_19_1 : w.cell? ⟨bbt_9, oot_9 + k1 * 4 + 1, none⟩ = some (.int .i64 t_19_year) := hKt_19 1 _ rfl
          have hct_19_2 : w.cell? ⟨bbt_9, oot_9 + k1 * 4 + 2, none⟩ = some (.string t_19_town) := hKt_19 2 _ rfl
          have hct_19_3 : w.cell? ⟨bbt_9, oot_9 + k1 * 4 + 3, none⟩ = some (.slice Art_19 t_19_traits.length crt_19) := hKt_19 3 _ rfl
          clear hKt_19
          have ltt_19 := cell_lt hct_19_0
          replace hct_19_0 := cell_below HBwr1.out hct_19_0
          replace hct_19_1 := cell_below HBwr1.out hct_19_1
          replace hct_19_2 := cell_below HBwr1.out hct_19_2
          replace hct_19_3 := cell_below HBwr1.out hct_19_3
          have Mrt_19 := Lib.hid hrt_19
          have Qrt_19 := Lib.hid hqt_19
          have Nrt_19 := Lib.hid hnt_19
          clear hrt_19 hqt_19 hnt_19
          have b0t_19 : (0 : Int) ≤ (k1 : Int) := by omega
          have b1t_19 : (k1 : Int) < ((list.length : Nat) : Int) := by omega
          have b2t_19 : ((k1 : Int)).toNat = k1 := by omega
          obtain ⟨w_t_21, hw_t_21⟩ : ∃ x, wr1.alloc (.cells #[.int .i64 t_19_id, .int .i64 t_19_year, .string t_19_town, .slice Art_19 t_19_traits.length crt_19] 67) = x := ⟨_, rfl⟩
          have bw_t_21 : Below wr1.heap.size wr1 w_t_21 := by rw [← hw_t_21]; exact (Below.refl _ _).alloc (Nat.le_refl _) _
          have Dt_21_t_0 := Lib.hid (apart_fresh Ot_0.out)
          have Dt_21_held_3l1 := Lib.hid (apart_fresh Oheld_3l1.out)
          have HBw_t_21 := Lib.hid (Below.step HBwr1.out bw_t_21)
          have ks_11_0__137 := cell_below bw_t_21 ks_11_0
          have ks_11_1__138 := cell_below bw_t_21 ks_11_1
          have ks_11_2__139 := cell_below bw_t_21 ks_11_2
          have ks_11_3__140 := cell_below bw_t_21 ks_11_3
          have hct_19_0__141 := cell_below bw_t_21 hct_19_0
          have hct_19_1__142 := cell_below bw_t_21 hct_19_1
          have hct_19_2__143 := cell_below bw_t_21 hct_19_2
          have hct_19_3__144 := cell_below bw_t_21 hct_19_3
          replace Ot_0 := Lib.hid (own_below Ot_0.out bw_t_21)
          replace Oheld_3l1 := Lib.hid (own_below Oheld_3l1.out bw_t_21)
          clear bw_t_21
          have kt_21_0 : w_t_21.cell? ⟨wr1.heap.size, 0, none⟩ = some (.int .i64 t_19_id) := by rw [← hw_t_21]; exact box_new _ _ _ 0 _ rfl
          have kt_21_1 : w_t_21.cell? ⟨wr1.heap.size, 1, none⟩ = some (.int .i64 t_19_year) := by rw [← hw_t_21]; exact box_new _ _ _ 1 _ rfl
          have kt_21_2 : w_t_21.cell? ⟨wr1.heap.size, 2, none⟩ = some (.string t_19_town) := by rw [← hw_t_21]; exact box_new _ _ _ 2 _ rfl
          have kt_21_3 : w_t_21.cell? ⟨wr1.heap.size, 3, none⟩ = some (.slice Art_19 t_19_traits.length crt_19) := by rw [← hw_t_21]; exact box_new _ _ _ 3 _ rfl
          go_wp2_with fail
          clear ks_11_0 ks_11_1 ks_11_2 ks_11_3 hct_19_0 hct_19_1 hct_19_2 hct_19_3
          have bd8 : Below w_t_21.heap.size w_t_21 w_t_21.drew := (Below.refl _ _).drew
          have HBw_t_21.drew := Lib.hid (Below.step HBw_t_21.out bd8)
          replace ks_11_0__137 := cell_below bd8 ks_11_0__137
          replace ks_11_1__138 := cell_below bd8 ks_11_1__138
          replace ks_11_2__139 := cell_below bd8 ks_11_2__139
          replace ks_11_3__140 := cell_below bd8 ks_11_3__140
          replace hct_19_0__141 := cell_below bd8 hct_19_0__141
          replace hct_19_1__142 := cell_below bd8 hct_19_1__142
          replace hct_19_2__143 := cell_below bd8 hct_19_2__143
          replace hct_19_3__144 := cell_below bd8 hct_19_3__144
          replace kt_21_0 := cell_below bd8 kt_21_0
          replace kt_21_1 := cell_below bd8 kt_21_1
          replace kt_21_2 := cell_below bd8 kt_21_2
          replace kt_21_3 := cell_below bd8 kt_21_3
          replace Ot_0 := Lib.hid (own_below Ot_0.out bd8)
          replace Oheld_3l1 := Lib.hid (own_below Oheld_3l1.out bd8)
          clear bd8
          replace H := bind_hid H
          obtain ⟨t_28, qt_28, H⟩ := H
          replace H := guard_hid H
          obtain ⟨hgt_29, H⟩ := H
          have b0t_29 : (0 : Int) ≤ (k0 : Int) := by omega
          have b1t_29 : (k0 : Int) < ((10 : Nat) : Int) := by omega
          have b4t_29 : (k0 : Int) < (10 : Int) := by omega
          have b2t_29 : ((k0 : Int)).toNat = k0 := by omega
          have b3t_29 : k0 < 10 := by omega
          replace H := guard_hid H
          obtain ⟨hgt_30, H⟩ := H
          have b0t_30 : (0 : Int) ≤ (k1 : Int) := by omega
          have b1t_30 : (k1 : Int) < ((10 : Nat) : Int) := by omega
          have b4t_30 : (k1 : Int) < (10 : Int) := by omega
          have b2t_30 : ((k1 : Int)).toNat = k1 := by omega
          have b3t_30 : k1 < 10 := by omega
          replace H := let_hid H
          obtain ⟨l31_31, hl31_31, H⟩ := H
          try simp only [Int.toNat_natCast] at hl31_31
          have hhl31_31 := Lib.hid hl31_31
          clear hl31_31
          refine wp_region_held_drew (S := fun w' => w'.cell? ⟨wr0.heap.size, 0, none⟩ = some (.int .i64 t_9_id) ∧ w'.cell? ⟨wr0.heap.size, 1, none⟩ = some (.int .i64 t_9_year) ∧ w'.cell? ⟨wr0.heap.size, 2, none⟩ = some (.string t_9_town) ∧ w'.cell? ⟨wr0.heap.size, 3, none⟩ = some (.slice Art_9 t_9_traits.length crt_9) ∧ w'.cell? ⟨bbt_9, oot_9 + k1 * 4, none⟩ = some (.int .i64 t_19_id) ∧ w'.cell? ⟨bbt_9, oot_9 + k1 * 4 + 1, none⟩ = some (.int .i64 t_19_year) ∧ w'.cell? ⟨bbt_9, oot_9 + k1 * 4 + 2, none⟩ = some (.string t_19_town) ∧ w'.cell? ⟨bbt_9, oot_9 + k1 * 4 + 3, none⟩ = some (.slice Art_19 t_19_traits.length crt_19) ∧ w'.cell? ⟨wr1.heap.size, 0, none⟩ = some (.int .i64 t_19_id) ∧ w'.cell? ⟨wr1.heap.size, 1, none⟩ = some (.int .i64 t_19_year) ∧ w'.cell? ⟨wr1.heap.size, 2, none⟩ = some (.string t_19_town) ∧ w'.cell? ⟨wr1.heap.size, 3, none⟩ = some (.slice Art_19 t_19_traits.length crt_19) ∧ Hid (0 ≤ w'.heap.size)) (by kernel_rfl) ⟨ks_11_0__137, ks_11_1__138, ks_11_2__139, ks_11_3__140, hct_19_0__141, hct_19_1__142, hct_19_2__143, hct_19_3__144, kt_21_0, kt_21_1, kt_21_2, kt_21_3, Lib.hid (Nat.zero_le _)⟩ (fun hHeld => ?_)
          refine wpAnyH_take (i := 0) (oi := _) (v := ?_) rfl (by kernel_rfl) (by kernel_rfl) (by kernel_rfl) (fun _ _ _ h => h) (Or.inl ⟨by rfl, ?_⟩) (by assumption) ?_
          rotate_left
          · intro w hSw
            (try dsimp only at hSw)
            (try simp only [List.getElem_toArray, List.getElem_cons_zero, List.getElem_cons_succ])
            go_simp
            (try with_reducible rfl)
          try simp only [Act.put, List.getElem_toArray, List.getElem_cons_zero, List.getElem_cons_succ, List.setIfInBounds_toArray, List.set_cons_zero, List.set_cons_succ]
          refine wpAnyH_take (i := 1) (oi := _) (v := ?_) rfl (by kernel_rfl) (by kernel_rfl) (by kernel_rfl) (fun _ _ _ h => h) (Or.inl ⟨by rfl, ?_⟩) (by assumption) ?_
          rotate_left
          · intro w hSw
            (try dsimp only at hSw)
            (try simp only [List.getElem_toArray, List.getElem_cons_zero, List.getElem_cons_succ])
            go_simp
            (try with_reducible rfl)
          try simp only [Act.put, List.getElem_toArray, List.getElem_cons_zero, List.getElem_cons_succ, List.setIfInBounds_toArray, List.set_cons_zero, List.set_cons_succ]
          refine wpAnyH_take (i := 2) (oi := _) (v := ?_) rfl (by kernel_rfl) (by kernel_rfl) (by kernel_rfl) (fun _ _ _ h => h) (Or.inl ⟨by rfl, ?_⟩) (by assumption) ?_
          rotate_left
          · intro w hSw
            (try dsimp only at hSw)
            (try simp only [List.getElem_toArray, List.getElem_cons_zero, List.getElem_cons_succ])
            go_simp
            (try with_reducible rfl)
          try simp only [Act.put, List.getElem_toArray, List.getElem_cons_zero, List.getElem_cons_succ, List.setIfInBounds_toArray, List.set_cons_zero, List.set_cons_succ]
          refine wpAnyH_take (i := 3) (oi := _) (v := ?_) rfl (by kernel_rfl) (by kernel_rfl) (by kernel_rfl) (fun _ _ _ h => h) (Or.inl ⟨by rfl, ?_⟩) (by assumption) ?_
          rotate_left
          · intro w hSw
            (try dsimp only at hSw)
            (try simp only [List.getElem_toArray, List.getElem_cons_zero, List.getElem_cons_succ])
            go_simp
            (try with_reducible rfl)
          try simp only [Act.put, List.getElem_toArray, List.getElem_cons_zero, List.getElem_cons_succ, List.setIfInBounds_toArray, List.set_cons_zero, List.set_cons_succ]
          refine wpAnyH_take (i := 5) (oi := _) (v := ?_) rfl (by kernel_rfl) (by kernel_rfl) (by kernel_rfl) (fun _ _ _ h => h) (Or.inl ⟨by rfl, ?_⟩) (by assumption) ?_
          rotate_left
          · intro w hSw
            (try dsimp only at hSw)
            (try simp only [List.getElem_toArray, List.getElem_cons_zero, List.getElem_cons_succ])
            go_simp
            (try with_reducible rfl)
          try simp only [Act.put, List.getElem_toArray, List.getElem_cons_zero, List.getElem_cons_succ, List.setIfInBounds_toArray, List.set_cons_zero, List.set_cons_succ]
          refine wpAnyH_ready (rs := [4]) (by kernel_rfl) (by simp) ?_
          refine AllReadyH.cons (o := _) rfl (fun K_ hK_ => ?_) AllReadyH.nil
          (try simp only [List.getElem_toArray, List.getElem_cons_zero, List.getElem_cons_succ])
          go_simp
          go_at_call 59
          refine (Go.Proofs.Ytpaakpbbahbhcaa.GiEvidence.C (t_9_id) (t_9_year) (t_9_town) (t_9_traits) (t_19_id) (t_19_year) (t_19_town) (t_19_traits) Art_9 crt_9 Art_19 crt_19 _   (Lib.hid (Cells.below Mrt_9.out HBw_t_21.drew.out)) Nrt_9 (Lib.hid (Cells.below Mrt_19.out HBw_t_21.drew.out)) Nrt_19 qt_28).mono ?_
          rintro e_t_28 wt_28 ⟨rfl, bt_28⟩
          have HBwt_28 := Lib.hid (Below.step HBw_t_21.drew.out bt_28)
          replace ks_11_0__137 := cell_below bt_28 ks_11_0__137
          replace ks_11_1__138 := cell_below bt_28 ks_11_1__138
          replace ks_11_2__139 := cell_below bt_28 ks_11_2__139
          replace ks_11_3__140 := cell_below bt_28 ks_11_3__140
          replace hct_19_0__141 := cell_below bt_28 hct_19_0__141
          replace hct_19_1__142 := cell_below bt_28 hct_19_1__142
          replace hct_19_2__143 := cell_below bt_28 hct_19_2__143
          replace hct_19_3__144 := cell_below bt_28 hct_19_3__144
          replace kt_21_0 := cell_below bt_28 kt_21_0
          replace kt_21_1 := cell_below bt_28 kt_21_1
          replace kt_21_2 := cell_below bt_28 kt_21_2
          replace kt_21_3 := cell_below bt_28 kt_21_3
          replace Ot_0 := Lib.hid (own_below Ot_0.out bt_28)
          replace Oheld_3l1 := Lib.hid (own_below Oheld_3l1.out bt_28)
          clear bt_28
          clear qt_28
          first | refine hK_.out _ _ ⟨ks_11_0__137, ks_11_1__138, ks_11_2__139, ks_11_3__140, hct_19_0__141, hct_19_1__142, hct_19_2__143, hct_19_3__144, kt_21_0, kt_21_1, kt_21_2, kt_21_3, Lib.hid (Nat.zero_le _)⟩ (fun hHeld => ?_) | (go_wp2_with fail; refine hK_.out _ _ ⟨ks_11_0__137, ks_11_1__138, ks_11_2__139, ks_11_3__140, hct_19_0__141, hct_19_1__142, hct_19_2__143, hct_19_3__144, kt_21_0, kt_21_1, kt_21_2, kt_21_3, Lib.hid (Nat.zero_le _)⟩ (fun hHeld => ?_))
          clear hK_ K_
          try simp only [Act.put, List.getElem_toArray, List.getElem_cons_zero, List.getElem_cons_succ, List.setIfInBounds_toArray, List.set_cons_zero, List.set_cons_succ]
          refine wpAnyH_take (i := 6) (oi := _) (v := ?_) rfl (by kernel_rfl) (by kernel_rfl) (by kernel_rfl) (fun _ _ _ h => h) (Or.inl ⟨by rfl, ?_⟩) (by assumption) ?_
          rotate_left
          · intro w hSw
            (try dsimp only at hSw)
            (try simp only [List.getElem_toArray, List.getElem_cons_zero, List.getElem_cons_succ])
            go_simp
            (try with_reducible rfl)
          try simp only [Act.put, List.getElem_toArray, List.getElem_cons_zero, List.getElem_cons_succ, List.setIfInBounds_toArray, List.set_cons_zero, List.set_cons_succ]
          refine wpAnyH_ready (rs := [7]) (by kernel_rfl) (by simp) ?_
          refine AllReadyH.cons (o := _) rfl (fun K_ hK_ => ?_) AllReadyH.nil
          have hl31_31 := hhl31_31.out
          have kzl31_31 : wt_28.cell? ⟨w_t_0.heap.size, (k0 * 10 + k1), none⟩ = some (.int .i64 (Go.Proofs.Ytpaakpbbahbhcaa.GoA.nth held_3l1 ((k0 * 10 + k1)))) := Go.Proofs.Ytpaakpbbahbhcaa.GoA.row_at Oheld_3l1.out hnheld_3l1.out ((k0 * 10 + k1)) (by omega)
          obtain ⟨wl31_31, hwl31_31⟩ : ∃ x, (wt_28).setCell ⟨w_t_0.heap.size, (k0 * 10 + k1), none⟩ (.int .i64 t_28) = x := ⟨_, rfl⟩
          have z0l31_31 := Oheld_3l1.out.frozenAt ((k0 * 10 + k1))
          have Sl31_31 := Lib.hid (own_stores [((k0 * 10 + k1), .int .i64 t_28)] Oheld_3l1.out)
          have nl31_31 : Hid (l31_31.length = 100) := Lib.hid (by rw [← hl31_31, List.length_set]; exact hnheld_3l1.out)
          have Pl31_31 : Hid (wl31_31.ownsRow w.heap.size 62 1 (.slice (some ⟨w_t_0.heap.size, 0, none⟩) 100 100) 100 (Go.Proofs.Ytpaakpbbahbhcaa.HelpInt.iv l31_31)) := Lib.hid (by have e_ : ([((k0 * 10 + k1), .int .i64 t_28)] : List (Nat × Value)).foldl (fun xs p => xs.set p.1 p.2) (Go.Proofs.Ytpaakpbbahbhcaa.HelpInt.iv held_3l1) = (Go.Proofs.Ytpaakpbbahbhcaa.HelpInt.iv l31_31) := (by rw [← hl31_31]; first | done | simp [Go.Proofs.Ytpaakpbbahbhcaa.HelpInt.iv, List.map_set]); rw [← hwl31_31, ← e_]; exact Sl31_31.out.1)
          have Gl31_31 : Hid (wt_28.grownBy wl31_31 (Value.slice (some ⟨w_t_0.heap.size, 0, none⟩) 100 100).ownBlock) := Lib.hid (by rw [← hwl31_31]; exact Sl31_31.out.2)
          have HBwl31_31 := Lib.hid (HBwt_28.out.grown Gl31_31.out HBwt_28.out.size (fun q hq => (Oheld_3l1.out.lt q hq).1))
          clear hl31_31 Sl31_31
          have ks_11_0__145 := cell_other ks_11_0__137 Gl31_31.out Dheld_3l1_s_11.out
          have ks_11_1__146 := cell_other ks_11_1__138 Gl31_31.out Dheld_3l1_s_11.out
          have ks_11_2__147 := cell_other ks_11_2__139 Gl31_31.out Dheld_3l1_s_11.out
          have ks_11_3__148 := cell_other ks_11_3__140 Gl31_31.out Dheld_3l1_s_11.out
          have hct_19_0__149 := cell_other hct_19_0__141 Gl31_31.out (apart_old Oheld_3l1.out ltt_19)
          have hct_19_1__150 := cell_other hct_19_1__142 Gl31_31.out (apart_old Oheld_3l1.out ltt_19)
          have hct_19_2__151 := cell_other hct_19_2__143 Gl31_31.out (apart_old Oheld_3l1.out ltt_19)
          have hct_19_3__152 := cell_other hct_19_3__144 Gl31_31.out (apart_old Oheld_3l1.out ltt_19)
          have kt_21_0__153 := cell_other kt_21_0 Gl31_31.out (Apart.symm Dt_21_held_3l1.out)
          have kt_21_1__154 := cell_other kt_21_1 Gl31_31.out (Apart.symm Dt_21_held_3l1.out)
          have kt_21_2__155 := cell_other kt_21_2 Gl31_31.out (Apart.symm Dt_21_held_3l1.out)
          have kt_21_3__156 := cell_other kt_21_3 Gl31_31.out (Apart.symm Dt_21_held_3l1.out)
          replace Ot_0 := Lib.hid (own_other Ot_0.out Gl31_31.out Dheld_3l1_t_0.out)
          clear Oheld_3l1 Gl31_31
          (try simp only [List.getElem_toArray, List.getElem_cons_zero, List.getElem_cons_succ])
          go_simp
          first | refine hK_.out _ _ ⟨ks_11_0__145, ks_11_1__146, ks_11_2__147, ks_11_3__148, hct_19_0__149, hct_19_1__150, hct_19_2__151, hct_19_3__152, kt_21_0__153, kt_21_1__154, kt_21_2__155, kt_21_3__156, Lib.hid (Nat.zero_le _)⟩ (fun hHeld => ?_) | (go_wp2_with fail; refine hK_.out _ _ ⟨ks_11_0__145, ks_11_1__146, ks_11_2__147, ks_11_3__148, hct_19_0__149, hct_19_1__150, hct_19_2__151, hct_19_3__152, kt_21_0__153, kt_21_1__154, kt_21_2__155, kt_21_3__156, Lib.hid (Nat.zero_le _)⟩ (fun hHeld => ?_))
          clear hK_ K_
          try simp only [Act.put, List.getElem_toArray, List.getElem_cons_zero, List.getElem_cons_succ, List.setIfInBounds_toArray, List.set_cons_zero, List.set_cons_succ]
          refine wpAnyH_done (by kernel_rfl) ?_ _
          try clear kzl31_31
          try clear z0l31_31
          try clear ks_11_0__137
          try clear ks_11_1__138
          try clear ks_11_2__139
          try clear ks_11_3__140
          try clear hct_19_0__141
          try clear hct_19_1__142
          try clear hct_19_2__143
          try clear hct_19_3__144
          try clear kt_21_0
          try clear kt_21_1
          try clear kt_21_2
          try clear kt_21_3
          replace H := app_hid H
          go_wp2_with fail
          go_roundg m1
          case measure => omega
          case rel => exact ⟨k1 + 1, _, by omega, by go_num, H, HBwl31_31, ks_11_0__145, ks_11_1__146, ks_11_2__147, ks_11_3__148, Pl31_31, Lib.hid (nl31_31.out), Ot_0, Lib.hid Dheld_3l1_t_0.out, Lib.hid Dheld_3l1_s_11.out⟩
end Go.Proofs.Ytpaakpbbahbhcaa.GiBondsOf

/- loop.example/g01062/impl.coverOf as a plain function, and the contract of the program's: where the plain one has an answer, the program has it. Conditions: slices read as lists. -/
namespace Go.Proofs.Ytpaakpbbahbhcaa.GiCoverOf
set_option linter.unusedVariables false
set_option linter.unusedSimpArgs false
open Go.RowKit
open Go.Proofs.Ytpaakpbbahbhcaa.Rowed Go.Proofs.Ytpaakpbbahbhcaa.Turn Go.Proofs.Ytpaakpbbahbhcaa.Aid Go.Proofs.Ytpaakpbbahbhcaa.GoP Go.Proofs.Ytpaakpbbahbhcaa.GoM

def l0 (list : (List Go.Proofs.Ytpaakpbbahbhcaa.PSighting.Sighting)) (limit : Int) (vheld_0 : (List Int)) (k0 : Nat) (s : (List Go.Proofs.Ytpaakpbbahbhcaa.PSighting.Sighting)) (nx0 bk0 : (List Go.Proofs.Ytpaakpbbahbhcaa.PSighting.Sighting) → Option ((List Go.Proofs.Ytpaakpbbahbhcaa.PSighting.Sighting))) : Option ((List Go.Proofs.Ytpaakpbbahbhcaa.PSighting.Sighting)) :=
  letK s fun cover_7l0 =>
  Option.bind (idx list (k0 : Int)) fun (yt_9 : Go.Proofs.Ytpaakpbbahbhcaa.PSighting.Sighting) =>
  unSighting yt_9 fun (t_9_id : Int) (t_9_year : Int) (t_9_town : ByteArray) (t_9_traits : (List Int)) =>
  Option.bind (idx vheld_0 (k0 : Int)) fun (yt_15 : Int) =>
  letK (decide (limit ≤ yt_15)) fun (t_18 : Bool) =>
  iteK t_18
  (guardK (cover_7l0.length ≤ 1099511627776) <|
  letK (cover_7l0 ++ [(Go.Proofs.Ytpaakpbbahbhcaa.PSighting.Sighting.mk t_9_id t_9_year t_9_town t_9_traits)]) fun (t_22 : (List Go.Proofs.Ytpaakpbbahbhcaa.PSighting.Sighting)) =>
  appK nx0 (t_22))
  (appK nx0 (cover_7l0))

def e0  (s : (List Go.Proofs.Ytpaakpbbahbhcaa.PSighting.Sighting)) : Option ((List Go.Proofs.Ytpaakpbbahbhcaa.PSighting.Sighting)) :=
  letK s fun cover_7l0 =>
  some cover_7l0

def P (list : (List Go.Proofs.Ytpaakpbbahbhcaa.PSighting.Sighting)) (held : Go.Proofs.Ytpaakpbbahbhcaa.PIntA10.IntA10) (limit : Int) : Option ((List Go.Proofs.Ytpaakpbbahbhcaa.PSighting.Sighting)) :=
  unIntA10 held fun (held_x0 : Int) (held_x1 : Int) (held_x2 : Int) (held_x3 : Int) (held_x4 : Int) (held_x5 : Int) (held_x6 : Int) (held_x7 : Int) (held_x8 : Int) (held_x9 : Int) =>
  letK ([held_x0, held_x1, held_x2, held_x3, held_x4, held_x5, held_x6, held_x7, held_x8, held_x9]) fun (vheld_0 : (List Int)) =>
  cntK (l0 list limit vheld_0) (list.length) 0 (([] : List Go.Proofs.Ytpaakpbbahbhcaa.PSighting.Sighting)) (e0 )

set_option maxRecDepth 100000 in
set_option maxHeartbeats 2000000 in
theorem C (list : (List Go.Proofs.Ytpaakpbbahbhcaa.PSighting.Sighting)) (held : Go.Proofs.Ytpaakpbbahbhcaa.PIntA10.IntA10) (limit : Int) (A0 : Option Addr) (c0 : Nat)  (v_ : World) (w : World) (HV : Hid (Below v_.heap.size v_ w)) (M0 : Hid (Go.Proofs.Ytpaakpbbahbhcaa.GoV.ReadNest v_ Go.Proofs.Ytpaakpbbahbhcaa.GoVSighting.lay A0 list)) (N0 : Hid (list.length ≤ 9223372036854775807)) (Q0 : Hid (Room A0 list.length c0))  {r : (List Go.Proofs.Ytpaakpbbahbhcaa.PSighting.Sighting)} (H : Hid (P list held limit = some r)) :
    Calls Try.prog 62 #[.slice A0 list.length c0, held.val, .int .i64 limit] w (fun e w' => ∃ A_r c_r, e = .returned (.slice A_r r.length c_r) ∧ (∃ B_, Go.Proofs.Ytpaakpbbahbhcaa.GoV.PartNest w' v_ (w.heap.size) 67 3 Go.Proofs.Ytpaakpbbahbhcaa.GoVSighting.lay (fun _ => false) A_r c_r r B_) ∧ Below w.heap.size w w') := by
  have HB := Lib.hid (Below.refl w.heap.size w)
  unfold P at H
  obtain ⟨held_x0, held_x1, held_x2, held_x3, held_x4, held_x5, held_x6, held_x7, held_x8, held_x9⟩ := held
  replace H := unIntA10_hid H
  unfold Go.Proofs.Ytpaakpbbahbhcaa.PIntA10.IntA10.val
  have N0o := N0.out
  obtain ⟨i0_67, hi_67, hz0_67, hz1_67, hz2_67⟩ := Aid.info_parts (P := Try.prog) (T := 67) (z := .agg #[.int .i64 0, .int .i64 0, .string ByteArray.empty, .slice none 0 0]) (s := 4) (b := 56) (by kernel_rfl)
  go_enter Try.func62, Try.ntmps62
  replace H := let_hid H
  obtain ⟨vheld_0, hvheld_0, H⟩ := H
  obtain ⟨w_held_0, hw_held_0⟩ : ∃ x, w.alloc (.cells #[.int .i64 held_x0, .int .i64 held_x1, .int .i64 held_x2, .int .i64 held_x3, .int .i64 held_x4, .int .i64 held_x5, .int .i64 held_x6, .int .i64 held_x7, .int .i64 held_x8, .int .i64 held_x9] 61) = x := ⟨_, rfl⟩
  have bw_held_0 : Below w.heap.size w w_held_0 := by rw [← hw_held_0]; exact (Below.refl _ _).alloc (Nat.le_refl _) _
  have hs_held_0 := HB.out.size
  have nheld_0 : vheld_0.length = 10 := by rw [← hvheld_0]; rfl
  have Oheld_0 : Hid (w_held_0.ownsRow w.heap.size 61 1 (.slice (some ⟨w.heap.size, 0, none⟩) 10 10) 10 (Go.Proofs.Ytpaakpbbahbhcaa.HelpInt.iv vheld_0)) := by
    rw [← hw_held_0, ← hvheld_0]
    have e_ : ([.int .i64 held_x0, .int .i64 held_x1, .int .i64 held_x2, .int .i64 held_x3, .int .i64 held_x4, .int .i64 held_x5, .int .i64 held_x6, .int .i64 held_x7, .int .i64 held_x8, .int .i64 held_x9] : List Value) = Go.Proofs.Ytpaakpbbahbhcaa.HelpInt.iv [held_x0, held_x1, held_x2, held_x3, held_x4, held_x5, held_x6, held_x7, held_x8, held_x9] := rfl
    exact Lib.hid (own_laid (n := 10) hs_held_0 e_ rfl (by unfold maxLen; omega))
  clear hs_held_0
  have hhheld_0 := Lib.hid hvheld_0
  clear hvheld_0
  replace nheld_0 := Lib.hid nheld_0
  have HBw_held_0 := Lib.hid (Below.step HB.out bw_held_0)
  clear bw_held_0
  obtain ⟨w_t_2, hw_t_2⟩ : ∃ x, w_held_0.alloc (.cells #[] 67) = x := ⟨_, rfl⟩
  have bw_t_2 : Below w_held_0.heap.size w_held_0 w_t_2 := by rw [← hw_t_2]; exact (Below.refl _ _).alloc (Nat.le_refl _) _
  have Ot_2 : Hid (Go.Proofs.Ytpaakpbbahbhcaa.GoV.PartNest w_t_2 v_ (w.heap.size) 67 3 Go.Proofs.Ytpaakpbbahbhcaa.GoVSighting.lay (fun _ => false) (some ⟨w_held_0.heap.size, 0, none⟩) 0 ([] : List Go.Proofs.Ytpaakpbbahbhcaa.PSighting.Sighting) [some ⟨w_held_0.heap.size, 0, none⟩]) := Lib.hid (by rw [← hw_t_2]; exact Go.Proofs.Ytpaakpbbahbhcaa.GoV.part_empty HBw_held_0.out.size)
  have Dt_2_held_0 := Lib.hid (Go.Proofs.Ytpaakpbbahbhcaa.GoN.nest_one (apart_fresh Oheld_0.out))
  have HBw_t_2 := Lib.hid (Below.step HBw_held_0.out bw_t_2)
  replace Oheld_0 := Lib.hid (own_below Oheld_0.out bw_t_2)
  clear bw_t_2
  go_wp2_with fail
  go_loopg [13, 7] (list.length) (fun m_ v13_ v7_ wr => ∃ (k0 : Nat) (cover_7l0 : (List Go.Proofs.Ytpaakpbbahbhcaa.PSighting.Sighting)) (Acover_7l0 : Option Addr) (ccover_7l0 : Nat) (Bcover_7l0 : List (Option Addr)), k0 + m_ = list.length ∧ v13_ = .int .i64 (k0 : Int) ∧ v7_ = .slice Acover_7l0 cover_7l0.length ccover_7l0 ∧ Hid (cntK (l0 list limit vheld_0) m_ k0 (cover_7l0) (e0 ) = some r) ∧ Hid (Below w.heap.size w wr) ∧ Hid (Go.Proofs.Ytpaakpbbahbhcaa.GoV.PartNest wr v_ (w.heap.size) 67 3 Go.Proofs.Ytpaakpbbahbhcaa.GoVSighting.lay (fun _ => false) Acover_7l0 ccover_7l0 cover_7l0 Bcover_7l0) ∧ Hid (wr.ownsRow w.heap.size 61 1 (.slice (some ⟨w.heap.size, 0, none⟩) 10 10) 10 (Go.Proofs.Ytpaakpbbahbhcaa.HelpInt.iv vheld_0)) ∧ Hid (∀ y_ ∈ Bcover_7l0, Apart (some ⟨w.heap.size, 0, none⟩) y_))
  case atStart => exact ⟨0, _, _, _, _, by omega, rfl, rfl, H, HBw_t_2, Ot_2, Oheld_0, Lib.hid Dt_2_held_0.out⟩
  case round =>
    obtain ⟨k0, cover_7l0, Acover_7l0, ccover_7l0, Bcover_7l0, hkm0, rfl, rfl, H, HBwr0, Ocover_7l0, Oheld_0, Dheld_0_cover_7l0⟩ := hrel
    rename World => wr0
    cases gk with
    | zero =>
      obtain rfl : k0 = list.length := by omega
      have hc0 : decide (((list.length : Nat) : Int) < ((list.length : Nat) : Int)) = false := by simp
      replace H := cnt_zero H
      unfold e0 at H
      replace H := let_hid H
      obtain ⟨_, rfl, H⟩ := H
      obtain rfl := ret_hid H
      go_wp2_with fail
      go_ret
      exact ⟨Acover_7l0, ccover_7l0, rfl, ⟨_, Ocover_7l0.out⟩, HBwr0.out⟩
    | succ m0 =>
      have hlt0 : k0 < list.length := by omega
      have hc0 : decide ((k0 : Int) < ((list.length : Nat) : Int)) = true := by simp; omega
      replace H := cnt_succ H
      unfold l0 at H
      replace H := let_hid H
      obtain ⟨_, rfl, H⟩ := H
      replace H := idx_hid H
      obtain ⟨nt_9, yt_9, et_9, lt_9, gt_9, H⟩ := H
      obtain rfl : k0 = nt_9 := by omega
      clear et_9
      obtain ⟨t_9_id, t_9_year, t_9_town, t_9_traits⟩ := yt_9
      replace H := unSighting_hid H
      obtain ⟨bbt_9, oot_9, zt_9, Art_9, crt_9, eAt_9, zzt_9, hKt_9, hrt_9, hqt_9, hnt_9⟩ := Go.Proofs.Ytpaakpbbahbhcaa.GoV.nest_at M0.out (k := k0) lt_9
      obtain rfl := Option.some.inj (gt_9.out.symm.trans zzt_9)
      clear zzt_9
      subst eAt_9
      have hct_9_0 : v_.cell? ⟨bbt_9, oot_9 + k0 * 4, none⟩ = some (.int .i64 t_9_id) := hKt_9 0 _ rfl
      have hct_9_1 : v_.cell? ⟨bbt_9, oot_9 + k0 * 4 + 1, none⟩ = some (.int .i64 t_9_year) := hKt_9 1 _ rfl
      have hct_9_2 : v_.cell? ⟨bbt_9, oot_9 + k0 * 4 + 2, none⟩ = some (.string t_9_town) := hKt_9 2 _ rfl
      have hct_9_3 : v_.cell? ⟨bbt_9, oot_9 + k0 * 4 + 3, none⟩ = some (.slice Art_9 t_9_traits.length crt_9) := hKt_9 3 _ rfl
      clear hKt_9
      have ltt_9 := Nat.lt_of_lt_of_le (cell_lt hct_9_0) HV.out.size
      replace hct_9_0 := cell_below (Below.step HV.out HBwr0.out) hct_9_0
      replace hct_9_1 := cell_below (Below.step HV.out HBwr0.out) hct_9_1
      replace hct_9_2 := cell_below (Below.step HV.out HBwr0.out) hct_9_2
      replace hct_9_3 := cell_below (Below.step HV.out HBwr0.out) hct_9_3
      have Mrt_9 := Lib.hid hrt_9
      have Qrt_9 := Lib.hid hqt_9
      have Nrt_9 := Lib.hid hnt_9
      clear hrt_9 hqt_9 hnt_9
      have b0t_9 : (0 : Int) ≤ (k0 : Int) := by omega
      have b1t_9 : (k0 : Int) < ((list.length : Nat) : Int) := by omega
      have b2t_9 : ((k0 : Int)).toNat = k0 := by omega
      obtain ⟨w_s_11, hw_s_11⟩ : ∃ x, wr0.alloc (.cells #[.int .i64 t_9_id, .int .i64 t_9_year, .string t_9_town, .slice Art_9 t_9_traits.length crt_9] 67) = x := ⟨_, rfl⟩
      have bw_s_11 : Below wr0.heap.size wr0 w_s_11 := by rw [← hw_s_11]; exact (Below.refl _ _).alloc (Nat.le_refl _) _
      have Ds_11_held_0 := Lib.hid (apart_fresh Oheld_0.out)
      have Ds_11_cover_7l0 := Lib.hid (Go.Proofs.Ytpaakpbbahbhcaa.GoV.part_fresh Ocover_7l0.out)
      have HBw_s_11 := Lib.hid (Below.step HBwr0.out bw_s_11)
      have hct_9_0__157 := cell_below bw_s_11 hct_9_0
      have hct_9_1__158 := cell_below bw_s_11 hct_9_1
      have hct_9_2__159 := cell_below bw_s_11 hct_9_2
      have hct_9_3__160 := cell_below bw_s_11 hct_9_3
      replace Oheld_0 := Lib.hid (own_below Oheld_0.out bw_s_11)
      replace Ocover_7l0 := Lib.hid (Go.Proofs.Ytpaakpbbahbhcaa.GoV.part_below Ocover_7l0.out bw_s_11)
      clear bw_s_11
      have ks_11_0 : w_s_11.cell? ⟨wr0.heap.size, 0, none⟩ = some (.int .i64 t_9_id) := by rw [← hw_s_11]; exact box_new _ _ _ 0 _ rfl
      have ks_11_1 : w_s_11.cell? ⟨wr0.heap.size, 1, none⟩ = some (.int .i64 t_9_year) := by rw [← hw_s_11]; exact box_new _ _ _ 1 _ rfl
      have ks_11_2 : w_s_11.cell? ⟨wr0.heap.size, 2, none⟩ = some (.string t_9_town) := by rw [← hw_s_11]; exact box_new _ _ _ 2 _ rfl
      have ks_11_3 : w_s_11.cell? ⟨wr0.heap.size, 3, none⟩ = some (.slice Art_9 t_9_traits.length crt_9) := by rw [← hw_s_11]; exact box_new _ _ _ 3 _ rfl
      replace H := idx_hid H
      obtain ⟨nt_15, yt_15, et_15, lt_15, gt_15, H⟩ := H
      obtain rfl : k0 = nt_15 := by omega
      clear et_15
      have hqt_15 := nheld_0.out
      obtain ⟨ab_t_15, ao_t_15, zt_15, At_15, z_t_15, ct_15_0⟩ := Go.Proofs.Ytpaakpbbahbhcaa.HelpInt.Ints.at_ (own_cells Oheld_0.out) (k := k0) (by omega)
      obtain rfl := Option.some.inj (gt_15.out.symm.trans z_t_15)
      simp only [Option.some.injEq, Addr.mk.injEq] at At_15
      obtain ⟨rfl, rfl, _⟩ := At_15
      clear z_t_15
      simp only [Nat.zero_add] at ct_15_0
      have b0t_15 : (0 : Int) ≤ (k0 : Int) := by omega
      have b1t_15 : (k0 : Int) < ((10 : Nat) : Int) := by omega
      have b2t_15 : ((k0 : Int)).toNat = k0 := by omega
      clear hqt_15
      have b3t_15 : k0 < 10 := by have h_ := lt_15; have hn_ := nheld_0.out; omega
      have b4t_15 : (k0 : Int) < (10 : Int) := by omega
      replace H := let_hid H
      obtain ⟨t_18, ht_18, H⟩ := H
      cases t_18 with
      | false =>
        replace H := ite_f H
        replace H := app_hid H
        go_wp2_with fail
        clear hct_9_0 hct_9_1 hct_9_2 hct_9_3
        go_roundg m0
        case measure => omega
        case rel => exact ⟨k0 + 1, _, _, _, _, by omega, by go_num, rfl, H, HBw_s_11, Ocover_7l0, Oheld_0, Lib.hid Dheld_0_cover_7l0.out⟩
      | true =>
        replace H := ite_t H
        obtain ⟨w_t_21, hw_t_21⟩ : ∃ x, w_s_11.alloc (.cells #[.int .i64 t_9_id, .int .i64 t_9_year, .string t_9_town, .slice Art_9 t_9_traits.length crt_9] 67) = x := ⟨_, rfl⟩
        have bw_t_21 : Below w_s_11.heap.size w_s_11 w_t_21 := by rw [← hw_t_21]; exact (Below.refl _ _).alloc (Nat.le_refl _) _
        have HBw_t_21 := Lib.hid (Below.step HBw_s_11.out bw_t_21)
        have hct_9_0__161 := cell_below bw_t_21 hct_9_0__157
        have hct_9_1__162 := cell_below bw_t_21 hct_9_1__158
        have hct_9_2__163 := cell_below bw_t_21 hct_9_2__159
        have hct_9_3__164 := cell_below bw_t_21 hct_9_3__160
        have ks_11_0__165 := cell_below bw_t_21 ks_11_0
        have ks_11_1__166 := cell_below bw_t_21 ks_11_1
        have ks_11_2__167 := cell_below bw_t_21 ks_11_2
        have ks_11_3__168 := cell_below bw_t_21 ks_11_3
        have ct_15_0__169 := cell_below bw_t_21 ct_15_0
        replace Oheld_0 := Lib.hid (own_below Oheld_0.out bw_t_21)
        replace Ocover_7l0 := Lib.hid (Go.Proofs.Ytpaakpbbahbhcaa.GoV.part_below Ocover_7l0.out bw_t_21)
        clear bw_t_21
        replace H := guard_hid H
        obtain ⟨hlt_22, H⟩ := H
        replace H := let_hid H
        obtain ⟨t_22, ht_22, H⟩ := H
        have hht_22 := Lib.hid ht_22
        clear ht_22
        have hst_22 := HBw_t_21.out.size
        obtain ⟨zt_22, Rt_22⟩ := Ocover_7l0.out
        have Rt_22i := Lib.hid Rt_22
        clear Rt_22
        go_wp2_with (at_builtin; refine wpList_append_own_at _ rfl _ _ 24 rfl w.heap.size 67 i0_67 (.agg #[.int .i64 0, .int .i64 0, .string ByteArray.empty, .slice none 0 0]) 4 56 Try.underlying24 hi_67 hz0_67 hz1_67 hz2_67 rfl (by decide) _ _ _ rfl Rt_22i.out.row ⟨w_s_11.heap.size, 0, none⟩ 1 1 [.int .i64 t_9_id, .int .i64 t_9_year, .string t_9_town, .slice Art_9 t_9_traits.length crt_9] rfl rfl (news_new hw_t_21) (one_cells rfl) (by unfold maxLen; omega) (by omega) hst_22 ?_; intro vt_22 wt_22 ot_22 gt_22 ut_22 yt_22; clear ut_22; obtain ⟨qt_22, ct_22, Bt_22, rfl, pt_22, dt_22⟩ := Go.Proofs.Ytpaakpbbahbhcaa.GoV.part_app (x := (Go.Proofs.Ytpaakpbbahbhcaa.PSighting.Sighting.mk t_9_id t_9_year t_9_town t_9_traits)) Rt_22i.out hht_22.out ⟨Mrt_9.out, Qrt_9.out, Nrt_9.out⟩ gt_22 ot_22 yt_22; have Pt_22 := Lib.hid pt_22; have Ut_22 := Lib.hid dt_22; have Gt_22 := Lib.hid gt_22; clear ot_22 gt_22 pt_22 yt_22 dt_22; refine stop_in ?_)
        refine stop_out ?_
        have HBwt_22 := Lib.hid (HBw_t_21.out.grown Gt_22.out hst_22 (fun q hq => (Rt_22i.out.row.lt q hq).1))
        clear hst_22
        have Dt_22_held_0 : Hid (∀ y_ ∈ Bt_22, Apart (some ⟨w.heap.size, 0, none⟩) y_) := Lib.hid (Go.Proofs.Ytpaakpbbahbhcaa.GoV.apart_grow Dheld_0_cover_7l0.out (Go.Proofs.Ytpaakpbbahbhcaa.GoV.part_head Ocover_7l0.out) (fun a_ ha_ => (own_lt Oheld_0.out a_ ha_).2) Ut_22.out)
        have Dt_22_s_11 : Hid (∀ y_ ∈ Bt_22, Apart (some ⟨wr0.heap.size, 0, none⟩) y_) := Lib.hid (Go.Proofs.Ytpaakpbbahbhcaa.GoV.apart_grow Ds_11_cover_7l0.out (Go.Proofs.Ytpaakpbbahbhcaa.GoV.part_head Ocover_7l0.out) (fun a_ ha_ => by cases ha_; exact cell_lt ks_11_0__165) Ut_22.out)
        replace hct_9_0__161 := cell_other hct_9_0__161 Gt_22.out (Go.Proofs.Ytpaakpbbahbhcaa.GoV.part_old Ocover_7l0.out ltt_9)
        replace hct_9_1__162 := cell_other hct_9_1__162 Gt_22.out (Go.Proofs.Ytpaakpbbahbhcaa.GoV.part_old Ocover_7l0.out ltt_9)
        replace hct_9_2__163 := cell_other hct_9_2__163 Gt_22.out (Go.Proofs.Ytpaakpbbahbhcaa.GoV.part_old Ocover_7l0.out ltt_9)
        replace hct_9_3__164 := cell_other hct_9_3__164 Gt_22.out (Go.Proofs.Ytpaakpbbahbhcaa.GoV.part_old Ocover_7l0.out ltt_9)
        replace ks_11_0__165 := cell_other ks_11_0__165 Gt_22.out (Apart.symm (Ds_11_cover_7l0.out _ (Go.Proofs.Ytpaakpbbahbhcaa.GoV.part_head Ocover_7l0.out)))
        replace ks_11_1__166 := cell_other ks_11_1__166 Gt_22.out (Apart.symm (Ds_11_cover_7l0.out _ (Go.Proofs.Ytpaakpbbahbhcaa.GoV.part_head Ocover_7l0.out)))
        replace ks_11_2__167 := cell_other ks_11_2__167 Gt_22.out (Apart.symm (Ds_11_cover_7l0.out _ (Go.Proofs.Ytpaakpbbahbhcaa.GoV.part_head Ocover_7l0.out)))
        replace ks_11_3__168 := cell_other ks_11_3__168 Gt_22.out (Apart.symm (Ds_11_cover_7l0.out _ (Go.Proofs.Ytpaakpbbahbhcaa.GoV.part_head Ocover_7l0.out)))
        replace ct_15_0__169 := cell_other ct_15_0__169 Gt_22.out (Apart.symm (Dheld_0_cover_7l0.out _ (Go.Proofs.Ytpaakpbbahbhcaa.GoV.part_head Ocover_7l0.out)))
        replace Oheld_0 := Lib.hid (own_other Oheld_0.out Gt_22.out (Apart.symm (Dheld_0_cover_7l0.out _ (Go.Proofs.Ytpaakpbbahbhcaa.GoV.part_head Ocover_7l0.out))))
        clear hct_9_0 hct_9_1 hct_9_2 hct_9_3 hct_9_0__157 hct_9_1__158 hct_9_2__159 hct_9_3__160 ks_11_0 ks_11_1 ks_11_2 ks_11_3 ct_15_0
        clear Ocover_7l0 Gt_22 Rt_22i Ut_22
        replace H := app_hid H
        go_wp2_with fail
        go_roundg m0
        case measure => omega
        case rel => exact ⟨k0 + 1, _, _, _, _, by omega, by go_num, rfl, H, HBwt_22, Pt_22, Oheld_0, Lib.hid Dt_22_held_0.out⟩
end Go.Proofs.Ytpaakpbbahbhcaa.GiCoverOf

