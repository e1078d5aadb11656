/- The texts on which the proof of FnExactBestShade stands, one behind the other (2 of 2). No condition of their own. -/
import Derived.Test.YtpbbechgpgnpbaaFnExactBestShadeP1
import Derived.Deep.AppendLies
import Derived.Test.YtpbbechgpgnpbaaChecked
import Derived.WalkKit
import Derived.WalkSpells
import Derived.WalkLawsBesides
import Derived.BigQuiet
import Derived.OwnWalk
import Derived.Deep.LoopGhost
import Derived.Deep.QuietTactic
import Derived.IntWalk
import Derived.Lib.QuietBelow
import Derived.Lib.Hide
import Derived.Lib.LaidU8
import Derived.Outline
import Derived.Deep.RegionHeld3
/- Rows of records in one's own memory: clear of a tail; a part taken out (append(s[:i], s[j:]...), clear of what is left behind). No condition. -/
namespace Go.Proofs.Ytpbbechgpgnpbaa.GoD
set_option linter.unusedVariables false
set_option linter.unusedSimpArgs false
open Go.RowKit
open Go.Proofs.Ytpbbechgpgnpbaa.Turn Go.Proofs.Ytpbbechgpgnpbaa.GoM Go.Proofs.Ytpbbechgpgnpbaa.GoK

theorem flatten_rep (zs : List Value) : ∀ (n i : Nat), (List.replicate n zs).flatten[i]? = if i < n * zs.length then some zs[i % zs.length]! else none
  | 0, i => by simp
  | n + 1, i => by
    rw [List.replicate_succ, List.flatten_cons]
    by_cases hi : i < zs.length
    · rw [List.getElem?_append_left hi, Nat.mod_eq_of_lt hi, if_pos (by rw [Nat.succ_mul]; omega), List.getElem?_eq_getElem hi]
      simp [getElem!_pos, hi]
    · have h1 : (i - zs.length < n * zs.length) ↔ (i < (n + 1) * zs.length) := by rw [Nat.succ_mul]; omega
      have h2 : (i - zs.length) % zs.length = i % zs.length := (Nat.mod_eq_sub_mod (by omega)).symm
      rw [List.getElem?_append_right (by omega), flatten_rep zs n (i - zs.length), h2]
      simp only [h1]
theorem rep_len (zs : List Value) (n : Nat) : (List.replicate n zs).flatten.length = n * zs.length := by simp
theorem zero_list (zs : List Value) (n : Nat) : (Builtin.zeroCells zs.toArray n).toList = (List.replicate n zs).flatten := by
  apply List.ext_getElem?
  intro i
  rw [flatten_rep]
  unfold Builtin.zeroCells
  by_cases hi : i < n * zs.length
  · rw [if_pos hi]; simp [hi]
  · rw [if_neg hi, List.getElem?_eq_none (by simp; omega)]
theorem run_clearK {P : Program} (w : World) (t e ty : TypeId) (z : Value) (zs : List Value) (ht : P.underlying t = some (.slice e)) (hv : ∀ w, (zeroValue e).run P w = .ok z w) (hz : z.cells = zs.toArray) (h1 : ∀ u ∈ zs, u.oneCell' = true) (b o n c : Nat) (hn : 0 < n)
    (hc : ∀ j, j < n * zs.length → (w.cell? ⟨b, o + j, none⟩).isSome = true) (hf : ∀ j, j < n * zs.length → w.frozen? ⟨b, o + j, none⟩ = false) :
    (Builtin.clear_ #[t] ty #[.slice (some ⟨b, o, none⟩) n c]).run P w = .ok (.tuple #[]) (w.setCells b o (List.replicate n zs).flatten) := by
  have hl := rep_len zs n
  have hst := run_storeCells_cells (P := P) b o (List.replicate n zs).flatten 0 w (by rw [hl]; simpa using hc) (by rw [hl]; simpa using hf)
    (by intro v hv'; obtain ⟨l, hl1, hl2⟩ := List.mem_flatten.1 hv'; rw [List.eq_of_mem_replicate hl1] at hl2; exact h1 v hl2)
  simp only [Nat.add_zero] at hst
  have hzl := zero_list zs n
  obtain ⟨m, rfl⟩ : ∃ m, n = m + 1 := ⟨n - 1, by omega⟩
  simp [Builtin.clear_, run_underlying ht, hv, hz, hzl, hst]
theorem flat_clear {α : Type} (f : α → List Value) (K : Nat) (hK : ∀ x, (f x).length = K) (l : List α) (q m : Nat) (z : α) : (l.flatMap f).take (q * K) ++ (List.replicate m (f z)).flatten = (l.take q ++ List.replicate m z).flatMap f := by
  rw [flat_take f K hK, List.flatMap_append]
  congr 1
  induction m with
  | zero => rfl
  | succ m ih => rw [List.replicate_succ, List.flatten_cons, List.replicate_succ, List.flatMap_cons, ih]
/-- clear(s[lo:]) of a row of its own, of records -/
theorem own_clearK {P : Program} {t e : TypeId} {i : TypeInfo} {k : IntKind} {K n c b : Nat} {A : Option Addr} {lo : Int} {w : World} {xs ys zs : List Value} {z : Value}
    (ht : P.underlying t = some (.slice (P.elem t))) (he : P.elem t = e) (hi : P.info? e = some i) (hs : i.size = K) (hv : i.zero = some z) (hz : z.cells = zs.toArray) (hzl : zs.length = K) (hK : 0 < K) (h1 : ∀ u ∈ zs, u.oneCell' = true)
    (h : w.ownsRow b e K (.slice A n c) n xs) (hl : 0 ≤ lo ∧ lo ≤ (n : Int)) (hd : xs.take (lo.toNat * K) ++ (List.replicate (n - lo.toNat) zs).flatten = ys) :
    ∃ A' m c' w', (∀ W, (Instr.slice t (.slice A n c) (some (.int k lo)) none none).run P W = .ok (.slice A' m c') W) ∧ (∀ ty, (Builtin.clear_ #[t] ty #[.slice A' m c']).run P w = .ok (.tuple #[]) w') ∧
      w'.ownsRow b e K (.slice A n c) n ys ∧ w.grownBy w' (Value.slice A n c).ownBlock := by
  have hR := own_room h
  have hxs : xs.length = n * K := h.1
  have hsz : ∀ W, (sizeOf (P.elem t)).run P W = .ok K W := by intro W; subst he; simp [sizeOf, typeInfo, hi, hs]
  have hrun : ∀ W, (Instr.slice t (.slice A n c) (some (.int k lo)) none none).run P W = .ok (.slice (if c = lo.toNat then A else A.map (·.add (lo.toNat * K))) (n - lo.toNat) (c - lo.toNat)) W := by
    intro W
    rw [run_slice_l (P := P) W t A n c ht k lo hl.1 hl.2, hsz W]
    rfl
  by_cases hm : n - lo.toNat = 0
  · refine ⟨_, _, _, w, hrun, ?_, ?_, Aid.grown_refl _ _⟩
    · intro ty
      rw [hm]
      generalize (if c = lo.toNat then A else A.map (·.add (lo.toNat * K))) = A'
      cases A' <;> simp [Builtin.clear_, run_underlying ht]
    · have hle : n * K ≤ lo.toNat * K := Nat.mul_le_mul_right K (by omega)
      rw [← hd, hm, List.replicate_zero, List.flatten_nil, List.append_nil, List.take_of_length_le (by omega)]
      exact h
  · obtain ⟨g, rfl⟩ := own_some h (by omega)
    have hne : ¬ c = lo.toNat := by have := hR.1; omega
    have hcl := own_cells h
    have hmul : lo.toNat * K + (n - lo.toNat) * K = n * K := by rw [← Nat.add_mul]; congr 1; omega
    have hget : ∀ j, j < n * K → (w.cell? ⟨g, j, none⟩).isSome = true := by
      intro j hj
      obtain ⟨ad, e0, hc⟩ := hcl.2 (by omega)
      obtain rfl := Option.some.inj e0
      have := hc j xs[j] (List.getElem?_eq_getElem (by omega))
      rw [add_flat, Nat.zero_add] at this
      rw [this]; rfl
    have hadd : (if c = lo.toNat then (some ⟨g, 0, none⟩ : Option Addr) else (some ⟨g, 0, none⟩ : Option Addr).map (·.add (lo.toNat * K))) = some ⟨g, lo.toNat * K, none⟩ := by
      rw [if_neg hne, Option.map_some, add_flat, Nat.zero_add]
    rw [hadd] at hrun
    have hrl : (List.replicate (n - lo.toNat) zs).flatten.length = (n - lo.toNat) * K := by rw [rep_len, hzl]
    have h2 := own_setCells (List.replicate (n - lo.toNat) zs).flatten (lo.toNat * K) h (by rw [hrl]; omega)
    refine ⟨_, _, _, _, hrun, fun ty => ?_, ?_, h2.2⟩
    · exact run_clearK w t e ty z zs (he ▸ ht) (fun w => by simp [zeroValue, typeInfo, hi, hv]) hz h1 g (lo.toNat * K) (n - lo.toNat) (c - lo.toNat) (by omega) (fun j hj => hget _ (by rw [hzl] at hj; omega)) (fun j hj => h.frozenAt _)
    · have e2 : xs.take (lo.toNat * K) ++ (List.replicate (n - lo.toNat) zs).flatten ++ xs.drop (lo.toNat * K + (List.replicate (n - lo.toNat) zs).flatten.length) = ys := by
        rw [hrl, List.drop_of_length_le (by omega), List.append_nil, hd]
      rw [← e2]
      exact h2.1
end Go.Proofs.Ytpbbechgpgnpbaa.GoD

/- loop.example/g01062/impl.onCircle as a plain function, and the contract of the program's: where the plain one has an answer, the program has it. Conditions: slices read as lists. -/
namespace Go.Proofs.Ytpbbechgpgnpbaa.GiOnCircle
set_option linter.unusedVariables false
set_option linter.unusedSimpArgs false
open Go.RowKit
open Go.Proofs.Ytpbbechgpgnpbaa.Rowed Go.Proofs.Ytpbbechgpgnpbaa.Turn Go.Proofs.Ytpbbechgpgnpbaa.Aid Go.Proofs.Ytpbbechgpgnpbaa.GoP Go.Proofs.Ytpbbechgpgnpbaa.GoM

def P (n_0 : Int) : Option (Int) :=
  letK (IntKind.i64.wrap (n_0 + 360)) fun (t_2 : Int) =>
  letK (Int.tmod t_2 360) fun (t_3 : Int) =>
  some t_3

set_option maxRecDepth 100000 in
set_option maxHeartbeats 2000000 in
theorem C (n_0 : Int)   (w : World)   {r : Int} (H : Hid (P n_0 = some r)) :
    Calls Try.prog 92 #[.int .i64 n_0] w (Gives (.int .i64 r) w) := by
  have HB := Lib.hid (Below.refl w.heap.size w)
  unfold P at H
  go_enter Try.func92, Try.ntmps92
  replace H := let_hid H
  obtain ⟨t_2, ht_2, H⟩ := H
  replace H := let_hid H
  obtain ⟨t_3, ht_3, H⟩ := H
  obtain rfl := ret_hid H
  go_wp2_with fail
  go_ret
  exact ⟨rfl, HB.out⟩

set_option maxRecDepth 100000 in
set_option maxHeartbeats 2000000 in
theorem C0 (n_0 : Int)   (w : World)   {r : Int} (H : Hid (P n_0 = some r)) :
    Calls Try.prog 92 #[.int .i64 n_0] w (fun e w'' => e = .returned (.int .i64 r) ∧ w'' = w) := by
  have HB := Lib.hid (Below.refl w.heap.size w)
  unfold P at H
  go_enter Try.func92, Try.ntmps92
  replace H := let_hid H
  obtain ⟨t_2, ht_2, H⟩ := H
  replace H := let_hid H
  obtain ⟨t_3, ht_3, H⟩ := H
  obtain rfl := ret_hid H
  go_wp2_with fail
  go_ret
  exact ⟨rfl, rfl⟩
end Go.Proofs.Ytpbbechgpgnpbaa.GiOnCircle

/- loop.example/g01062/impl.upwards as a plain function, and the contract of the program's: where the plain one has an answer, the program has it. Conditions: slices read as lists. -/
namespace Go.Proofs.Ytpbbechgpgnpbaa.GiUpwards
set_option linter.unusedVariables false
set_option linter.unusedSimpArgs false
open Go.RowKit
open Go.Proofs.Ytpbbechgpgnpbaa.Rowed Go.Proofs.Ytpbbechgpgnpbaa.Turn Go.Proofs.Ytpbbechgpgnpbaa.Aid Go.Proofs.Ytpbbechgpgnpbaa.GoP Go.Proofs.Ytpbbechgpgnpbaa.GoM

def P (a : Int) (b : Int) : Option (Int) :=
  letK (IntKind.i64.wrap (b - a)) fun (t_3 : Int) =>
  Option.bind (Go.Proofs.Ytpbbechgpgnpbaa.GiOnCircle.P t_3) fun (t_4 : Int) =>
  some t_4

set_option maxRecDepth 100000 in
set_option maxHeartbeats 2000000 in
theorem C (a : Int) (b : Int)   (w : World)   {r : Int} (H : Hid (P a b = some r)) :
    Calls Try.prog 91 #[.int .i64 a, .int .i64 b] w (Gives (.int .i64 r) w) := by
  have HB := Lib.hid (Below.refl w.heap.size w)
  unfold P at H
  go_enter Try.func91, Try.ntmps91
  replace H := let_hid H
  obtain ⟨t_3, ht_3, H⟩ := H
  replace H := bind_hid H
  obtain ⟨t_4, qt_4, H⟩ := H
  go_wp2_with fail
  go_at_call 92
  refine (Go.Proofs.Ytpbbechgpgnpbaa.GiOnCircle.C (t_3)  _    qt_4).mono ?_
  rintro e_t_4 wt_4 ⟨rfl, bt_4⟩
  have HBwt_4 := Lib.hid (Below.step HB.out bt_4)
  clear bt_4
  obtain rfl := ret_hid H
  go_wp2_with fail
  go_ret
  exact ⟨rfl, HBwt_4.out⟩
end Go.Proofs.Ytpbbechgpgnpbaa.GiUpwards

/- loop.example/g01062/impl.hueDistance as a plain function, and the contract of the program's: where the plain one has an answer, the program has it. Conditions: slices read as lists. -/
namespace Go.Proofs.Ytpbbechgpgnpbaa.GiLoHueDistance
set_option linter.unusedVariables false
set_option linter.unusedSimpArgs false
open Go.RowKit
open Go.Proofs.Ytpbbechgpgnpbaa.Rowed Go.Proofs.Ytpbbechgpgnpbaa.Turn Go.Proofs.Ytpbbechgpgnpbaa.Aid Go.Proofs.Ytpbbechgpgnpbaa.GoP Go.Proofs.Ytpbbechgpgnpbaa.GoM

def P (a : Int) (b : Int) : Option (Int) :=
  Option.bind (Go.Proofs.Ytpbbechgpgnpbaa.GiUpwards.P a b) fun (t_3 : Int) =>
  Option.bind (Go.Proofs.Ytpbbechgpgnpbaa.GiUpwards.P b a) fun (t_6 : Int) =>
  letK (min t_3 t_6) fun (t_7 : Int) =>
  some t_7

set_option maxRecDepth 100000 in
set_option maxHeartbeats 2000000 in
theorem C (a : Int) (b : Int)   (w : World)   {r : Int} (H : Hid (P a b = some r)) :
    Calls Try.prog 66 #[.int .i64 a, .int .i64 b] w (Gives (.int .i64 r) w) := by
  have HB := Lib.hid (Below.refl w.heap.size w)
  unfold P at H
  go_enter Try.func66, Try.ntmps66
  replace H := bind_hid H
  obtain ⟨t_3, qt_3, H⟩ := H
  go_wp2_with fail
  go_at_call 91
  refine (Go.Proofs.Ytpbbechgpgnpbaa.GiUpwards.C (a) (b)  _    qt_3).mono ?_
  rintro e_t_3 wt_3 ⟨rfl, bt_3⟩
  have HBwt_3 := Lib.hid (Below.step HB.out bt_3)
  clear bt_3
  replace H := bind_hid H
  obtain ⟨t_6, qt_6, H⟩ := H
  go_wp2_with fail
  go_at_call 91
  refine (Go.Proofs.Ytpbbechgpgnpbaa.GiUpwards.C (b) (a)  _    qt_6).mono ?_
  rintro e_t_6 wt_6 ⟨rfl, bt_6⟩
  have HBwt_6 := Lib.hid (Below.step HBwt_3.out bt_6)
  clear bt_6
  replace H := let_hid H
  obtain ⟨t_7, ht_7, H⟩ := H
  obtain rfl := ret_hid H
  go_wp2_with fail
  go_ret
  exact ⟨rfl, HBwt_6.out⟩
end Go.Proofs.Ytpbbechgpgnpbaa.GiLoHueDistance

/- loop.example/g01062/impl.takesIn as a plain function, and the contract of the program's: where the plain one has an answer, the program has it. Conditions: slices read as lists. -/
namespace Go.Proofs.Ytpbbechgpgnpbaa.GiTakesIn
set_option linter.unusedVariables false
set_option linter.unusedSimpArgs false
open Go.RowKit
open Go.Proofs.Ytpbbechgpgnpbaa.Rowed Go.Proofs.Ytpbbechgpgnpbaa.Turn Go.Proofs.Ytpbbechgpgnpbaa.Aid Go.Proofs.Ytpbbechgpgnpbaa.GoP Go.Proofs.Ytpbbechgpgnpbaa.GoM

def P (x : Go.Proofs.Ytpbbechgpgnpbaa.PShade.Shade) (hue : Int) (light : Int) : Option (Bool) :=
  unShade x fun (x_name : ByteArray) (x_hue : Int) (x_width : Int) (x_dark : Int) (x_light : Int) =>
  Option.bind (Go.Proofs.Ytpbbechgpgnpbaa.GiLoHueDistance.P x_hue hue) fun (t_5 : Int) =>
  letK (decide (t_5 ≤ x_width)) fun (t_8 : Bool) =>
  joinK (fun (t_16 : Bool) =>
  some t_16) fun jt_16 => iteK t_8 (Option.bind (Go.Proofs.Ytpbbechgpgnpbaa.GiWithin.P light x_dark x_light) fun (t_15 : Bool) =>
  appK jt_16 t_15) (appK jt_16 false)

set_option maxRecDepth 100000 in
set_option maxHeartbeats 2000000 in
theorem C (x : Go.Proofs.Ytpbbechgpgnpbaa.PShade.Shade) (hue : Int) (light : Int)   (w : World)   {r : Bool} (H : Hid (P x hue light = some r)) :
    Calls Try.prog 72 #[x.val, .int .i64 hue, .int .i64 light] w (Gives (.bool r) w) := by
  have HB := Lib.hid (Below.refl w.heap.size w)
  unfold P at H
  obtain ⟨x_name, x_hue, x_width, x_dark, x_light⟩ := x
  replace H := unShade_hid H
  unfold Go.Proofs.Ytpbbechgpgnpbaa.PShade.Shade.val
  go_enter Try.func72, Try.ntmps72
  obtain ⟨w_x_0, hw_x_0⟩ : ∃ x, w.alloc (.cells #[.string x_name, .int .i64 x_hue, .int .i64 x_width, .int .i64 x_dark, .int .i64 x_light] 26) = x := ⟨_, rfl⟩
  have bw_x_0 : Below w.heap.size w w_x_0 := by rw [← hw_x_0]; exact (Below.refl _ _).alloc (Nat.le_refl _) _
  have HBw_x_0 := Lib.hid (Below.step HB.out bw_x_0)
  clear bw_x_0
  have kx_0_0 : w_x_0.cell? ⟨w.heap.size, 0, none⟩ = some (.string x_name) := by rw [← hw_x_0]; exact box_new _ _ _ 0 _ rfl
  have kx_0_1 : w_x_0.cell? ⟨w.heap.size, 1, none⟩ = some (.int .i64 x_hue) := by rw [← hw_x_0]; exact box_new _ _ _ 1 _ rfl
  have kx_0_2 : w_x_0.cell? ⟨w.heap.size, 2, none⟩ = some (.int .i64 x_width) := by rw [← hw_x_0]; exact box_new _ _ _ 2 _ rfl
  have kx_0_3 : w_x_0.cell? ⟨w.heap.size, 3, none⟩ = some (.int .i64 x_dark) := by rw [← hw_x_0]; exact box_new _ _ _ 3 _ rfl
  have kx_0_4 : w_x_0.cell? ⟨w.heap.size, 4, none⟩ = some (.int .i64 x_light) := by rw [← hw_x_0]; exact box_new _ _ _ 4 _ rfl
  go_wp2_with fail
  have Hkx_0_0 := Lib.hid kx_0_0
  replace kx_0_0 := cell_regrown kx_0_0
  have Hkx_0_1 := Lib.hid kx_0_1
  replace kx_0_1 := cell_regrown kx_0_1
  have Hkx_0_2 := Lib.hid kx_0_2
  replace kx_0_2 := cell_regrown kx_0_2
  have Hkx_0_3 := Lib.hid kx_0_3
  replace kx_0_3 := cell_regrown kx_0_3
  have Hkx_0_4 := Lib.hid kx_0_4
  replace kx_0_4 := cell_regrown kx_0_4
  replace H := bind_hid H
  obtain ⟨t_5, qt_5, H⟩ := H
  have nt_5 : ∀ d os, Calls Try.prog 66 #[.int .i64 x_hue, .int .i64 hue] (Go.Sort.grow (redrawn w_x_0 d) os) fun e w'' => e = .returned (.int .i64 t_5) ∧ ∃ p : Regrown, w'' = Go.Sort.grow (redrawn w_x_0 p.d) p.os := fun d os => Calls.regrown_of (Go.Proofs.Ytpbbechgpgnpbaa.GiLoHueDistance.C (x_hue) (hue)  _    qt_5)
  replace H := let_hid H
  obtain ⟨t_8, ht_8, H⟩ := H
  replace H := join_hid H
  cases t_8 with
  | false =>
    replace H := ite_f H
    replace H := app_hid H
    refine wp_region_quiet_below (by kernel_rfl) (by kernel_rfl) ?_
    repeat (go_big_quiet_step (first | (go_at_call 66; exact nt_5 _ _)))
    refine wpQuiet_nil ?_
    intro Y1 hY1
    replace hY1 := below_class hY1
    clear nt_5
    replace kx_0_0 := Hkx_0_0.out
    clear Hkx_0_0
    replace kx_0_1 := Hkx_0_1.out
    clear Hkx_0_1
    replace kx_0_2 := Hkx_0_2.out
    clear Hkx_0_2
    replace kx_0_3 := Hkx_0_3.out
    clear Hkx_0_3
    replace kx_0_4 := Hkx_0_4.out
    clear Hkx_0_4
    have HBY1 := Lib.hid (Below.step HBw_x_0.out hY1)
    replace kx_0_0 := cell_below hY1 kx_0_0
    replace kx_0_1 := cell_below hY1 kx_0_1
    replace kx_0_2 := cell_below hY1 kx_0_2
    replace kx_0_3 := cell_below hY1 kx_0_3
    replace kx_0_4 := cell_below hY1 kx_0_4
    clear hY1
    obtain rfl := ret_hid H
    go_wp2_with fail
    go_ret
    exact ⟨rfl, HBY1.out⟩
  | true =>
    replace H := ite_t H
    replace H := bind_hid H
    obtain ⟨t_15, qt_15, H⟩ := H
    have nt_15 : ∀ d os, Calls Try.prog 58 #[.int .i64 light, .int .i64 x_dark, .int .i64 x_light] (Go.Sort.grow (redrawn w_x_0 d) os) fun e w'' => e = .returned (.bool t_15) ∧ ∃ p : Regrown, w'' = Go.Sort.grow (redrawn w_x_0 p.d) p.os := fun d os => Calls.regrown_of (Go.Proofs.Ytpbbechgpgnpbaa.GiWithin.C (light) (x_dark) (x_light)  _    qt_15)
    replace H := app_hid H
    refine wp_region_quiet_below (by kernel_rfl) (by kernel_rfl) ?_
    repeat (go_big_quiet_step (first | (go_at_call 66; exact nt_5 _ _) | (go_at_call 58; exact nt_15 _ _)))
    refine wpQuiet_nil ?_
    intro Y1 hY1
    replace hY1 := below_class hY1
    clear nt_5 nt_15
    replace kx_0_0 := Hkx_0_0.out
    clear Hkx_0_0
    replace kx_0_1 := Hkx_0_1.out
    clear Hkx_0_1
    replace kx_0_2 := Hkx_0_2.out
    clear Hkx_0_2
    replace kx_0_3 := Hkx_0_3.out
    clear Hkx_0_3
    replace kx_0_4 := Hkx_0_4.out
    clear Hkx_0_4
    have HBY1 := Lib.hid (Below.step HBw_x_0.out hY1)
    replace kx_0_0 := cell_below hY1 kx_0_0
    replace kx_0_1 := cell_below hY1 kx_0_1
    replace kx_0_2 := cell_below hY1 kx_0_2
    replace kx_0_3 := cell_below hY1 kx_0_3
    replace kx_0_4 := cell_below hY1 kx_0_4
    clear hY1
    obtain rfl := ret_hid H
    go_wp2_with fail
    go_ret
    exact ⟨rfl, HBY1.out⟩
end Go.Proofs.Ytpbbechgpgnpbaa.GiTakesIn

/- loop.example/g01062/impl.BestShade$1 as a plain function, and the contract of the program's: where the plain one has an answer, the program has it. Conditions: slices read as lists. -/
namespace Go.Proofs.Ytpbbechgpgnpbaa.GiBestShade1
set_option linter.unusedVariables false
set_option linter.unusedSimpArgs false
open Go.RowKit
open Go.Proofs.Ytpbbechgpgnpbaa.Rowed Go.Proofs.Ytpbbechgpgnpbaa.Turn Go.Proofs.Ytpbbechgpgnpbaa.Aid Go.Proofs.Ytpbbechgpgnpbaa.GoP Go.Proofs.Ytpbbechgpgnpbaa.GoM

def P (x : Go.Proofs.Ytpbbechgpgnpbaa.PShade.Shade) (hq0 : Int) (hq1 : Int) : Option (Bool) :=
  unShade x fun (x_name : ByteArray) (x_hue : Int) (x_width : Int) (x_dark : Int) (x_light : Int) =>
  Option.bind (Go.Proofs.Ytpbbechgpgnpbaa.GiTakesIn.P (Go.Proofs.Ytpbbechgpgnpbaa.PShade.Shade.mk x_name x_hue x_width x_dark x_light) hq0 hq1) fun (t_5 : Bool) =>
  letK (!t_5) fun (t_6 : Bool) =>
  some t_6

set_option maxRecDepth 100000 in
set_option maxHeartbeats 2000000 in
theorem C (x : Go.Proofs.Ytpbbechgpgnpbaa.PShade.Shade) (hq0 : Int) (hq1 : Int)  (gq0 : Nat) (gq1 : Nat) (w : World)  (Fq0h : Hid (w.cell? ⟨gq0, 0, none⟩ = some (.int .i64 hq0))) (Fq1h : Hid (w.cell? ⟨gq1, 0, none⟩ = some (.int .i64 hq1))) {r : Bool} (H : Hid (P x hq0 hq1 = some r)) :
    Calls Try.prog 76 #[x.val, .pointer (some ⟨gq0, 0, none⟩), .pointer (some ⟨gq1, 0, none⟩)] w (Gives (.bool r) w) := by
  have HB := Lib.hid (Below.refl w.heap.size w)
  unfold P at H
  obtain ⟨x_name, x_hue, x_width, x_dark, x_light⟩ := x
  replace H := unShade_hid H
  unfold Go.Proofs.Ytpbbechgpgnpbaa.PShade.Shade.val
  have Fq0 := Fq0h.out
  have Fq1 := Fq1h.out
  go_enter Try.func76, Try.ntmps76
  obtain ⟨w_x_0, hw_x_0⟩ : ∃ x, w.alloc (.cells #[.string x_name, .int .i64 x_hue, .int .i64 x_width, .int .i64 x_dark, .int .i64 x_light] 26) = x := ⟨_, rfl⟩
  have bw_x_0 : Below w.heap.size w w_x_0 := by rw [← hw_x_0]; exact (Below.refl _ _).alloc (Nat.le_refl _) _
  have HBw_x_0 := Lib.hid (Below.step HB.out bw_x_0)
  have Fq0__118 := cell_below bw_x_0 Fq0
  have Fq1__119 := cell_below bw_x_0 Fq1
  clear bw_x_0
  have kx_0_0 : w_x_0.cell? ⟨w.heap.size, 0, none⟩ = some (.string x_name) := by rw [← hw_x_0]; exact box_new _ _ _ 0 _ rfl
  have kx_0_1 : w_x_0.cell? ⟨w.heap.size, 1, none⟩ = some (.int .i64 x_hue) := by rw [← hw_x_0]; exact box_new _ _ _ 1 _ rfl
  have kx_0_2 : w_x_0.cell? ⟨w.heap.size, 2, none⟩ = some (.int .i64 x_width) := by rw [← hw_x_0]; exact box_new _ _ _ 2 _ rfl
  have kx_0_3 : w_x_0.cell? ⟨w.heap.size, 3, none⟩ = some (.int .i64 x_dark) := by rw [← hw_x_0]; exact box_new _ _ _ 3 _ rfl
  have kx_0_4 : w_x_0.cell? ⟨w.heap.size, 4, none⟩ = some (.int .i64 x_light) := by rw [← hw_x_0]; exact box_new _ _ _ 4 _ rfl
  replace H := bind_hid H
  obtain ⟨t_5, qt_5, H⟩ := H
  go_wp2_with fail
  clear Fq0 Fq1
  go_at_call 72
  refine (Go.Proofs.Ytpbbechgpgnpbaa.GiTakesIn.C ((Go.Proofs.Ytpbbechgpgnpbaa.PShade.Shade.mk x_name x_hue x_width x_dark x_light)) (hq0) (hq1)  _    qt_5).mono ?_
  rintro e_t_5 wt_5 ⟨rfl, bt_5⟩
  have HBwt_5 := Lib.hid (Below.step HBw_x_0.out bt_5)
  replace Fq0__118 := cell_below bt_5 Fq0__118
  replace Fq1__119 := cell_below bt_5 Fq1__119
  replace kx_0_0 := cell_below bt_5 kx_0_0
  replace kx_0_1 := cell_below bt_5 kx_0_1
  replace kx_0_2 := cell_below bt_5 kx_0_2
  replace kx_0_3 := cell_below bt_5 kx_0_3
  replace kx_0_4 := cell_below bt_5 kx_0_4
  clear bt_5
  cases t_5 with
  | false =>
    replace H := let_hid H
    obtain ⟨t_6, ht_6, H⟩ := H
    obtain rfl : t_6 = true := ht_6.symm
    obtain rfl := ret_hid H
    go_wp2_with fail
    go_ret
    exact ⟨rfl, HBwt_5.out⟩
  | true =>
    replace H := let_hid H
    obtain ⟨t_6, ht_6, H⟩ := H
    obtain rfl : t_6 = false := ht_6.symm
    obtain rfl := ret_hid H
    go_wp2_with fail
    go_ret
    exact ⟨rfl, HBwt_5.out⟩
end Go.Proofs.Ytpbbechgpgnpbaa.GiBestShade1

/- slices.IndexFunc[[]loop.example/g01062/impl.Shade,loop.example/g01062/impl.Shade] as a plain function, and the contract of the program's: where the plain one has an answer, the program has it. Conditions: slices read as lists. -/
namespace Go.Proofs.Ytpbbechgpgnpbaa.GxSlicesIndexFuncLoopExampleG01062ImplShadeLoopExampleG01062ImplShadeiBestShade1
set_option linter.unusedVariables false
set_option linter.unusedSimpArgs false
open Go.RowKit
open Go.Proofs.Ytpbbechgpgnpbaa.Rowed Go.Proofs.Ytpbbechgpgnpbaa.Turn Go.Proofs.Ytpbbechgpgnpbaa.Aid Go.Proofs.Ytpbbechgpgnpbaa.GoP Go.Proofs.Ytpbbechgpgnpbaa.GoM

def l0 (s_0 : (List Go.Proofs.Ytpbbechgpgnpbaa.PShade.Shade)) (hf1_0 : Int) (hf1_1 : Int) (k0 : Nat) (s : Unit) (nx0 bk0 : Unit → Option (Int)) : Option (Int) :=
  
  Option.bind (idx s_0 (k0 : Int)) fun (yt_10 : Go.Proofs.Ytpbbechgpgnpbaa.PShade.Shade) =>
  unShade yt_10 fun (t_10_name : ByteArray) (t_10_hue : Int) (t_10_width : Int) (t_10_dark : Int) (t_10_light : Int) =>
  Option.bind (Go.Proofs.Ytpbbechgpgnpbaa.GiBestShade1.P (Go.Proofs.Ytpbbechgpgnpbaa.PShade.Shade.mk t_10_name t_10_hue t_10_width t_10_dark t_10_light) hf1_0 hf1_1) fun (t_12 : Bool) =>
  iteK t_12
  (some (k0 : Int))
  (appK nx0 ())

def e0  (s : Unit) : Option (Int) :=
  
  some (-1)

def P (s_0 : (List Go.Proofs.Ytpbbechgpgnpbaa.PShade.Shade)) (hf1_0 : Int) (hf1_1 : Int) : Option (Int) :=
  cntK (l0 s_0 hf1_0 hf1_1) (s_0.length) 0 () (e0 )

set_option maxRecDepth 100000 in
set_option maxHeartbeats 2000000 in
theorem C (s_0 : (List Go.Proofs.Ytpbbechgpgnpbaa.PShade.Shade)) (hf1_0 : Int) (hf1_1 : Int) (A0 : Option Addr) (c0 : Nat) (gf1_0 : Nat) (gf1_1 : Nat) (w : World) (M0 : Hid (Cells w 5 A0 s_0.length (Go.Proofs.Ytpbbechgpgnpbaa.PShade.flat s_0))) (N0 : Hid (s_0.length ≤ 9223372036854775807)) (Ff1_0h : Hid (w.cell? ⟨gf1_0, 0, none⟩ = some (.int .i64 hf1_0))) (Ff1_1h : Hid (w.cell? ⟨gf1_1, 0, none⟩ = some (.int .i64 hf1_1))) {r : Int} (H : Hid (P s_0 hf1_0 hf1_1 = some r)) :
    Calls Try.prog 87 #[.slice A0 s_0.length c0, .func (.func 76) #[] #[.pointer (some ⟨gf1_0, 0, none⟩), .pointer (some ⟨gf1_1, 0, none⟩)]] w (Gives (.int .i64 r) w) := by
  have HB := Lib.hid (Below.refl w.heap.size w)
  unfold P at H
  have N0o := N0.out
  have Ff1_0 := Ff1_0h.out
  have Ff1_1 := Ff1_1h.out
  go_enter Try.func87, Try.ntmps87
  go_wp2_with fail
  go_loopg [8] (s_0.length) (fun m_ v8_ wr => ∃ (k0 : Nat) , k0 + m_ = s_0.length ∧ v8_ = .int .i64 (k0 : Int) ∧ Hid (cntK (l0 s_0 hf1_0 hf1_1) m_ k0 () (e0 ) = some r) ∧ Hid (Below w.heap.size w wr) ∧ wr.cell? ⟨gf1_0, 0, none⟩ = some (.int .i64 hf1_0) ∧ wr.cell? ⟨gf1_1, 0, none⟩ = some (.int .i64 hf1_1))
  case atStart => exact ⟨0, by omega, rfl, H, HB, Ff1_0, Ff1_1⟩
  case round =>
    obtain ⟨k0, hkm0, rfl, H, HBwr0, Ff1_0, Ff1_1⟩ := hrel
    rename World => wr0
    cases gk with
    | zero =>
      obtain rfl : k0 = s_0.length := by omega
      have hc0 : decide (((s_0.length : Nat) : Int) < ((s_0.length : Nat) : Int)) = false := by simp
      replace H := cnt_zero H
      unfold e0 at H
      obtain rfl := ret_hid H
      go_wp2_with fail
      go_ret
      exact ⟨rfl, HBwr0.out⟩
    | succ m0 =>
      have hlt0 : k0 < s_0.length := by omega
      have hc0 : decide ((k0 : Int) < ((s_0.length : Nat) : Int)) = true := by simp; omega
      replace H := cnt_succ H
      unfold l0 at H
      replace H := idx_hid H
      obtain ⟨nt_10, yt_10, et_10, lt_10, gt_10, H⟩ := H
      obtain rfl : k0 = nt_10 := by omega
      clear et_10
      obtain ⟨t_10_name, t_10_hue, t_10_width, t_10_dark, t_10_light⟩ := yt_10
      replace H := unShade_hid H
      obtain ⟨ab_t_10, ao_t_10, zt_10, At_10, z_t_10, ct_10_0, ct_10_1, ct_10_2, ct_10_3, ct_10_4⟩ := Go.Proofs.Ytpbbechgpgnpbaa.OShade.at_ M0.out lt_10
      obtain rfl := Option.some.inj (gt_10.out.symm.trans z_t_10)
      subst At_10
      have ltt_10 := cell_lt ct_10_0
      replace ct_10_0 := cell_below HBwr0.out ct_10_0
      replace ct_10_1 := cell_below HBwr0.out ct_10_1
      replace ct_10_2 := cell_below HBwr0.out ct_10_2
      replace ct_10_3 := cell_below HBwr0.out ct_10_3
      replace ct_10_4 := cell_below HBwr0.out ct_10_4
      clear z_t_10
      have b0t_10 : (0 : Int) ≤ (k0 : Int) := by omega
      have b1t_10 : (k0 : Int) < ((s_0.length : Nat) : Int) := by omega
      have b2t_10 : ((k0 : Int)).toNat = k0 := by omega
      replace H := bind_hid H
      obtain ⟨t_12, qt_12, H⟩ := H
      go_wp2_with fail
      go_at_call 76
      refine (Go.Proofs.Ytpbbechgpgnpbaa.GiBestShade1.C ((Go.Proofs.Ytpbbechgpgnpbaa.PShade.Shade.mk t_10_name t_10_hue t_10_width t_10_dark t_10_light)) (hf1_0) (hf1_1) (gf1_0) (gf1_1) _   (Lib.hid Ff1_0) (Lib.hid Ff1_1) qt_12).mono ?_
      rintro e_t_12 wt_12 ⟨rfl, bt_12⟩
      have HBwt_12 := Lib.hid (Below.step HBwr0.out bt_12)
      replace Ff1_0 := cell_below bt_12 Ff1_0
      replace Ff1_1 := cell_below bt_12 Ff1_1
      replace ct_10_0 := cell_below bt_12 ct_10_0
      replace ct_10_1 := cell_below bt_12 ct_10_1
      replace ct_10_2 := cell_below bt_12 ct_10_2
      replace ct_10_3 := cell_below bt_12 ct_10_3
      replace ct_10_4 := cell_below bt_12 ct_10_4
      clear bt_12
      cases t_12 with
      | false =>
        replace H := ite_f H
        replace H := app_hid H
        go_wp2_with fail
        go_roundg m0
        case measure => omega
        case rel => exact ⟨k0 + 1, by omega, by go_num, H, HBwt_12, Ff1_0, Ff1_1⟩
      | true =>
        replace H := ite_t H
        obtain rfl := ret_hid H
        go_wp2_with fail
        go_ret
        exact ⟨rfl, HBwt_12.out⟩
end Go.Proofs.Ytpbbechgpgnpbaa.GxSlicesIndexFuncLoopExampleG01062ImplShadeLoopExampleG01062ImplShadeiBestShade1

/- slices.DeleteFunc[[]loop.example/g01062/impl.Shade,loop.example/g01062/impl.Shade] as a plain function, and the contract of the program's: where the plain one has an answer, the program has it. Conditions: slices read as lists. -/
namespace Go.Proofs.Ytpbbechgpgnpbaa.GxSlicesDeleteFuncLoopExampleG01062ImplShadeLoopExampleG01062ImplShadeiBestShade1
set_option linter.unusedVariables false
set_option linter.unusedSimpArgs false
open Go.RowKit
open Go.Proofs.Ytpbbechgpgnpbaa.Rowed Go.Proofs.Ytpbbechgpgnpbaa.Turn Go.Proofs.Ytpbbechgpgnpbaa.Aid Go.Proofs.Ytpbbechgpgnpbaa.GoP Go.Proofs.Ytpbbechgpgnpbaa.GoM

def l0 (hf1_0 : Int) (hf1_1 : Int) (s : (List Go.Proofs.Ytpbbechgpgnpbaa.PShade.Shade) × Int × Int) (nx0 bk0 : (List Go.Proofs.Ytpbbechgpgnpbaa.PShade.Shade) × Int × Int → Option ((List Go.Proofs.Ytpbbechgpgnpbaa.PShade.Shade))) : Option ((List Go.Proofs.Ytpbbechgpgnpbaa.PShade.Shade)) :=
  unp3 s fun s_0l0 i_5l0 j_6l0 =>
  letK (decide (j_6l0 < (s_0l0.length : Int))) fun (t_15 : Bool) =>
  iteK t_15
  (Option.bind (idx s_0l0 j_6l0) fun (yt_18 : Go.Proofs.Ytpbbechgpgnpbaa.PShade.Shade) =>
  unShade yt_18 fun (t_18_name : ByteArray) (t_18_hue : Int) (t_18_width : Int) (t_18_dark : Int) (t_18_light : Int) =>
  Option.bind (Go.Proofs.Ytpbbechgpgnpbaa.GiBestShade1.P (Go.Proofs.Ytpbbechgpgnpbaa.PShade.Shade.mk t_18_name t_18_hue t_18_width t_18_dark t_18_light) hf1_0 hf1_1) fun (t_24 : Bool) =>
  letK (!t_24) fun (t_25 : Bool) =>
  iteK t_25
  (Option.bind (idx s_0l0 i_5l0) fun (yt_29 : Go.Proofs.Ytpbbechgpgnpbaa.PShade.Shade) =>
  unShade yt_29 fun (t_29_name : ByteArray) (t_29_hue : Int) (t_29_width : Int) (t_29_dark : Int) (t_29_light : Int) =>
  letK (s_0l0.set (i_5l0).toNat (Go.Proofs.Ytpbbechgpgnpbaa.PShade.Shade.mk t_18_name t_18_hue t_18_width t_18_dark t_18_light)) fun (l30_30 : (List Go.Proofs.Ytpbbechgpgnpbaa.PShade.Shade)) =>
  letK (IntKind.i64.wrap (i_5l0 + 1)) fun (t_32 : Int) =>
  letK (IntKind.i64.wrap (j_6l0 + 1)) fun (t_35 : Int) =>
  appK nx0 (l30_30, t_32, t_35))
  (letK (IntKind.i64.wrap (j_6l0 + 1)) fun (t_35 : Int) =>
  appK nx0 (s_0l0, i_5l0, t_35)))
  (appK bk0 (s_0l0, i_5l0, j_6l0))

def e0  (s : (List Go.Proofs.Ytpbbechgpgnpbaa.PShade.Shade) × Int × Int) : Option ((List Go.Proofs.Ytpbbechgpgnpbaa.PShade.Shade)) :=
  unp3 s fun s_0l0 i_5l0 j_6l0 =>
  guardK ((0 : Int) ≤ i_5l0 ∧ (i_5l0 : Int) ≤ (s_0l0.length : Int)) <|
  letK (List.take (Int.toNat i_5l0) s_0l0 ++ List.replicate (s_0l0.length - Int.toNat i_5l0) (Go.Proofs.Ytpbbechgpgnpbaa.PShade.Shade.mk ByteArray.empty 0 0 0 0)) fun (cl_40 : (List Go.Proofs.Ytpbbechgpgnpbaa.PShade.Shade)) =>
  guardK ((0 : Int) ≤ i_5l0 ∧ (i_5l0 : Int) ≤ (cl_40.length : Int)) <|
  letK (List.take (Int.toNat i_5l0) cl_40) fun (t_43 : (List Go.Proofs.Ytpbbechgpgnpbaa.PShade.Shade)) =>
  some t_43

def P (fuel : Nat) (s_0 : (List Go.Proofs.Ytpbbechgpgnpbaa.PShade.Shade)) (hf1_0 : Int) (hf1_1 : Int) : Option ((List Go.Proofs.Ytpbbechgpgnpbaa.PShade.Shade)) :=
  Option.bind (Go.Proofs.Ytpbbechgpgnpbaa.GxSlicesIndexFuncLoopExampleG01062ImplShadeLoopExampleG01062ImplShadeiBestShade1.P s_0 hf1_0 hf1_1) fun (t_3 : Int) =>
  letK (t_3 == (-1)) fun (t_6 : Bool) =>
  iteK t_6
  (some s_0)
  (letK (IntKind.i64.wrap (t_3 + 1)) fun (t_10 : Int) =>
  loopK (l0 hf1_0 hf1_1) fuel (s_0, t_3, t_10) (e0 ))

set_option maxRecDepth 100000 in
set_option maxHeartbeats 2000000 in
theorem C (fuel : Nat) (s_0 : (List Go.Proofs.Ytpbbechgpgnpbaa.PShade.Shade)) (hf1_0 : Int) (hf1_1 : Int) (A0 : Option Addr) (c0 : Nat) (gf1_0 : Nat) (gf1_1 : Nat) (b0 : Nat) (w : World) (M0 : Hid (w.ownsRow b0 26 5 (.slice A0 s_0.length c0) s_0.length (Go.Proofs.Ytpbbechgpgnpbaa.PShade.flat s_0))) (N0 : Hid (s_0.length ≤ 9223372036854775807)) (Ff1_0h : Hid (w.cell? ⟨gf1_0, 0, none⟩ = some (.int .i64 hf1_0))) (Ff1_1h : Hid (w.cell? ⟨gf1_1, 0, none⟩ = some (.int .i64 hf1_1))) (LB : Hid (b0 ≤ w.heap.size)) (XHgf1_0 : Hid (Apart A0 (some ⟨gf1_0, 0, none⟩))) (XHgf1_1 : Hid (Apart A0 (some ⟨gf1_1, 0, none⟩))) {r : (List Go.Proofs.Ytpbbechgpgnpbaa.PShade.Shade)} (H : Hid (P fuel s_0 hf1_0 hf1_1 = some r)) :
    Calls Try.prog 74 #[.slice A0 s_0.length c0, .func (.func 76) #[] #[.pointer (some ⟨gf1_0, 0, none⟩), .pointer (some ⟨gf1_1, 0, none⟩)]] w (fun e w' => ∃ A_r c_r, e = .returned (.slice A_r r.length c_r) ∧ w'.ownsRow b0 26 5 (.slice A_r r.length c_r) r.length (Go.Proofs.Ytpbbechgpgnpbaa.PShade.flat r) ∧ w.grownBy w' (Value.slice A0 s_0.length c0).ownBlock ∧ Go.Proofs.Ytpbbechgpgnpbaa.GoK.From w A0 A_r) := by
  have HB := Lib.hid (Aid.grown_refl w (Value.slice A0 s_0.length c0).ownBlock)
  unfold P at H
  have N0o := N0.out
  have Ff1_0 := Ff1_0h.out
  have Ff1_1 := Ff1_1h.out
  obtain ⟨i0_26, hi_26, hz0_26, hz1_26, hz2_26⟩ := Aid.info_parts (P := Try.prog) (T := 26) (z := .agg #[.string ByteArray.empty, .int .i64 0, .int .i64 0, .int .i64 0, .int .i64 0]) (s := 5) (b := 48) (by kernel_rfl)
  go_enter Try.func74, Try.ntmps74
  replace H := bind_hid H
  obtain ⟨t_3, qt_3, H⟩ := H
  go_wp2_with fail
  go_at_call 87
  refine (Go.Proofs.Ytpbbechgpgnpbaa.GxSlicesIndexFuncLoopExampleG01062ImplShadeLoopExampleG01062ImplShadeiBestShade1.C (s_0) (hf1_0) (hf1_1) A0 c0 (gf1_0) (gf1_1) _   (Lib.hid (own_cells M0.out)) (Lib.hid (own_max M0.out)) (Lib.hid Ff1_0) (Lib.hid Ff1_1) qt_3).mono ?_
  rintro e_t_3 wt_3 ⟨rfl, bt_3⟩
  have HBwt_3 := Lib.hid (grown_below HB.out bt_3)
  replace Ff1_0 := cell_below bt_3 Ff1_0
  replace Ff1_1 := cell_below bt_3 Ff1_1
  replace M0 := Lib.hid (own_below M0.out bt_3)
  clear bt_3
  replace H := let_hid H
  obtain ⟨t_6, ht_6, H⟩ := H
  cases t_6 with
  | false =>
    replace H := ite_f H
    replace H := let_hid H
    obtain ⟨t_10, ht_10, H⟩ := H
    go_wp2_with fail
    go_wp2_with fail
    go_loopg [5, 6] (fuel) (fun m_ v5_ v6_ wr => ∃ (s_0l0 : (List Go.Proofs.Ytpbbechgpgnpbaa.PShade.Shade)) (i_5l0 : Int) (j_6l0 : Int), v5_ = .int .i64 i_5l0 ∧ v6_ = .int .i64 j_6l0 ∧ Hid (loopK (l0 hf1_0 hf1_1) m_ (s_0l0, i_5l0, j_6l0) (e0 ) = some r) ∧ Hid (w.grownBy wr (Value.slice A0 s_0.length c0).ownBlock) ∧ wr.cell? ⟨gf1_0, 0, none⟩ = some (.int .i64 hf1_0) ∧ wr.cell? ⟨gf1_1, 0, none⟩ = some (.int .i64 hf1_1) ∧ Hid (wr.ownsRow b0 26 5 (.slice A0 s_0.length c0) s_0.length (Go.Proofs.Ytpbbechgpgnpbaa.PShade.flat s_0l0)) ∧ Hid (s_0l0.length = s_0.length))
    case atStart => exact ⟨_, _, _, rfl, rfl, H, HBwt_3, Ff1_0, Ff1_1, M0, Lib.hid (rfl)⟩
    case round =>
      obtain ⟨s_0l0, i_5l0, j_6l0, rfl, rfl, H, HBwr0, Ff1_0, Ff1_1, Os_0l0, hns_0l0⟩ := hrel
      rename World => wr0
      cases gk with
      | zero => exact (loop_zero H).elim
      | succ m0 =>
        replace H := loop_succ H
        unfold l0 at H
        replace H := unp3_hid H
        try rw [show s_0l0.length = s_0.length from hns_0l0.out] at H
        replace H := let_hid H
        obtain ⟨t_15, ht_15, H⟩ := H
        cases t_15 with
        | false =>
          replace H := ite_f H
          replace H := app_hid H
          unfold e0 at H
          replace H := unp3_hid H
          try rw [show s_0l0.length = s_0.length from hns_0l0.out] at H
          replace H := guard_hid H
          obtain ⟨hl_cl_40, H⟩ := H
          replace H := let_hid H
          obtain ⟨cl_40, hcl_40, H⟩ := H
          have dcl_40 : ((Go.Proofs.Ytpbbechgpgnpbaa.PShade.flat s_0l0)).take (Int.toNat i_5l0 * 5) ++ (List.replicate (s_0.length - Int.toNat i_5l0) [.string (⟨#[]⟩ : ByteArray), .int .i64 0, .int .i64 0, .int .i64 0, .int .i64 0]).flatten = (Go.Proofs.Ytpbbechgpgnpbaa.PShade.flat cl_40) := by rw [← hcl_40]; exact Go.Proofs.Ytpbbechgpgnpbaa.GoD.flat_clear Go.Proofs.Ytpbbechgpgnpbaa.PShade.Shade.cells 5 (fun _ => rfl) s_0l0 (Int.toNat i_5l0) (s_0.length - Int.toNat i_5l0) ((Go.Proofs.Ytpbbechgpgnpbaa.PShade.Shade.mk ByteArray.empty 0 0 0 0))
          have ncl_40 : Hid (cl_40.length = s_0.length) := Lib.hid (by have hq_ := hns_0l0.out; rw [← hcl_40, List.length_append, List.length_take, List.length_replicate]; omega)
          obtain ⟨Acl_40, mcl_40, ccl_40, wcl_40, rcl_40, ucl_40, ocl_40, gcl_40⟩ := Go.Proofs.Ytpbbechgpgnpbaa.GoD.own_clearK (P := Try.prog) (t := 32) (e := 26) (k := .i64) (zs := [.string (⟨#[]⟩ : ByteArray), .int .i64 0, .int .i64 0, .int .i64 0, .int .i64 0]) (by kernel_rfl) (by kernel_rfl) hi_26 hz1_26 hz0_26 (by rfl) (by rfl) (by decide) (by intro u_ hu_; simp only [List.mem_cons, List.not_mem_nil, or_false] at hu_; rcases hu_ with rfl | rfl | rfl | rfl | rfl <;> rfl) Os_0l0.out hl_cl_40 dcl_40
          have Pcl_40 := Lib.hid ocl_40
          have Gcl_40 := Lib.hid gcl_40
          clear ocl_40 gcl_40 dcl_40 hl_cl_40
          have hhcl_40 := Lib.hid hcl_40
          clear hcl_40
          have HBwcl_40 := Lib.hid (Aid.grown_tr HBwr0.out Gcl_40.out)
          have Ff1_0__120 := cell_other Ff1_0 Gcl_40.out XHgf1_0.out
          have Ff1_1__121 := cell_other Ff1_1 Gcl_40.out XHgf1_1.out
          clear Os_0l0 Gcl_40
          replace H := guard_hid H
          obtain ⟨hl_t_43, H⟩ := H
          replace H := let_hid H
          obtain ⟨t_43, ht_43, H⟩ := H
          have dt_43 : ((Go.Proofs.Ytpbbechgpgnpbaa.PShade.flat cl_40)).take (Int.toNat i_5l0 * 5) = (Go.Proofs.Ytpbbechgpgnpbaa.PShade.flat t_43) := by
            rw [← ht_43]
            exact flat_take Go.Proofs.Ytpbbechgpgnpbaa.PShade.Shade.cells 5 (fun _ => rfl) _ _
          have nt_43 : Int.toNat i_5l0 = t_43.length := by rw [← ht_43, List.length_take]; have h_ := ncl_40.out; omega
          replace hl_t_43 : (0 : Int) ≤ i_5l0 ∧ (i_5l0 : Int) ≤ ((s_0.length : Nat) : Int) := by have h_ := ncl_40.out; omega
          obtain ⟨rt_43, Ot_43⟩ := slice_head (P := Try.prog) (t := 32) (e := 26) (k := .i64) (by kernel_rfl) (by kernel_rfl) hi_26 hz1_26 Pcl_40.out hl_t_43 nt_43 dt_43
          replace Ot_43 := Lib.hid Ot_43
          clear dt_43 nt_43 hl_t_43
          have hht_43 := Lib.hid ht_43
          clear ht_43
          obtain rfl := ret_hid H
          go_wp2_with fail
          go_ret
          exact ⟨A0, c0, rfl, Ot_43.out, HBwcl_40.out, Go.Proofs.Ytpbbechgpgnpbaa.GoK.from_self⟩
        | true =>
          replace H := ite_t H
          replace H := idx_hid H
          obtain ⟨nt_18, yt_18, et_18, lt_18, gt_18, H⟩ := H
          subst et_18
          have nc_122 : nt_18 < s_0.length := by have := of_decide_eq_true ht_15; omega
          obtain ⟨t_18_name, t_18_hue, t_18_width, t_18_dark, t_18_light⟩ := yt_18
          replace H := unShade_hid H
          have hqt_18 := hns_0l0.out
          obtain ⟨qt_18, Qt_18⟩ := own_some Os_0l0.out (by omega)
          subst Qt_18
          obtain ⟨ab_t_18, ao_t_18, zt_18, At_18, z_t_18, ct_18_0, ct_18_1, ct_18_2, ct_18_3, ct_18_4⟩ := Go.Proofs.Ytpbbechgpgnpbaa.OShade.at_ (own_cells Os_0l0.out) (k := nt_18) (by omega)
          obtain rfl := Option.some.inj (gt_18.out.symm.trans z_t_18)
          simp only [Option.some.injEq, Addr.mk.injEq] at At_18
          obtain ⟨rfl, rfl, _⟩ := At_18
          clear z_t_18
          simp only [Nat.zero_add] at ct_18_0 ct_18_1 ct_18_2 ct_18_3 ct_18_4
          have b0t_18 : (0 : Int) ≤ (nt_18 : Int) := by omega
          have b1t_18 : (nt_18 : Int) < ((s_0.length : Nat) : Int) := by omega
          have b2t_18 : ((nt_18 : Int)).toNat = nt_18 := by omega
          clear hqt_18
          obtain ⟨w_v_20, hw_v_20⟩ : ∃ x, wr0.alloc (.cells #[.string t_18_name, .int .i64 t_18_hue, .int .i64 t_18_width, .int .i64 t_18_dark, .int .i64 t_18_light] 26) = x := ⟨_, rfl⟩
          have bw_v_20 : Below wr0.heap.size wr0 w_v_20 := by rw [← hw_v_20]; exact (Below.refl _ _).alloc (Nat.le_refl _) _
          have Dv_20_s_0l0 := Lib.hid (apart_fresh Os_0l0.out)
          have HBw_v_20 := Lib.hid (grown_below HBwr0.out bw_v_20)
          have Ff1_0__123 := cell_below bw_v_20 Ff1_0
          have Ff1_1__124 := cell_below bw_v_20 Ff1_1
          have ct_18_0__125 := cell_below bw_v_20 ct_18_0
          have ct_18_1__126 := cell_below bw_v_20 ct_18_1
          have ct_18_2__127 := cell_below bw_v_20 ct_18_2
          have ct_18_3__128 := cell_below bw_v_20 ct_18_3
          have ct_18_4__129 := cell_below bw_v_20 ct_18_4
          replace Os_0l0 := Lib.hid (own_below Os_0l0.out bw_v_20)
          clear bw_v_20
          have kv_20_0 : w_v_20.cell? ⟨wr0.heap.size, 0, none⟩ = some (.string t_18_name) := by rw [← hw_v_20]; exact box_new _ _ _ 0 _ rfl
          have kv_20_1 : w_v_20.cell? ⟨wr0.heap.size, 1, none⟩ = some (.int .i64 t_18_hue) := by rw [← hw_v_20]; exact box_new _ _ _ 1 _ rfl
          have kv_20_2 : w_v_20.cell? ⟨wr0.heap.size, 2, none⟩ = some (.int .i64 t_18_width) := by rw [← hw_v_20]; exact box_new _ _ _ 2 _ rfl
          have kv_20_3 : w_v_20.cell? ⟨wr0.heap.size, 3, none⟩ = some (.int .i64 t_18_dark) := by rw [← hw_v_20]; exact box_new _ _ _ 3 _ rfl
          have kv_20_4 : w_v_20.cell? ⟨wr0.heap.size, 4, none⟩ = some (.int .i64 t_18_light) := by rw [← hw_v_20]; exact box_new _ _ _ 4 _ rfl
          replace H := bind_hid H
          obtain ⟨t_24, qt_24, H⟩ := H
          go_wp2_with fail
          clear Ff1_0 Ff1_1 ct_18_0 ct_18_1 ct_18_2 ct_18_3 ct_18_4
          go_at_call 76
          refine (Go.Proofs.Ytpbbechgpgnpbaa.GiBestShade1.C ((Go.Proofs.Ytpbbechgpgnpbaa.PShade.Shade.mk t_18_name t_18_hue t_18_width t_18_dark t_18_light)) (hf1_0) (hf1_1) (gf1_0) (gf1_1) _   (Lib.hid Ff1_0__123) (Lib.hid Ff1_1__124) qt_24).mono ?_
          rintro e_t_24 wt_24 ⟨rfl, bt_24⟩
          have HBwt_24 := Lib.hid (grown_below HBw_v_20.out bt_24)
          replace Ff1_0__123 := cell_below bt_24 Ff1_0__123
          replace Ff1_1__124 := cell_below bt_24 Ff1_1__124
          replace ct_18_0__125 := cell_below bt_24 ct_18_0__125
          replace ct_18_1__126 := cell_below bt_24 ct_18_1__126
          replace ct_18_2__127 := cell_below bt_24 ct_18_2__127
          replace ct_18_3__128 := cell_below bt_24 ct_18_3__128
          replace ct_18_4__129 := cell_below bt_24 ct_18_4__129
          replace kv_20_0 := cell_below bt_24 kv_20_0
          replace kv_20_1 := cell_below bt_24 kv_20_1
          replace kv_20_2 := cell_below bt_24 kv_20_2
          replace kv_20_3 := cell_below bt_24 kv_20_3
          replace kv_20_4 := cell_below bt_24 kv_20_4
          replace Os_0l0 := Lib.hid (own_below Os_0l0.out bt_24)
          clear bt_24
          cases t_24 with
          | false =>
            replace H := let_hid H
            obtain ⟨t_25, ht_25, H⟩ := H
            obtain rfl : t_25 = true := ht_25.symm
            replace H := ite_t H
            replace H := idx_hid H
            obtain ⟨nt_29, yt_29, et_29, lt_29, gt_29, H⟩ := H
            subst et_29
            obtain ⟨t_29_name, t_29_hue, t_29_width, t_29_dark, t_29_light⟩ := yt_29
            replace H := unShade_hid H
            have hqt_29 := hns_0l0.out
            obtain ⟨ab_t_29, ao_t_29, zt_29, At_29, z_t_29, ct_29_0, ct_29_1, ct_29_2, ct_29_3, ct_29_4⟩ := Go.Proofs.Ytpbbechgpgnpbaa.OShade.at_ (own_cells Os_0l0.out) (k := nt_29) (by omega)
            obtain rfl := Option.some.inj (gt_29.out.symm.trans z_t_29)
            simp only [Option.some.injEq, Addr.mk.injEq] at At_29
            obtain ⟨rfl, rfl, _⟩ := At_29
            clear z_t_29
            simp only [Nat.zero_add] at ct_29_0 ct_29_1 ct_29_2 ct_29_3 ct_29_4
            have b0t_29 : (0 : Int) ≤ (nt_29 : Int) := by omega
            have b1t_29 : (nt_29 : Int) < ((s_0.length : Nat) : Int) := by omega
            have b2t_29 : ((nt_29 : Int)).toNat = nt_29 := by omega
            clear hqt_29
            replace H := let_hid H
            obtain ⟨l30_30, hl30_30, H⟩ := H
            try simp only [Int.toNat_natCast] at hl30_30
            obtain ⟨wl30_30, hwl30_30⟩ : ∃ x, (((((wt_24).setCell ⟨qt_18, nt_29 * 5, none⟩ (.string t_18_name)).setCell ⟨qt_18, nt_29 * 5 + 1, none⟩ (.int .i64 t_18_hue)).setCell ⟨qt_18, nt_29 * 5 + 2, none⟩ (.int .i64 t_18_width)).setCell ⟨qt_18, nt_29 * 5 + 3, none⟩ (.int .i64 t_18_dark)).setCell ⟨qt_18, nt_29 * 5 + 4, none⟩ (.int .i64 t_18_light) = x := ⟨_, rfl⟩
            have z0l30_30 := Os_0l0.out.frozenAt (nt_29 * 5)
            have z1l30_30 := Os_0l0.out.frozenAt (nt_29 * 5 + 1)
            have z2l30_30 := Os_0l0.out.frozenAt (nt_29 * 5 + 2)
            have z3l30_30 := Os_0l0.out.frozenAt (nt_29 * 5 + 3)
            have z4l30_30 := Os_0l0.out.frozenAt (nt_29 * 5 + 4)
            have Sl30_30 := Lib.hid (own_stores [(nt_29 * 5, .string t_18_name), (nt_29 * 5 + 1, .int .i64 t_18_hue), (nt_29 * 5 + 2, .int .i64 t_18_width), (nt_29 * 5 + 3, .int .i64 t_18_dark), (nt_29 * 5 + 4, .int .i64 t_18_light)] Os_0l0.out)
            have nl30_30 : Hid (l30_30.length = s_0.length) := Lib.hid (by rw [← hl30_30, List.length_set]; exact hns_0l0.out)
            have Pl30_30 : Hid (wl30_30.ownsRow b0 26 5 (.slice (some ⟨qt_18, 0, none⟩) s_0.length c0) s_0.length (Go.Proofs.Ytpbbechgpgnpbaa.PShade.flat l30_30)) := Lib.hid (by have es_ := set_self gt_29.out; have e0_ := flat_set Go.Proofs.Ytpbbechgpgnpbaa.PShade.Shade.cells 5 (fun _ => rfl) s_0l0 (nt_29) 0 (Go.Proofs.Ytpbbechgpgnpbaa.PShade.Shade.mk t_29_name t_29_hue t_29_width t_29_dark t_29_light) (Go.Proofs.Ytpbbechgpgnpbaa.PShade.Shade.mk t_18_name t_29_hue t_29_width t_29_dark t_29_light) (.string t_18_name) lt_29 (by decide) rfl; have e1_ := flat_set Go.Proofs.Ytpbbechgpgnpbaa.PShade.Shade.cells 5 (fun _ => rfl) s_0l0 (nt_29) 1 (Go.Proofs.Ytpbbechgpgnpbaa.PShade.Shade.mk t_18_name t_29_hue t_29_width t_29_dark t_29_light) (Go.Proofs.Ytpbbechgpgnpbaa.PShade.Shade.mk t_18_name t_18_hue t_29_width t_29_dark t_29_light) (.int .i64 t_18_hue) lt_29 (by decide) rfl; have e2_ := flat_set Go.Proofs.Ytpbbechgpgnpbaa.PShade.Shade.cells 5 (fun _ => rfl) s_0l0 (nt_29) 2 (Go.Proofs.Ytpbbechgpgnpbaa.PShade.Shade.mk t_18_name t_18_hue t_29_width t_29_dark t_29_light) (Go.Proofs.Ytpbbechgpgnpbaa.PShade.Shade.mk t_18_name t_18_hue t_18_width t_29_dark t_29_light) (.int .i64 t_18_width) lt_29 (by decide) rfl; have e3_ := flat_set Go.Proofs.Ytpbbechgpgnpbaa.PShade.Shade.cells 5 (fun _ => rfl) s_0l0 (nt_29) 3 (Go.Proofs.Ytpbbechgpgnpbaa.PShade.Shade.mk t_18_name t_18_hue t_18_width t_29_dark t_29_light) (Go.Proofs.Ytpbbechgpgnpbaa.PShade.Shade.mk t_18_name t_18_hue t_18_width t_18_dark t_29_light) (.int .i64 t_18_dark) lt_29 (by decide) rfl; have e4_ := flat_set Go.Proofs.Ytpbbechgpgnpbaa.PShade.Shade.cells 5 (fun _ => rfl) s_0l0 (nt_29) 4 (Go.Proofs.Ytpbbechgpgnpbaa.PShade.Shade.mk t_18_name t_18_hue t_18_width t_18_dark t_29_light) (Go.Proofs.Ytpbbechgpgnpbaa.PShade.Shade.mk t_18_name t_18_hue t_18_width t_18_dark t_18_light) (.int .i64 t_18_light) lt_29 (by decide) rfl; rw [es_] at e0_; have e_ : ([(nt_29 * 5, .string t_18_name), (nt_29 * 5 + 1, .int .i64 t_18_hue), (nt_29 * 5 + 2, .int .i64 t_18_width), (nt_29 * 5 + 3, .int .i64 t_18_dark), (nt_29 * 5 + 4, .int .i64 t_18_light)] : List (Nat × Value)).foldl (fun xs p => xs.set p.1 p.2) (Go.Proofs.Ytpbbechgpgnpbaa.PShade.flat s_0l0) = (Go.Proofs.Ytpbbechgpgnpbaa.PShade.flat l30_30) := (by rw [← hl30_30]; show _ = List.flatMap Go.Proofs.Ytpbbechgpgnpbaa.PShade.Shade.cells _; rw [← e4_, ← e3_, ← e2_, ← e1_, ← e0_]; first | done | rfl); rw [← hwl30_30, ← e_]; exact Sl30_30.out.1)
            have Gl30_30 : Hid (wt_24.grownBy wl30_30 (Value.slice (some ⟨qt_18, 0, none⟩) s_0.length c0).ownBlock) := Lib.hid (by rw [← hwl30_30]; exact Sl30_30.out.2)
            have HBwl30_30 := Lib.hid (Aid.grown_tr HBwt_24.out Gl30_30.out)
            have hhl30_30 := Lib.hid hl30_30
            clear hl30_30 Sl30_30
            have Ff1_0__130 := cell_other Ff1_0__123 Gl30_30.out XHgf1_0.out
            have Ff1_1__131 := cell_other Ff1_1__124 Gl30_30.out XHgf1_1.out
            have kv_20_0__132 := cell_other kv_20_0 Gl30_30.out (Apart.symm Dv_20_s_0l0.out)
            have kv_20_1__133 := cell_other kv_20_1 Gl30_30.out (Apart.symm Dv_20_s_0l0.out)
            have kv_20_2__134 := cell_other kv_20_2 Gl30_30.out (Apart.symm Dv_20_s_0l0.out)
            have kv_20_3__135 := cell_other kv_20_3 Gl30_30.out (Apart.symm Dv_20_s_0l0.out)
            have kv_20_4__136 := cell_other kv_20_4 Gl30_30.out (Apart.symm Dv_20_s_0l0.out)
            clear Os_0l0 Gl30_30
            replace H := let_hid H
            obtain ⟨t_32, ht_32, H⟩ := H
            replace H := let_hid H
            obtain ⟨t_35, ht_35, H⟩ := H
            replace H := app_hid H
            go_wp2_with fail
            clear z0l30_30 z1l30_30 z2l30_30 z3l30_30 z4l30_30 Ff1_0__123 Ff1_1__124 ct_18_0__125 ct_18_1__126 ct_18_2__127 ct_18_3__128 ct_18_4__129 kv_20_0 kv_20_1 kv_20_2 kv_20_3 kv_20_4 ct_29_0 ct_29_1 ct_29_2 ct_29_3 ct_29_4
            go_roundg m0
            case measure => omega
            case rel => exact ⟨_, _, _, rfl, rfl, H, HBwl30_30, Ff1_0__130, Ff1_1__131, Pl30_30, Lib.hid (nl30_30.out)⟩
          | true =>
            replace H := let_hid H
            obtain ⟨t_25, ht_25, H⟩ := H
            obtain rfl : t_25 = false := ht_25.symm
            replace H := ite_f H
            replace H := let_hid H
            obtain ⟨t_35, ht_35, H⟩ := H
            replace H := app_hid H
            go_wp2_with fail
            go_roundg m0
            case measure => omega
            case rel => exact ⟨_, _, _, rfl, rfl, H, HBwt_24, Ff1_0__123, Ff1_1__124, Os_0l0, Lib.hid (hns_0l0.out)⟩
  | true =>
    replace H := ite_t H
    obtain rfl := ret_hid H
    go_wp2_with fail
    go_ret
    exact ⟨A0, c0, rfl, M0.out, HBwt_3.out, Go.Proofs.Ytpbbechgpgnpbaa.GoK.from_self⟩
end Go.Proofs.Ytpbbechgpgnpbaa.GxSlicesDeleteFuncLoopExampleG01062ImplShadeLoopExampleG01062ImplShadeiBestShade1

/- More words for plain functions: tuples of five to eight. No condition. -/
namespace Go.Proofs.Ytpbbechgpgnpbaa.GoP
set_option linter.unusedVariables false
open Go.RowKit
def unp5 {α β γ δ ε ρ : Type} (s : α × β × γ × δ × ε) (f : α → β → γ → δ → ε → Option ρ) : Option ρ := f s.1 s.2.1 s.2.2.1 s.2.2.2.1 s.2.2.2.2
theorem unp5_hid {α β γ δ ε ρ : Type} {x0 : α} {x1 : β} {x2 : γ} {x3 : δ} {x4 : ε} {f : α → β → γ → δ → ε → Option ρ} {r : ρ} (H : Hid (unp5 (x0, x1, x2, x3, x4) f = some r)) : Hid (f x0 x1 x2 x3 x4 = some r) := H
def bind5 {α β γ δ ε ρ : Type} (x : Option (α × β × γ × δ × ε)) (f : α → β → γ → δ → ε → Option ρ) : Option ρ := match x with | none => none | some (x0, x1, x2, x3, x4) => f x0 x1 x2 x3 x4
def unp6 {α β γ δ ε ζ ρ : Type} (s : α × β × γ × δ × ε × ζ) (f : α → β → γ → δ → ε → ζ → Option ρ) : Option ρ := f s.1 s.2.1 s.2.2.1 s.2.2.2.1 s.2.2.2.2.1 s.2.2.2.2.2
theorem unp6_hid {α β γ δ ε ζ ρ : Type} {x0 : α} {x1 : β} {x2 : γ} {x3 : δ} {x4 : ε} {x5 : ζ} {f : α → β → γ → δ → ε → ζ → Option ρ} {r : ρ} (H : Hid (unp6 (x0, x1, x2, x3, x4, x5) f = some r)) : Hid (f x0 x1 x2 x3 x4 x5 = some r) := H
def bind6 {α β γ δ ε ζ ρ : Type} (x : Option (α × β × γ × δ × ε × ζ)) (f : α → β → γ → δ → ε → ζ → Option ρ) : Option ρ := match x with | none => none | some (x0, x1, x2, x3, x4, x5) => f x0 x1 x2 x3 x4 x5
def unp7 {α β γ δ ε ζ η ρ : Type} (s : α × β × γ × δ × ε × ζ × η) (f : α → β → γ → δ → ε → ζ → η → Option ρ) : Option ρ := f s.1 s.2.1 s.2.2.1 s.2.2.2.1 s.2.2.2.2.1 s.2.2.2.2.2.1 s.2.2.2.2.2.2
theorem unp7_hid {α β γ δ ε ζ η ρ : Type} {x0 : α} {x1 : β} {x2 : γ} {x3 : δ} {x4 : ε} {x5 : ζ} {x6 : η} {f : α → β → γ → δ → ε → ζ → η → Option ρ} {r : ρ} (H : Hid (unp7 (x0, x1, x2, x3, x4, x5, x6) f = some r)) : Hid (f x0 x1 x2 x3 x4 x5 x6 = some r) := H
def bind7 {α β γ δ ε ζ η ρ : Type} (x : Option (α × β × γ × δ × ε × ζ × η)) (f : α → β → γ → δ → ε → ζ → η → Option ρ) : Option ρ := match x with | none => none | some (x0, x1, x2, x3, x4, x5, x6) => f x0 x1 x2 x3 x4 x5 x6
def unp8 {α β γ δ ε ζ η θ ρ : Type} (s : α × β × γ × δ × ε × ζ × η × θ) (f : α → β → γ → δ → ε → ζ → η → θ → Option ρ) : Option ρ := f s.1 s.2.1 s.2.2.1 s.2.2.2.1 s.2.2.2.2.1 s.2.2.2.2.2.1 s.2.2.2.2.2.2.1 s.2.2.2.2.2.2.2
theorem unp8_hid {α β γ δ ε ζ η θ ρ : Type} {x0 : α} {x1 : β} {x2 : γ} {x3 : δ} {x4 : ε} {x5 : ζ} {x6 : η} {x7 : θ} {f : α → β → γ → δ → ε → ζ → η → θ → Option ρ} {r : ρ} (H : Hid (unp8 (x0, x1, x2, x3, x4, x5, x6, x7) f = some r)) : Hid (f x0 x1 x2 x3 x4 x5 x6 x7 = some r) := H
def bind8 {α β γ δ ε ζ η θ ρ : Type} (x : Option (α × β × γ × δ × ε × ζ × η × θ)) (f : α → β → γ → δ → ε → ζ → η → θ → Option ρ) : Option ρ := match x with | none => none | some (x0, x1, x2, x3, x4, x5, x6, x7) => f x0 x1 x2 x3 x4 x5 x6 x7
end Go.Proofs.Ytpbbechgpgnpbaa.GoP

/- The contracts of the laws' helpers on slices of ints: toIntS, eqIntS, markIntS, heldIntS. Condition: the slice reads as a list of ints. -/
namespace Go.Proofs.Ytpbbechgpgnpbaa.HelpInt
set_option linter.unusedVariables false
open Go.RowKit
open Go.Proofs.Ytpbbechgpgnpbaa.Rowed

/-- ints as values -/
def iv (l : List Int) : List Value := l.map (Value.int .i64)
theorem iv_len (l : List Int) : (iv l).length = l.length := by simp [iv]
theorem iv_at (l : List Int) (k : Nat) : (iv l)[k]? = (l[k]?).map (Value.int .i64) := by simp [iv]
theorem iv_snoc (l : List Int) (x : Int) : iv (l ++ [x]) = iv l ++ [.int .i64 x] := by simp [iv]
/-- the slice 'A, n' reads as the ints l -/
abbrev Ints (w : World) (A : Option Addr) (n : Nat) (l : List Int) : Prop := Cells w 1 A n (iv l)
theorem add_none (b o n : Nat) : (⟨b, o, none⟩ : Addr).add n = ⟨b, o + n, none⟩ := by
  unfold Addr.add; split
  · rename_i h; subst h; rfl
  · rfl
theorem Ints.at_ {w : World} {A : Option Addr} {n k : Nat} {l : List Int} (h : Ints w A n l) (hk : k < n) : ∃ (b o : Nat) (x : Int), A = some ⟨b, o, none⟩ ∧ l[k]? = some x ∧ w.cell? ⟨b, o + k, none⟩ = some (.int .i64 x) := by
  have hl : k < l.length := by have := h.1; rw [iv_len] at this; omega
  obtain ⟨⟨b, o, sp⟩, e, hc⟩ := h.2 (by rw [iv_len]; omega)
  have h0 := hc 0 _ (by rw [iv_at, List.getElem?_eq_getElem (show 0 < l.length by omega)]; rfl)
  obtain rfl : sp = none := cell_spot (b := b) (o := o) h0
  have hs := List.getElem?_eq_getElem hl
  have := hc k (.int .i64 l[k]) (by rw [iv_at, hs]; rfl)
  rw [add_none] at this
  exact ⟨b, o, l[k], e, hs, this⟩








end Go.Proofs.Ytpbbechgpgnpbaa.HelpInt

/- cmp.isNaN[int] as a plain function, and the contract of the program's: where the plain one has an answer, the program has it. Conditions: slices read as lists. -/
namespace Go.Proofs.Ytpbbechgpgnpbaa.GxCmpIsNaNInt
set_option linter.unusedVariables false
set_option linter.unusedSimpArgs false
open Go.RowKit
open Go.Proofs.Ytpbbechgpgnpbaa.Rowed Go.Proofs.Ytpbbechgpgnpbaa.Turn Go.Proofs.Ytpbbechgpgnpbaa.Aid Go.Proofs.Ytpbbechgpgnpbaa.GoP Go.Proofs.Ytpbbechgpgnpbaa.GoM

def P (x : Int) : Option (Bool) :=
  some false

set_option maxRecDepth 100000 in
set_option maxHeartbeats 2000000 in
theorem C (x : Int)   (w : World)   {r : Bool} (H : Hid (P x = some r)) :
    Calls Try.prog 99 #[.int .i64 x] w (Gives (.bool r) w) := by
  have HB := Lib.hid (Below.refl w.heap.size w)
  unfold P at H
  go_enter Try.func99, Try.ntmps99
  obtain rfl := ret_hid H
  go_wp2_with fail
  go_ret
  exact ⟨rfl, HB.out⟩

set_option maxRecDepth 100000 in
set_option maxHeartbeats 2000000 in
theorem C0 (x : Int)   (w : World)   {r : Bool} (H : Hid (P x = some r)) :
    Calls Try.prog 99 #[.int .i64 x] w (fun e w'' => e = .returned (.bool r) ∧ w'' = w) := by
  have HB := Lib.hid (Below.refl w.heap.size w)
  unfold P at H
  go_enter Try.func99, Try.ntmps99
  obtain rfl := ret_hid H
  go_wp2_with fail
  go_ret
  exact ⟨rfl, rfl⟩
end Go.Proofs.Ytpbbechgpgnpbaa.GxCmpIsNaNInt

/- cmp.Compare[int] as a plain function, and the contract of the program's: where the plain one has an answer, the program has it. Conditions: slices read as lists. -/
namespace Go.Proofs.Ytpbbechgpgnpbaa.GxCmpCompareInt
set_option linter.unusedVariables false
set_option linter.unusedSimpArgs false
open Go.RowKit
open Go.Proofs.Ytpbbechgpgnpbaa.Rowed Go.Proofs.Ytpbbechgpgnpbaa.Turn Go.Proofs.Ytpbbechgpgnpbaa.Aid Go.Proofs.Ytpbbechgpgnpbaa.GoP Go.Proofs.Ytpbbechgpgnpbaa.GoM

def P (x : Int) (y : Int) : Option (Int) :=
  Option.bind (Go.Proofs.Ytpbbechgpgnpbaa.GxCmpIsNaNInt.P x) fun (t_2 : Bool) =>
  Option.bind (Go.Proofs.Ytpbbechgpgnpbaa.GxCmpIsNaNInt.P y) fun (t_5 : Bool) =>
  iteK t_2
  (iteK t_5
  (some 0)
  (some (-1)))
  (iteK t_5
  (some 1)
  (letK (decide (x < y)) fun (t_15 : Bool) =>
  iteK t_15
  (some (-1))
  (letK (decide (y < x)) fun (t_19 : Bool) =>
  iteK t_19
  (some 1)
  (some 0))))

set_option maxRecDepth 100000 in
set_option maxHeartbeats 2000000 in
theorem C (x : Int) (y : Int)   (w : World)   {r : Int} (H : Hid (P x y = some r)) :
    Calls Try.prog 80 #[.int .i64 x, .int .i64 y] w (Gives (.int .i64 r) w) := by
  have HB := Lib.hid (Below.refl w.heap.size w)
  unfold P at H
  go_enter Try.func80, Try.ntmps80
  replace H := bind_hid H
  obtain ⟨t_2, qt_2, H⟩ := H
  go_wp2_with fail
  go_at_call 99
  refine (Go.Proofs.Ytpbbechgpgnpbaa.GxCmpIsNaNInt.C (x)  _    qt_2).mono ?_
  rintro e_t_2 wt_2 ⟨rfl, bt_2⟩
  have HBwt_2 := Lib.hid (Below.step HB.out bt_2)
  clear bt_2
  replace H := bind_hid H
  obtain ⟨t_5, qt_5, H⟩ := H
  go_wp2_with fail
  go_at_call 99
  refine (Go.Proofs.Ytpbbechgpgnpbaa.GxCmpIsNaNInt.C (y)  _    qt_5).mono ?_
  rintro e_t_5 wt_5 ⟨rfl, bt_5⟩
  have HBwt_5 := Lib.hid (Below.step HBwt_2.out bt_5)
  clear bt_5
  cases t_2 with
  | false =>
    replace H := ite_f H
    cases t_5 with
    | false =>
      replace H := ite_f H
      replace H := let_hid H
      obtain ⟨t_15, ht_15, H⟩ := H
      cases t_15 with
      | false =>
        replace H := ite_f H
        replace H := let_hid H
        obtain ⟨t_19, ht_19, H⟩ := H
        cases t_19 with
        | false =>
          replace H := ite_f H
          obtain rfl := ret_hid H
          go_wp2_with fail
          go_ret
          exact ⟨rfl, HBwt_5.out⟩
        | true =>
          replace H := ite_t H
          obtain rfl := ret_hid H
          go_wp2_with fail
          go_ret
          exact ⟨rfl, HBwt_5.out⟩
      | true =>
        replace H := ite_t H
        obtain rfl := ret_hid H
        go_wp2_with fail
        go_ret
        exact ⟨rfl, HBwt_5.out⟩
    | true =>
      replace H := ite_t H
      obtain rfl := ret_hid H
      go_wp2_with fail
      go_ret
      exact ⟨rfl, HBwt_5.out⟩
  | true =>
    replace H := ite_t H
    cases t_5 with
    | false =>
      replace H := ite_f H
      obtain rfl := ret_hid H
      go_wp2_with fail
      go_ret
      exact ⟨rfl, HBwt_5.out⟩
    | true =>
      replace H := ite_t H
      obtain rfl := ret_hid H
      go_wp2_with fail
      go_ret
      exact ⟨rfl, HBwt_5.out⟩
end Go.Proofs.Ytpbbechgpgnpbaa.GxCmpCompareInt

/- cmp.Or[int] as a plain function, and the contract of the program's: where the plain one has an answer, the program has it. Conditions: slices read as lists. -/
namespace Go.Proofs.Ytpbbechgpgnpbaa.GxCmpOrInt
set_option linter.unusedVariables false
set_option linter.unusedSimpArgs false
open Go.RowKit
open Go.Proofs.Ytpbbechgpgnpbaa.Rowed Go.Proofs.Ytpbbechgpgnpbaa.Turn Go.Proofs.Ytpbbechgpgnpbaa.Aid Go.Proofs.Ytpbbechgpgnpbaa.GoP Go.Proofs.Ytpbbechgpgnpbaa.GoM

def l0 (vals : (List Int)) (k0 : Nat) (s : Unit) (nx0 bk0 : Unit → Option (Int)) : Option (Int) :=
  
  Option.bind (idx vals (k0 : Int)) fun (yt_6 : Int) =>
  letK (yt_6 != 0) fun (t_11 : Bool) =>
  iteK t_11
  (some yt_6)
  (appK nx0 ())

def e0  (s : Unit) : Option (Int) :=
  
  some 0

def P (vals : (List Int)) : Option (Int) :=
  cntK (l0 vals) (vals.length) 0 () (e0 )

set_option maxRecDepth 100000 in
set_option maxHeartbeats 2000000 in
theorem C (vals : (List Int)) (A0 : Option Addr) (c0 : Nat)  (w : World) (M0 : Hid (Cells w 1 A0 vals.length (Go.Proofs.Ytpbbechgpgnpbaa.HelpInt.iv vals))) (N0 : Hid (vals.length ≤ 9223372036854775807))  {r : Int} (H : Hid (P vals = some r)) :
    Calls Try.prog 79 #[.slice A0 vals.length c0] w (Gives (.int .i64 r) w) := by
  have HB := Lib.hid (Below.refl w.heap.size w)
  unfold P at H
  have N0o := N0.out
  go_enter Try.func79, Try.ntmps79
  go_wp2_with fail
  go_loopg [8] (vals.length) (fun m_ v8_ wr => ∃ (k0 : Nat) , k0 + m_ = vals.length ∧ v8_ = .int .i64 (k0 : Int) ∧ Hid (cntK (l0 vals) m_ k0 () (e0 ) = some r) ∧ Hid (Below w.heap.size w wr))
  case atStart => exact ⟨0, by omega, rfl, H, HB⟩
  case round =>
    obtain ⟨k0, hkm0, rfl, H, HBwr0⟩ := hrel
    rename World => wr0
    cases gk with
    | zero =>
      obtain rfl : k0 = vals.length := by omega
      have hc0 : decide (((vals.length : Nat) : Int) < ((vals.length : Nat) : Int)) = false := by simp
      replace H := cnt_zero H
      unfold e0 at H
      obtain rfl := ret_hid H
      go_wp2_with fail
      go_ret
      exact ⟨rfl, HBwr0.out⟩
    | succ m0 =>
      have hlt0 : k0 < vals.length := by omega
      have hc0 : decide ((k0 : Int) < ((vals.length : Nat) : Int)) = true := by simp; omega
      replace H := cnt_succ H
      unfold l0 at H
      replace H := idx_hid H
      obtain ⟨nt_6, yt_6, et_6, lt_6, gt_6, H⟩ := H
      obtain rfl : k0 = nt_6 := by omega
      clear et_6
      obtain ⟨ab_t_6, ao_t_6, zt_6, At_6, z_t_6, ct_6_0⟩ := Go.Proofs.Ytpbbechgpgnpbaa.HelpInt.Ints.at_ M0.out lt_6
      obtain rfl := Option.some.inj (gt_6.out.symm.trans z_t_6)
      subst At_6
      have ltt_6 := cell_lt ct_6_0
      replace ct_6_0 := cell_below HBwr0.out ct_6_0
      clear z_t_6
      have b0t_6 : (0 : Int) ≤ (k0 : Int) := by omega
      have b1t_6 : (k0 : Int) < ((vals.length : Nat) : Int) := by omega
      have b2t_6 : ((k0 : Int)).toNat = k0 := by omega
      replace H := let_hid H
      obtain ⟨t_11, ht_11, H⟩ := H
      cases t_11 with
      | false =>
        replace H := ite_f H
        replace H := app_hid H
        go_wp2_with fail
        go_roundg m0
        case measure => omega
        case rel => exact ⟨k0 + 1, by omega, by go_num, H, HBwr0⟩
      | true =>
        replace H := ite_t H
        obtain rfl := ret_hid H
        go_wp2_with fail
        go_ret
        exact ⟨rfl, HBwr0.out⟩
end Go.Proofs.Ytpbbechgpgnpbaa.GxCmpOrInt

/- loop.example/g01062/impl.BestShade$2 as a plain function, and the contract of the program's: where the plain one has an answer, the program has it. Conditions: slices read as lists. -/
namespace Go.Proofs.Ytpbbechgpgnpbaa.GiBestShade2
set_option linter.unusedVariables false
set_option linter.unusedSimpArgs false
open Go.RowKit
open Go.Proofs.Ytpbbechgpgnpbaa.Rowed Go.Proofs.Ytpbbechgpgnpbaa.Turn Go.Proofs.Ytpbbechgpgnpbaa.Aid Go.Proofs.Ytpbbechgpgnpbaa.GoP Go.Proofs.Ytpbbechgpgnpbaa.GoM

def P (x : Go.Proofs.Ytpbbechgpgnpbaa.PShade.Shade) (y : Go.Proofs.Ytpbbechgpgnpbaa.PShade.Shade) (hq0 : Int) : Option (Int) :=
  unShade x fun (x_name : ByteArray) (x_hue : Int) (x_width : Int) (x_dark : Int) (x_light : Int) =>
  unShade y fun (y_name : ByteArray) (y_hue : Int) (y_width : Int) (y_dark : Int) (y_light : Int) =>
  Option.bind (Go.Proofs.Ytpbbechgpgnpbaa.GiLoHueDistance.P x_hue hq0) fun (t_6 : Int) =>
  Option.bind (Go.Proofs.Ytpbbechgpgnpbaa.GiLoHueDistance.P y_hue hq0) fun (t_10 : Int) =>
  Option.bind (Go.Proofs.Ytpbbechgpgnpbaa.GxCmpCompareInt.P t_6 t_10) fun (t_11 : Int) =>
  Option.bind (Go.Proofs.Ytpbbechgpgnpbaa.GxCmpCompareInt.P x_width y_width) fun (t_16 : Int) =>
  letK ([t_11, t_16]) fun (t_17 : (List Int)) =>
  Option.bind (Go.Proofs.Ytpbbechgpgnpbaa.GxCmpOrInt.P t_17) fun (t_18 : Int) =>
  some t_18

set_option maxRecDepth 100000 in
set_option maxHeartbeats 2000000 in
theorem C (x : Go.Proofs.Ytpbbechgpgnpbaa.PShade.Shade) (y : Go.Proofs.Ytpbbechgpgnpbaa.PShade.Shade) (hq0 : Int)  (gq0 : Nat) (w : World)  (Fq0h : Hid (w.cell? ⟨gq0, 0, none⟩ = some (.int .i64 hq0))) {r : Int} (H : Hid (P x y hq0 = some r)) :
    Calls Try.prog 78 #[x.val, y.val, .pointer (some ⟨gq0, 0, none⟩)] w (Gives (.int .i64 r) w) := by
  have HB := Lib.hid (Below.refl w.heap.size w)
  unfold P at H
  obtain ⟨x_name, x_hue, x_width, x_dark, x_light⟩ := x
  replace H := unShade_hid H
  obtain ⟨y_name, y_hue, y_width, y_dark, y_light⟩ := y
  replace H := unShade_hid H
  unfold Go.Proofs.Ytpbbechgpgnpbaa.PShade.Shade.val
  have Fq0 := Fq0h.out
  go_enter Try.func78, Try.ntmps78
  obtain ⟨w_x_0, hw_x_0⟩ : ∃ x, w.alloc (.cells #[.string x_name, .int .i64 x_hue, .int .i64 x_width, .int .i64 x_dark, .int .i64 x_light] 26) = x := ⟨_, rfl⟩
  have bw_x_0 : Below w.heap.size w w_x_0 := by rw [← hw_x_0]; exact (Below.refl _ _).alloc (Nat.le_refl _) _
  have HBw_x_0 := Lib.hid (Below.step HB.out bw_x_0)
  have Fq0__137 := cell_below bw_x_0 Fq0
  clear bw_x_0
  have kx_0_0 : w_x_0.cell? ⟨w.heap.size, 0, none⟩ = some (.string x_name) := by rw [← hw_x_0]; exact box_new _ _ _ 0 _ rfl
  have kx_0_1 : w_x_0.cell? ⟨w.heap.size, 1, none⟩ = some (.int .i64 x_hue) := by rw [← hw_x_0]; exact box_new _ _ _ 1 _ rfl
  have kx_0_2 : w_x_0.cell? ⟨w.heap.size, 2, none⟩ = some (.int .i64 x_width) := by rw [← hw_x_0]; exact box_new _ _ _ 2 _ rfl
  have kx_0_3 : w_x_0.cell? ⟨w.heap.size, 3, none⟩ = some (.int .i64 x_dark) := by rw [← hw_x_0]; exact box_new _ _ _ 3 _ rfl
  have kx_0_4 : w_x_0.cell? ⟨w.heap.size, 4, none⟩ = some (.int .i64 x_light) := by rw [← hw_x_0]; exact box_new _ _ _ 4 _ rfl
  obtain ⟨w_y_1, hw_y_1⟩ : ∃ x, w_x_0.alloc (.cells #[.string y_name, .int .i64 y_hue, .int .i64 y_width, .int .i64 y_dark, .int .i64 y_light] 26) = x := ⟨_, rfl⟩
  have bw_y_1 : Below w_x_0.heap.size w_x_0 w_y_1 := by rw [← hw_y_1]; exact (Below.refl _ _).alloc (Nat.le_refl _) _
  have HBw_y_1 := Lib.hid (Below.step HBw_x_0.out bw_y_1)
  have Fq0__138 := cell_below bw_y_1 Fq0__137
  have kx_0_0__139 := cell_below bw_y_1 kx_0_0
  have kx_0_1__140 := cell_below bw_y_1 kx_0_1
  have kx_0_2__141 := cell_below bw_y_1 kx_0_2
  have kx_0_3__142 := cell_below bw_y_1 kx_0_3
  have kx_0_4__143 := cell_below bw_y_1 kx_0_4
  clear bw_y_1
  have ky_1_0 : w_y_1.cell? ⟨w_x_0.heap.size, 0, none⟩ = some (.string y_name) := by rw [← hw_y_1]; exact box_new _ _ _ 0 _ rfl
  have ky_1_1 : w_y_1.cell? ⟨w_x_0.heap.size, 1, none⟩ = some (.int .i64 y_hue) := by rw [← hw_y_1]; exact box_new _ _ _ 1 _ rfl
  have ky_1_2 : w_y_1.cell? ⟨w_x_0.heap.size, 2, none⟩ = some (.int .i64 y_width) := by rw [← hw_y_1]; exact box_new _ _ _ 2 _ rfl
  have ky_1_3 : w_y_1.cell? ⟨w_x_0.heap.size, 3, none⟩ = some (.int .i64 y_dark) := by rw [← hw_y_1]; exact box_new _ _ _ 3 _ rfl
  have ky_1_4 : w_y_1.cell? ⟨w_x_0.heap.size, 4, none⟩ = some (.int .i64 y_light) := by rw [← hw_y_1]; exact box_new _ _ _ 4 _ rfl
  go_wp2_with fail
  clear Fq0 Fq0__137 kx_0_0 kx_0_1 kx_0_2 kx_0_3 kx_0_4
  have bd1 : Below w_y_1.heap.size w_y_1 w_y_1.drew := (Below.refl _ _).drew
  have HBw_y_1.drew := Lib.hid (Below.step HBw_y_1.out bd1)
  replace Fq0__138 := cell_below bd1 Fq0__138
  replace kx_0_0__139 := cell_below bd1 kx_0_0__139
  replace kx_0_1__140 := cell_below bd1 kx_0_1__140
  replace kx_0_2__141 := cell_below bd1 kx_0_2__141
  replace kx_0_3__142 := cell_below bd1 kx_0_3__142
  replace kx_0_4__143 := cell_below bd1 kx_0_4__143
  replace ky_1_0 := cell_below bd1 ky_1_0
  replace ky_1_1 := cell_below bd1 ky_1_1
  replace ky_1_2 := cell_below bd1 ky_1_2
  replace ky_1_3 := cell_below bd1 ky_1_3
  replace ky_1_4 := cell_below bd1 ky_1_4
  clear bd1
  replace H := bind_hid H
  obtain ⟨t_6, qt_6, H⟩ := H
  replace H := bind_hid H
  obtain ⟨t_10, qt_10, H⟩ := H
  replace H := bind_hid H
  obtain ⟨t_11, qt_11, H⟩ := H
  replace H := bind_hid H
  obtain ⟨t_16, qt_16, H⟩ := H
  replace H := let_hid H
  obtain ⟨t_17, ht_17, H⟩ := H
  replace H := bind_hid H
  obtain ⟨t_18, qt_18, H⟩ := H
  go_region_held3 (fun w' => w'.cell? ⟨gq0, 0, none⟩ = some (.int .i64 hq0) ∧ w'.cell? ⟨w.heap.size, 0, none⟩ = some (.string x_name) ∧ w'.cell? ⟨w.heap.size, 1, none⟩ = some (.int .i64 x_hue) ∧ w'.cell? ⟨w.heap.size, 2, none⟩ = some (.int .i64 x_width) ∧ w'.cell? ⟨w.heap.size, 3, none⟩ = some (.int .i64 x_dark) ∧ w'.cell? ⟨w.heap.size, 4, none⟩ = some (.int .i64 x_light) ∧ w'.cell? ⟨w_x_0.heap.size, 0, none⟩ = some (.string y_name) ∧ w'.cell? ⟨w_x_0.heap.size, 1, none⟩ = some (.int .i64 y_hue) ∧ w'.cell? ⟨w_x_0.heap.size, 2, none⟩ = some (.int .i64 y_width) ∧ w'.cell? ⟨w_x_0.heap.size, 3, none⟩ = some (.int .i64 y_dark) ∧ w'.cell? ⟨w_x_0.heap.size, 4, none⟩ = some (.int .i64 y_light)) (first | exact ⟨Fq0__138, kx_0_0__139, kx_0_1__140, kx_0_2__141, kx_0_3__142, kx_0_4__143, ky_1_0, ky_1_1, ky_1_2, ky_1_3, ky_1_4⟩ | exact ⟨Fq0__144, kx_0_0__145, kx_0_1__146, kx_0_2__147, kx_0_3__148, kx_0_4__149, ky_1_0__150, ky_1_1__151, ky_1_2__152, ky_1_3__153, ky_1_4__154⟩)
      (first
        | (go_at_call 66
           refine (Go.Proofs.Ytpbbechgpgnpbaa.GiLoHueDistance.C (x_hue) (hq0)  _    qt_6).mono ?_
           rintro e_t_6 wt_6 ⟨rfl, bt_6⟩
           have HBwt_6 := Lib.hid (Below.step HBw_y_1.drew.out bt_6)
           replace Fq0__138 := cell_below bt_6 Fq0__138
           replace kx_0_0__139 := cell_below bt_6 kx_0_0__139
           replace kx_0_1__140 := cell_below bt_6 kx_0_1__140
           replace kx_0_2__141 := cell_below bt_6 kx_0_2__141
           replace kx_0_3__142 := cell_below bt_6 kx_0_3__142
           replace kx_0_4__143 := cell_below bt_6 kx_0_4__143
           replace ky_1_0 := cell_below bt_6 ky_1_0
           replace ky_1_1 := cell_below bt_6 ky_1_1
           replace ky_1_2 := cell_below bt_6 ky_1_2
           replace ky_1_3 := cell_below bt_6 ky_1_3
           replace ky_1_4 := cell_below bt_6 ky_1_4
           clear bt_6
           clear qt_6)
        | (go_at_call 66
           refine (Go.Proofs.Ytpbbechgpgnpbaa.GiLoHueDistance.C (y_hue) (hq0)  _    qt_10).mono ?_
           rintro e_t_10 wt_10 ⟨rfl, bt_10⟩
           have HBwt_10 := Lib.hid (Below.step HBwt_6.out bt_10)
           replace Fq0__138 := cell_below bt_10 Fq0__138
           replace kx_0_0__139 := cell_below bt_10 kx_0_0__139
           replace kx_0_1__140 := cell_below bt_10 kx_0_1__140
           replace kx_0_2__141 := cell_below bt_10 kx_0_2__141
           replace kx_0_3__142 := cell_below bt_10 kx_0_3__142
           replace kx_0_4__143 := cell_below bt_10 kx_0_4__143
           replace ky_1_0 := cell_below bt_10 ky_1_0
           replace ky_1_1 := cell_below bt_10 ky_1_1
           replace ky_1_2 := cell_below bt_10 ky_1_2
           replace ky_1_3 := cell_below bt_10 ky_1_3
           replace ky_1_4 := cell_below bt_10 ky_1_4
           clear bt_10
           clear qt_10)
        | (go_at_call 80
           refine (Go.Proofs.Ytpbbechgpgnpbaa.GxCmpCompareInt.C (t_6) (t_10)  _    qt_11).mono ?_
           rintro e_t_11 wt_11 ⟨rfl, bt_11⟩
           have HBwt_11 := Lib.hid (Below.step HBwt_10.out bt_11)
           replace Fq0__138 := cell_below bt_11 Fq0__138
           replace kx_0_0__139 := cell_below bt_11 kx_0_0__139
           replace kx_0_1__140 := cell_below bt_11 kx_0_1__140
           replace kx_0_2__141 := cell_below bt_11 kx_0_2__141
           replace kx_0_3__142 := cell_below bt_11 kx_0_3__142
           replace kx_0_4__143 := cell_below bt_11 kx_0_4__143
           replace ky_1_0 := cell_below bt_11 ky_1_0
           replace ky_1_1 := cell_below bt_11 ky_1_1
           replace ky_1_2 := cell_below bt_11 ky_1_2
           replace ky_1_3 := cell_below bt_11 ky_1_3
           replace ky_1_4 := cell_below bt_11 ky_1_4
           clear bt_11
           clear qt_11)
        | (go_at_call 80
           refine (Go.Proofs.Ytpbbechgpgnpbaa.GxCmpCompareInt.C (x_width) (y_width)  _    qt_16).mono ?_
           rintro e_t_16 wt_16 ⟨rfl, bt_16⟩
           have HBwt_16 := Lib.hid (Below.step HBwt_11.out bt_16)
           replace Fq0__138 := cell_below bt_16 Fq0__138
           replace kx_0_0__139 := cell_below bt_16 kx_0_0__139
           replace kx_0_1__140 := cell_below bt_16 kx_0_1__140
           replace kx_0_2__141 := cell_below bt_16 kx_0_2__141
           replace kx_0_3__142 := cell_below bt_16 kx_0_3__142
           replace kx_0_4__143 := cell_below bt_16 kx_0_4__143
           replace ky_1_0 := cell_below bt_16 ky_1_0
           replace ky_1_1 := cell_below bt_16 ky_1_1
           replace ky_1_2 := cell_below bt_16 ky_1_2
           replace ky_1_3 := cell_below bt_16 ky_1_3
           replace ky_1_4 := cell_below bt_16 ky_1_4
           clear bt_16
           clear qt_16
           obtain ⟨w_t_17, hw_t_17⟩ : ∃ x, wt_16.alloc (.cells #[.int .i64 t_11, .int .i64 t_16] 3) = x := ⟨_, rfl⟩
           have bw_t_17 : Below wt_16.heap.size wt_16 w_t_17 := by rw [← hw_t_17]; exact (Below.refl _ _).alloc (Nat.le_refl _) _
           have hs_t_17 := HBwt_16.out.size
           have nt_17 : t_17.length = 2 := by rw [← ht_17]; rfl
           have Ot_17 : Hid (w_t_17.ownsRow w.heap.size 3 1 (.slice (some ⟨wt_16.heap.size, 0, none⟩) 2 2) 2 (Go.Proofs.Ytpbbechgpgnpbaa.HelpInt.iv t_17)) := by
             rw [← hw_t_17, ← ht_17]
             have e_ : ([.int .i64 t_11, .int .i64 t_16] : List Value) = (Go.Proofs.Ytpbbechgpgnpbaa.HelpInt.iv ([t_11, t_16] : List Int)) := rfl
             exact Lib.hid (own_laid (n := 2) hs_t_17 e_ rfl (by unfold maxLen; omega))
           clear hs_t_17
           have hht_17 := Lib.hid ht_17
           clear ht_17
           replace nt_17 := Lib.hid nt_17
           have Dt_17_x_0 := Lib.hid (apart_box kx_0_0__139)
           have Dt_17_y_1 := Lib.hid (apart_box ky_1_0)
           have HBw_t_17 := Lib.hid (Below.step HBwt_16.out bw_t_17)
           have Fq0__144 := cell_below bw_t_17 Fq0__138
           have kx_0_0__145 := cell_below bw_t_17 kx_0_0__139
           have kx_0_1__146 := cell_below bw_t_17 kx_0_1__140
           have kx_0_2__147 := cell_below bw_t_17 kx_0_2__141
           have kx_0_3__148 := cell_below bw_t_17 kx_0_3__142
           have kx_0_4__149 := cell_below bw_t_17 kx_0_4__143
           have ky_1_0__150 := cell_below bw_t_17 ky_1_0
           have ky_1_1__151 := cell_below bw_t_17 ky_1_1
           have ky_1_2__152 := cell_below bw_t_17 ky_1_2
           have ky_1_3__153 := cell_below bw_t_17 ky_1_3
           have ky_1_4__154 := cell_below bw_t_17 ky_1_4
           clear bw_t_17)
        | (have hc0_ := nt_17.out
           have Oct_18_1 := Lib.hid (own_len hc0_ Ot_17.out)
           have con_ := Go.Proofs.Ytpbbechgpgnpbaa.GxCmpOrInt.C (t_17) (some ⟨wt_16.heap.size, 0, none⟩) 2 _   (Lib.hid (own_cells Oct_18_1.out)) (Lib.hid (own_max Oct_18_1.out)) qt_18
           rw [hc0_] at con_
           clear hc0_ Oct_18_1
           go_at_call 79
           refine con_.mono ?_
           rintro e_t_18 wt_18 ⟨rfl, bt_18⟩
           have HBwt_18 := Lib.hid (Below.step HBw_t_17.out bt_18)
           replace Fq0__144 := cell_below bt_18 Fq0__144
           replace kx_0_0__145 := cell_below bt_18 kx_0_0__145
           replace kx_0_1__146 := cell_below bt_18 kx_0_1__146
           replace kx_0_2__147 := cell_below bt_18 kx_0_2__147
           replace kx_0_3__148 := cell_below bt_18 kx_0_3__148
           replace kx_0_4__149 := cell_below bt_18 kx_0_4__149
           replace ky_1_0__150 := cell_below bt_18 ky_1_0__150
           replace ky_1_1__151 := cell_below bt_18 ky_1_1__151
           replace ky_1_2__152 := cell_below bt_18 ky_1_2__152
           replace ky_1_3__153 := cell_below bt_18 ky_1_3__153
           replace ky_1_4__154 := cell_below bt_18 ky_1_4__154
           replace Ot_17 := Lib.hid (own_below Ot_17.out bt_18)
           clear bt_18
           clear qt_18))
  try clear Fq0__138
  try clear kx_0_0__139
  try clear kx_0_1__140
  try clear kx_0_2__141
  try clear kx_0_3__142
  try clear kx_0_4__143
  try clear ky_1_0
  try clear ky_1_1
  try clear ky_1_2
  try clear ky_1_3
  try clear ky_1_4
  obtain rfl := ret_hid H
  go_wp2_with fail
  go_ret
  exact ⟨rfl, HBwt_18.out⟩
end Go.Proofs.Ytpbbechgpgnpbaa.GiBestShade2

/- slices.MinFunc[[]loop.example/g01062/impl.Shade,loop.example/g01062/impl.Shade] as a plain function, and the contract of the program's: where the plain one has an answer, the program has it. Conditions: slices read as lists. -/
namespace Go.Proofs.Ytpbbechgpgnpbaa.GxSlicesMinFuncLoopExampleG01062ImplShadeLoopExampleG01062ImplShadeiBestShade2
set_option linter.unusedVariables false
set_option linter.unusedSimpArgs false
open Go.RowKit
open Go.Proofs.Ytpbbechgpgnpbaa.Rowed Go.Proofs.Ytpbbechgpgnpbaa.Turn Go.Proofs.Ytpbbechgpgnpbaa.Aid Go.Proofs.Ytpbbechgpgnpbaa.GoP Go.Proofs.Ytpbbechgpgnpbaa.GoM

def l0 (x : (List Go.Proofs.Ytpbbechgpgnpbaa.PShade.Shade)) (hf1_0 : Int) (s : Int × ByteArray × Int × Int × Int × Int) (nx0 bk0 : Int × ByteArray × Int × Int × Int × Int → Option (Go.Proofs.Ytpbbechgpgnpbaa.PShade.Shade)) : Option (Go.Proofs.Ytpbbechgpgnpbaa.PShade.Shade) :=
  unp6 s fun i_6l0 m_9_c0l0 m_9_c1l0 m_9_c2l0 m_9_c3l0 m_9_c4l0 =>
  letK (decide (i_6l0 < (x.length : Int))) fun (t_15 : Bool) =>
  iteK t_15
  (Option.bind (idx x i_6l0) fun (yt_19 : Go.Proofs.Ytpbbechgpgnpbaa.PShade.Shade) =>
  unShade yt_19 fun (t_19_name : ByteArray) (t_19_hue : Int) (t_19_width : Int) (t_19_dark : Int) (t_19_light : Int) =>
  Option.bind (Go.Proofs.Ytpbbechgpgnpbaa.GiBestShade2.P (Go.Proofs.Ytpbbechgpgnpbaa.PShade.Shade.mk t_19_name t_19_hue t_19_width t_19_dark t_19_light) (Go.Proofs.Ytpbbechgpgnpbaa.PShade.Shade.mk m_9_c0l0 m_9_c1l0 m_9_c2l0 m_9_c3l0 m_9_c4l0) hf1_0) fun (t_22 : Int) =>
  letK (decide (t_22 < 0)) fun (t_23 : Bool) =>
  iteK t_23
  (Option.bind (idx x i_6l0) fun (yt_26 : Go.Proofs.Ytpbbechgpgnpbaa.PShade.Shade) =>
  unShade yt_26 fun (t_26_name : ByteArray) (t_26_hue : Int) (t_26_width : Int) (t_26_dark : Int) (t_26_light : Int) =>
  letK (IntKind.i64.wrap (i_6l0 + 1)) fun (t_30 : Int) =>
  appK nx0 (t_30, t_26_name, t_26_hue, t_26_width, t_26_dark, t_26_light))
  (letK (IntKind.i64.wrap (i_6l0 + 1)) fun (t_30 : Int) =>
  appK nx0 (t_30, m_9_c0l0, m_9_c1l0, m_9_c2l0, m_9_c3l0, m_9_c4l0)))
  (appK bk0 (i_6l0, m_9_c0l0, m_9_c1l0, m_9_c2l0, m_9_c3l0, m_9_c4l0))

def e0  (s : Int × ByteArray × Int × Int × Int × Int) : Option (Go.Proofs.Ytpbbechgpgnpbaa.PShade.Shade) :=
  unp6 s fun i_6l0 m_9_c0l0 m_9_c1l0 m_9_c2l0 m_9_c3l0 m_9_c4l0 =>
  some (Go.Proofs.Ytpbbechgpgnpbaa.PShade.Shade.mk m_9_c0l0 m_9_c1l0 m_9_c2l0 m_9_c3l0 m_9_c4l0)

def j0 (x : (List Go.Proofs.Ytpbbechgpgnpbaa.PShade.Shade)) (hf1_0 : Int) (fuel : Nat) (s : Unit) : Option (Go.Proofs.Ytpbbechgpgnpbaa.PShade.Shade) :=
  Option.bind (idx x 0) fun (yt_7 : Go.Proofs.Ytpbbechgpgnpbaa.PShade.Shade) =>
  unShade yt_7 fun (t_7_name : ByteArray) (t_7_hue : Int) (t_7_width : Int) (t_7_dark : Int) (t_7_light : Int) =>
  loopK (l0 x hf1_0) fuel (1, t_7_name, t_7_hue, t_7_width, t_7_dark, t_7_light) (e0 )

def P (fuel : Nat) (x : (List Go.Proofs.Ytpbbechgpgnpbaa.PShade.Shade)) (hf1_0 : Int) : Option (Go.Proofs.Ytpbbechgpgnpbaa.PShade.Shade) :=
  letK (decide ((x.length : Int) < 1)) fun (t_3 : Bool) =>
  iteK t_3
  (none)
  (j0 x hf1_0 fuel ())

set_option maxRecDepth 100000 in
set_option maxHeartbeats 2000000 in
theorem C (fuel : Nat) (x : (List Go.Proofs.Ytpbbechgpgnpbaa.PShade.Shade)) (hf1_0 : Int) (A0 : Option Addr) (c0 : Nat) (gf1_0 : Nat) (w : World) (M0 : Hid (Cells w 5 A0 x.length (Go.Proofs.Ytpbbechgpgnpbaa.PShade.flat x))) (N0 : Hid (x.length ≤ 9223372036854775807)) (Ff1_0h : Hid (w.cell? ⟨gf1_0, 0, none⟩ = some (.int .i64 hf1_0))) {r : Go.Proofs.Ytpbbechgpgnpbaa.PShade.Shade} (H : Hid (P fuel x hf1_0 = some r)) :
    Calls Try.prog 77 #[.slice A0 x.length c0, .func (.func 78) #[] #[.pointer (some ⟨gf1_0, 0, none⟩)]] w (Gives ((Go.Proofs.Ytpbbechgpgnpbaa.PShade.Shade.val r)) w) := by
  have HB := Lib.hid (Below.refl w.heap.size w)
  unfold P at H
  have N0o := N0.out
  have Ff1_0 := Ff1_0h.out
  go_enter Try.func77, Try.ntmps77
  obtain ⟨w_t_0, hw_t_0⟩ : ∃ x, w.alloc (.cells #[.string (⟨#[]⟩ : ByteArray), .int .i64 0, .int .i64 0, .int .i64 0, .int .i64 0] 26) = x := ⟨_, rfl⟩
  have bw_t_0 : Below w.heap.size w w_t_0 := by rw [← hw_t_0]; exact (Below.refl _ _).alloc (Nat.le_refl _) _
  have HBw_t_0 := Lib.hid (Below.step HB.out bw_t_0)
  have Ff1_0__155 := cell_below bw_t_0 Ff1_0
  clear bw_t_0
  have kt_0_0 : w_t_0.cell? ⟨w.heap.size, 0, none⟩ = some (.string (⟨#[]⟩ : ByteArray)) := by rw [← hw_t_0]; exact box_new _ _ _ 0 _ rfl
  have kt_0_1 : w_t_0.cell? ⟨w.heap.size, 1, none⟩ = some (.int .i64 0) := by rw [← hw_t_0]; exact box_new _ _ _ 1 _ rfl
  have kt_0_2 : w_t_0.cell? ⟨w.heap.size, 2, none⟩ = some (.int .i64 0) := by rw [← hw_t_0]; exact box_new _ _ _ 2 _ rfl
  have kt_0_3 : w_t_0.cell? ⟨w.heap.size, 3, none⟩ = some (.int .i64 0) := by rw [← hw_t_0]; exact box_new _ _ _ 3 _ rfl
  have kt_0_4 : w_t_0.cell? ⟨w.heap.size, 4, none⟩ = some (.int .i64 0) := by rw [← hw_t_0]; exact box_new _ _ _ 4 _ rfl
  have Ot_0 : Hid (w_t_0.ownsRow w.heap.size 26 5 (.slice (some ⟨w.heap.size, 0, none⟩) 1 1) 1 [.string (⟨#[]⟩ : ByteArray), .int .i64 0, .int .i64 0, .int .i64 0, .int .i64 0]) := Lib.hid (by rw [← hw_t_0]; exact own_laid (n := 1) HB.out.size rfl rfl (by unfold maxLen; omega))
  replace H := let_hid H
  obtain ⟨t_3, ht_3, H⟩ := H
  cases t_3 with
  | false =>
    have nht_3 : ¬ (x.length < 1) := by have := of_decide_eq_false ht_3; omega
    replace H := ite_f H
    unfold j0 at H
    replace H := idx_hid H
    obtain ⟨nt_7, yt_7, et_7, lt_7, gt_7, H⟩ := H
    obtain rfl : 0 = nt_7 := by omega
    clear et_7
    obtain ⟨t_7_name, t_7_hue, t_7_width, t_7_dark, t_7_light⟩ := yt_7
    replace H := unShade_hid H
    obtain ⟨ab_t_7, ao_t_7, zt_7, At_7, z_t_7, ct_7_0, ct_7_1, ct_7_2, ct_7_3, ct_7_4⟩ := Go.Proofs.Ytpbbechgpgnpbaa.OShade.at_ M0.out lt_7
    obtain rfl := Option.some.inj (gt_7.out.symm.trans z_t_7)
    subst At_7
    have ltt_7 := cell_lt ct_7_0
    replace ct_7_0 := cell_below HBw_t_0.out ct_7_0
    replace ct_7_1 := cell_below HBw_t_0.out ct_7_1
    replace ct_7_2 := cell_below HBw_t_0.out ct_7_2
    replace ct_7_3 := cell_below HBw_t_0.out ct_7_3
    replace ct_7_4 := cell_below HBw_t_0.out ct_7_4
    clear z_t_7
    have b1t_7 : (0 : Int) < ((x.length : Nat) : Int) := by omega
    have b3t_7 : 0 < x.length := by omega
    try simp only [Nat.zero_mul, Nat.add_zero, Nat.zero_add, Nat.reduceMul] at ct_7_0 ct_7_1 ct_7_2 ct_7_3 ct_7_4
    obtain ⟨w_m_9, hw_m_9⟩ : ∃ x, w_t_0.alloc (.cells #[.string t_7_name, .int .i64 t_7_hue, .int .i64 t_7_width, .int .i64 t_7_dark, .int .i64 t_7_light] 26) = x := ⟨_, rfl⟩
    have bw_m_9 : Below w_t_0.heap.size w_t_0 w_m_9 := by rw [← hw_m_9]; exact (Below.refl _ _).alloc (Nat.le_refl _) _
    have Dm_9_t_0 := Lib.hid (apart_box kt_0_0)
    have HBw_m_9 := Lib.hid (Below.step HBw_t_0.out bw_m_9)
    have Ff1_0__156 := cell_below bw_m_9 Ff1_0__155
    have kt_0_0__157 := cell_below bw_m_9 kt_0_0
    have kt_0_1__158 := cell_below bw_m_9 kt_0_1
    have kt_0_2__159 := cell_below bw_m_9 kt_0_2
    have kt_0_3__160 := cell_below bw_m_9 kt_0_3
    have kt_0_4__161 := cell_below bw_m_9 kt_0_4
    have ct_7_0__162 := cell_below bw_m_9 ct_7_0
    have ct_7_1__163 := cell_below bw_m_9 ct_7_1
    have ct_7_2__164 := cell_below bw_m_9 ct_7_2
    have ct_7_3__165 := cell_below bw_m_9 ct_7_3
    have ct_7_4__166 := cell_below bw_m_9 ct_7_4
    replace Ot_0 := Lib.hid (own_below Ot_0.out bw_m_9)
    clear bw_m_9
    have km_9_0 : w_m_9.cell? ⟨w_t_0.heap.size, 0, none⟩ = some (.string t_7_name) := by rw [← hw_m_9]; exact box_new _ _ _ 0 _ rfl
    have km_9_1 : w_m_9.cell? ⟨w_t_0.heap.size, 1, none⟩ = some (.int .i64 t_7_hue) := by rw [← hw_m_9]; exact box_new _ _ _ 1 _ rfl
    have km_9_2 : w_m_9.cell? ⟨w_t_0.heap.size, 2, none⟩ = some (.int .i64 t_7_width) := by rw [← hw_m_9]; exact box_new _ _ _ 2 _ rfl
    have km_9_3 : w_m_9.cell? ⟨w_t_0.heap.size, 3, none⟩ = some (.int .i64 t_7_dark) := by rw [← hw_m_9]; exact box_new _ _ _ 3 _ rfl
    have km_9_4 : w_m_9.cell? ⟨w_t_0.heap.size, 4, none⟩ = some (.int .i64 t_7_light) := by rw [← hw_m_9]; exact box_new _ _ _ 4 _ rfl
    have Om_9 : Hid (w_m_9.ownsRow w.heap.size 26 5 (.slice (some ⟨w_t_0.heap.size, 0, none⟩) 1 1) 1 [.string t_7_name, .int .i64 t_7_hue, .int .i64 t_7_width, .int .i64 t_7_dark, .int .i64 t_7_light]) := Lib.hid (by rw [← hw_m_9]; exact own_laid (n := 1) HBw_t_0.out.size rfl rfl (by unfold maxLen; omega))
    go_wp2_with fail
    clear Ff1_0 Ff1_0__155 kt_0_0 kt_0_1 kt_0_2 kt_0_3 kt_0_4 ct_7_0 ct_7_1 ct_7_2 ct_7_3 ct_7_4
    go_loopg [6] (fuel) (fun m_ v6_ wr => ∃ (i_6l0 : Int) (m_9_c0l0 : ByteArray) (m_9_c1l0 : Int) (m_9_c2l0 : Int) (m_9_c3l0 : Int) (m_9_c4l0 : Int), v6_ = .int .i64 i_6l0 ∧ Hid (loopK (l0 x hf1_0) m_ (i_6l0, m_9_c0l0, m_9_c1l0, m_9_c2l0, m_9_c3l0, m_9_c4l0) (e0 ) = some r) ∧ Hid (Below w.heap.size w wr) ∧ wr.cell? ⟨gf1_0, 0, none⟩ = some (.int .i64 hf1_0) ∧ wr.cell? ⟨w.heap.size, 0, none⟩ = some (.string (⟨#[]⟩ : ByteArray)) ∧ wr.cell? ⟨w.heap.size, 1, none⟩ = some (.int .i64 0) ∧ wr.cell? ⟨w.heap.size, 2, none⟩ = some (.int .i64 0) ∧ wr.cell? ⟨w.heap.size, 3, none⟩ = some (.int .i64 0) ∧ wr.cell? ⟨w.heap.size, 4, none⟩ = some (.int .i64 0) ∧ wr.cell? ⟨w_t_0.heap.size, 0, none⟩ = some (.string m_9_c0l0) ∧ wr.cell? ⟨w_t_0.heap.size, 1, none⟩ = some (.int .i64 m_9_c1l0) ∧ wr.cell? ⟨w_t_0.heap.size, 2, none⟩ = some (.int .i64 m_9_c2l0) ∧ wr.cell? ⟨w_t_0.heap.size, 3, none⟩ = some (.int .i64 m_9_c3l0) ∧ wr.cell? ⟨w_t_0.heap.size, 4, none⟩ = some (.int .i64 m_9_c4l0) ∧ Hid (wr.ownsRow w.heap.size 26 5 (.slice (some ⟨w.heap.size, 0, none⟩) 1 1) 1 [.string (⟨#[]⟩ : ByteArray), .int .i64 0, .int .i64 0, .int .i64 0, .int .i64 0]) ∧ Hid (wr.ownsRow w.heap.size 26 5 (.slice (some ⟨w_t_0.heap.size, 0, none⟩) 1 1) 1 [.string m_9_c0l0, .int .i64 m_9_c1l0, .int .i64 m_9_c2l0, .int .i64 m_9_c3l0, .int .i64 m_9_c4l0]))
    case atStart => exact ⟨_, _, _, _, _, _, rfl, H, HBw_m_9, Ff1_0__156, kt_0_0__157, kt_0_1__158, kt_0_2__159, kt_0_3__160, kt_0_4__161, km_9_0, km_9_1, km_9_2, km_9_3, km_9_4, Ot_0, Om_9⟩
    case round =>
      obtain ⟨i_6l0, m_9_c0l0, m_9_c1l0, m_9_c2l0, m_9_c3l0, m_9_c4l0, rfl, H, HBwr0, Ff1_0__156, kt_0_0__157, kt_0_1__158, kt_0_2__159, kt_0_3__160, kt_0_4__161, km_9_0, km_9_1, km_9_2, km_9_3, km_9_4, Ot_0, Om_9⟩ := hrel
      rename World => wr0
      cases gk with
      | zero => exact (loop_zero H).elim
      | succ m0 =>
        replace H := loop_succ H
        unfold l0 at H
        replace H := unp6_hid H
        replace H := let_hid H
        obtain ⟨t_15, ht_15, H⟩ := H
        cases t_15 with
        | false =>
          replace H := ite_f H
          replace H := app_hid H
          unfold e0 at H
          replace H := unp6_hid H
          obtain ⟨wb33_33, hwb33_33⟩ : ∃ x, (((((wr0).setCell ⟨w.heap.size, 0, none⟩ (.string m_9_c0l0)).setCell ⟨w.heap.size, 1, none⟩ (.int .i64 m_9_c1l0)).setCell ⟨w.heap.size, 2, none⟩ (.int .i64 m_9_c2l0)).setCell ⟨w.heap.size, 3, none⟩ (.int .i64 m_9_c3l0)).setCell ⟨w.heap.size, 4, none⟩ (.int .i64 m_9_c4l0) = x := ⟨_, rfl⟩
          have z0b33_33 := Ot_0.out.frozenAt 0
          have z1b33_33 := Ot_0.out.frozenAt 1
          have z2b33_33 := Ot_0.out.frozenAt 2
          have z3b33_33 := Ot_0.out.frozenAt 3
          have z4b33_33 := Ot_0.out.frozenAt 4
          have Sb33_33 := Lib.hid (own_stores [(0, .string m_9_c0l0), (1, .int .i64 m_9_c1l0), (2, .int .i64 m_9_c2l0), (3, .int .i64 m_9_c3l0), (4, .int .i64 m_9_c4l0)] Ot_0.out)
          have Pb33_33 : Hid (wb33_33.ownsRow w.heap.size 26 5 (.slice (some ⟨w.heap.size, 0, none⟩) 1 1) 1 [.string m_9_c0l0, .int .i64 m_9_c1l0, .int .i64 m_9_c2l0, .int .i64 m_9_c3l0, .int .i64 m_9_c4l0]) := Lib.hid (by rw [← hwb33_33]; exact Sb33_33.out.1)
          have Gb33_33 : Hid (wr0.grownBy wb33_33 (Value.slice (some ⟨w.heap.size, 0, none⟩) 1 1).ownBlock) := Lib.hid (by rw [← hwb33_33]; exact Sb33_33.out.2)
          have HBwb33_33 := Lib.hid (HBwr0.out.grown Gb33_33.out HBwr0.out.size (fun q hq => (Ot_0.out.lt q hq).1))
          clear Sb33_33
          have Ff1_0__167 := cell_below HBwb33_33.out Ff1_0h.out
          have km_9_0__168 := cell_other km_9_0 Gb33_33.out (Apart.symm Dm_9_t_0.out)
          have km_9_1__169 := cell_other km_9_1 Gb33_33.out (Apart.symm Dm_9_t_0.out)
          have km_9_2__170 := cell_other km_9_2 Gb33_33.out (Apart.symm Dm_9_t_0.out)
          have km_9_3__171 := cell_other km_9_3 Gb33_33.out (Apart.symm Dm_9_t_0.out)
          have km_9_4__172 := cell_other km_9_4 Gb33_33.out (Apart.symm Dm_9_t_0.out)
          replace Om_9 := Lib.hid (own_other Om_9.out Gb33_33.out (Apart.symm Dm_9_t_0.out))
          clear Ot_0 Gb33_33
          have kt_0_0__173 : wb33_33.cell? ⟨w.heap.size, 0, none⟩ = some (.string m_9_c0l0) := Pb33_33.out.cells rfl 0 _ rfl
          have kt_0_1__174 : wb33_33.cell? ⟨w.heap.size, 1, none⟩ = some (.int .i64 m_9_c1l0) := Pb33_33.out.cells rfl 1 _ rfl
          have kt_0_2__175 : wb33_33.cell? ⟨w.heap.size, 2, none⟩ = some (.int .i64 m_9_c2l0) := Pb33_33.out.cells rfl 2 _ rfl
          have kt_0_3__176 : wb33_33.cell? ⟨w.heap.size, 3, none⟩ = some (.int .i64 m_9_c3l0) := Pb33_33.out.cells rfl 3 _ rfl
          have kt_0_4__177 : wb33_33.cell? ⟨w.heap.size, 4, none⟩ = some (.int .i64 m_9_c4l0) := Pb33_33.out.cells rfl 4 _ rfl
          cases ret_hid H
          go_wp2_with fail
          (try simp only [Exit.inBlock, Exit.then])
          refine bodyPost_ret (v := .agg #[.string m_9_c0l0, .int .i64 m_9_c1l0, .int .i64 m_9_c2l0, .int .i64 m_9_c3l0, .int .i64 m_9_c4l0]) ?hr_ ?hd_ ?_
          case hd_ => rfl
          case hr_ => simp [results, Try.results77, kt_0_0__173, kt_0_1__174, kt_0_2__175, kt_0_3__176, kt_0_4__177, go_sem]
          exact ⟨rfl, HBwb33_33.out⟩
        | true =>
          replace H := ite_t H
          go_wp2_with fail
          have HFf1_0__156 := Lib.hid Ff1_0__156
          replace Ff1_0__156 := cell_regrown Ff1_0__156
          have Hkt_0_0__157 := Lib.hid kt_0_0__157
          replace kt_0_0__157 := cell_regrown kt_0_0__157
          have Hkt_0_1__158 := Lib.hid kt_0_1__158
          replace kt_0_1__158 := cell_regrown kt_0_1__158
          have Hkt_0_2__159 := Lib.hid kt_0_2__159
          replace kt_0_2__159 := cell_regrown kt_0_2__159
          have Hkt_0_3__160 := Lib.hid kt_0_3__160
          replace kt_0_3__160 := cell_regrown kt_0_3__160
          have Hkt_0_4__161 := Lib.hid kt_0_4__161
          replace kt_0_4__161 := cell_regrown kt_0_4__161
          have Hkm_9_0 := Lib.hid km_9_0
          replace km_9_0 := cell_regrown km_9_0
          have Hkm_9_1 := Lib.hid km_9_1
          replace km_9_1 := cell_regrown km_9_1
          have Hkm_9_2 := Lib.hid km_9_2
          replace km_9_2 := cell_regrown km_9_2
          have Hkm_9_3 := Lib.hid km_9_3
          replace km_9_3 := cell_regrown km_9_3
          have Hkm_9_4 := Lib.hid km_9_4
          replace km_9_4 := cell_regrown km_9_4
          replace H := idx_hid H
          obtain ⟨nt_19, yt_19, et_19, lt_19, gt_19, H⟩ := H
          subst et_19
          have nc_178 : nt_19 < x.length := by have := of_decide_eq_true ht_15; omega
          obtain ⟨t_19_name, t_19_hue, t_19_width, t_19_dark, t_19_light⟩ := yt_19
          replace H := unShade_hid H
          obtain ⟨ab_t_19, ao_t_19, zt_19, At_19, z_t_19, ct_19_0, ct_19_1, ct_19_2, ct_19_3, ct_19_4⟩ := Go.Proofs.Ytpbbechgpgnpbaa.OShade.at_ M0.out lt_19
          obtain rfl := Option.some.inj (gt_19.out.symm.trans z_t_19)
          simp only [Option.some.injEq, Addr.mk.injEq] at At_19
          obtain ⟨rfl, rfl, _⟩ := At_19
          have ltt_19 := cell_lt ct_19_0
          replace ct_19_0 := cell_below HBwr0.out ct_19_0
          replace ct_19_1 := cell_below HBwr0.out ct_19_1
          replace ct_19_2 := cell_below HBwr0.out ct_19_2
          replace ct_19_3 := cell_below HBwr0.out ct_19_3
          replace ct_19_4 := cell_below HBwr0.out ct_19_4
          clear z_t_19
          have b0t_19 : (0 : Int) ≤ (nt_19 : Int) := by omega
          have b1t_19 : (nt_19 : Int) < ((x.length : Nat) : Int) := by omega
          have b2t_19 : ((nt_19 : Int)).toNat = nt_19 := by omega
          have Hct_19_0 := Lib.hid ct_19_0
          replace ct_19_0 := cell_regrown ct_19_0
          have Hct_19_1 := Lib.hid ct_19_1
          replace ct_19_1 := cell_regrown ct_19_1
          have Hct_19_2 := Lib.hid ct_19_2
          replace ct_19_2 := cell_regrown ct_19_2
          have Hct_19_3 := Lib.hid ct_19_3
          replace ct_19_3 := cell_regrown ct_19_3
          have Hct_19_4 := Lib.hid ct_19_4
          replace ct_19_4 := cell_regrown ct_19_4
          replace H := bind_hid H
          obtain ⟨t_22, qt_22, H⟩ := H
          have nt_22 : ∀ d os, Calls Try.prog 78 #[.agg #[.string t_19_name, .int .i64 t_19_hue, .int .i64 t_19_width, .int .i64 t_19_dark, .int .i64 t_19_light], .agg #[.string m_9_c0l0, .int .i64 m_9_c1l0, .int .i64 m_9_c2l0, .int .i64 m_9_c3l0, .int .i64 m_9_c4l0], .pointer (some ⟨gf1_0, 0, none⟩)] (Go.Sort.grow (redrawn wr0 d) os) fun e w'' => e = .returned (.int .i64 t_22) ∧ ∃ p : Regrown, w'' = Go.Sort.grow (redrawn wr0 p.d) p.os := fun d os => Calls.regrown_of (Go.Proofs.Ytpbbechgpgnpbaa.GiBestShade2.C ((Go.Proofs.Ytpbbechgpgnpbaa.PShade.Shade.mk t_19_name t_19_hue t_19_width t_19_dark t_19_light)) ((Go.Proofs.Ytpbbechgpgnpbaa.PShade.Shade.mk m_9_c0l0 m_9_c1l0 m_9_c2l0 m_9_c3l0 m_9_c4l0)) (hf1_0) (gf1_0) _   (Lib.hid (Ff1_0__156 _ _)) qt_22)
          replace H := let_hid H
          obtain ⟨t_23, ht_23, H⟩ := H
          refine wp_region_quiet_below (by kernel_rfl) (by kernel_rfl) ?_
          repeat (go_big_quiet_step (first | (go_at_call 78; exact nt_22 _ _)))
          refine wpQuiet_nil ?_
          intro Y7 hY7
          replace hY7 := below_class hY7
          clear nt_22
          replace Ff1_0__156 := HFf1_0__156.out
          clear HFf1_0__156
          replace kt_0_0__157 := Hkt_0_0__157.out
          clear Hkt_0_0__157
          replace kt_0_1__158 := Hkt_0_1__158.out
          clear Hkt_0_1__158
          replace kt_0_2__159 := Hkt_0_2__159.out
          clear Hkt_0_2__159
          replace kt_0_3__160 := Hkt_0_3__160.out
          clear Hkt_0_3__160
          replace kt_0_4__161 := Hkt_0_4__161.out
          clear Hkt_0_4__161
          replace km_9_0 := Hkm_9_0.out
          clear Hkm_9_0
          replace km_9_1 := Hkm_9_1.out
          clear Hkm_9_1
          replace km_9_2 := Hkm_9_2.out
          clear Hkm_9_2
          replace km_9_3 := Hkm_9_3.out
          clear Hkm_9_3
          replace km_9_4 := Hkm_9_4.out
          clear Hkm_9_4
          replace ct_19_0 := Hct_19_0.out
          clear Hct_19_0
          replace ct_19_1 := Hct_19_1.out
          clear Hct_19_1
          replace ct_19_2 := Hct_19_2.out
          clear Hct_19_2
          replace ct_19_3 := Hct_19_3.out
          clear Hct_19_3
          replace ct_19_4 := Hct_19_4.out
          clear Hct_19_4
          have HBY7 := Lib.hid (Below.step HBwr0.out hY7)
          replace Ff1_0__156 := cell_below hY7 Ff1_0__156
          replace kt_0_0__157 := cell_below hY7 kt_0_0__157
          replace kt_0_1__158 := cell_below hY7 kt_0_1__158
          replace kt_0_2__159 := cell_below hY7 kt_0_2__159
          replace kt_0_3__160 := cell_below hY7 kt_0_3__160
          replace kt_0_4__161 := cell_below hY7 kt_0_4__161
          replace km_9_0 := cell_below hY7 km_9_0
          replace km_9_1 := cell_below hY7 km_9_1
          replace km_9_2 := cell_below hY7 km_9_2
          replace km_9_3 := cell_below hY7 km_9_3
          replace km_9_4 := cell_below hY7 km_9_4
          replace ct_19_0 := cell_below hY7 ct_19_0
          replace ct_19_1 := cell_below hY7 ct_19_1
          replace ct_19_2 := cell_below hY7 ct_19_2
          replace ct_19_3 := cell_below hY7 ct_19_3
          replace ct_19_4 := cell_below hY7 ct_19_4
          replace Ot_0 := Lib.hid (own_below Ot_0.out hY7)
          replace Om_9 := Lib.hid (own_below Om_9.out hY7)
          clear hY7
          cases t_23 with
          | false =>
            replace H := ite_f H
            replace H := let_hid H
            obtain ⟨t_30, ht_30, H⟩ := H
            replace H := app_hid H
            go_wp2_with fail
            go_roundg m0
            case measure => omega
            case rel => exact ⟨_, _, _, _, _, _, rfl, H, HBY7, Ff1_0__156, kt_0_0__157, kt_0_1__158, kt_0_2__159, kt_0_3__160, kt_0_4__161, km_9_0, km_9_1, km_9_2, km_9_3, km_9_4, Ot_0, Om_9⟩
          | true =>
            replace H := ite_t H
            replace H := idx_hid H
            obtain ⟨nt_26, yt_26, et_26, lt_26, gt_26, H⟩ := H
            obtain rfl : nt_19 = nt_26 := by omega
            clear et_26
            obtain rfl := Option.some.inj (gt_19.out.symm.trans gt_26.out)
            clear gt_26 lt_26
            replace H := unShade_hid H
            obtain ⟨wb28_28, hwb28_28⟩ : ∃ x, (((((Y7).setCell ⟨w_t_0.heap.size, 0, none⟩ (.string t_19_name)).setCell ⟨w_t_0.heap.size, 1, none⟩ (.int .i64 t_19_hue)).setCell ⟨w_t_0.heap.size, 2, none⟩ (.int .i64 t_19_width)).setCell ⟨w_t_0.heap.size, 3, none⟩ (.int .i64 t_19_dark)).setCell ⟨w_t_0.heap.size, 4, none⟩ (.int .i64 t_19_light) = x := ⟨_, rfl⟩
            have z0b28_28 := Om_9.out.frozenAt 0
            have z1b28_28 := Om_9.out.frozenAt 1
            have z2b28_28 := Om_9.out.frozenAt 2
            have z3b28_28 := Om_9.out.frozenAt 3
            have z4b28_28 := Om_9.out.frozenAt 4
            have Sb28_28 := Lib.hid (own_stores [(0, .string t_19_name), (1, .int .i64 t_19_hue), (2, .int .i64 t_19_width), (3, .int .i64 t_19_dark), (4, .int .i64 t_19_light)] Om_9.out)
            have Pb28_28 : Hid (wb28_28.ownsRow w.heap.size 26 5 (.slice (some ⟨w_t_0.heap.size, 0, none⟩) 1 1) 1 [.string t_19_name, .int .i64 t_19_hue, .int .i64 t_19_width, .int .i64 t_19_dark, .int .i64 t_19_light]) := Lib.hid (by rw [← hwb28_28]; exact Sb28_28.out.1)
            have Gb28_28 : Hid (Y7.grownBy wb28_28 (Value.slice (some ⟨w_t_0.heap.size, 0, none⟩) 1 1).ownBlock) := Lib.hid (by rw [← hwb28_28]; exact Sb28_28.out.2)
            have HBwb28_28 := Lib.hid (HBY7.out.grown Gb28_28.out HBY7.out.size (fun q hq => (Om_9.out.lt q hq).1))
            clear Sb28_28
            have Ff1_0__179 := cell_below HBwb28_28.out Ff1_0h.out
            have kt_0_0__180 := cell_other kt_0_0__157 Gb28_28.out Dm_9_t_0.out
            have kt_0_1__181 := cell_other kt_0_1__158 Gb28_28.out Dm_9_t_0.out
            have kt_0_2__182 := cell_other kt_0_2__159 Gb28_28.out Dm_9_t_0.out
            have kt_0_3__183 := cell_other kt_0_3__160 Gb28_28.out Dm_9_t_0.out
            have kt_0_4__184 := cell_other kt_0_4__161 Gb28_28.out Dm_9_t_0.out
            have ct_19_0__185 := cell_other ct_19_0 Gb28_28.out (apart_old Om_9.out ltt_19)
            have ct_19_1__186 := cell_other ct_19_1 Gb28_28.out (apart_old Om_9.out ltt_19)
            have ct_19_2__187 := cell_other ct_19_2 Gb28_28.out (apart_old Om_9.out ltt_19)
            have ct_19_3__188 := cell_other ct_19_3 Gb28_28.out (apart_old Om_9.out ltt_19)
            have ct_19_4__189 := cell_other ct_19_4 Gb28_28.out (apart_old Om_9.out ltt_19)
            replace Ot_0 := Lib.hid (own_other Ot_0.out Gb28_28.out Dm_9_t_0.out)
            clear Om_9 Gb28_28
            have km_9_0__190 : wb28_28.cell? ⟨w_t_0.heap.size, 0, none⟩ = some (.string t_19_name) := Pb28_28.out.cells rfl 0 _ rfl
            have km_9_1__191 : wb28_28.cell? ⟨w_t_0.heap.size, 1, none⟩ = some (.int .i64 t_19_hue) := Pb28_28.out.cells rfl 1 _ rfl
            have km_9_2__192 : wb28_28.cell? ⟨w_t_0.heap.size, 2, none⟩ = some (.int .i64 t_19_width) := Pb28_28.out.cells rfl 2 _ rfl
            have km_9_3__193 : wb28_28.cell? ⟨w_t_0.heap.size, 3, none⟩ = some (.int .i64 t_19_dark) := Pb28_28.out.cells rfl 3 _ rfl
            have km_9_4__194 : wb28_28.cell? ⟨w_t_0.heap.size, 4, none⟩ = some (.int .i64 t_19_light) := Pb28_28.out.cells rfl 4 _ rfl
            replace H := let_hid H
            obtain ⟨t_30, ht_30, H⟩ := H
            replace H := app_hid H
            go_wp2_with fail
            clear z0b28_28 z1b28_28 z2b28_28 z3b28_28 z4b28_28 Ff1_0__156 kt_0_0__157 kt_0_1__158 kt_0_2__159 kt_0_3__160 kt_0_4__161 ct_19_0 ct_19_1 ct_19_2 ct_19_3 ct_19_4 km_9_0 km_9_1 km_9_2 km_9_3 km_9_4
            go_roundg m0
            case measure => omega
            case rel => exact ⟨_, _, _, _, _, _, rfl, H, HBwb28_28, Ff1_0__179, kt_0_0__180, kt_0_1__181, kt_0_2__182, kt_0_3__183, kt_0_4__184, km_9_0__190, km_9_1__191, km_9_2__192, km_9_3__193, km_9_4__194, Ot_0, Pb28_28⟩
  | true =>
    have nht_3 : x.length < 1 := by have := of_decide_eq_true ht_3; omega
    replace H := ite_t H
    exact (none_hid H).elim
end Go.Proofs.Ytpbbechgpgnpbaa.GxSlicesMinFuncLoopExampleG01062ImplShadeLoopExampleG01062ImplShadeiBestShade2

/- loop.example/g01062/impl.BestShade as a plain function, and the contract of the program's: where the plain one has an answer, the program has it. Conditions: slices read as lists. -/
namespace Go.Proofs.Ytpbbechgpgnpbaa.GiBestShade
set_option linter.unusedVariables false
set_option linter.unusedSimpArgs false
open Go.RowKit
open Go.Proofs.Ytpbbechgpgnpbaa.Rowed Go.Proofs.Ytpbbechgpgnpbaa.Turn Go.Proofs.Ytpbbechgpgnpbaa.Aid Go.Proofs.Ytpbbechgpgnpbaa.GoP Go.Proofs.Ytpbbechgpgnpbaa.GoM

def P (fuel : Nat) (list : (List Go.Proofs.Ytpbbechgpgnpbaa.PShade.Shade)) (hue : Int) (light : Int) : Option (ByteArray × Bool) :=
  Option.bind (Go.Proofs.Ytpbbechgpgnpbaa.GiCanLook.P list hue light) fun (t_7 : Bool) =>
  letK (!t_7) fun (t_8 : Bool) =>
  iteK t_8
  (some ((⟨#[]⟩ : ByteArray), false))
  (Option.bind (Go.Proofs.Ytpbbechgpgnpbaa.GxSlicesCloneLoopExampleG01062ImplShadeLoopExampleG01062ImplShade.P list) fun (t_12 : (List Go.Proofs.Ytpbbechgpgnpbaa.PShade.Shade)) =>
  Option.bind (Go.Proofs.Ytpbbechgpgnpbaa.GxSlicesDeleteFuncLoopExampleG01062ImplShadeLoopExampleG01062ImplShadeiBestShade1.P fuel t_12 hue light) fun (t_14 : (List Go.Proofs.Ytpbbechgpgnpbaa.PShade.Shade)) =>
  letK ((t_14.length : Int) == 0) fun (t_18 : Bool) =>
  iteK t_18
  (some ((⟨#[]⟩ : ByteArray), false))
  (Option.bind (Go.Proofs.Ytpbbechgpgnpbaa.GxSlicesMinFuncLoopExampleG01062ImplShadeLoopExampleG01062ImplShadeiBestShade2.P fuel t_14 hue) fun (t_23 : Go.Proofs.Ytpbbechgpgnpbaa.PShade.Shade) =>
  unShade t_23 fun (t_23_name : ByteArray) (t_23_hue : Int) (t_23_width : Int) (t_23_dark : Int) (t_23_light : Int) =>
  some (t_23_name, true)))

set_option maxRecDepth 100000 in
set_option maxHeartbeats 2000000 in
theorem C (fuel : Nat) (list : (List Go.Proofs.Ytpbbechgpgnpbaa.PShade.Shade)) (hue : Int) (light : Int) (A0 : Option Addr) (c0 : Nat)  (w : World) (M0 : Hid (Cells w 5 A0 list.length (Go.Proofs.Ytpbbechgpgnpbaa.PShade.flat list))) (N0 : Hid (list.length ≤ 9223372036854775807)) (Q0 : Hid (Room A0 list.length c0))  {r0 : ByteArray} {r1 : Bool} (H : Hid (P fuel list hue light = some (r0, r1))) :
    Calls Try.prog 33 #[.slice A0 list.length c0, .int .i64 hue, .int .i64 light] w (Gives (.tuple #[.string r0, .bool r1]) w) := by
  have HB := Lib.hid (Below.refl w.heap.size w)
  unfold P at H
  have N0o := N0.out
  go_enter Try.func33, Try.ntmps33
  obtain ⟨w_hue_0, hw_hue_0⟩ : ∃ x, w.alloc (.cells #[.int .i64 hue] 3) = x := ⟨_, rfl⟩
  have bw_hue_0 : Below w.heap.size w w_hue_0 := by rw [← hw_hue_0]; exact (Below.refl _ _).alloc (Nat.le_refl _) _
  have HBw_hue_0 := Lib.hid (Below.step HB.out bw_hue_0)
  clear bw_hue_0
  have khue_0_0 : w_hue_0.cell? ⟨w.heap.size, 0, none⟩ = some (.int .i64 hue) := by rw [← hw_hue_0]; exact box_new _ _ _ 0 _ rfl
  obtain ⟨w_light_1, hw_light_1⟩ : ∃ x, w_hue_0.alloc (.cells #[.int .i64 light] 3) = x := ⟨_, rfl⟩
  have bw_light_1 : Below w_hue_0.heap.size w_hue_0 w_light_1 := by rw [← hw_light_1]; exact (Below.refl _ _).alloc (Nat.le_refl _) _
  have HBw_light_1 := Lib.hid (Below.step HBw_hue_0.out bw_light_1)
  have khue_0_0__195 := cell_below bw_light_1 khue_0_0
  clear bw_light_1
  have klight_1_0 : w_light_1.cell? ⟨w_hue_0.heap.size, 0, none⟩ = some (.int .i64 light) := by rw [← hw_light_1]; exact box_new _ _ _ 0 _ rfl
  replace H := bind_hid H
  obtain ⟨t_7, qt_7, H⟩ := H
  go_wp2_with fail
  clear khue_0_0
  go_at_call 69
  refine (Go.Proofs.Ytpbbechgpgnpbaa.GiCanLook.C (list) (hue) (light) A0 c0 _   (Lib.hid (Cells.below M0.out HBw_light_1.out)) N0 qt_7).mono ?_
  rintro e_t_7 wt_7 ⟨rfl, bt_7⟩
  have HBwt_7 := Lib.hid (Below.step HBw_light_1.out bt_7)
  replace khue_0_0__195 := cell_below bt_7 khue_0_0__195
  replace klight_1_0 := cell_below bt_7 klight_1_0
  clear bt_7
  cases t_7 with
  | false =>
    replace H := let_hid H
    obtain ⟨t_8, ht_8, H⟩ := H
    obtain rfl : t_8 = true := ht_8.symm
    replace H := ite_t H
    cases ret_hid H
    go_wp2_with fail
    go_ret2
    exact ⟨rfl, HBwt_7.out⟩
  | true =>
    replace H := let_hid H
    obtain ⟨t_8, ht_8, H⟩ := H
    obtain rfl : t_8 = false := ht_8.symm
    replace H := ite_f H
    replace H := bind_hid H
    obtain ⟨t_12, qt_12, H⟩ := H
    go_wp2_with fail
    go_at_call 75
    refine (Go.Proofs.Ytpbbechgpgnpbaa.GxSlicesCloneLoopExampleG01062ImplShadeLoopExampleG01062ImplShade.C (list) A0 c0 _   (Lib.hid (Cells.below M0.out HBwt_7.out)) N0 Q0 qt_12).mono ?_
    rintro e_t_12 wt_12 ⟨At_12, ct_12, rfl, ot_12, bt_12⟩
    have Dt_12_hue_0 := Lib.hid (apart_callbox ot_12 khue_0_0__195)
    have Dt_12_light_1 := Lib.hid (apart_callbox ot_12 klight_1_0)
    have Ot_12 := Lib.hid (own_lower ot_12 HBwt_7.out.size)
    clear ot_12
    have HBwt_12 := Lib.hid (Below.step HBwt_7.out bt_12)
    replace khue_0_0__195 := cell_below bt_12 khue_0_0__195
    replace klight_1_0 := cell_below bt_12 klight_1_0
    clear bt_12
    replace H := bind_hid H
    obtain ⟨t_14, qt_14, H⟩ := H
    go_wp2_with fail
    go_at_call 74
    refine (Go.Proofs.Ytpbbechgpgnpbaa.GxSlicesDeleteFuncLoopExampleG01062ImplShadeLoopExampleG01062ImplShadeiBestShade1.C fuel (t_12) (hue) (light) At_12 ct_12 (w.heap.size) (w_hue_0.heap.size) w.heap.size _   Ot_12 (Lib.hid (own_max Ot_12.out)) (Lib.hid khue_0_0__195) (Lib.hid klight_1_0) (Lib.hid HBwt_12.out.size) (Lib.hid Dt_12_hue_0.out) (Lib.hid Dt_12_light_1.out) qt_14).mono ?_
    rintro e_t_14 wt_14 ⟨At_14, ct_14, rfl, ot_14, gt_14, yt_14⟩
    have Pt_14 := Lib.hid ot_14
    have Gt_14 := Lib.hid gt_14
    replace yt_14 := Lib.hid yt_14
    clear ot_14 gt_14
    have HBwt_14 := Lib.hid (HBwt_12.out.grown Gt_14.out HBwt_12.out.size (fun q hq => (Ot_12.out.lt q hq).1))
    have Dt_14_hue_0 : Hid (Apart At_14 _) := Lib.hid (Go.Proofs.Ytpbbechgpgnpbaa.GoK.apart_from Dt_12_hue_0.out (fun a_ ha_ => by cases ha_; exact cell_lt khue_0_0__195) yt_14.out)
    have Dt_14_light_1 : Hid (Apart At_14 _) := Lib.hid (Go.Proofs.Ytpbbechgpgnpbaa.GoK.apart_from Dt_12_light_1.out (fun a_ ha_ => by cases ha_; exact cell_lt klight_1_0) yt_14.out)
    replace khue_0_0__195 := cell_other khue_0_0__195 Gt_14.out Dt_12_hue_0.out
    replace klight_1_0 := cell_other klight_1_0 Gt_14.out Dt_12_light_1.out
    clear Ot_12 Gt_14 yt_14
    replace H := let_hid H
    obtain ⟨t_18, ht_18, H⟩ := H
    cases t_18 with
    | false =>
      have nht_18 : ¬ (t_14.length = 0) := by have := ne_of_beq_false ht_18; omega
      replace H := ite_f H
      replace H := bind_hid H
      obtain ⟨t_23, qt_23, H⟩ := H
      obtain ⟨t_23_name, t_23_hue, t_23_width, t_23_dark, t_23_light⟩ := t_23
      replace H := unShade_hid H
      go_wp2_with fail
      go_at_call 77
      refine (Go.Proofs.Ytpbbechgpgnpbaa.GxSlicesMinFuncLoopExampleG01062ImplShadeLoopExampleG01062ImplShadeiBestShade2.C fuel (t_14) (hue) At_14 ct_14 (w.heap.size) _   (Lib.hid (own_cells Pt_14.out)) (Lib.hid (own_max Pt_14.out)) (Lib.hid khue_0_0__195) qt_23).mono ?_
      rintro e_t_23 wt_23 ⟨rfl, bt_23⟩
      unfold Go.Proofs.Ytpbbechgpgnpbaa.PShade.Shade.val
      have HBwt_23 := Lib.hid (Below.step HBwt_14.out bt_23)
      replace khue_0_0__195 := cell_below bt_23 khue_0_0__195
      replace klight_1_0 := cell_below bt_23 klight_1_0
      replace Pt_14 := Lib.hid (own_below Pt_14.out bt_23)
      clear bt_23
      obtain ⟨w_best_24, hw_best_24⟩ : ∃ x, wt_23.alloc (.cells #[.string t_23_name, .int .i64 t_23_hue, .int .i64 t_23_width, .int .i64 t_23_dark, .int .i64 t_23_light] 26) = x := ⟨_, rfl⟩
      have bw_best_24 : Below wt_23.heap.size wt_23 w_best_24 := by rw [← hw_best_24]; exact (Below.refl _ _).alloc (Nat.le_refl _) _
      have Dbest_24_t_14 := Lib.hid (apart_fresh Pt_14.out)
      have HBw_best_24 := Lib.hid (Below.step HBwt_23.out bw_best_24)
      have khue_0_0__196 := cell_below bw_best_24 khue_0_0__195
      have klight_1_0__197 := cell_below bw_best_24 klight_1_0
      replace Pt_14 := Lib.hid (own_below Pt_14.out bw_best_24)
      clear bw_best_24
      have kbest_24_0 : w_best_24.cell? ⟨wt_23.heap.size, 0, none⟩ = some (.string t_23_name) := by rw [← hw_best_24]; exact box_new _ _ _ 0 _ rfl
      have kbest_24_1 : w_best_24.cell? ⟨wt_23.heap.size, 1, none⟩ = some (.int .i64 t_23_hue) := by rw [← hw_best_24]; exact box_new _ _ _ 1 _ rfl
      have kbest_24_2 : w_best_24.cell? ⟨wt_23.heap.size, 2, none⟩ = some (.int .i64 t_23_width) := by rw [← hw_best_24]; exact box_new _ _ _ 2 _ rfl
      have kbest_24_3 : w_best_24.cell? ⟨wt_23.heap.size, 3, none⟩ = some (.int .i64 t_23_dark) := by rw [← hw_best_24]; exact box_new _ _ _ 3 _ rfl
      have kbest_24_4 : w_best_24.cell? ⟨wt_23.heap.size, 4, none⟩ = some (.int .i64 t_23_light) := by rw [← hw_best_24]; exact box_new _ _ _ 4 _ rfl
      cases ret_hid H
      go_wp2_with fail
      go_ret2
      exact ⟨rfl, HBw_best_24.out⟩
    | true =>
      have Hht_18 : Hid (t_14.length = 0) := Lib.hid (by have := eq_of_beq ht_18; omega)
      have nht_18 : (t_14.length == 0) = true := beq_iff_eq.2 Hht_18.out
      replace H := ite_t H
      cases ret_hid H
      go_wp2_with fail
      go_ret2
      exact ⟨rfl, HBwt_14.out⟩
end Go.Proofs.Ytpbbechgpgnpbaa.GiBestShade

/- loop.example/g01062/laws.eqShade as a plain function, and the contract of the program's: where the plain one has an answer, the program has it. Conditions: slices read as lists. -/
namespace Go.Proofs.Ytpbbechgpgnpbaa.GlEqShade
set_option linter.unusedVariables false
set_option linter.unusedSimpArgs false
open Go.RowKit
open Go.Proofs.Ytpbbechgpgnpbaa.Rowed Go.Proofs.Ytpbbechgpgnpbaa.Turn Go.Proofs.Ytpbbechgpgnpbaa.Aid Go.Proofs.Ytpbbechgpgnpbaa.GoP Go.Proofs.Ytpbbechgpgnpbaa.GoM

def P (a : Go.Proofs.Ytpbbechgpgnpbaa.PShade.Shade) (b : Go.Proofs.Ytpbbechgpgnpbaa.PShade.Shade) : Option (Bool) :=
  unShade a fun (a_name : ByteArray) (a_hue : Int) (a_width : Int) (a_dark : Int) (a_light : Int) =>
  unShade b fun (b_name : ByteArray) (b_hue : Int) (b_width : Int) (b_dark : Int) (b_light : Int) =>
  letK (!(a_name.toList == b_name.toList)) fun (t_7 : Bool) =>
  iteK t_7
  (some false)
  (letK (a_hue != b_hue) fun (t_13 : Bool) =>
  iteK t_13
  (some false)
  (letK (a_width != b_width) fun (t_19 : Bool) =>
  iteK t_19
  (some false)
  (letK (a_dark != b_dark) fun (t_25 : Bool) =>
  iteK t_25
  (some false)
  (letK (a_light != b_light) fun (t_31 : Bool) =>
  iteK t_31
  (some false)
  (some true)))))

set_option maxRecDepth 100000 in
set_option maxHeartbeats 2000000 in
theorem C (a : Go.Proofs.Ytpbbechgpgnpbaa.PShade.Shade) (b : Go.Proofs.Ytpbbechgpgnpbaa.PShade.Shade)   (w : World)   {r : Bool} (H : Hid (P a b = some r)) :
    Calls Try.prog 63 #[a.val, b.val] w (Gives (.bool r) w) := by
  have HB := Lib.hid (Below.refl w.heap.size w)
  unfold P at H
  obtain ⟨a_name, a_hue, a_width, a_dark, a_light⟩ := a
  replace H := unShade_hid H
  obtain ⟨b_name, b_hue, b_width, b_dark, b_light⟩ := b
  replace H := unShade_hid H
  unfold Go.Proofs.Ytpbbechgpgnpbaa.PShade.Shade.val
  go_enter Try.func63, Try.ntmps63
  obtain ⟨w_a_0, hw_a_0⟩ : ∃ x, w.alloc (.cells #[.string a_name, .int .i64 a_hue, .int .i64 a_width, .int .i64 a_dark, .int .i64 a_light] 26) = x := ⟨_, rfl⟩
  have bw_a_0 : Below w.heap.size w w_a_0 := by rw [← hw_a_0]; exact (Below.refl _ _).alloc (Nat.le_refl _) _
  have HBw_a_0 := Lib.hid (Below.step HB.out bw_a_0)
  clear bw_a_0
  have ka_0_0 : w_a_0.cell? ⟨w.heap.size, 0, none⟩ = some (.string a_name) := by rw [← hw_a_0]; exact box_new _ _ _ 0 _ rfl
  have ka_0_1 : w_a_0.cell? ⟨w.heap.size, 1, none⟩ = some (.int .i64 a_hue) := by rw [← hw_a_0]; exact box_new _ _ _ 1 _ rfl
  have ka_0_2 : w_a_0.cell? ⟨w.heap.size, 2, none⟩ = some (.int .i64 a_width) := by rw [← hw_a_0]; exact box_new _ _ _ 2 _ rfl
  have ka_0_3 : w_a_0.cell? ⟨w.heap.size, 3, none⟩ = some (.int .i64 a_dark) := by rw [← hw_a_0]; exact box_new _ _ _ 3 _ rfl
  have ka_0_4 : w_a_0.cell? ⟨w.heap.size, 4, none⟩ = some (.int .i64 a_light) := by rw [← hw_a_0]; exact box_new _ _ _ 4 _ rfl
  obtain ⟨w_b_1, hw_b_1⟩ : ∃ x, w_a_0.alloc (.cells #[.string b_name, .int .i64 b_hue, .int .i64 b_width, .int .i64 b_dark, .int .i64 b_light] 26) = x := ⟨_, rfl⟩
  have bw_b_1 : Below w_a_0.heap.size w_a_0 w_b_1 := by rw [← hw_b_1]; exact (Below.refl _ _).alloc (Nat.le_refl _) _
  have HBw_b_1 := Lib.hid (Below.step HBw_a_0.out bw_b_1)
  have ka_0_0__198 := cell_below bw_b_1 ka_0_0
  have ka_0_1__199 := cell_below bw_b_1 ka_0_1
  have ka_0_2__200 := cell_below bw_b_1 ka_0_2
  have ka_0_3__201 := cell_below bw_b_1 ka_0_3
  have ka_0_4__202 := cell_below bw_b_1 ka_0_4
  clear bw_b_1
  have kb_1_0 : w_b_1.cell? ⟨w_a_0.heap.size, 0, none⟩ = some (.string b_name) := by rw [← hw_b_1]; exact box_new _ _ _ 0 _ rfl
  have kb_1_1 : w_b_1.cell? ⟨w_a_0.heap.size, 1, none⟩ = some (.int .i64 b_hue) := by rw [← hw_b_1]; exact box_new _ _ _ 1 _ rfl
  have kb_1_2 : w_b_1.cell? ⟨w_a_0.heap.size, 2, none⟩ = some (.int .i64 b_width) := by rw [← hw_b_1]; exact box_new _ _ _ 2 _ rfl
  have kb_1_3 : w_b_1.cell? ⟨w_a_0.heap.size, 3, none⟩ = some (.int .i64 b_dark) := by rw [← hw_b_1]; exact box_new _ _ _ 3 _ rfl
  have kb_1_4 : w_b_1.cell? ⟨w_a_0.heap.size, 4, none⟩ = some (.int .i64 b_light) := by rw [← hw_b_1]; exact box_new _ _ _ 4 _ rfl
  replace H := let_hid H
  obtain ⟨t_7, ht_7, H⟩ := H
  cases t_7 with
  | false =>
    replace H := ite_f H
    replace H := let_hid H
    obtain ⟨t_13, ht_13, H⟩ := H
    cases t_13 with
    | false =>
      replace H := ite_f H
      replace H := let_hid H
      obtain ⟨t_19, ht_19, H⟩ := H
      cases t_19 with
      | false =>
        replace H := ite_f H
        replace H := let_hid H
        obtain ⟨t_25, ht_25, H⟩ := H
        cases t_25 with
        | false =>
          replace H := ite_f H
          replace H := let_hid H
          obtain ⟨t_31, ht_31, H⟩ := H
          cases t_31 with
          | false =>
            replace H := ite_f H
            obtain rfl := ret_hid H
            go_wp2_with fail
            go_ret
            exact ⟨rfl, HBw_b_1.out⟩
          | true =>
            replace H := ite_t H
            obtain rfl := ret_hid H
            go_wp2_with fail
            go_ret
            exact ⟨rfl, HBw_b_1.out⟩
        | true =>
          replace H := ite_t H
          obtain rfl := ret_hid H
          go_wp2_with fail
          go_ret
          exact ⟨rfl, HBw_b_1.out⟩
      | true =>
        replace H := ite_t H
        obtain rfl := ret_hid H
        go_wp2_with fail
        go_ret
        exact ⟨rfl, HBw_b_1.out⟩
    | true =>
      replace H := ite_t H
      obtain rfl := ret_hid H
      go_wp2_with fail
      go_ret
      exact ⟨rfl, HBw_b_1.out⟩
  | true =>
    replace H := ite_t H
    obtain rfl := ret_hid H
    go_wp2_with fail
    go_ret
    exact ⟨rfl, HBw_b_1.out⟩
end Go.Proofs.Ytpbbechgpgnpbaa.GlEqShade

/- loop.example/g01062/laws.eqShadeS as a plain function, and the contract of the program's: where the plain one has an answer, the program has it. Conditions: slices read as lists. -/
namespace Go.Proofs.Ytpbbechgpgnpbaa.GlEqShadeS
set_option linter.unusedVariables false
set_option linter.unusedSimpArgs false
open Go.RowKit
open Go.Proofs.Ytpbbechgpgnpbaa.Rowed Go.Proofs.Ytpbbechgpgnpbaa.Turn Go.Proofs.Ytpbbechgpgnpbaa.Aid Go.Proofs.Ytpbbechgpgnpbaa.GoP Go.Proofs.Ytpbbechgpgnpbaa.GoM

def l0 (a : (List Go.Proofs.Ytpbbechgpgnpbaa.PShade.Shade)) (b : (List Go.Proofs.Ytpbbechgpgnpbaa.PShade.Shade)) (k0 : Nat) (s : Unit) (nx0 bk0 : Unit → Option (Bool)) : Option (Bool) :=
  
  Option.bind (idx a (k0 : Int)) fun (yt_14 : Go.Proofs.Ytpbbechgpgnpbaa.PShade.Shade) =>
  unShade yt_14 fun (t_14_name : ByteArray) (t_14_hue : Int) (t_14_width : Int) (t_14_dark : Int) (t_14_light : Int) =>
  Option.bind (idx b (k0 : Int)) fun (yt_18 : Go.Proofs.Ytpbbechgpgnpbaa.PShade.Shade) =>
  unShade yt_18 fun (t_18_name : ByteArray) (t_18_hue : Int) (t_18_width : Int) (t_18_dark : Int) (t_18_light : Int) =>
  Option.bind (Go.Proofs.Ytpbbechgpgnpbaa.GlEqShade.P (Go.Proofs.Ytpbbechgpgnpbaa.PShade.Shade.mk t_14_name t_14_hue t_14_width t_14_dark t_14_light) (Go.Proofs.Ytpbbechgpgnpbaa.PShade.Shade.mk t_18_name t_18_hue t_18_width t_18_dark t_18_light)) fun (t_20 : Bool) =>
  letK (!t_20) fun (t_21 : Bool) =>
  iteK t_21
  (some false)
  (appK nx0 ())

def e0  (s : Unit) : Option (Bool) :=
  
  some true

def P (a : (List Go.Proofs.Ytpbbechgpgnpbaa.PShade.Shade)) (b : (List Go.Proofs.Ytpbbechgpgnpbaa.PShade.Shade)) : Option (Bool) :=
  letK ((a.length : Int) != (b.length : Int)) fun (t_5 : Bool) =>
  iteK t_5
  (some false)
  (cntK (l0 a b) (a.length) 0 () (e0 ))

set_option maxRecDepth 100000 in
set_option maxHeartbeats 2000000 in
theorem C (a : (List Go.Proofs.Ytpbbechgpgnpbaa.PShade.Shade)) (b : (List Go.Proofs.Ytpbbechgpgnpbaa.PShade.Shade)) (A0 : Option Addr) (c0 : Nat) (A1 : Option Addr) (c1 : Nat)  (w : World) (M0 : Hid (Cells w 5 A0 a.length (Go.Proofs.Ytpbbechgpgnpbaa.PShade.flat a))) (N0 : Hid (a.length ≤ 9223372036854775807)) (M1 : Hid (Cells w 5 A1 b.length (Go.Proofs.Ytpbbechgpgnpbaa.PShade.flat b))) (N1 : Hid (b.length ≤ 9223372036854775807))  {r : Bool} (H : Hid (P a b = some r)) :
    Calls Try.prog 23 #[.slice A0 a.length c0, .slice A1 b.length c1] w (Gives (.bool r) w) := by
  have HB := Lib.hid (Below.refl w.heap.size w)
  unfold P at H
  have N0o := N0.out
  have N1o := N1.out
  go_enter Try.func23, Try.ntmps23
  replace H := let_hid H
  obtain ⟨t_5, ht_5, H⟩ := H
  cases t_5 with
  | false =>
    have Hht_5 : Hid (a.length = b.length) := Lib.hid (by have := bne_eq_false_iff_eq.1 ht_5; omega)
    have nht_5 : (a.length == b.length) = true := beq_iff_eq.2 Hht_5.out
    replace H := ite_f H
    go_wp2_with fail
    go_loopg [5] (a.length) (fun m_ v5_ wr => ∃ (k0 : Nat) , k0 + m_ = a.length ∧ v5_ = .int .i64 (k0 : Int) ∧ Hid (cntK (l0 a b) m_ k0 () (e0 ) = some r) ∧ Hid (Below w.heap.size w wr))
    case atStart => exact ⟨0, by omega, rfl, H, HB⟩
    case round =>
      obtain ⟨k0, hkm0, rfl, H, HBwr0⟩ := hrel
      rename World => wr0
      cases gk with
      | zero =>
        obtain rfl : k0 = a.length := by omega
        have hc0 : decide (((a.length : Nat) : Int) < ((a.length : Nat) : Int)) = false := by simp
        replace H := cnt_zero H
        unfold e0 at H
        obtain rfl := ret_hid H
        go_wp2_with fail
        go_ret
        exact ⟨rfl, HBwr0.out⟩
      | succ m0 =>
        have hlt0 : k0 < a.length := by omega
        have hc0 : decide ((k0 : Int) < ((a.length : Nat) : Int)) = true := by simp; omega
        replace H := cnt_succ H
        unfold l0 at H
        go_wp2_with fail
        replace H := idx_hid H
        obtain ⟨nt_14, yt_14, et_14, lt_14, gt_14, H⟩ := H
        obtain rfl : k0 = nt_14 := by omega
        clear et_14
        obtain ⟨t_14_name, t_14_hue, t_14_width, t_14_dark, t_14_light⟩ := yt_14
        replace H := unShade_hid H
        obtain ⟨ab_t_14, ao_t_14, zt_14, At_14, z_t_14, ct_14_0, ct_14_1, ct_14_2, ct_14_3, ct_14_4⟩ := Go.Proofs.Ytpbbechgpgnpbaa.OShade.at_ M0.out lt_14
        obtain rfl := Option.some.inj (gt_14.out.symm.trans z_t_14)
        subst At_14
        have ltt_14 := cell_lt ct_14_0
        replace ct_14_0 := cell_below HBwr0.out ct_14_0
        replace ct_14_1 := cell_below HBwr0.out ct_14_1
        replace ct_14_2 := cell_below HBwr0.out ct_14_2
        replace ct_14_3 := cell_below HBwr0.out ct_14_3
        replace ct_14_4 := cell_below HBwr0.out ct_14_4
        clear z_t_14
        have b0t_14 : (0 : Int) ≤ (k0 : Int) := by omega
        have b1t_14 : (k0 : Int) < ((a.length : Nat) : Int) := by omega
        have b2t_14 : ((k0 : Int)).toNat = k0 := by omega
        have Hct_14_0 := Lib.hid ct_14_0
        replace ct_14_0 := cell_regrown ct_14_0
        have Hct_14_1 := Lib.hid ct_14_1
        replace ct_14_1 := cell_regrown ct_14_1
        have Hct_14_2 := Lib.hid ct_14_2
        replace ct_14_2 := cell_regrown ct_14_2
        have Hct_14_3 := Lib.hid ct_14_3
        replace ct_14_3 := cell_regrown ct_14_3
        have Hct_14_4 := Lib.hid ct_14_4
        replace ct_14_4 := cell_regrown ct_14_4
        replace H := idx_hid H
        obtain ⟨nt_18, yt_18, et_18, lt_18, gt_18, H⟩ := H
        obtain rfl : k0 = nt_18 := by omega
        clear et_18
        obtain ⟨t_18_name, t_18_hue, t_18_width, t_18_dark, t_18_light⟩ := yt_18
        replace H := unShade_hid H
        obtain ⟨ab_t_18, ao_t_18, zt_18, At_18, z_t_18, ct_18_0, ct_18_1, ct_18_2, ct_18_3, ct_18_4⟩ := Go.Proofs.Ytpbbechgpgnpbaa.OShade.at_ M1.out lt_18
        obtain rfl := Option.some.inj (gt_18.out.symm.trans z_t_18)
        subst At_18
        have ltt_18 := cell_lt ct_18_0
        replace ct_18_0 := cell_below HBwr0.out ct_18_0
        replace ct_18_1 := cell_below HBwr0.out ct_18_1
        replace ct_18_2 := cell_below HBwr0.out ct_18_2
        replace ct_18_3 := cell_below HBwr0.out ct_18_3
        replace ct_18_4 := cell_below HBwr0.out ct_18_4
        clear z_t_18
        have b0t_18 : (0 : Int) ≤ (k0 : Int) := by omega
        have b1t_18 : (k0 : Int) < ((b.length : Nat) : Int) := by omega
        have b2t_18 : ((k0 : Int)).toNat = k0 := by omega
        have Hct_18_0 := Lib.hid ct_18_0
        replace ct_18_0 := cell_regrown ct_18_0
        have Hct_18_1 := Lib.hid ct_18_1
        replace ct_18_1 := cell_regrown ct_18_1
        have Hct_18_2 := Lib.hid ct_18_2
        replace ct_18_2 := cell_regrown ct_18_2
        have Hct_18_3 := Lib.hid ct_18_3
        replace ct_18_3 := cell_regrown ct_18_3
        have Hct_18_4 := Lib.hid ct_18_4
        replace ct_18_4 := cell_regrown ct_18_4
        replace H := bind_hid H
        obtain ⟨t_20, qt_20, H⟩ := H
        have nt_20 : ∀ d os, Calls Try.prog 63 #[.agg #[.string t_14_name, .int .i64 t_14_hue, .int .i64 t_14_width, .int .i64 t_14_dark, .int .i64 t_14_light], .agg #[.string t_18_name, .int .i64 t_18_hue, .int .i64 t_18_width, .int .i64 t_18_dark, .int .i64 t_18_light]] (Go.Sort.grow (redrawn wr0 d) os) fun e w'' => e = .returned (.bool t_20) ∧ ∃ p : Regrown, w'' = Go.Sort.grow (redrawn wr0 p.d) p.os := fun d os => Calls.regrown_of (Go.Proofs.Ytpbbechgpgnpbaa.GlEqShade.C ((Go.Proofs.Ytpbbechgpgnpbaa.PShade.Shade.mk t_14_name t_14_hue t_14_width t_14_dark t_14_light)) ((Go.Proofs.Ytpbbechgpgnpbaa.PShade.Shade.mk t_18_name t_18_hue t_18_width t_18_dark t_18_light))  _    qt_20)
        cases t_20 with
        | false =>
          replace H := let_hid H
          obtain ⟨t_21, ht_21, H⟩ := H
          obtain rfl : t_21 = true := ht_21.symm
          refine wp_region_quiet_below (by kernel_rfl) (by kernel_rfl) ?_
          repeat (go_big_quiet_step (first | (go_at_call 63; exact nt_20 _ _)))
          refine wpQuiet_nil ?_
          intro Y6 hY6
          replace hY6 := below_class hY6
          clear nt_20
          replace ct_14_0 := Hct_14_0.out
          clear Hct_14_0
          replace ct_14_1 := Hct_14_1.out
          clear Hct_14_1
          replace ct_14_2 := Hct_14_2.out
          clear Hct_14_2
          replace ct_14_3 := Hct_14_3.out
          clear Hct_14_3
          replace ct_14_4 := Hct_14_4.out
          clear Hct_14_4
          replace ct_18_0 := Hct_18_0.out
          clear Hct_18_0
          replace ct_18_1 := Hct_18_1.out
          clear Hct_18_1
          replace ct_18_2 := Hct_18_2.out
          clear Hct_18_2
          replace ct_18_3 := Hct_18_3.out
          clear Hct_18_3
          replace ct_18_4 := Hct_18_4.out
          clear Hct_18_4
          have HBY6 := Lib.hid (Below.step HBwr0.out hY6)
          replace ct_14_0 := cell_below hY6 ct_14_0
          replace ct_14_1 := cell_below hY6 ct_14_1
          replace ct_14_2 := cell_below hY6 ct_14_2
          replace ct_14_3 := cell_below hY6 ct_14_3
          replace ct_14_4 := cell_below hY6 ct_14_4
          replace ct_18_0 := cell_below hY6 ct_18_0
          replace ct_18_1 := cell_below hY6 ct_18_1
          replace ct_18_2 := cell_below hY6 ct_18_2
          replace ct_18_3 := cell_below hY6 ct_18_3
          replace ct_18_4 := cell_below hY6 ct_18_4
          clear hY6
          replace H := ite_t H
          obtain rfl := ret_hid H
          go_wp2_with fail
          go_ret
          exact ⟨rfl, HBY6.out⟩
        | true =>
          replace H := let_hid H
          obtain ⟨t_21, ht_21, H⟩ := H
          obtain rfl : t_21 = false := ht_21.symm
          refine wp_region_quiet_below (by kernel_rfl) (by kernel_rfl) ?_
          repeat (go_big_quiet_step (first | (go_at_call 63; exact nt_20 _ _)))
          refine wpQuiet_nil ?_
          intro Y6 hY6
          replace hY6 := below_class hY6
          clear nt_20
          replace ct_14_0 := Hct_14_0.out
          clear Hct_14_0
          replace ct_14_1 := Hct_14_1.out
          clear Hct_14_1
          replace ct_14_2 := Hct_14_2.out
          clear Hct_14_2
          replace ct_14_3 := Hct_14_3.out
          clear Hct_14_3
          replace ct_14_4 := Hct_14_4.out
          clear Hct_14_4
          replace ct_18_0 := Hct_18_0.out
          clear Hct_18_0
          replace ct_18_1 := Hct_18_1.out
          clear Hct_18_1
          replace ct_18_2 := Hct_18_2.out
          clear Hct_18_2
          replace ct_18_3 := Hct_18_3.out
          clear Hct_18_3
          replace ct_18_4 := Hct_18_4.out
          clear Hct_18_4
          have HBY6 := Lib.hid (Below.step HBwr0.out hY6)
          replace ct_14_0 := cell_below hY6 ct_14_0
          replace ct_14_1 := cell_below hY6 ct_14_1
          replace ct_14_2 := cell_below hY6 ct_14_2
          replace ct_14_3 := cell_below hY6 ct_14_3
          replace ct_14_4 := cell_below hY6 ct_14_4
          replace ct_18_0 := cell_below hY6 ct_18_0
          replace ct_18_1 := cell_below hY6 ct_18_1
          replace ct_18_2 := cell_below hY6 ct_18_2
          replace ct_18_3 := cell_below hY6 ct_18_3
          replace ct_18_4 := cell_below hY6 ct_18_4
          clear hY6
          replace H := ite_f H
          replace H := app_hid H
          go_wp2_with fail
          go_roundg m0
          case measure => omega
          case rel => exact ⟨k0 + 1, by omega, by go_num, H, HBY6⟩
  | true =>
    have nht_5 : ¬ (a.length = b.length) := by have := bne_iff_ne.1 ht_5; omega
    replace H := ite_t H
    obtain rfl := ret_hid H
    go_wp2_with fail
    go_ret
    exact ⟨rfl, HB.out⟩
end Go.Proofs.Ytpbbechgpgnpbaa.GlEqShadeS

/- loop.example/g01062/laws.FnExactBestShade as a plain function, and the contract of the program's: where the plain one has an answer, the program has it. Conditions: slices read as lists. -/
namespace Go.Proofs.Ytpbbechgpgnpbaa.GlFnExactBestShade
set_option linter.unusedVariables false
set_option linter.unusedSimpArgs false
open Go.RowKit
open Go.Proofs.Ytpbbechgpgnpbaa.Rowed Go.Proofs.Ytpbbechgpgnpbaa.Turn Go.Proofs.Ytpbbechgpgnpbaa.Aid Go.Proofs.Ytpbbechgpgnpbaa.GoP Go.Proofs.Ytpbbechgpgnpbaa.GoM

def P (fuel : Nat) (aList : (List Go.Proofs.Ytpbbechgpgnpbaa.PShade.Shade)) (aHue : Int) (aLight : Int) : Option (Bool) :=
  Option.bind (Go.Proofs.Ytpbbechgpgnpbaa.GlSzShadeS.P aList 1048576) fun (t_4 : Int) =>
  letK (decide (t_4 < 0)) fun (t_7 : Bool) =>
  iteK t_7
  (some true)
  (Option.bind (Go.Proofs.Ytpbbechgpgnpbaa.GlToShadeS.P aList) fun (t_10 : (List Go.Proofs.Ytpbbechgpgnpbaa.PShade.Shade)) =>
  bind2 (Go.Proofs.Ytpbbechgpgnpbaa.GsBestShade.P t_10 aHue aLight) fun (t_13a : ByteArray) (t_13b : Bool) =>
  Option.bind (Go.Proofs.Ytpbbechgpgnpbaa.GlToShadeS.P aList) fun (t_20 : (List Go.Proofs.Ytpbbechgpgnpbaa.PShade.Shade)) =>
  bind2 (Go.Proofs.Ytpbbechgpgnpbaa.GiBestShade.P fuel t_20 aHue aLight) fun (t_25a : ByteArray) (t_25b : Bool) =>
  letK (!(t_25a.toList == t_13a.toList)) fun (t_33 : Bool) =>
  joinK (fun (t_38 : Bool) =>
  iteK t_38
  (some false)
  (Option.bind (Go.Proofs.Ytpbbechgpgnpbaa.GlToShadeS.P aList) fun (t_42 : (List Go.Proofs.Ytpbbechgpgnpbaa.PShade.Shade)) =>
  Option.bind (Go.Proofs.Ytpbbechgpgnpbaa.GlEqShadeS.P t_20 t_42) fun (t_43 : Bool) =>
  letK (!t_43) fun (t_44 : Bool) =>
  iteK t_44
  (some false)
  (some true))) fun jt_38 => iteK t_33 (appK jt_38 true) (letK (!(t_25b == t_13b)) fun (t_37 : Bool) =>
  appK jt_38 t_37))

set_option maxRecDepth 100000 in
set_option maxHeartbeats 2000000 in
theorem C (fuel : Nat) (aList : (List Go.Proofs.Ytpbbechgpgnpbaa.PShade.Shade)) (aHue : Int) (aLight : Int) (A0 : Option Addr) (c0 : Nat)  (w : World) (M0 : Hid (Cells w 5 A0 aList.length (Go.Proofs.Ytpbbechgpgnpbaa.PShade.flat aList))) (N0 : Hid (aList.length ≤ 9223372036854775807))  {r : Bool} (H : Hid (P fuel aList aHue aLight = some r)) :
    Calls Try.prog 7 #[.slice A0 aList.length c0, .int .i64 aHue, .int .i64 aLight] w (Gives (.bool r) w) := by
  have HB := Lib.hid (Below.refl w.heap.size w)
  unfold P at H
  have N0o := N0.out
  go_enter Try.func7, Try.ntmps7
  replace H := bind_hid H
  obtain ⟨t_4, qt_4, H⟩ := H
  go_wp2_with fail
  go_at_call 19
  refine (Go.Proofs.Ytpbbechgpgnpbaa.GlSzShadeS.C (aList) (1048576) A0 c0 _   (Lib.hid (Cells.below M0.out HB.out)) N0 qt_4).mono ?_
  rintro e_t_4 wt_4 ⟨rfl, bt_4⟩
  have HBwt_4 := Lib.hid (Below.step HB.out bt_4)
  clear bt_4
  replace H := let_hid H
  obtain ⟨t_7, ht_7, H⟩ := H
  cases t_7 with
  | false =>
    replace H := ite_f H
    replace H := bind_hid H
    obtain ⟨t_10, qt_10, H⟩ := H
    go_wp2_with fail
    go_at_call 21
    refine (Go.Proofs.Ytpbbechgpgnpbaa.GlToShadeS.C (aList) A0 c0 _   (Lib.hid (Cells.below M0.out HBwt_4.out)) N0 qt_10).mono ?_
    rintro e_t_10 wt_10 ⟨At_10, ct_10, rfl, ot_10, bt_10⟩
    have Ot_10 := Lib.hid (own_lower ot_10 HBwt_4.out.size)
    clear ot_10
    have HBwt_10 := Lib.hid (Below.step HBwt_4.out bt_10)
    clear bt_10
    replace H := bind2_hid H
    obtain ⟨t_13a, t_13b, qt_13, H⟩ := H
    go_wp2_with fail
    go_at_call 32
    refine (Go.Proofs.Ytpbbechgpgnpbaa.GsBestShade.C (t_10) (aHue) (aLight) At_10 ct_10 _   (Lib.hid (own_cells Ot_10.out)) (Lib.hid (own_max Ot_10.out)) qt_13).mono ?_
    rintro e_t_13 wt_13 ⟨rfl, bt_13⟩
    have HBwt_13 := Lib.hid (Below.step HBwt_10.out bt_13)
    replace Ot_10 := Lib.hid (own_below Ot_10.out bt_13)
    clear bt_13
    replace H := bind_hid H
    obtain ⟨t_20, qt_20, H⟩ := H
    go_wp2_with fail
    go_at_call 21
    refine (Go.Proofs.Ytpbbechgpgnpbaa.GlToShadeS.C (aList) A0 c0 _   (Lib.hid (Cells.below M0.out HBwt_13.out)) N0 qt_20).mono ?_
    rintro e_t_20 wt_20 ⟨At_20, ct_20, rfl, ot_20, bt_20⟩
    have Dt_20_t_10 := Lib.hid (apart_call ot_20 Ot_10.out)
    have Ot_20 := Lib.hid (own_lower ot_20 HBwt_13.out.size)
    clear ot_20
    have HBwt_20 := Lib.hid (Below.step HBwt_13.out bt_20)
    replace Ot_10 := Lib.hid (own_below Ot_10.out bt_20)
    clear bt_20
    replace H := bind2_hid H
    obtain ⟨t_25a, t_25b, qt_25, H⟩ := H
    go_wp2_with fail
    go_at_call 33
    refine (Go.Proofs.Ytpbbechgpgnpbaa.GiBestShade.C fuel (t_20) (aHue) (aLight) At_20 ct_20 _   (Lib.hid (own_cells Ot_20.out)) (Lib.hid (own_max Ot_20.out)) (Lib.hid (own_room Ot_20.out)) qt_25).mono ?_
    rintro e_t_25 wt_25 ⟨rfl, bt_25⟩
    have HBwt_25 := Lib.hid (Below.step HBwt_20.out bt_25)
    replace Ot_10 := Lib.hid (own_below Ot_10.out bt_25)
    replace Ot_20 := Lib.hid (own_below Ot_20.out bt_25)
    clear bt_25
    replace H := let_hid H
    obtain ⟨t_33, ht_33, H⟩ := H
    replace H := join_hid H
    cases t_33 with
    | false =>
      replace H := ite_f H
      replace H := let_hid H
      obtain ⟨t_37, ht_37, H⟩ := H
      replace H := app_hid H
      cases t_37 with
      | false =>
        replace H := ite_f H
        replace H := bind_hid H
        obtain ⟨t_42, qt_42, H⟩ := H
        go_wp2_with fail
        go_at_call 21
        refine (Go.Proofs.Ytpbbechgpgnpbaa.GlToShadeS.C (aList) A0 c0 _   (Lib.hid (Cells.below M0.out HBwt_25.out)) N0 qt_42).mono ?_
        rintro e_t_42 wt_42 ⟨At_42, ct_42, rfl, ot_42, bt_42⟩
        have Dt_42_t_10 := Lib.hid (apart_call ot_42 Ot_10.out)
        have Dt_42_t_20 := Lib.hid (apart_call ot_42 Ot_20.out)
        have Ot_42 := Lib.hid (own_lower ot_42 HBwt_25.out.size)
        clear ot_42
        have HBwt_42 := Lib.hid (Below.step HBwt_25.out bt_42)
        replace Ot_10 := Lib.hid (own_below Ot_10.out bt_42)
        replace Ot_20 := Lib.hid (own_below Ot_20.out bt_42)
        clear bt_42
        replace H := bind_hid H
        obtain ⟨t_43, qt_43, H⟩ := H
        go_wp2_with fail
        go_at_call 23
        refine (Go.Proofs.Ytpbbechgpgnpbaa.GlEqShadeS.C (t_20) (t_42) At_20 ct_20 At_42 ct_42 _   (Lib.hid (own_cells Ot_20.out)) (Lib.hid (own_max Ot_20.out)) (Lib.hid (own_cells Ot_42.out)) (Lib.hid (own_max Ot_42.out)) qt_43).mono ?_
        rintro e_t_43 wt_43 ⟨rfl, bt_43⟩
        have HBwt_43 := Lib.hid (Below.step HBwt_42.out bt_43)
        replace Ot_10 := Lib.hid (own_below Ot_10.out bt_43)
        replace Ot_20 := Lib.hid (own_below Ot_20.out bt_43)
        replace Ot_42 := Lib.hid (own_below Ot_42.out bt_43)
        clear bt_43
        cases t_43 with
        | false =>
          replace H := let_hid H
          obtain ⟨t_44, ht_44, H⟩ := H
          obtain rfl : t_44 = true := ht_44.symm
          replace H := ite_t H
          obtain rfl := ret_hid H
          go_wp2_with fail
          go_ret
          exact ⟨rfl, HBwt_43.out⟩
        | true =>
          replace H := let_hid H
          obtain ⟨t_44, ht_44, H⟩ := H
          obtain rfl : t_44 = false := ht_44.symm
          replace H := ite_f H
          obtain rfl := ret_hid H
          go_wp2_with fail
          go_ret
          exact ⟨rfl, HBwt_43.out⟩
      | true =>
        replace H := ite_t H
        obtain rfl := ret_hid H
        go_wp2_with fail
        go_ret
        exact ⟨rfl, HBwt_25.out⟩
    | true =>
      replace H := ite_t H
      replace H := app_hid H
      replace H := ite_t H
      obtain rfl := ret_hid H
      go_wp2_with fail
      go_ret
      exact ⟨rfl, HBwt_25.out⟩
  | true =>
    replace H := ite_t H
    obtain rfl := ret_hid H
    go_wp2_with fail
    go_ret
    exact ⟨rfl, HBwt_4.out⟩
end Go.Proofs.Ytpbbechgpgnpbaa.GlFnExactBestShade

/- Plain words on stamps: what a stamp is, when one is valid, when a list of them is; the cells of a list of records. No condition. -/
namespace Go.Proofs.Ytpbbechgpgnpbaa.PlainStamp
set_option linter.unusedVariables false

/-- a number lies in a..b -/
def inB (x a b : Int) : Bool := decide (a ≤ x ∧ x ≤ b)
theorem inB_yes {x a b : Int} (h1 : a ≤ x) (h2 : x ≤ b) : inB x a b = true := by unfold inB; exact decide_eq_true ⟨h1, h2⟩
theorem inB_of {x a b : Int} (h : inB x a b = true) : a ≤ x ∧ x ≤ b := by unfold inB at h; exact of_decide_eq_true h
theorem inB_no {x a b : Int} (h : x < a ∨ b < x) : inB x a b = false := by unfold inB; exact decide_eq_false (by omega)

structure St where
  id : Int
  face : Int
  color : Int
  year : Int
deriving DecidableEq

def St.cells (s : St) : List Value := [.int .i64 s.id, .int .i64 s.face, .int .i64 s.color, .int .i64 s.year]
def St.val (s : St) : Value := .agg #[.int .i64 s.id, .int .i64 s.face, .int .i64 s.color, .int .i64 s.year]
/-- each field fits an int -/
def St.fits (s : St) : Prop := (Lit.int .i64 s.id).wf = true ∧ (Lit.int .i64 s.face).wf = true ∧ (Lit.int .i64 s.color).wf = true ∧ (Lit.int .i64 s.year).wf = true

def okSt (s : St) : Bool := inB s.id 1 999 && inB s.face 0 9999 && inB s.color 0 99 && inB s.year 1840 2100
theorem okSt_yes {s : St} (h : okSt s = true) : (1 ≤ s.id ∧ s.id ≤ 999) ∧ (0 ≤ s.face ∧ s.face ≤ 9999) ∧ (0 ≤ s.color ∧ s.color ≤ 99) ∧ (1840 ≤ s.year ∧ s.year ≤ 2100) := by
  unfold okSt at h
  simp only [Bool.and_eq_true] at h
  exact ⟨inB_of h.1.1.1, inB_of h.1.1.2, inB_of h.1.2, inB_of h.2⟩

/-- the stamp at k is valid, and its id is above the one ahead of it -/
def okAt (l : List St) (k : Nat) : Bool :=
  match l[k]? with
  | none => true
  | some s => okSt s && (decide (k = 0) || (match l[k-1]? with | none => true | some r => decide (r.id < s.id)))
def okUp (l : List St) (k : Nat) : Bool := (List.range k).all (okAt l)
theorem okUp_zero (l : List St) : okUp l 0 = true := by simp [okUp]
theorem okUp_succ (l : List St) (k : Nat) : okUp l (k + 1) = (okUp l k && okAt l k) := by simp [okUp, List.range_succ, List.all_append]
theorem okUp_not {l : List St} {k n : Nat} (h : okAt l k = false) (hk : k < n) : okUp l n = false := by
  unfold okUp
  rw [Bool.eq_false_iff]
  intro hall
  have := List.all_eq_true.1 hall k (List.mem_range.2 hk)
  rw [h] at this; exact absurd this (by simp)
/-- a list of at most twelve valid stamps with rising ids -/
def okSts (l : List St) : Bool := decide (l.length ≤ 12) && okUp l l.length
theorem okAt_of {l : List St} {k : Nat} {s : St} (hs : l[k]? = some s) (h : okAt l k = true) : okSt s = true ∧ ∀ r, 0 < k → l[k-1]? = some r → r.id < s.id := by
  unfold okAt at h
  rw [hs] at h
  simp only [Bool.and_eq_true, Bool.or_eq_true, decide_eq_true_eq] at h
  refine ⟨h.1, fun r hk hr => ?_⟩
  rcases h.2 with h0 | h0
  · omega
  · rw [hr] at h0; simpa using h0
theorem okSts_len {l : List St} (h : okSts l = true) : l.length ≤ 12 := by unfold okSts at h; simp only [Bool.and_eq_true, decide_eq_true_eq] at h; exact h.1
theorem okSts_at {l : List St} (h : okSts l = true) {k : Nat} {s : St} (hs : l[k]? = some s) : okSt s = true ∧ ∀ r, 0 < k → l[k-1]? = some r → r.id < s.id := by
  unfold okSts at h
  simp only [Bool.and_eq_true, decide_eq_true_eq] at h
  exact okAt_of hs (List.all_eq_true.1 h.2 k (List.mem_range.2 (List.getElem?_eq_some_iff.1 hs).1))
theorem okSts_mem {l : List St} (h : okSts l = true) {s : St} (hs : s ∈ l) : okSt s = true := by
  obtain ⟨k, hk⟩ := List.getElem?_of_mem hs
  exact (okSts_at h hk).1

/-- the cells of a list of stamps, one after the other -/
def flat (l : List St) : List Value := l.flatMap St.cells
theorem flat_nil : flat [] = [] := rfl
theorem flat_cons (s : St) (l : List St) : flat (s :: l) = s.cells ++ flat l := by simp [flat]
theorem flat_len (l : List St) : (flat l).length = l.length * 4 := by
  induction l with
  | nil => rfl
  | cons s l ih => rw [flat_cons, List.length_append, ih]; simp [St.cells]; omega
theorem flat_at : ∀ (l : List St) (k : Nat) (s : St), l[k]? = some s → ∀ j, j < 4 → (flat l)[k * 4 + j]? = s.cells[j]?
  | [], k, s, h, _, _ => by simp at h
  | r :: l, 0, s, h, j, hj => by
    obtain rfl : r = s := by simpa using h
    rw [flat_cons, List.getElem?_append_left (by simp [St.cells]; omega)]; simp
  | r :: l, k + 1, s, h, j, hj => by
    rw [flat_cons, List.getElem?_append_right (by simp [St.cells]; omega), show (k + 1) * 4 + j - r.cells.length = k * 4 + j by simp [St.cells]; omega]
    exact flat_at l k s (by simpa using h) j hj
end Go.Proofs.Ytpbbechgpgnpbaa.PlainStamp

/- Words for reckoning with plain functions; within and l1In. No condition. -/
namespace Go.Proofs.Ytpbbechgpgnpbaa.QBase
set_option linter.unusedVariables false
set_option linter.unusedSimpArgs false
open Go.RowKit
open Go.Proofs.Ytpbbechgpgnpbaa.GoP Go.Proofs.Ytpbbechgpgnpbaa.PlainStamp

theorem iteK_if {ρ : Type} (c : Bool) (a b : Option ρ) : iteK c a b = if c = true then a else b := by cases c <;> rfl
theorem bind2_some {α β ρ : Type} (a : α) (b : β) (f : α → β → Option ρ) : bind2 (some (a, b)) f = f a b := rfl
theorem bind3_some {α β γ ρ : Type} (a : α) (b : β) (c : γ) (f : α → β → γ → Option ρ) : bind3 (some (a, b, c)) f = f a b c := rfl
theorem unp2_mk {α β ρ : Type} (a : α) (b : β) (f : α → β → Option ρ) : unp2 (a, b) f = f a b := rfl
theorem unp3_mk {α β γ ρ : Type} (a : α) (b : β) (c : γ) (f : α → β → γ → Option ρ) : unp3 (a, b, c) f = f a b c := rfl
theorem guardK_pos {ρ : Type} {p : Prop} [Decidable p] {a : Option ρ} (h : p) : guardK p a = a := if_pos h
theorem cut2 {α β : Type} {x : Option (α × β)} {p : α × β} (h : x = some p) : x = some (p.1, p.2) := h
theorem cut3 {α β γ : Type} {x : Option (α × β × γ)} {p : α × β × γ} (h : x = some p) : x = some (p.1, p.2.1, p.2.2) := h
theorem within_eq (n a b : Int) : GiWithin.P n a b = some (inB n a b) := by
  simp only [GiWithin.P, letK, joinK, appK, iteK_if, inB]
  by_cases h1 : a ≤ n <;> by_cases h2 : n ≤ b <;> simp [h1, h2]
theorem l1In_eq (n a b : Int) : GsL1In.P n a b = some (inB n a b) := by
  simp only [GsL1In.P, letK, joinK, appK, iteK_if, inB]
  by_cases h1 : a ≤ n <;> by_cases h2 : n ≤ b <;> simp [h1, h2]
end Go.Proofs.Ytpbbechgpgnpbaa.QBase

/- Reckoning with the loops of plain functions; lists of valid records with rising ids. No condition. -/
namespace Go.Proofs.Ytpbbechgpgnpbaa.QLoop
set_option linter.unusedVariables false
open Go.RowKit
open Go.Proofs.Ytpbbechgpgnpbaa.GoP Go.Proofs.Ytpbbechgpgnpbaa.QBase

theorem cnt_ex {σ ρ : Type} {f : Nat → σ → (σ → Option ρ) → (σ → Option ρ) → Option ρ} {fin : σ → Option ρ} {Q : ρ → Prop} {n : Nat} (I : Nat → σ → Prop)
    (step : ∀ k s nx, k < n → I k s → (∀ s', I (k + 1) s' → ∃ r, nx s' = some r ∧ Q r) → ∃ r, f k s nx fin = some r ∧ Q r) (done : ∀ s, I n s → ∃ r, fin s = some r ∧ Q r) :
    ∀ m k s, k + m = n → I k s → ∃ r, cntK f m k s fin = some r ∧ Q r := by
  intro m
  induction m with
  | zero => intro k s hk hI; obtain rfl : k = n := by omega
            exact done s hI
  | succ m ih => intro k s hk hI; exact step k s _ (by omega) hI (fun s' h' => ih (k + 1) s' (by omega) h')
theorem cnt_is {σ ρ : Type} {f : Nat → σ → (σ → Option ρ) → (σ → Option ρ) → Option ρ} {fin : σ → Option ρ} {n : Nat} (r : ρ) (I : Nat → σ → Prop)
    (step : ∀ k s nx, k < n → I k s → (∀ s', I (k + 1) s' → nx s' = some r) → f k s nx fin = some r) (done : ∀ s, I n s → fin s = some r) (s : σ) (h0 : I 0 s) : cntK f n 0 s fin = some r := by
  obtain ⟨r', h, rfl⟩ := cnt_ex (Q := fun x => x = r) I (fun k s nx hk hI hn => ⟨r, step k s nx hk hI (fun s' h' => by obtain ⟨_, h, rfl⟩ := hn s' h'; exact h), rfl⟩) (fun s h => ⟨r, done s h, rfl⟩) n 0 s (by omega) h0
  exact h
theorem at_lt {α : Type} {l : List α} {k : Nat} (h : k < l.length) : ∃ x, l[k]? = some x ∧ idx l (k : Int) = some x := ⟨l[k], List.getElem?_eq_getElem h, by rw [idx_nat, List.getElem?_eq_getElem h]⟩
theorem idx_pred {α : Type} {l : List α} {k : Nat} {x : α} (hk : 0 < k) (hb : k ≤ 9223372036854775807) (h : l[k - 1]? = some x) : idx l (IntKind.i64.wrap ((k : Int) - 1)) = some x := by
  rw [IntWalk.i64_in _ (by omega), show ((k : Int) - 1) = ((k - 1 : Nat) : Int) by omega, idx_nat, h]
theorem take_next {α : Type} {l : List α} {k : Nat} {x : α} (h : l[k]? = some x) : l.take (k + 1) = l.take k ++ [x] := by
  obtain ⟨hk, e⟩ := List.getElem?_eq_some_iff.1 h
  rw [List.take_succ_eq_append_getElem hk, e]
theorem all_next {α : Type} {p : α → Bool} {l : List α} {k : Nat} {x : α} (h : l[k]? = some x) : (l.take (k + 1)).all p = ((l.take k).all p && p x) := by
  rw [take_next h]; simp
theorem not_all {α : Type} {p : α → Bool} {l : List α} {k : Nat} {x : α} (h : l[k]? = some x) (hp : p x = false) : l.all p = false := by
  rw [Bool.eq_false_iff]
  intro ha
  have := List.all_eq_true.1 ha x (List.mem_of_getElem? h)
  rw [hp] at this; exact absurd this (by simp)
theorem wrap_in {x : Int} (h1 : -9223372036854775808 ≤ x) (h2 : x ≤ 9223372036854775807) : IntKind.i64.wrap x = x := IntWalk.i64_in _ (by omega)

/-- valid, and above the one ahead of it -/
def upAt {α : Type} (ok : α → Bool) (id : α → Int) (l : List α) (k : Nat) : Bool :=
  match l[k]? with
  | none => true
  | some s => ok s && (decide (k = 0) || (match l[k-1]? with | none => true | some r => decide (id r < id s)))
def upTo {α : Type} (ok : α → Bool) (id : α → Int) (l : List α) (k : Nat) : Bool := (List.range k).all (upAt ok id l)
theorem upTo_zero {α : Type} (ok : α → Bool) (id : α → Int) (l : List α) : upTo ok id l 0 = true := rfl
theorem upTo_succ {α : Type} (ok : α → Bool) (id : α → Int) (l : List α) (k : Nat) : upTo ok id l (k + 1) = (upTo ok id l k && upAt ok id l k) := by simp [upTo, List.range_succ, List.all_append]
theorem upTo_not {α : Type} {ok : α → Bool} {id : α → Int} {l : List α} {k n : Nat} (h : upAt ok id l k = false) (hk : k < n) : upTo ok id l n = false := by
  unfold upTo
  rw [Bool.eq_false_iff]
  intro ha
  have := List.all_eq_true.1 ha k (List.mem_range.2 hk)
  rw [h] at this; exact absurd this (by simp)
/-- a list of at most m valid records with rising ids -/
def upL {α : Type} (m : Nat) (ok : α → Bool) (id : α → Int) (l : List α) : Bool := decide (l.length ≤ m) && upTo ok id l l.length
theorem upAt_bad {α : Type} {ok : α → Bool} {id : α → Int} {l : List α} {k : Nat} {s : α} (hs : l[k]? = some s) (h : ok s = false) : upAt ok id l k = false := by unfold upAt; rw [hs]; simp [h]
theorem upAt_first {α : Type} {ok : α → Bool} {id : α → Int} {l : List α} {s : α} (hs : l[0]? = some s) (h : ok s = true) : upAt ok id l 0 = true := by unfold upAt; rw [hs]; simp [h]
theorem upAt_next {α : Type} {ok : α → Bool} {id : α → Int} {l : List α} {k : Nat} {s r : α} (hs : l[k]? = some s) (hr : l[k-1]? = some r) (hk : 0 < k) (h : ok s = true) : upAt ok id l k = decide (id r < id s) := by
  unfold upAt; rw [hs]; simp only [hr, h, Bool.true_and, decide_eq_false (show ¬ k = 0 by omega), Bool.false_or]
theorem upL_len {α : Type} {m : Nat} {ok : α → Bool} {id : α → Int} {l : List α} (h : upL m ok id l = true) : l.length ≤ m := by unfold upL at h; simp only [Bool.and_eq_true, decide_eq_true_eq] at h; exact h.1
theorem upL_ok {α : Type} {m : Nat} {ok : α → Bool} {id : α → Int} {l : List α} (h : upL m ok id l = true) {k : Nat} {s : α} (hs : l[k]? = some s) : ok s = true := by
  unfold upL at h
  simp only [Bool.and_eq_true, decide_eq_true_eq] at h
  have := List.all_eq_true.1 h.2 k (List.mem_range.2 (List.getElem?_eq_some_iff.1 hs).1)
  unfold upAt at this
  rw [hs] at this
  simp only [Bool.and_eq_true] at this
  exact this.1
theorem upL_mem {α : Type} {m : Nat} {ok : α → Bool} {id : α → Int} {l : List α} (h : upL m ok id l = true) {s : α} (hs : s ∈ l) : ok s = true := by
  obtain ⟨k, hk⟩ := List.getElem?_of_mem hs
  exact upL_ok h hk
/-- a loop that goes through a list of records and stops with 'false' at the first that is bad -/
theorem up_loop {α : Type} {ok : α → Bool} {id : α → Int} {l : List α} {R : Type} {no : R} {f : Nat → Unit → (Unit → Option R) → (Unit → Option R) → Option R} {fin : Unit → Option R}
    (step : ∀ k nx s, l[k]? = some s → (ok s = false → f k () nx fin = some no) ∧ (ok s = true → (k = 0 → f k () nx fin = nx ()) ∧ (0 < k → ∀ r, l[k-1]? = some r → (id r < id s → f k () nx fin = nx ()) ∧ (id s ≤ id r → f k () nx fin = some no)))) :
    cntK f l.length 0 () fin = if upTo ok id l l.length then fin () else some no := by
  have key : ∀ m k, k + m = l.length → upTo ok id l k = true → cntK f m k () fin = if upTo ok id l l.length then fin () else some no := by
    intro m
    induction m with
    | zero => intro k hk hu; obtain rfl : k = l.length := by omega
              rw [hu]; rfl
    | succ m ih =>
      intro k hk hu
      have hlt : k < l.length := by omega
      obtain ⟨s, hs, _⟩ := at_lt hlt
      obtain ⟨h1, h2⟩ := step k (fun s' => cntK f m (k + 1) s' fin) s hs
      show f k () _ fin = _
      cases hok : ok s with
      | false => rw [h1 hok, upTo_not (upAt_bad hs hok) hlt]; rfl
      | true =>
        obtain ⟨h3, h4⟩ := h2 hok
        by_cases hk0 : k = 0
        · rw [h3 hk0]
          subst hk0
          exact ih 1 (by omega) (by rw [upTo_succ, hu, upAt_first hs hok]; rfl)
        · obtain ⟨r, hr, _⟩ := at_lt (l := l) (k := k - 1) (by omega)
          obtain ⟨h5, h6⟩ := h4 (by omega) r hr
          by_cases hlt2 : id r < id s
          · rw [h5 hlt2]
            exact ih (k + 1) (by omega) (by rw [upTo_succ, hu, upAt_next hs hr (by omega) hok]; simpa using hlt2)
          · rw [h6 (by omega), upTo_not (by rw [upAt_next hs hr (by omega) hok]; simpa using hlt2) hlt]; rfl
  exact key l.length 0 (by omega) (upTo_zero ok id l)
end Go.Proofs.Ytpbbechgpgnpbaa.QLoop

/- Lists of valid records in strictly rising order of any kind; texts in the order of their bytes. (QOrd) No condition but those of each theorem. -/
namespace Go.Proofs.Ytpbbechgpgnpbaa.QOrd
set_option linter.unusedVariables false
set_option linter.unusedSimpArgs false
open Go.RowKit
open Go.Proofs.Ytpbbechgpgnpbaa.GoP Go.Proofs.Ytpbbechgpgnpbaa.PlainStamp Go.Proofs.Ytpbbechgpgnpbaa.QBase Go.Proofs.Ytpbbechgpgnpbaa.QLoop

/-- texts in the order of their bytes -/
def bl (a b : ByteArray) : Bool := Op.bytesLess a.toList b.toList
theorem bl_self' : ∀ x, Op.bytesLess x x = false
  | [] => rfl
  | a :: x => by
    have h1 : ¬ a < a := fun k => by rw [UInt8.lt_iff_toNat_lt] at k; omega
    simp [Op.bytesLess, h1, bl_self' x]
theorem bl_total' : ∀ x y, x ≠ y → Op.bytesLess x y = !(Op.bytesLess y x)
  | [], [], h => absurd rfl h
  | [], b :: y, _ => by simp [Op.bytesLess]
  | a :: x, [], _ => by simp [Op.bytesLess]
  | a :: x, b :: y, h => by
    by_cases hab : a = b
    · subst hab
      have h1 : ¬ a < a := fun k => by rw [UInt8.lt_iff_toNat_lt] at k; omega
      have := bl_total' x y (fun e => h (by rw [e]))
      simp [Op.bytesLess, h1, this]
    · have hne : a.toNat ≠ b.toNat := fun e => hab (UInt8.toNat_inj.1 e)
      by_cases hlt : a < b
      · have h2 : ¬ b < a := fun k => by rw [UInt8.lt_iff_toNat_lt] at k hlt; omega
        simp [Op.bytesLess, hlt, h2, Ne.symm hab]
      · have h2 : b < a := by rw [UInt8.lt_iff_toNat_lt] at hlt ⊢; omega
        simp [Op.bytesLess, hlt, h2, hab]
theorem bl_trans' : ∀ x y z, Op.bytesLess x y = true → Op.bytesLess y z = true → Op.bytesLess x z = true
  | [], _, [], h1, h2 => by rename_i y; cases y <;> simp [Op.bytesLess] at h1 h2
  | [], _, c :: z, _, _ => by simp [Op.bytesLess]
  | a :: x, [], _, h1, _ => by simp [Op.bytesLess] at h1
  | a :: x, b :: y, [], _, h2 => by simp [Op.bytesLess] at h2
  | a :: x, b :: y, c :: z, h1, h2 => by
    simp only [Op.bytesLess, Bool.or_eq_true, decide_eq_true_eq, Bool.and_eq_true, beq_iff_eq] at h1 h2 ⊢
    rcases h1 with h1 | ⟨rfl, h1⟩
    · rcases h2 with h2 | ⟨rfl, h2⟩
      · left; rw [UInt8.lt_iff_toNat_lt] at h1 h2 ⊢; omega
      · left; exact h1
    · rcases h2 with h2 | ⟨rfl, h2⟩
      · left; exact h2
      · right; exact ⟨rfl, bl_trans' x y z h1 h2⟩
theorem list_inj {a b : ByteArray} (h : a.toList = b.toList) : a = b := by
  rw [Lib.toList_data, Lib.toList_data] at h
  cases a; cases b; congr 1; exact Array.toList_inj.1 h
theorem bl_self (a : ByteArray) : bl a a = false := bl_self' _
theorem bl_total {a b : ByteArray} (h : a ≠ b) : bl a b = !(bl b a) := bl_total' _ _ (fun e => h (list_inj e))
theorem bl_trans {a b c : ByteArray} (h1 : bl a b = true) (h2 : bl b c = true) : bl a c = true := bl_trans' _ _ _ h1 h2
theorem bl_asymm {a b : ByteArray} (h : bl a b = true) : bl b a = false := by
  by_cases e : a = b
  · rw [e]; exact bl_self b
  · rw [bl_total e] at h; simpa using h
theorem bl_ne {a b : ByteArray} (h : bl a b = true) : a ≠ b := fun e => by rw [e, bl_self] at h; exact absurd h (by simp)
/-- 'not above', as the program asks it -/
theorem bl_le (a b : ByteArray) : (Op.bytesLess a.toList b.toList || a.toList == b.toList) = !(bl b a) := by
  by_cases e : a = b
  · subst e; rw [bl_self]; simp
  · have h1 : (a.toList == b.toList) = false := by rw [beq_eq_false_iff_ne]; exact fun h => e (list_inj h)
    rw [h1, Bool.or_false]; exact bl_total e
theorem bl_lt (a b : ByteArray) : Op.bytesLess a.toList b.toList = bl a b := rfl
theorem eq_list (a b : ByteArray) : (a.toList == b.toList) = decide (a = b) := by
  by_cases e : a = b
  · subst e; simp
  · rw [decide_eq_false e, beq_eq_false_iff_ne]; exact fun h => e (list_inj h)

/-- valid, and behind the one ahead of it -/
def riseAt {α : Type} (ok : α → Bool) (lt : α → α → Bool) (l : List α) (k : Nat) : Bool :=
  match l[k]? with
  | none => true
  | some s => ok s && (decide (k = 0) || (match l[k-1]? with | none => true | some r => lt r s))
def riseTo {α : Type} (ok : α → Bool) (lt : α → α → Bool) (l : List α) (k : Nat) : Bool := (List.range k).all (riseAt ok lt l)
theorem riseTo_zero {α : Type} (ok : α → Bool) (lt : α → α → Bool) (l : List α) : riseTo ok lt l 0 = true := rfl
theorem riseTo_succ {α : Type} (ok : α → Bool) (lt : α → α → Bool) (l : List α) (k : Nat) : riseTo ok lt l (k + 1) = (riseTo ok lt l k && riseAt ok lt l k) := by simp [riseTo, List.range_succ, List.all_append]
theorem riseTo_not {α : Type} {ok : α → Bool} {lt : α → α → Bool} {l : List α} {k n : Nat} (h : riseAt ok lt l k = false) (hk : k < n) : riseTo ok lt l n = false := by
  unfold riseTo
  rw [Bool.eq_false_iff]
  intro ha
  have := List.all_eq_true.1 ha k (List.mem_range.2 hk)
  rw [h] at this; exact absurd this (by simp)
def riseL {α : Type} (m : Nat) (ok : α → Bool) (lt : α → α → Bool) (l : List α) : Bool := decide (l.length ≤ m) && riseTo ok lt l l.length
theorem riseAt_bad {α : Type} {ok : α → Bool} {lt : α → α → Bool} {l : List α} {k : Nat} {s : α} (hs : l[k]? = some s) (h : ok s = false) : riseAt ok lt l k = false := by unfold riseAt; rw [hs]; simp [h]
theorem riseAt_first {α : Type} {ok : α → Bool} {lt : α → α → Bool} {l : List α} {s : α} (hs : l[0]? = some s) (h : ok s = true) : riseAt ok lt l 0 = true := by unfold riseAt; rw [hs]; simp [h]
theorem riseAt_next {α : Type} {ok : α → Bool} {lt : α → α → Bool} {l : List α} {k : Nat} {s r : α} (hs : l[k]? = some s) (hr : l[k-1]? = some r) (hk : 0 < k) (h : ok s = true) : riseAt ok lt l k = lt r s := by
  unfold riseAt; rw [hs]; simp only [hr, h, Bool.true_and, decide_eq_false (show ¬ k = 0 by omega), Bool.false_or]
theorem riseL_len {α : Type} {m : Nat} {ok : α → Bool} {lt : α → α → Bool} {l : List α} (h : riseL m ok lt l = true) : l.length ≤ m := by unfold riseL at h; simp only [Bool.and_eq_true, decide_eq_true_eq] at h; exact h.1
theorem riseTo_at {α : Type} {ok : α → Bool} {lt : α → α → Bool} {l : List α} {n : Nat} (h : riseTo ok lt l n = true) {k : Nat} (hk : k < n) : riseAt ok lt l k = true := List.all_eq_true.1 h k (List.mem_range.2 hk)
theorem riseL_ok {α : Type} {m : Nat} {ok : α → Bool} {lt : α → α → Bool} {l : List α} (h : riseL m ok lt l = true) {k : Nat} {s : α} (hs : l[k]? = some s) : ok s = true := by
  unfold riseL at h
  simp only [Bool.and_eq_true, decide_eq_true_eq] at h
  have := riseTo_at h.2 (List.getElem?_eq_some_iff.1 hs).1
  unfold riseAt at this
  rw [hs] at this
  simp only [Bool.and_eq_true] at this
  exact this.1
theorem riseL_mem {α : Type} {m : Nat} {ok : α → Bool} {lt : α → α → Bool} {l : List α} (h : riseL m ok lt l = true) {s : α} (hs : s ∈ l) : ok s = true := by
  obtain ⟨k, hk⟩ := List.getElem?_of_mem hs
  exact riseL_ok h hk
theorem riseL_step {α : Type} {m : Nat} {ok : α → Bool} {lt : α → α → Bool} {l : List α} (h : riseL m ok lt l = true) {k : Nat} {x y : α} (hx : l[k]? = some x) (hy : l[k + 1]? = some y) : lt x y = true := by
  unfold riseL at h
  simp only [Bool.and_eq_true, decide_eq_true_eq] at h
  have := riseTo_at h.2 (List.getElem?_eq_some_iff.1 hy).1
  unfold riseAt at this
  rw [hy] at this
  simp only [Nat.add_sub_cancel, hx, Bool.and_eq_true, Bool.or_eq_true, decide_eq_true_eq] at this
  rcases this.2 with h0 | h0
  · omega
  · exact h0
theorem riseL_lt {α : Type} {m : Nat} {ok : α → Bool} {lt : α → α → Bool} (tr : ∀ a b c, lt a b = true → lt b c = true → lt a c = true) {l : List α} (h : riseL m ok lt l = true) {i j : Nat} {x y : α} (hij : i < j) (hx : l[i]? = some x) (hy : l[j]? = some y) : lt x y = true := by
  obtain ⟨d, rfl⟩ : ∃ d, j = i + d + 1 := ⟨j - i - 1, by omega⟩
  clear hij
  induction d generalizing y with
  | zero => exact riseL_step h hx hy
  | succ d ih =>
    obtain ⟨z, hz, _⟩ := at_lt (l := l) (k := i + d + 1) (by have := (List.getElem?_eq_some_iff.1 hy).1; omega)
    exact tr _ _ _ (ih hz) (riseL_step (k := i + d + 1) h hz (by rw [← hy]; rfl))
/-- a loop that goes through a list of records and stops with 'no' at the first that is bad -/
theorem rise_loop {α : Type} {ok : α → Bool} {lt : α → α → Bool} {l : List α} {R : Type} {no : R} {f : Nat → Unit → (Unit → Option R) → (Unit → Option R) → Option R} {fin : Unit → Option R}
    (step : ∀ k nx s, l[k]? = some s → (ok s = false → f k () nx fin = some no) ∧ (ok s = true → (k = 0 → f k () nx fin = nx ()) ∧ (0 < k → ∀ r, l[k-1]? = some r → (lt r s = true → f k () nx fin = nx ()) ∧ (lt r s = false → f k () nx fin = some no)))) :
    cntK f l.length 0 () fin = if riseTo ok lt l l.length then fin () else some no := by
  have key : ∀ m k, k + m = l.length → riseTo ok lt l k = true → cntK f m k () fin = if riseTo ok lt l l.length then fin () else some no := by
    intro m
    induction m with
    | zero => intro k hk hu; obtain rfl : k = l.length := by omega
              rw [hu]; rfl
    | succ m ih =>
      intro k hk hu
      have hlt : k < l.length := by omega
      obtain ⟨s, hs, _⟩ := at_lt hlt
      obtain ⟨h1, h2⟩ := step k (fun s' => cntK f m (k + 1) s' fin) s hs
      show f k () _ fin = _
      cases hok : ok s with
      | false => rw [h1 hok, riseTo_not (riseAt_bad hs hok) hlt]; rfl
      | true =>
        obtain ⟨h3, h4⟩ := h2 hok
        by_cases hk0 : k = 0
        · rw [h3 hk0]
          subst hk0
          exact ih 1 (by omega) (by rw [riseTo_succ, hu, riseAt_first hs hok]; rfl)
        · obtain ⟨r, hr, _⟩ := at_lt (l := l) (k := k - 1) (by omega)
          obtain ⟨h5, h6⟩ := h4 (by omega) r hr
          cases hl : lt r s with
          | true =>
            rw [h5 hl]
            exact ih (k + 1) (by omega) (by rw [riseTo_succ, hu, riseAt_next hs hr (by omega) hok, hl]; rfl)
          | false => rw [h6 hl, riseTo_not (by rw [riseAt_next hs hr (by omega) hok, hl]) hlt]; rfl
  exact key l.length 0 (by omega) (riseTo_zero ok lt l)
end Go.Proofs.Ytpbbechgpgnpbaa.QOrd

/- Loops that count, that search, and that gather behind what is there already: the plain loops' answers. (QCount) No condition but those of each theorem. -/
namespace Go.Proofs.Ytpbbechgpgnpbaa.QCount
set_option linter.unusedVariables false
set_option linter.unusedSimpArgs false
open Go.RowKit
open Go.Proofs.Ytpbbechgpgnpbaa.GoP Go.Proofs.Ytpbbechgpgnpbaa.PlainStamp Go.Proofs.Ytpbbechgpgnpbaa.QBase Go.Proofs.Ytpbbechgpgnpbaa.QLoop

theorem count_list {α R : Type} {l : List α} {p : α → Bool} {f : Nat → Int → (Int → Option R) → (Int → Option R) → Option R} {fin : Int → Option R}
    (step : ∀ k nx x (s : Nat), l[k]? = some x → s ≤ k → f k (s : Int) nx fin = nx ((if p x = true then s + 1 else s : Nat) : Int)) : cntK f l.length 0 0 fin = fin ((l.filter p).length : Int) := by
  have key : ∀ m k, k + m = l.length → cntK f m k (((l.take k).filter p).length : Int) fin = fin ((l.filter p).length : Int) := by
    intro m
    induction m with
    | zero => intro k hk; obtain rfl : k = l.length := by omega
              rw [List.take_of_length_le (Nat.le_refl _)]; rfl
    | succ m ih =>
      intro k hk
      obtain ⟨x, hx, _⟩ := at_lt (l := l) (k := k) (by omega)
      show f k _ _ fin = _
      have hle : ((l.take k).filter p).length ≤ k := by
        have := List.length_filter_le p (l.take k)
        rw [List.length_take] at this
        omega
      rw [step k _ x _ hx hle, ← ih (k + 1) (by omega), take_next hx, List.filter_append, List.length_append]
      cases hp : p x <;> simp [List.filter, hp]
  exact key l.length 0 (by omega)
theorem count_up {R : Type} {n : Nat} {p : Nat → Bool} {f : Nat → Int → (Int → Option R) → (Int → Option R) → Option R} {fin : Int → Option R}
    (step : ∀ k nx (s : Nat), k < n → s ≤ k → f k (s : Int) nx fin = nx ((if p k = true then s + 1 else s : Nat) : Int)) : cntK f n 0 0 fin = fin (((List.range n).filter p).length : Int) := by
  have h := count_list (l := List.range n) (p := p) (f := f) (fin := fin) (fun k nx x s hx hs => by
    obtain ⟨hk, rfl⟩ := List.getElem?_eq_some_iff.1 hx
    rw [List.length_range] at hk
    rw [List.getElem_range]
    exact step k nx s hk hs)
  rw [List.length_range] at h
  exact h
theorem filter_zero {α : Type} (l : List α) (p : α → Bool) : (((l.filter p).length : Int) == 0) = !(l.any p) := by
  rw [Bool.eq_iff_iff]
  simp only [beq_iff_eq, Bool.not_eq_true', List.any_eq_false]
  constructor
  · intro h x hx hp
    have : x ∈ l.filter p := List.mem_filter.2 ⟨hx, hp⟩
    have := List.length_pos_of_mem this
    omega
  · intro h
    have : l.filter p = [] := List.filter_eq_nil_iff.2 h
    rw [this]; rfl
/-- the first place at which the test holds -/
def firstI {α : Type} (p : α → Bool) (l : List α) : Int := match l.findIdx? p with | some i => (i : Int) | none => -1
theorem find_loop {α R : Type} {l : List α} {p : α → Bool} {f : Nat → Unit → (Unit → Option R) → (Unit → Option R) → Option R} {fin : Unit → Option R} {yes : Nat → Option R}
    (step : ∀ k nx x, l[k]? = some x → f k () nx fin = if p x = true then yes k else nx ()) : cntK f l.length 0 () fin = match l.findIdx? p with | some i => yes i | none => fin () := by
  have key : ∀ m k, k + m = l.length → (∀ i x, i < k → l[i]? = some x → p x = false) → cntK f m k () fin = match l.findIdx? p with | some i => yes i | none => fin () := by
    intro m
    induction m with
    | zero =>
      intro k hk hu; obtain rfl : k = l.length := by omega
      have : l.findIdx? p = none := by
        rw [List.findIdx?_eq_none_iff]
        intro x hx
        obtain ⟨i, hi⟩ := List.getElem?_of_mem hx
        exact hu i x (List.getElem?_eq_some_iff.1 hi).1 hi
      rw [this]; rfl
    | succ m ih =>
      intro k hk hu
      obtain ⟨x, hx, _⟩ := at_lt (l := l) (k := k) (by omega)
      show f k () _ fin = _
      rw [step k _ x hx]
      cases hp : p x with
      | true =>
        have : l.findIdx? p = some k := by
          rw [List.findIdx?_eq_some_iff_getElem]
          obtain ⟨hlt, e⟩ := List.getElem?_eq_some_iff.1 hx
          refine ⟨hlt, by rw [e]; exact hp, fun j hj => ?_⟩
          rw [hu j l[j] hj (List.getElem?_eq_getElem (by omega))]; simp
        rw [this, if_pos rfl]
      | false =>
        rw [if_neg (by simp)]
        refine ih (k + 1) (by omega) (fun i y hi hy => ?_)
        by_cases he : i = k
        · subst he; rw [hx] at hy; obtain rfl := Option.some.inj hy; exact hp
        · exact hu i y (by omega) hy
  exact key l.length 0 (by omega) (fun i x hi _ => by omega)
theorem any_find {α : Type} (p : α → Bool) (l : List α) : decide (0 ≤ firstI p l) = l.any p := by
  unfold firstI
  cases h : l.findIdx? p with
  | none =>
    rw [List.findIdx?_eq_none_iff] at h
    have : l.any p = false := by rw [List.any_eq_false]; intro x hx; rw [h x hx]; simp
    rw [this]; rfl
  | some i =>
    rw [List.findIdx?_eq_some_iff_getElem] at h
    obtain ⟨hi, hp, _⟩ := h
    have : l.any p = true := List.any_eq_true.2 ⟨l[i], List.getElem_mem hi, hp⟩
    rw [this]; simp
theorem gatherA {α β R : Type} {l : List α} {p : α → Bool} {g : α → β} {acc : List β} {f : Nat → List β → (List β → Option R) → (List β → Option R) → Option R} {fin : List β → Option R} (hl : acc.length + l.length ≤ 1099511627776)
    (step : ∀ k nx x s, l[k]? = some x → s.length ≤ 1099511627776 → f k s nx fin = nx (if p x = true then s ++ [g x] else s)) : cntK f l.length 0 acc fin = fin (acc ++ (l.filter p).map g) := by
  have key : ∀ m k, k + m = l.length → cntK f m k (acc ++ ((l.take k).filter p).map g) fin = fin (acc ++ (l.filter p).map g) := by
    intro m
    induction m with
    | zero => intro k hk; obtain rfl : k = l.length := by omega
              rw [List.take_of_length_le (Nat.le_refl _)]; rfl
    | succ m ih =>
      intro k hk
      obtain ⟨x, hx, _⟩ := at_lt (l := l) (k := k) (by omega)
      show f k _ _ fin = _
      have hle : (acc ++ ((l.take k).filter p).map g).length ≤ 1099511627776 := by
        rw [List.length_append, List.length_map]
        have := List.length_filter_le p (l.take k)
        rw [List.length_take] at this
        omega
      rw [step k _ x _ hx hle, ← ih (k + 1) (by omega), take_next hx, List.filter_append, List.map_append]
      cases hp : p x <;> simp [List.filter, hp]
  have h0 := key l.length 0 (by omega)
  simpa using h0
/-- a loop with fuel over what stands from k on -/
theorem gatherL {α β R : Type} {l : List α} {p : α → Bool} {g : α → β} {f : List β × Int → (List β × Int → Option R) → (List β × Int → Option R) → Option R} {fin : List β × Int → Option R}
    (step : ∀ (k : Nat) nx x s, l[k]? = some x → s.length ≤ 1099511627776 → f (s, (k : Int)) nx fin = nx (if p x = true then s ++ [g x] else s, ((k + 1 : Nat) : Int)))
    (stop : ∀ s nx, f (s, (l.length : Int)) nx fin = fin (s, (l.length : Int))) : ∀ (fuel k : Nat) (acc : List β), k ≤ l.length → l.length - k < fuel → acc.length + l.length ≤ 1099511627776 + k → loopK f fuel (acc, (k : Int)) fin = fin (acc ++ ((l.drop k).filter p).map g, (l.length : Int)) := by
  intro fuel
  induction fuel with
  | zero => intro k acc hk hf; omega
  | succ m ih =>
    intro k acc hk hf ha
    show f (acc, (k : Int)) _ fin = _
    by_cases he : k = l.length
    · subst he; rw [stop, List.drop_of_length_le (Nat.le_refl _)]; simp
    · obtain ⟨x, hx, _⟩ := at_lt (l := l) (k := k) (by omega)
      rw [step k _ x acc hx (by omega), ih (k + 1) _ (by omega) (by omega) (by
        split
        · rw [List.length_append, List.length_singleton]; omega
        · omega)]
      obtain ⟨hlt, e⟩ := List.getElem?_eq_some_iff.1 hx
      rw [List.drop_eq_getElem_cons hlt, e]
      cases hp : p x <;> simp [List.filter, hp]
end Go.Proofs.Ytpbbechgpgnpbaa.QCount

/- Loops that test each place, and loops without a count. No condition. -/
namespace Go.Proofs.Ytpbbechgpgnpbaa.QAll
set_option linter.unusedVariables false
set_option linter.unusedSimpArgs false
open Go.RowKit
open Go.Proofs.Ytpbbechgpgnpbaa.GoP Go.Proofs.Ytpbbechgpgnpbaa.QBase Go.Proofs.Ytpbbechgpgnpbaa.QLoop

/-- each number below n is good -/
def allN (n : Nat) (p : Nat → Bool) : Bool := (List.range n).all p
theorem allN_iff {n : Nat} {p : Nat → Bool} : allN n p = true ↔ ∀ i, i < n → p i = true := by unfold allN; simp
theorem allN_no {n k : Nat} {p : Nat → Bool} (hk : k < n) (h : p k = false) : allN n p = false := by
  rw [Bool.eq_false_iff]; intro ha; rw [allN_iff.1 ha k hk] at h; exact absurd h (by simp)
theorem allN_eq {n m : Nat} {p q : Nat → Bool} (h : (∀ i, i < n → p i = true) ↔ (∀ i, i < m → q i = true)) : allN n p = allN m q := by
  rw [Bool.eq_iff_iff, allN_iff, allN_iff]; exact h
theorem all_cnt {ρ : Type} {n : Nat} {p : Nat → Bool} {no : ρ} {f : Nat → Unit → (Unit → Option ρ) → (Unit → Option ρ) → Option ρ} {fin : Unit → Option ρ}
    (step : ∀ k nx, k < n → (p k = false → f k () nx fin = some no) ∧ (p k = true → f k () nx fin = nx ())) : cntK f n 0 () fin = if allN n p = true then fin () else some no := by
  have key : ∀ m k, k + m = n → (∀ i, i < k → p i = true) → cntK f m k () fin = if allN n p = true then fin () else some no := by
    intro m
    induction m with
    | zero => intro k hk hu; obtain rfl : k = n := by omega
              rw [allN_iff.2 hu]; rfl
    | succ m ih =>
      intro k hk hu
      obtain ⟨h1, h2⟩ := step k (fun s' => cntK f m (k + 1) s' fin) (by omega)
      show f k () _ fin = _
      cases hp : p k with
      | false => rw [h1 hp, allN_no (by omega) hp]; rfl
      | true =>
        rw [h2 hp]
        refine ih (k + 1) (by omega) (fun i hi => ?_)
        by_cases he : i = k
        · rw [he]; exact hp
        · exact hu i (by omega)
  exact key n 0 (by omega) (fun i hi => by omega)
theorem lp_ex {σ ρ : Type} {f : σ → (σ → Option ρ) → (σ → Option ρ) → Option ρ} {fin : σ → Option ρ} {Q : ρ → Prop} {n : Nat} (I : Nat → σ → Prop)
    (step : ∀ k s nx, k < n → I k s → (∀ s', I (k + 1) s' → ∃ r, nx s' = some r ∧ Q r) → ∃ r, f s nx fin = some r ∧ Q r) (done : ∀ s nx, I n s → ∃ r, f s nx fin = some r ∧ Q r) :
    ∀ fuel k s, k ≤ n → n - k < fuel → I k s → ∃ r, loopK f fuel s fin = some r ∧ Q r := by
  intro fuel
  induction fuel with
  | zero => intro k s hk hf; omega
  | succ m ih =>
    intro k s hk hf hI
    show ∃ r, f s _ fin = some r ∧ Q r
    by_cases he : k = n
    · subst he; exact done s _ hI
    · exact step k s _ (by omega) hI (fun s' h' => ih (k + 1) s' (by omega) (by omega) h')
theorem all_lp {ρ : Type} {n : Nat} {p : Nat → Bool} {no : ρ} {f : Int → (Int → Option ρ) → (Int → Option ρ) → Option ρ} {fin : Int → Option ρ}
    (step : ∀ (k : Nat) nx, k < n → (p k = false → f (k : Int) nx fin = some no) ∧ (p k = true → f (k : Int) nx fin = nx ((k + 1 : Nat) : Int))) (stop : ∀ nx, f (n : Int) nx fin = fin (n : Int))
    (fuel : Nat) (hf : n < fuel) : loopK f fuel 0 fin = if allN n p = true then fin (n : Int) else some no := by
  have key : ∀ fuel k, k ≤ n → n - k < fuel → (∀ i, i < k → p i = true) → loopK f fuel (k : Int) fin = if allN n p = true then fin (n : Int) else some no := by
    intro fuel
    induction fuel with
    | zero => intro k hk hf; omega
    | succ m ih =>
      intro k hk hf hu
      show f (k : Int) _ fin = _
      by_cases he : k = n
      · subst he; rw [stop, allN_iff.2 hu]; rfl
      · obtain ⟨h1, h2⟩ := step k (fun s' => loopK f m s' fin) (by omega)
        cases hp : p k with
        | false => rw [h1 hp, allN_no (by omega) hp]; rfl
        | true =>
          rw [h2 hp]
          refine ih (k + 1) (by omega) (by omega) (fun i hi => ?_)
          by_cases he : i = k
          · rw [he]; exact hp
          · exact hu i (by omega)
  exact key fuel 0 (by omega) (by omega) (fun i hi => by omega)
theorem next_i {k : Nat} (h : k ≤ 9223372036854775806) : IntKind.i64.wrap ((k : Int) + 1) = ((k + 1 : Nat) : Int) := by rw [wrap_in (by omega) (by omega)]; omega
end Go.Proofs.Ytpbbechgpgnpbaa.QAll

/- Rising rows: what a rising row gives; loops that sum; loops from one on. No condition. -/
namespace Go.Proofs.Ytpbbechgpgnpbaa.QUp
set_option linter.unusedVariables false
set_option linter.unusedSimpArgs false
open Go.RowKit
open Go.Proofs.Ytpbbechgpgnpbaa.GoP Go.Proofs.Ytpbbechgpgnpbaa.QBase Go.Proofs.Ytpbbechgpgnpbaa.QLoop Go.Proofs.Ytpbbechgpgnpbaa.QAll

theorem upTo_at {α : Type} {ok : α → Bool} {id : α → Int} {l : List α} {n : Nat} (h : upTo ok id l n = true) {k : Nat} (hk : k < n) : upAt ok id l k = true := List.all_eq_true.1 h k (List.mem_range.2 hk)
theorem upTo_ok {α : Type} {ok : α → Bool} {id : α → Int} {l : List α} {n : Nat} (h : upTo ok id l n = true) {k : Nat} (hk : k < n) {x : α} (hx : l[k]? = some x) : ok x = true := by
  have := upTo_at h hk
  unfold upAt at this
  rw [hx] at this
  simp only [Bool.and_eq_true] at this
  exact this.1
theorem upTo_step {α : Type} {ok : α → Bool} {id : α → Int} {l : List α} {n : Nat} (h : upTo ok id l n = true) {k : Nat} (hk : k + 1 < n) {x y : α} (hx : l[k]? = some x) (hy : l[k + 1]? = some y) : id x < id y := by
  have := upTo_at h hk
  unfold upAt at this
  rw [hy] at this
  simp only [Nat.add_sub_cancel, hx, Bool.and_eq_true, Bool.or_eq_true, decide_eq_true_eq] at this
  rcases this.2 with h0 | h0
  · omega
  · exact h0
theorem upTo_lt {α : Type} {ok : α → Bool} {id : α → Int} {l : List α} {n : Nat} (h : upTo ok id l n = true) (hn : n ≤ l.length) {i : Nat} : ∀ d {x y : α}, i + d + 1 < n → l[i]? = some x → l[i + d + 1]? = some y → id x < id y := by
  intro d
  induction d with
  | zero => intro x y hk hx hy; exact upTo_step h hk hx hy
  | succ d ih =>
    intro x y hk hx hy
    obtain ⟨z, hz, _⟩ := at_lt (l := l) (k := i + d + 1) (by omega)
    have h1 := ih (by omega) hx hz
    have h2 := upTo_step (k := i + d + 1) h (by omega) hz (by rw [← hy]; rfl)
    omega
/-- rising numbers: the later one is greater -/
theorem up_less {α : Type} {ok : α → Bool} {id : α → Int} {l : List α} (h : upTo ok id l l.length = true) {i j : Nat} {x y : α} (hij : i < j) (hx : l[i]? = some x) (hy : l[j]? = some y) : id x < id y := by
  have hj := (List.getElem?_eq_some_iff.1 hy).1
  exact upTo_lt h (Nat.le_refl _) (j - i - 1) (by omega) hx (by rw [← hy]; congr 1; omega)
/-- a loop with fuel, from k on, by an invariant -/
theorem lp_is {σ ρ : Type} {f : σ → (σ → Option ρ) → (σ → Option ρ) → Option ρ} {fin : σ → Option ρ} {n : Nat} (r : ρ) (I : Nat → σ → Prop)
    (step : ∀ k s nx, k < n → I k s → (∀ s', I (k + 1) s' → nx s' = some r) → f s nx fin = some r) (done : ∀ s nx, I n s → f s nx fin = some r) (fuel : Nat) (k : Nat) (s : σ) (hk : k ≤ n) (hf : n - k < fuel) (hI : I k s) : loopK f fuel s fin = some r := by
  obtain ⟨r', h, rfl⟩ := lp_ex (Q := fun x => x = r) I (fun k s nx hk hI hn => ⟨r, step k s nx hk hI (fun s' h' => by obtain ⟨_, h, rfl⟩ := hn s' h'; exact h), rfl⟩) (fun s nx h => ⟨r, done s nx h, rfl⟩) fuel k s hk hf hI
  exact h
theorem most_eq (a b : Int) (h : (if b < a then a else b) = max a b := by omega) : (if b < a then a else b) = max a b := h
end Go.Proofs.Ytpbbechgpgnpbaa.QUp

/- loop.example/g01062/impl.HueDistance as a plain function, and the contract of the program's: where the plain one has an answer, the program has it. Conditions: slices read as lists. -/
namespace Go.Proofs.Ytpbbechgpgnpbaa.GiHueDistance
set_option linter.unusedVariables false
set_option linter.unusedSimpArgs false
open Go.RowKit
open Go.Proofs.Ytpbbechgpgnpbaa.Rowed Go.Proofs.Ytpbbechgpgnpbaa.Turn Go.Proofs.Ytpbbechgpgnpbaa.Aid Go.Proofs.Ytpbbechgpgnpbaa.GoP Go.Proofs.Ytpbbechgpgnpbaa.GoM

def P (a : Int) (b : Int) : Option (Int × Bool) :=
  Option.bind (Go.Proofs.Ytpbbechgpgnpbaa.GiIsHue.P a) fun (t_3 : Bool) =>
  letK (!t_3) fun (t_4 : Bool) =>
  joinK (fun (t_9 : Bool) =>
  iteK t_9
  (some (0, false))
  (Option.bind (Go.Proofs.Ytpbbechgpgnpbaa.GiLoHueDistance.P a b) fun (t_14 : Int) =>
  some (t_14, true))) fun jt_9 => iteK t_4 (appK jt_9 true) (Option.bind (Go.Proofs.Ytpbbechgpgnpbaa.GiIsHue.P b) fun (t_7 : Bool) =>
  letK (!t_7) fun (t_8 : Bool) =>
  appK jt_9 t_8)

set_option maxRecDepth 100000 in
set_option maxHeartbeats 2000000 in
theorem C (a : Int) (b : Int)   (w : World)   {r0 : Int} {r1 : Bool} (H : Hid (P a b = some (r0, r1))) :
    Calls Try.prog 25 #[.int .i64 a, .int .i64 b] w (Gives (.tuple #[.int .i64 r0, .bool r1]) w) := by
  have HB := Lib.hid (Below.refl w.heap.size w)
  unfold P at H
  go_enter Try.func25, Try.ntmps25
  replace H := bind_hid H
  obtain ⟨t_3, qt_3, H⟩ := H
  go_wp2_with fail
  go_at_call 57
  refine (Go.Proofs.Ytpbbechgpgnpbaa.GiIsHue.C (a)  _    qt_3).mono ?_
  rintro e_t_3 wt_3 ⟨rfl, bt_3⟩
  have HBwt_3 := Lib.hid (Below.step HB.out bt_3)
  clear bt_3
  cases t_3 with
  | false =>
    replace H := let_hid H
    obtain ⟨t_4, ht_4, H⟩ := H
    obtain rfl : t_4 = true := ht_4.symm
    replace H := join_hid H
    replace H := ite_t H
    replace H := app_hid H
    replace H := ite_t H
    cases ret_hid H
    go_wp2_with fail
    go_ret2
    exact ⟨rfl, HBwt_3.out⟩
  | true =>
    replace H := let_hid H
    obtain ⟨t_4, ht_4, H⟩ := H
    obtain rfl : t_4 = false := ht_4.symm
    replace H := join_hid H
    replace H := ite_f H
    replace H := bind_hid H
    obtain ⟨t_7, qt_7, H⟩ := H
    go_wp2_with fail
    go_at_call 57
    refine (Go.Proofs.Ytpbbechgpgnpbaa.GiIsHue.C (b)  _    qt_7).mono ?_
    rintro e_t_7 wt_7 ⟨rfl, bt_7⟩
    have HBwt_7 := Lib.hid (Below.step HBwt_3.out bt_7)
    clear bt_7
    cases t_7 with
    | false =>
      replace H := let_hid H
      obtain ⟨t_8, ht_8, H⟩ := H
      obtain rfl : t_8 = true := ht_8.symm
      replace H := app_hid H
      replace H := ite_t H
      cases ret_hid H
      go_wp2_with fail
      go_ret2
      exact ⟨rfl, HBwt_7.out⟩
    | true =>
      replace H := let_hid H
      obtain ⟨t_8, ht_8, H⟩ := H
      obtain rfl : t_8 = false := ht_8.symm
      replace H := app_hid H
      replace H := ite_f H
      replace H := bind_hid H
      obtain ⟨t_14, qt_14, H⟩ := H
      go_wp2_with fail
      go_at_call 66
      refine (Go.Proofs.Ytpbbechgpgnpbaa.GiLoHueDistance.C (a) (b)  _    qt_14).mono ?_
      rintro e_t_14 wt_14 ⟨rfl, bt_14⟩
      have HBwt_14 := Lib.hid (Below.step HBwt_7.out bt_14)
      clear bt_14
      cases ret_hid H
      go_wp2_with fail
      go_ret2
      exact ⟨rfl, HBwt_14.out⟩
end Go.Proofs.Ytpbbechgpgnpbaa.GiHueDistance

/- loop.example/g01062/spec.HueDistance as a plain function, and the contract of the program's: where the plain one has an answer, the program has it. Conditions: slices read as lists. -/
namespace Go.Proofs.Ytpbbechgpgnpbaa.GsHueDistance
set_option linter.unusedVariables false
set_option linter.unusedSimpArgs false
open Go.RowKit
open Go.Proofs.Ytpbbechgpgnpbaa.Rowed Go.Proofs.Ytpbbechgpgnpbaa.Turn Go.Proofs.Ytpbbechgpgnpbaa.Aid Go.Proofs.Ytpbbechgpgnpbaa.GoP Go.Proofs.Ytpbbechgpgnpbaa.GoM

def P (a : Int) (b : Int) : Option (Int × Bool) :=
  Option.bind (Go.Proofs.Ytpbbechgpgnpbaa.GsL7Hue.P a) fun (t_3 : Bool) =>
  letK (!t_3) fun (t_4 : Bool) =>
  joinK (fun (t_9 : Bool) =>
  iteK t_9
  (some (0, false))
  (Option.bind (Go.Proofs.Ytpbbechgpgnpbaa.GsL7Far.P a b) fun (t_14 : Int) =>
  some (t_14, true))) fun jt_9 => iteK t_4 (appK jt_9 true) (Option.bind (Go.Proofs.Ytpbbechgpgnpbaa.GsL7Hue.P b) fun (t_7 : Bool) =>
  letK (!t_7) fun (t_8 : Bool) =>
  appK jt_9 t_8)

set_option maxRecDepth 100000 in
set_option maxHeartbeats 2000000 in
theorem C (a : Int) (b : Int)   (w : World)   {r0 : Int} {r1 : Bool} (H : Hid (P a b = some (r0, r1))) :
    Calls Try.prog 24 #[.int .i64 a, .int .i64 b] w (Gives (.tuple #[.int .i64 r0, .bool r1]) w) := by
  have HB := Lib.hid (Below.refl w.heap.size w)
  unfold P at H
  go_enter Try.func24, Try.ntmps24
  replace H := bind_hid H
  obtain ⟨t_3, qt_3, H⟩ := H
  go_wp2_with fail
  go_at_call 64
  refine (Go.Proofs.Ytpbbechgpgnpbaa.GsL7Hue.C (a)  _    qt_3).mono ?_
  rintro e_t_3 wt_3 ⟨rfl, bt_3⟩
  have HBwt_3 := Lib.hid (Below.step HB.out bt_3)
  clear bt_3
  cases t_3 with
  | false =>
    replace H := let_hid H
    obtain ⟨t_4, ht_4, H⟩ := H
    obtain rfl : t_4 = true := ht_4.symm
    replace H := join_hid H
    replace H := ite_t H
    replace H := app_hid H
    replace H := ite_t H
    cases ret_hid H
    go_wp2_with fail
    go_ret2
    exact ⟨rfl, HBwt_3.out⟩
  | true =>
    replace H := let_hid H
    obtain ⟨t_4, ht_4, H⟩ := H
    obtain rfl : t_4 = false := ht_4.symm
    replace H := join_hid H
    replace H := ite_f H
    replace H := bind_hid H
    obtain ⟨t_7, qt_7, H⟩ := H
    go_wp2_with fail
    go_at_call 64
    refine (Go.Proofs.Ytpbbechgpgnpbaa.GsL7Hue.C (b)  _    qt_7).mono ?_
    rintro e_t_7 wt_7 ⟨rfl, bt_7⟩
    have HBwt_7 := Lib.hid (Below.step HBwt_3.out bt_7)
    clear bt_7
    cases t_7 with
    | false =>
      replace H := let_hid H
      obtain ⟨t_8, ht_8, H⟩ := H
      obtain rfl : t_8 = true := ht_8.symm
      replace H := app_hid H
      replace H := ite_t H
      cases ret_hid H
      go_wp2_with fail
      go_ret2
      exact ⟨rfl, HBwt_7.out⟩
    | true =>
      replace H := let_hid H
      obtain ⟨t_8, ht_8, H⟩ := H
      obtain rfl : t_8 = false := ht_8.symm
      replace H := app_hid H
      replace H := ite_f H
      replace H := bind_hid H
      obtain ⟨t_14, qt_14, H⟩ := H
      go_wp2_with fail
      go_at_call 65
      refine (Go.Proofs.Ytpbbechgpgnpbaa.GsL7Far.C (a) (b)  _    qt_14).mono ?_
      rintro e_t_14 wt_14 ⟨rfl, bt_14⟩
      have HBwt_14 := Lib.hid (Below.step HBwt_7.out bt_14)
      clear bt_14
      cases ret_hid H
      go_wp2_with fail
      go_ret2
      exact ⟨rfl, HBwt_14.out⟩
end Go.Proofs.Ytpbbechgpgnpbaa.GsHueDistance

/- Chapter 7: hues and shades: the plain functions of the program and of the reference agree, and the laws answer true. (Q7Hue) No condition but those of each theorem. -/
namespace Go.Proofs.Ytpbbechgpgnpbaa.Q7Hue
set_option linter.unusedVariables false
set_option linter.unusedSimpArgs false
open Go.RowKit
open Go.Proofs.Ytpbbechgpgnpbaa.GoP Go.Proofs.Ytpbbechgpgnpbaa.PlainStamp Go.Proofs.Ytpbbechgpgnpbaa.QBase Go.Proofs.Ytpbbechgpgnpbaa.QLoop

def far (a b : Int) : Int := min (max (a - b) (b - a)) (360 - max (a - b) (b - a))
theorem isHue_eq (h : Int) : GiIsHue.P h = some (inB h 0 359) := by simp only [GiIsHue.P, within_eq, Option.bind_some]
theorem l7Hue_eq (h : Int) : GsL7Hue.P h = some (inB h 0 359) := by simp only [GsL7Hue.P, l1In_eq, Option.bind_some]
theorem most_eq (a b : Int) : GsL1Most.P a b = some (max a b) := by
  simp only [GsL1Most.P, letK, iteK_if]
  by_cases h : b < a
  · rw [if_pos (by simpa using h)]; congr 1; omega
  · rw [if_neg (by simpa using h)]; congr 1; omega
theorem least_eq (a b : Int) : GsL1Least.P a b = some (min a b) := by
  simp only [GsL1Least.P, letK, iteK_if]
  by_cases h : a < b
  · rw [if_pos (by simpa using h)]; congr 1; omega
  · rw [if_neg (by simpa using h)]; congr 1; omega
theorem circle_eq {n : Int} (h1 : -360 ≤ n) (h2 : n ≤ 719) : GiOnCircle.P n = some ((n + 360) % 360) := by
  simp only [GiOnCircle.P, letK]
  rw [wrap_in (by omega) (by omega), Int.tmod_eq_emod_of_nonneg (by omega)]
theorem up_eq {a b : Int} (ha : 0 ≤ a ∧ a ≤ 359) (hb : 0 ≤ b ∧ b ≤ 359) : GiUpwards.P a b = some ((b - a + 360) % 360) := by
  simp only [GiUpwards.P, letK]
  rw [wrap_in (by omega) (by omega), circle_eq (by omega) (by omega)]; rfl
theorem dist_eq {a b : Int} (ha : 0 ≤ a ∧ a ≤ 359) (hb : 0 ≤ b ∧ b ≤ 359) : GiLoHueDistance.P a b = some (far a b) := by
  simp only [GiLoHueDistance.P, up_eq ha hb, up_eq hb ha, Option.bind_some, letK, far]
  congr 1; omega
theorem l7Far_eq {a b : Int} (ha : 0 ≤ a ∧ a ≤ 359) (hb : 0 ≤ b ∧ b ≤ 359) : GsL7Far.P a b = some (far a b) := by
  simp only [GsL7Far.P, most_eq, least_eq, Option.bind_some, letK]
  rw [wrap_in (x := a - b) (by omega) (by omega), wrap_in (x := b - a) (by omega) (by omega), wrap_in (by omega) (by omega)]; rfl
def hueRes (a b : Int) : Int × Bool := if (inB a 0 359 && inB b 0 359) = true then (far a b, true) else (0, false)
theorem hue_impl (a b : Int) : GiHueDistance.P a b = some (hueRes a b) := by
  simp only [GiHueDistance.P, isHue_eq, Option.bind_some, letK, joinK, appK, iteK_if, hueRes]
  cases ha : inB a 0 359 with
  | false => simp
  | true =>
    cases hb : inB b 0 359 with
    | false => simp
    | true => simp [dist_eq (inB_of ha) (inB_of hb)]
theorem hue_spec (a b : Int) : GsHueDistance.P a b = some (hueRes a b) := by
  simp only [GsHueDistance.P, l7Hue_eq, Option.bind_some, letK, joinK, appK, iteK_if, hueRes]
  cases ha : inB a 0 359 with
  | false => simp
  | true =>
    cases hb : inB b 0 359 with
    | false => simp
    | true => simp [l7Far_eq (inB_of ha) (inB_of hb)]
end Go.Proofs.Ytpbbechgpgnpbaa.Q7Hue

/- Words: the tests of a word of the program and of the reference as plain functions. (QWord) No condition but those of each theorem. -/
namespace Go.Proofs.Ytpbbechgpgnpbaa.QWord
set_option linter.unusedVariables false
set_option linter.unusedSimpArgs false
open Go.RowKit
open Go.Proofs.Ytpbbechgpgnpbaa.GoP Go.Proofs.Ytpbbechgpgnpbaa.PlainStamp Go.Proofs.Ytpbbechgpgnpbaa.QBase Go.Proofs.Ytpbbechgpgnpbaa.QLoop

def small (b : UInt8) : Bool := decide (97 ≤ b.toNat ∧ b.toNat ≤ 122)
def wordB (s : ByteArray) : Bool := inB (s.size : Int) 1 10 && s.toList.all small
theorem size_list (s : ByteArray) : s.toList.length = s.size := by rw [Lib.toList_data]; rfl
theorem isLetter_eq (b : UInt8) : GiIsLetter.P (b.toNat : Int) = some (small b) := by
  simp only [GiIsLetter.P, letK, joinK, appK, iteK_if]
  unfold small
  by_cases h1 : 97 ≤ b.toNat
  · by_cases h2 : b.toNat ≤ 122
    · simp [h1, h2, show (97 : Int) ≤ b.toNat by omega, show (b.toNat : Int) ≤ 122 by omega]
    · simp [h1, h2, show (97 : Int) ≤ b.toNat by omega, show ¬ (b.toNat : Int) ≤ 122 by omega]
  · simp [h1, show ¬ (97 : Int) ≤ b.toNat by omega]
theorem isWord_eq (s : ByteArray) : GiIsWord.P s = some (wordB s) := by
  cases hb : inB (s.size : Int) 1 10 with
  | false => simp only [GiIsWord.P, within_eq, hb, Option.bind_some, letK, iteK_if, wordB]; rfl
  | true =>
    have h := inB_of hb
    simp only [GiIsWord.P, within_eq, hb, Option.bind_some, letK, iteK_if]
    rw [if_neg (by simp), guardK_pos (by omega)]
    refine cnt_is _ (fun k _ => (s.toList.take k).all small = true) ?_ ?_ () rfl
    · intro k u nx hk hI hn
      obtain ⟨y, hy, hi⟩ := at_lt (l := s.toList) (k := k) (by rw [size_list]; exact hk)
      simp only [GiIsWord.l0, hi, Option.bind_some, letK, joinK, appK, iteK_if, isLetter_eq]
      cases hs : small y with
      | false =>
        have : wordB s = false := by unfold wordB; rw [not_all hy hs, Bool.and_false]
        simp [this]
      | true => exact hn () (by rw [all_next hy, hI, hs]; rfl)
    · intro u hI
      rw [List.take_of_length_le (by rw [size_list]; exact Nat.le_refl _)] at hI
      simp [GiIsWord.e0, wordB, hb, hI]
theorem l2Word_eq (s : ByteArray) (hz : s.size ≤ 9223372036854775807) : GsL2Word.P s = some (wordB s) := by
  simp only [GsL2Word.P]
  rw [guardK_pos hz]
  refine cnt_is _ (fun k _ => (s.toList.take k).all small = true) ?_ ?_ () rfl
  · intro k u nx hk hI hn
    obtain ⟨y, hy, hi⟩ := at_lt (l := s.toList) (k := k) (by rw [size_list]; exact hk)
    simp only [GsL2Word.l0, hi, Option.bind_some, letK, joinK, appK, iteK_if]
    by_cases h1 : (y.toNat : Int) < 97
    · have : wordB s = false := by unfold wordB; rw [not_all hy (by unfold small; simp; omega), Bool.and_false]
      simp [h1, this]
    · by_cases h2 : (122 : Int) < (y.toNat : Int)
      · have : wordB s = false := by unfold wordB; rw [not_all hy (by unfold small; simp; omega), Bool.and_false]
        simp [h1, h2, this]
      · simp [h1, h2]
        exact hn () (by rw [all_next hy, hI]; unfold small; simp; omega)
  · intro u hI
    rw [List.take_of_length_le (by rw [size_list]; exact Nat.le_refl _)] at hI
    simp [GsL2Word.e0, wordB, l1In_eq, hI]
theorem word_len {s : ByteArray} (h : wordB s = true) : 1 ≤ s.size ∧ s.size ≤ 10 := by
  unfold wordB at h
  simp only [Bool.and_eq_true] at h
  have := inB_of h.1; omega
end Go.Proofs.Ytpbbechgpgnpbaa.QWord

/- Chapter 7: hues and shades: the plain functions of the program and of the reference agree, and the laws answer true. (Q7Shade) No condition but those of each theorem. -/
namespace Go.Proofs.Ytpbbechgpgnpbaa.Q7Shade
set_option linter.unusedVariables false
set_option linter.unusedSimpArgs false
open Go.RowKit
open Go.Proofs.Ytpbbechgpgnpbaa.GoP Go.Proofs.Ytpbbechgpgnpbaa.PlainStamp Go.Proofs.Ytpbbechgpgnpbaa.QBase Go.Proofs.Ytpbbechgpgnpbaa.Q7Hue Go.Proofs.Ytpbbechgpgnpbaa.QWord Go.Proofs.Ytpbbechgpgnpbaa.QOrd Go.Proofs.Ytpbbechgpgnpbaa.QLoop Go.Proofs.Ytpbbechgpgnpbaa.PShade

theorem isLight_eq (h : Int) : GiIsLightness.P h = some (inB h 0 100) := by simp only [GiIsLightness.P, within_eq, Option.bind_some]
def okSh (x : Shade) : Bool := wordB x.name && inB x.hue 0 359 && inB x.width 0 179 && inB x.dark 0 100 && inB x.light 0 100 && decide (x.dark ≤ x.light)
theorem fits_name {x : Shade} (h : x.fits) : x.name.size ≤ 9223372036854775807 := h.1
theorem isShade_eq (x : Shade) : GiIsShade.P x = some (okSh x) := by
  obtain ⟨a, b, c, d, e⟩ := x
  simp only [GiIsShade.P, unShade, isWord_eq, isHue_eq, isLight_eq, within_eq, Option.bind_some, letK, joinK, appK, iteK_if, okSh]
  cases wordB a <;> cases inB b 0 359 <;> cases inB c 0 179 <;> cases inB d 0 100 <;> cases inB e 0 100 <;> simp
theorem l7One_eq (x : Shade) (h : x.fits) : GsL7One.P x = some (okSh x) := by
  have hz := fits_name h
  obtain ⟨a, b, c, d, e⟩ := x
  have hx : (inB e 0 100 && inB d 0 e) = (inB d 0 100 && inB e 0 100 && decide (d ≤ e)) := by unfold inB; rw [Bool.eq_iff_iff]; simp; omega
  simp only [GsL7One.P, unShade, l2Word_eq a hz, l7Hue_eq, l1In_eq, Option.bind_some, letK, joinK, appK, iteK_if, okSh]
  have hy : (wordB a && inB b 0 359 && inB c 0 179 && inB d 0 100 && inB e 0 100 && decide (d ≤ e)) = (wordB a && inB b 0 359 && inB c 0 179 && (inB e 0 100 && inB d 0 e)) := by rw [hx]; simp [Bool.and_assoc]
  rw [hy]
  cases wordB a <;> cases inB b 0 359 <;> cases inB c 0 179 <;> cases inB e 0 100 <;> simp
theorem okSh_of {x : Shade} (h : okSh x = true) : (0 ≤ x.hue ∧ x.hue ≤ 359) ∧ (0 ≤ x.width ∧ x.width ≤ 179) ∧ (0 ≤ x.dark ∧ x.dark ≤ 100) ∧ (0 ≤ x.light ∧ x.light ≤ 100) ∧ x.dark ≤ x.light ∧ wordB x.name = true := by
  unfold okSh at h
  simp only [Bool.and_eq_true, decide_eq_true_eq] at h
  exact ⟨inB_of h.1.1.1.1.2, inB_of h.1.1.1.2, inB_of h.1.1.2, inB_of h.1.2, h.2, h.1.1.1.1.1⟩
end Go.Proofs.Ytpbbechgpgnpbaa.Q7Shade

/- Chapter 7: hues and shades: the plain functions of the program and of the reference agree, and the laws answer true. (Q7List) No condition but those of each theorem. -/
namespace Go.Proofs.Ytpbbechgpgnpbaa.Q7List
set_option linter.unusedVariables false
set_option linter.unusedSimpArgs false
open Go.RowKit
open Go.Proofs.Ytpbbechgpgnpbaa.GoP Go.Proofs.Ytpbbechgpgnpbaa.PlainStamp Go.Proofs.Ytpbbechgpgnpbaa.QBase Go.Proofs.Ytpbbechgpgnpbaa.Q7Shade Go.Proofs.Ytpbbechgpgnpbaa.QOrd Go.Proofs.Ytpbbechgpgnpbaa.QLoop Go.Proofs.Ytpbbechgpgnpbaa.PShade

def nameLt (r s : Shade) : Bool := bl r.name s.name
def okShs (l : List Shade) : Bool := riseL 12 okSh nameLt l
theorem areShades_eq (l : List Shade) (hl : l.length ≤ 9223372036854775807) : GiAreShades.P l = some (okShs l) := by
  simp only [GiAreShades.P, GiAreByKeyShadeStringiIsShadeiNameOfShade.P, letK, iteK_if]
  by_cases h12 : l.length ≤ 12
  · rw [if_neg (by simp; omega), rise_loop (ok := okSh) (lt := nameLt) (no := false)]
    · unfold okShs riseL; cases riseTo okSh nameLt l l.length <;> simp [h12, GiAreByKeyShadeStringiIsShadeiNameOfShade.e0]
    · intro k nx s hs
      have hi : idx l (k : Int) = some s := by rw [idx_nat, hs]
      have hk : k < l.length := (List.getElem?_eq_some_iff.1 hs).1
      simp only [GiAreByKeyShadeStringiIsShadeiNameOfShade.l0, hi, Option.bind_some, unShade, isShade_eq, GiNameOfShade.P, letK, joinK, appK, iteK_if, bl_le]
      refine ⟨fun h => by simp [h], fun h => ⟨fun h0 => by subst h0; simp [h], fun h0 r hr => ?_⟩⟩
      rw [idx_pred h0 (by omega) hr]
      have hk0 : (0 : Int) < (k : Int) := by omega
      have hk1 : ¬ k = 0 := by omega
      exact ⟨fun hlt => by (have hc : bl r.name s.name = true := hlt); simp [h, hk0, hk1, hc], fun hge => by (have hc : bl r.name s.name = false := hge); simp [h, hk0, hk1, hc]⟩
  · rw [if_pos (by simp; omega)]; unfold okShs riseL; simp [h12]
theorem l7Good_eq (l : List Shade) (hf : ∀ s ∈ l, s.fits) (hl : l.length ≤ 9223372036854775807) : GsL7Good.P l = some (okShs l) := by
  simp only [GsL7Good.P]
  rw [rise_loop (ok := okSh) (lt := nameLt) (no := false)]
  · unfold okShs riseL; cases riseTo okSh nameLt l l.length <;> simp [GsL7Good.e0, letK]; omega
  · intro k nx s hs
    have hi : idx l (k : Int) = some s := by rw [idx_nat, hs]
    have hk : k < l.length := (List.getElem?_eq_some_iff.1 hs).1
    have hm := hf s (List.mem_of_getElem? hs)
    have h1 := l7One_eq s hm
    simp only [GsL7Good.l0, hi, Option.bind_some, unShade, h1, letK, joinK, appK, iteK_if, bl_lt]
    refine ⟨fun h => by simp [h], fun h => ⟨fun h0 => by subst h0; simp [h], fun h0 r hr => ?_⟩⟩
    rw [idx_pred h0 (by omega) hr]
    have hk0 : (0 : Int) < (k : Int) := by omega
    have hk1 : ¬ k = 0 := by omega
    exact ⟨fun hlt => by (have hc : bl r.name s.name = true := hlt); simp [h, hk0, hk1, hc], fun hge => by (have hc : bl r.name s.name = false := hge); simp [h, hk0, hk1, hc]⟩
theorem shs_mem {l : List Shade} (h : okShs l = true) {x : Shade} (hx : x ∈ l) : okSh x = true := riseL_mem h hx
end Go.Proofs.Ytpbbechgpgnpbaa.Q7List

/- Chapter 7: hues and shades: the plain functions of the program and of the reference agree, and the laws answer true. (Q7Takes) No condition but those of each theorem. -/
namespace Go.Proofs.Ytpbbechgpgnpbaa.Q7Takes
set_option linter.unusedVariables false
set_option linter.unusedSimpArgs false
open Go.RowKit
open Go.Proofs.Ytpbbechgpgnpbaa.GoP Go.Proofs.Ytpbbechgpgnpbaa.PlainStamp Go.Proofs.Ytpbbechgpgnpbaa.QBase Go.Proofs.Ytpbbechgpgnpbaa.Q7List Go.Proofs.Ytpbbechgpgnpbaa.Q7Shade Go.Proofs.Ytpbbechgpgnpbaa.Q7Hue Go.Proofs.Ytpbbechgpgnpbaa.QLoop Go.Proofs.Ytpbbechgpgnpbaa.PShade

def takesB (x : Shade) (hue light : Int) : Bool := decide (far x.hue hue ≤ x.width) && inB light x.dark x.light
theorem takesIn_eq {x : Shade} {hue : Int} (light : Int) (hx : okSh x = true) (hh : 0 ≤ hue ∧ hue ≤ 359) : GiTakesIn.P x hue light = some (takesB x hue light) := by
  have h1 := okSh_of hx
  obtain ⟨a, b, c, d, e⟩ := x
  dsimp only at h1
  simp only [GiTakesIn.P, unShade, dist_eq h1.1 hh, within_eq, Option.bind_some, letK, joinK, appK, iteK_if, takesB]
  by_cases h : far b hue ≤ c <;> simp [h]
theorem l7Takes_eq {x : Shade} {hue : Int} (light : Int) (hx : okSh x = true) (hh : 0 ≤ hue ∧ hue ≤ 359) : GsL7Takes.P x hue light = some (takesB x hue light) := by
  have h1 := okSh_of hx
  obtain ⟨a, b, c, d, e⟩ := x
  dsimp only at h1
  simp only [GsL7Takes.P, unShade, l7Far_eq h1.1 hh, l1In_eq, Option.bind_some, letK, joinK, appK, iteK_if, takesB]
  by_cases h : far b hue ≤ c <;> simp [h]
theorem canLook_eq (l : List Shade) (hue light : Int) (hl : l.length ≤ 9223372036854775807) : GiCanLook.P l hue light = some (okShs l && inB hue 0 359 && inB light 0 100) := by
  simp only [GiCanLook.P, areShades_eq l hl, isHue_eq, isLight_eq, Option.bind_some, joinK, appK, iteK_if]
  cases okShs l <;> cases inB hue 0 359 <;> simp
end Go.Proofs.Ytpbbechgpgnpbaa.Q7Takes

/- Chapter 7: hues and shades: the plain functions of the program and of the reference agree, and the laws answer true. (Q7Filter) No condition but those of each theorem. -/
namespace Go.Proofs.Ytpbbechgpgnpbaa.Q7Filter
set_option linter.unusedVariables false
set_option linter.unusedSimpArgs false
open Go.RowKit
open Go.Proofs.Ytpbbechgpgnpbaa.GoP Go.Proofs.Ytpbbechgpgnpbaa.PlainStamp Go.Proofs.Ytpbbechgpgnpbaa.QBase Go.Proofs.Ytpbbechgpgnpbaa.QOrd Go.Proofs.Ytpbbechgpgnpbaa.QCount Go.Proofs.Ytpbbechgpgnpbaa.QUp Go.Proofs.Ytpbbechgpgnpbaa.QAll Go.Proofs.Ytpbbechgpgnpbaa.Q7Takes Go.Proofs.Ytpbbechgpgnpbaa.Q7List Go.Proofs.Ytpbbechgpgnpbaa.Q7Shade Go.Proofs.Ytpbbechgpgnpbaa.Q7Hue Go.Proofs.Ytpbbechgpgnpbaa.QLoop Go.Proofs.Ytpbbechgpgnpbaa.PShade

theorem not1_eq {x : Shade} {hue : Int} (light : Int) (hx : okSh x = true) (hh : 0 ≤ hue ∧ hue ≤ 359) : GiBestShade1.P x hue light = some (!takesB x hue light) := by
  have ht := takesIn_eq light hx hh
  obtain ⟨a, b, c, d, e⟩ := x
  simp only [GiBestShade1.P, unShade, ht, Option.bind_some, letK]
theorem filter_eq {l : List Shade} (hok : ∀ x ∈ l, okSh x = true) (h12 : l.length ≤ 12) {hue : Int} (light : Int) (hh : 0 ≤ hue ∧ hue ≤ 359) (fuel : Nat) (hfu : 100 ≤ fuel) :
    GxSlicesDeleteFuncLoopExampleG01062ImplShadeLoopExampleG01062ImplShadeiBestShade1.P fuel l hue light = some (l.filter fun x => takesB x hue light) := by
  simp only [GxSlicesDeleteFuncLoopExampleG01062ImplShadeLoopExampleG01062ImplShadeiBestShade1.P, GxSlicesIndexFuncLoopExampleG01062ImplShadeLoopExampleG01062ImplShadeiBestShade1.P]
  rw [find_loop (p := fun x => !takesB x hue light) (yes := fun i => some (i : Int))]
  · cases hq : l.findIdx? fun x => !takesB x hue light with
    | none =>
      rw [List.findIdx?_eq_none_iff] at hq
      have hall : l.filter (fun x => takesB x hue light) = l := List.filter_eq_self.2 (fun x hx => by have := hq x hx; simpa using this)
      simp [GxSlicesIndexFuncLoopExampleG01062ImplShadeLoopExampleG01062ImplShadeiBestShade1.e0, letK, iteK_if, hall]
    | some q =>
      rw [List.findIdx?_eq_some_iff_getElem] at hq
      obtain ⟨hql, hqp, hqb⟩ := hq
      simp only [Option.bind_some, letK, iteK_if]
      rw [if_neg (by simp), wrap_in (by omega) (by omega)]
      refine lp_is (n := l.length) _ (fun k (s : List Shade × Int × Int) => s.2.2 = (k : Int) ∧ s.1.length = l.length ∧ q < k ∧ s.2.1 = (((l.take k).filter fun x => takesB x hue light).length : Int) ∧ ((l.take k).filter fun x => takesB x hue light).length < k ∧ s.1.take ((l.take k).filter fun x => takesB x hue light).length = (l.take k).filter (fun x => takesB x hue light) ∧ ∀ j : Nat, k ≤ j → s.1[j]? = l[j]?) ?_ ?_ fuel (q + 1) _ (by omega) (by omega) ?_
      · rintro k ⟨s, i, j⟩ nx hk ⟨h1, h2, h3, h4, h5, h6, h7⟩ hn
        dsimp only at h1 h2 h4 h6 h7
        subst h1
        obtain ⟨x, hx, _⟩ := at_lt (l := l) (k := k) hk
        have hsx : s[k]? = some x := by rw [h7 k (Nat.le_refl _), hx]
        have hox := hok x (List.mem_of_getElem? hx)
        have hnt := not1_eq light hox hh
        simp only [GxSlicesDeleteFuncLoopExampleG01062ImplShadeLoopExampleG01062ImplShadeiBestShade1.l0, unp3, letK, iteK_if]
        rw [if_pos (by simp; omega)]
        simp only [idx_nat, hsx, Option.bind_some, unShade, hnt, Bool.not_not, appK]
        cases ht : takesB x hue light with
        | true =>
          obtain ⟨y, hy, hyi⟩ := at_lt (l := s) (k := ((l.take k).filter fun x => takesB x hue light).length) (by omega)
          rw [if_pos rfl, h4, hyi]
          simp only [Option.bind_some]
          rw [wrap_in (by omega) (by omega), wrap_in (by omega) (by omega)]
          have hf1 : (l.take (k + 1)).filter (fun x => takesB x hue light) = (l.take k).filter (fun x => takesB x hue light) ++ [x] := by rw [take_next hx, List.filter_append]; simp [List.filter, ht]
          refine hn _ ⟨by dsimp only; omega, by dsimp only; rw [List.length_set]; exact h2, by omega, by dsimp only; rw [hf1, List.length_append, List.length_singleton]; omega, by rw [hf1, List.length_append, List.length_singleton]; omega, ?_, ?_⟩
          · dsimp only
            rw [hf1, List.length_append, List.length_singleton, Int.toNat_natCast]
            rw [take_next (x := x) (by rw [List.getElem?_set_self (by omega)]), List.take_set_of_le (Nat.le_refl _), h6]
          · intro j hj
            dsimp only
            rw [Int.toNat_natCast, List.getElem?_set_ne (by omega)]
            exact h7 j (by omega)
        | false =>
          rw [if_neg (by simp), wrap_in (by omega) (by omega)]
          have hf1 : (l.take (k + 1)).filter (fun x => takesB x hue light) = (l.take k).filter (fun x => takesB x hue light) := by rw [take_next hx, List.filter_append]; simp [List.filter, ht]
          refine hn _ ⟨by dsimp only; omega, h2, by omega, by rw [hf1]; exact h4, by rw [hf1]; omega, by rw [hf1]; exact h6, fun j hj => h7 j (by omega)⟩
      · rintro ⟨s, i, j⟩ nx ⟨h1, h2, h3, h4, h5, h6, h7⟩
        dsimp only at h1 h2 h4 h6 h7
        rw [List.take_of_length_le (Nat.le_refl _)] at h4 h5 h6
        simp only [GxSlicesDeleteFuncLoopExampleG01062ImplShadeLoopExampleG01062ImplShadeiBestShade1.l0, unp3, letK, iteK_if, h1, h2, appK, GxSlicesDeleteFuncLoopExampleG01062ImplShadeLoopExampleG01062ImplShadeiBestShade1.e0, h4]
        rw [if_neg (by simp), guardK_pos (by omega), guardK_pos (by rw [List.length_append, List.length_take, List.length_replicate]; omega), Int.toNat_natCast]
        rw [List.take_append_of_le_length (by rw [List.length_take]; omega), List.take_take, Nat.min_self, h6]
      · refine ⟨by dsimp only; omega, rfl, by omega, ?_, ?_, ?_, fun j hj => rfl⟩
        all_goals
          have hpre : (l.take q).filter (fun x => takesB x hue light) = l.take q := List.filter_eq_self.2 (fun x hx => by
            obtain ⟨i, hi⟩ := List.getElem?_of_mem hx
            obtain ⟨hi1, hi2⟩ := List.getElem?_eq_some_iff.1 hi
            rw [List.length_take] at hi1
            rw [List.getElem_take] at hi2
            have := hqb i (by omega)
            rw [hi2] at this
            simpa using this)
          have hat : l[q]? = some l[q] := List.getElem?_eq_getElem hql
          have hpre2 : (l.take (q + 1)).filter (fun x => takesB x hue light) = l.take q := by
            rw [take_next hat, List.filter_append, hpre]
            have : takesB l[q] hue light = false := by simpa using hqp
            simp [List.filter, this]
        · dsimp only; rw [hpre2, List.length_take]; omega
        · rw [hpre2, List.length_take]; omega
        · dsimp only; rw [hpre2, List.length_take, Nat.min_eq_left (by omega)]
  · intro k nx x hx
    have hi : idx l (k : Int) = some x := by rw [idx_nat, hx]
    have hnt := not1_eq light (hok x (List.mem_of_getElem? hx)) hh
    simp only [GxSlicesIndexFuncLoopExampleG01062ImplShadeLoopExampleG01062ImplShadeiBestShade1.l0, hi, Option.bind_some, unShade, hnt, appK, iteK_if]
end Go.Proofs.Ytpbbechgpgnpbaa.Q7Filter

/- Chapter 7: hues and shades: the plain functions of the program and of the reference agree, and the laws answer true. (Q7Min) No condition but those of each theorem. -/
namespace Go.Proofs.Ytpbbechgpgnpbaa.Q7Min
set_option linter.unusedVariables false
set_option linter.unusedSimpArgs false
open Go.RowKit
open Go.Proofs.Ytpbbechgpgnpbaa.GoP Go.Proofs.Ytpbbechgpgnpbaa.PlainStamp Go.Proofs.Ytpbbechgpgnpbaa.QBase Go.Proofs.Ytpbbechgpgnpbaa.QOrd Go.Proofs.Ytpbbechgpgnpbaa.QCount Go.Proofs.Ytpbbechgpgnpbaa.QUp Go.Proofs.Ytpbbechgpgnpbaa.QAll Go.Proofs.Ytpbbechgpgnpbaa.Q7Takes Go.Proofs.Ytpbbechgpgnpbaa.Q7List Go.Proofs.Ytpbbechgpgnpbaa.Q7Shade Go.Proofs.Ytpbbechgpgnpbaa.Q7Hue Go.Proofs.Ytpbbechgpgnpbaa.QLoop Go.Proofs.Ytpbbechgpgnpbaa.PShade

/-- x is better than m -/
def betB (hue : Int) (x m : Shade) : Bool := decide (far x.hue hue < far m.hue hue) || (far x.hue hue == far m.hue hue && decide (x.width < m.width))
def minStep (hue : Int) (m x : Shade) : Shade := if betB hue x m = true then x else m
def bestOf (hue : Int) (f : List Shade) : Option Shade := match f with | [] => none | a :: r => some (r.foldl (minStep hue) a)
theorem bestOf_snoc (hue : Int) (f : List Shade) (x : Shade) : bestOf hue (f ++ [x]) = some (match bestOf hue f with | none => x | some m => minStep hue m x) := by
  cases f with
  | nil => rfl
  | cons a r => simp [bestOf]
theorem bestOf_none {hue : Int} {f : List Shade} : bestOf hue f = none ↔ f = [] := by cases f <;> simp [bestOf]
theorem compare_eq (x y : Int) : GxCmpCompareInt.P x y = some (if x < y then -1 else if y < x then 1 else 0) := by
  simp only [GxCmpCompareInt.P, GxCmpIsNaNInt.P, Option.bind_some, letK, iteK_if]
  by_cases h1 : x < y
  · simp [h1]
  · by_cases h2 : y < x <;> simp [h1, h2]
theorem or_eq (a b : Int) : GxCmpOrInt.P [a, b] = some (if a = 0 then b else a) := by
  have h0 : idx [a, b] ((0 : Nat) : Int) = some a := rfl
  have h1 : idx [a, b] ((1 : Nat) : Int) = some b := rfl
  show cntK (GxCmpOrInt.l0 [a, b]) 2 0 () GxCmpOrInt.e0 = _
  simp only [cntK, GxCmpOrInt.l0, h0, h1, Option.bind_some, letK, iteK_if, appK, GxCmpOrInt.e0, Nat.zero_add]
  by_cases ha : a = 0
  · by_cases hb : b = 0 <;> simp [ha, hb]
  · simp [ha]
theorem cmp_eq {x m : Shade} {hue : Int} (hx : okSh x = true) (hm : okSh m = true) (hh : 0 ≤ hue ∧ hue ≤ 359) : ∃ c, GiBestShade2.P x m hue = some c ∧ decide (c < 0) = betB hue x m := by
  have h1 := okSh_of hx
  have h2 := okSh_of hm
  obtain ⟨a, b, c, d, e⟩ := x
  obtain ⟨a2, b2, c2, d2, e2⟩ := m
  dsimp only at h1 h2
  simp only [GiBestShade2.P, unShade, dist_eq h1.1 hh, dist_eq h2.1 hh, compare_eq, or_eq, Option.bind_some, letK]
  refine ⟨_, rfl, ?_⟩
  unfold betB
  dsimp only
  by_cases h3 : far b hue < far b2 hue
  · simp [h3]
  · by_cases h4 : far b2 hue < far b hue
    · have h5 : ¬ far b hue = far b2 hue := by omega
      simp [h3, h4, h5]
    · have h5 : far b hue = far b2 hue := by omega
      by_cases h6 : c < c2
      · simp [h5, h6]
      · by_cases h7 : c2 < c <;> simp [h5, h6, h7]
theorem min_eq {l : List Shade} (hok : ∀ x ∈ l, okSh x = true) (h12 : l.length ≤ 12) {hue : Int} (hh : 0 ≤ hue ∧ hue ≤ 359) (fuel : Nat) (hfu : 100 ≤ fuel) {m0 : Shade} (hb : bestOf hue l = some m0) :
    GxSlicesMinFuncLoopExampleG01062ImplShadeLoopExampleG01062ImplShadeiBestShade2.P fuel l hue = some m0 := by
  have hpos : 0 < l.length := by
    cases l with
    | nil => simp [bestOf] at hb
    | cons a r => simp
  obtain ⟨a, ha, hai⟩ := at_lt (l := l) (k := 0) hpos
  have hai' : idx l 0 = some a := hai
  simp only [GxSlicesMinFuncLoopExampleG01062ImplShadeLoopExampleG01062ImplShadeiBestShade2.P, letK, iteK_if]
  rw [if_neg (by simp; omega)]
  simp only [GxSlicesMinFuncLoopExampleG01062ImplShadeLoopExampleG01062ImplShadeiBestShade2.j0, hai', Option.bind_some, unShade]
  refine lp_is (n := l.length) _ (fun k (s : Int × ByteArray × Int × Int × Int × Int) => ∃ m : Shade, s = ((k : Int), m.name, m.hue, m.width, m.dark, m.light) ∧ bestOf hue (l.take k) = some m ∧ okSh m = true) ?_ ?_ fuel 1 _ (by omega) (by omega) ?_
  · rintro k s nx hk ⟨m, rfl, hm, hom⟩ hn
    obtain ⟨x, hx, hxi⟩ := at_lt (l := l) (k := k) hk
    have hox := hok x (List.mem_of_getElem? hx)
    obtain ⟨c, hc, hcb⟩ := cmp_eq hox hom hh
    have hc' : GiBestShade2.P ⟨x.name, x.hue, x.width, x.dark, x.light⟩ ⟨m.name, m.hue, m.width, m.dark, m.light⟩ hue = some c := hc
    simp only [GxSlicesMinFuncLoopExampleG01062ImplShadeLoopExampleG01062ImplShadeiBestShade2.l0, unp6, letK, iteK_if]
    rw [if_pos (by simp; omega)]
    simp only [hxi, Option.bind_some, unShade, hc', hcb, appK]
    rw [wrap_in (by omega) (by omega)]
    have hs := bestOf_snoc hue (l.take k) x
    rw [hm, ← take_next hx] at hs
    cases hbb : betB hue x m with
    | true => rw [if_pos rfl]; exact hn _ ⟨x, rfl, by rw [hs]; simp [minStep, hbb], hox⟩
    | false => rw [if_neg (by simp)]; exact hn _ ⟨m, rfl, by rw [hs]; simp [minStep, hbb], hom⟩
  · rintro s nx ⟨m, rfl, hm, hom⟩
    rw [List.take_of_length_le (Nat.le_refl _), hb] at hm
    obtain rfl := Option.some.inj hm
    simp only [GxSlicesMinFuncLoopExampleG01062ImplShadeLoopExampleG01062ImplShadeiBestShade2.l0, unp6, letK, iteK_if, appK, GxSlicesMinFuncLoopExampleG01062ImplShadeLoopExampleG01062ImplShadeiBestShade2.e0]
    rw [if_neg (by simp)]
  · refine ⟨a, rfl, ?_, hok a (List.mem_of_getElem? ha)⟩
    rw [take_next (k := 0) ha]; rfl
end Go.Proofs.Ytpbbechgpgnpbaa.Q7Min

/- Chapter 7: hues and shades: the plain functions of the program and of the reference agree, and the laws answer true. (Q7Best) No condition but those of each theorem. -/
namespace Go.Proofs.Ytpbbechgpgnpbaa.Q7Best
set_option linter.unusedVariables false
set_option linter.unusedSimpArgs false
open Go.RowKit
open Go.Proofs.Ytpbbechgpgnpbaa.GoP Go.Proofs.Ytpbbechgpgnpbaa.PlainStamp Go.Proofs.Ytpbbechgpgnpbaa.QBase Go.Proofs.Ytpbbechgpgnpbaa.QOrd Go.Proofs.Ytpbbechgpgnpbaa.QCount Go.Proofs.Ytpbbechgpgnpbaa.QUp Go.Proofs.Ytpbbechgpgnpbaa.QAll Go.Proofs.Ytpbbechgpgnpbaa.Q7Filter Go.Proofs.Ytpbbechgpgnpbaa.Q7Min Go.Proofs.Ytpbbechgpgnpbaa.Q7Takes Go.Proofs.Ytpbbechgpgnpbaa.Q7List Go.Proofs.Ytpbbechgpgnpbaa.Q7Shade Go.Proofs.Ytpbbechgpgnpbaa.Q7Hue Go.Proofs.Ytpbbechgpgnpbaa.QLoop Go.Proofs.Ytpbbechgpgnpbaa.PShade

def bestRes (l : List Shade) (hue light : Int) : ByteArray × Bool := if (okShs l && inB hue 0 359 && inB light 0 100) = true then (match bestOf hue (l.filter fun x => takesB x hue light) with | none => ((⟨#[]⟩ : ByteArray), false) | some m => (m.name, true)) else ((⟨#[]⟩ : ByteArray), false)
theorem best_impl (l : List Shade) (hue light : Int) (hl : l.length ≤ 9223372036854775807) (fuel : Nat) (hfu : 100 ≤ fuel) : GiBestShade.P fuel l hue light = some (bestRes l hue light) := by
  simp only [GiBestShade.P, canLook_eq l hue light hl, Option.bind_some, letK, iteK_if, bestRes]
  cases hc : okShs l && inB hue 0 359 && inB light 0 100 with
  | false => simp
  | true =>
    simp only [Bool.and_eq_true] at hc
    have h12 := riseL_len hc.1.1
    have hh := inB_of hc.1.2
    have hok : ∀ x ∈ l, okSh x = true := fun x hx => shs_mem hc.1.1 hx
    have hcl : GxSlicesCloneLoopExampleG01062ImplShadeLoopExampleG01062ImplShade.P l = some l := by
      simp only [GxSlicesCloneLoopExampleG01062ImplShadeLoopExampleG01062ImplShade.P, Go.Proofs.Ytpbbechgpgnpbaa.GoK.nilK, iteK_if, letK]
      rw [if_neg (by simp), guardK_pos (by simp; omega)]; simp
    simp only [Bool.not_true, Bool.false_eq_true, if_false, if_true, hcl, filter_eq hok h12 light hh fuel hfu, Option.bind_some]
    cases hb : bestOf hue (l.filter fun x => takesB x hue light) with
    | none =>
      rw [bestOf_none.1 hb]; simp
    | some m =>
      have hne : ¬ ((l.filter fun x => takesB x hue light).length : Int) = 0 := by
        intro h0
        have : l.filter (fun x => takesB x hue light) = [] := List.eq_nil_of_length_eq_zero (by omega)
        rw [this] at hb; simp [bestOf] at hb
      have hlen := List.length_filter_le (fun x => takesB x hue light) l
      rw [if_neg (by simpa using hne), min_eq (l := l.filter fun x => takesB x hue light) (fun x hx => hok x (List.mem_filter.1 hx).1) (by omega) hh fuel hfu hb]
      simp [unShade]
theorem best_spec (l : List Shade) (hue light : Int) (hf : ∀ s ∈ l, s.fits) (hl : l.length ≤ 9223372036854775807) : GsBestShade.P l hue light = some (bestRes l hue light) := by
  simp only [GsBestShade.P, l7Good_eq l hf hl, l7Hue_eq, l1In_eq, Option.bind_some, letK, joinK, appK, iteK_if, bestRes]
  cases hc1 : okShs l with
  | false => simp
  | true =>
    cases hc2 : inB hue 0 359 with
    | false => simp
    | true =>
      cases hc3 : inB light 0 100 with
      | false => simp
      | true =>
        have h12 := riseL_len hc1
        have hh := inB_of hc2
        simp only [Bool.not_true, Bool.and_true, Bool.false_eq_true, if_false, if_true]
        refine cnt_is _ (fun k s => (bestOf hue ((l.take k).filter fun x => takesB x hue light) = none ∧ s = -1) ∨ ∃ (i : Nat) (m : Shade), s = (i : Int) ∧ l[i]? = some m ∧ bestOf hue ((l.take k).filter fun x => takesB x hue light) = some m) ?_ ?_ (-1) (Or.inl ⟨rfl, rfl⟩)
        · intro k s nx hk hI hn
          obtain ⟨x, hx, hxi⟩ := at_lt (l := l) (k := k) hk
          have hox := shs_mem hc1 (List.mem_of_getElem? hx)
          have htk := l7Takes_eq light hox hh
          simp only [GsBestShade.l0, letK, hxi, Option.bind_some, unShade, htk, iteK_if, appK]
          cases ht : takesB x hue light with
          | false =>
            have hf1 : (l.take (k + 1)).filter (fun x => takesB x hue light) = (l.take k).filter (fun x => takesB x hue light) := by rw [take_next hx, List.filter_append]; simp [List.filter, ht]
            rw [if_pos (by simp)]
            exact hn _ (by rw [hf1]; exact hI)
          | true =>
            have hf1 : (l.take (k + 1)).filter (fun x => takesB x hue light) = (l.take k).filter (fun x => takesB x hue light) ++ [x] := by rw [take_next hx, List.filter_append]; simp [List.filter, ht]
            have hs := bestOf_snoc hue ((l.take k).filter fun x => takesB x hue light) x
            rw [← hf1] at hs
            rw [if_neg (by simp)]
            rcases hI with ⟨h1, h2⟩ | ⟨i, m, h1, h2, h3⟩
            · subst h2
              rw [if_pos (by simp)]
              exact hn _ (Or.inr ⟨k, x, rfl, hx, by rw [hs, h1]⟩)
            · subst h1
              have hom := shs_mem hc1 (List.mem_of_getElem? h2)
              rw [h3] at hs
              rw [if_neg (by simp)]
              simp only [idx_nat, h2, Option.bind_some, unShade, joinK, l7Far_eq (okSh_of hox).1 hh, l7Far_eq (okSh_of hom).1 hh]
              have hgoal : ∀ b : Bool, b = betB hue x m → (if b = true then nx (k : Int) else nx (i : Int)) = some (match bestOf hue (l.filter fun x => takesB x hue light) with | none => ((⟨#[]⟩ : ByteArray), false) | some m => (m.name, true)) := by
                intro b hb
                cases b with
                | true => rw [if_pos rfl]; exact hn _ (Or.inr ⟨k, x, rfl, hx, by rw [hs]; simp [minStep, ← hb]⟩)
                | false => rw [if_neg (by simp)]; exact hn _ (Or.inr ⟨i, m, rfl, h2, by rw [hs]; simp [minStep, ← hb]⟩)
              by_cases h5 : far x.hue hue < far m.hue hue
              · rw [if_pos (by simpa using h5)]
                exact hgoal true (by simp [betB, h5])
              · rw [if_neg (by simpa using h5)]
                by_cases h6 : far x.hue hue = far m.hue hue
                · rw [if_pos (by simpa using h6)]
                  exact hgoal _ (by simp [betB, h6])
                · rw [if_neg (by simpa using h6)]
                  exact hgoal false (by simp [betB, h5, h6])
        · intro s hI
          rw [List.take_of_length_le (Nat.le_refl _)] at hI
          simp only [GsBestShade.e0, letK, iteK_if]
          rcases hI with ⟨h1, h2⟩ | ⟨i, m, h1, h2, h3⟩
          · subst h2; rw [h1]; rfl
          · subst h1
            rw [if_neg (by simp)]
            simp only [idx_nat, h2, Option.bind_some, unShade, h3]
end Go.Proofs.Ytpbbechgpgnpbaa.Q7Best

/- The laws' helpers on Shade and on slices of it as plain functions: copied, equal, their bulk. No condition. -/
namespace Go.Proofs.Ytpbbechgpgnpbaa.QHShadeE
set_option linter.unusedVariables false
set_option linter.unusedSimpArgs false
open Go.RowKit
open Go.Proofs.Ytpbbechgpgnpbaa.GoP Go.Proofs.Ytpbbechgpgnpbaa.QBase Go.Proofs.Ytpbbechgpgnpbaa.QLoop Go.Proofs.Ytpbbechgpgnpbaa.PShade

theorem toOne (s : Shade) : GlToShade.P s = some s := by cases s; rfl
theorem eqOne (s : Shade) : GlEqShade.P s s = some true := by
  obtain ⟨x0, x1, x2, x3, x4⟩ := s
  simp [GlEqShade.P, unShade, letK, joinK, appK, iteK_if]
theorem toS (l : List Shade) (hl : l.length ≤ 1048576) : GlToShadeS.P l = some l := by
  simp only [GlToShadeS.P, letK]
  rw [guardK_pos (by omega)]
  refine cnt_is l (fun k s => s = l.take k ++ List.replicate (l.length - k) (Shade.mk ByteArray.empty 0 0 0 0)) ?_ ?_ _ (by simp)
  · intro k s nx hk hI hn
    obtain ⟨x, hx, hi⟩ := at_lt (l := l) (k := k) hk
    have hlen : s.length = l.length := by rw [hI]; simp; omega
    obtain ⟨z, hz, hj⟩ := at_lt (l := s) (k := k) (by omega)
    simp only [GlToShadeS.l0, hi, hj, toOne, Option.bind_some, unShade, letK, appK]
    refine hn _ ?_
    rw [hI, take_next hx, List.set_append_right _ _ (by simp; omega)]
    have hr : l.length - k = (l.length - (k + 1)) + 1 := by omega
    rw [hr, List.replicate_succ, List.append_assoc]
    simp [show k - min k l.length = 0 by omega]
  · intro s hI
    rw [hI]; simp [GlToShadeS.e0, letK]
theorem eqS (l : List Shade) : GlEqShadeS.P l l = some true := by
  simp only [GlEqShadeS.P, letK, iteK_if]
  rw [if_neg (by simp)]
  refine cnt_is true (fun _ _ => True) ?_ (fun s _ => rfl) () trivial
  intro k s nx hk _ hn
  obtain ⟨x, hx, hi⟩ := at_lt (l := l) (k := k) hk
  simp only [GlEqShadeS.l0, hi, Option.bind_some, unShade, eqOne, letK, appK, iteK_if]
  exact hn () trivial
theorem fits_max {s : Shade} (h : s.fits) : s.name.size ≤ 9223372036854775807 := by
  obtain ⟨x0, x1, x2, x3, x4⟩ := s
  obtain ⟨hx0, hx1, hx2, hx3, hx4⟩ := h
  unfold maxLen at hx0
  exact hx0
theorem szOne (s : Shade) (left : Int) (h : s.fits) (h0 : 0 ≤ left) (h1 : left ≤ 1048576) : ∃ v, GlSzShade.P s left = some v ∧ v ≤ left := by
  have hm := fits_max h
  simp only [GlSzShade.P, unShade, letK, iteK_if]
  rw [wrap_in (x := left - (s.name.size : Int)) (by omega) (by omega)]
  by_cases hd0 : left - (s.name.size : Int) < 0
  · exact ⟨-1, by rw [if_pos (by simpa using hd0)], by omega⟩
  rw [if_neg (by simpa using hd0)]
  exact ⟨_, rfl, by omega⟩
theorem szS (l : List Shade) (hf : ∀ s ∈ l, s.fits) (hl : l.length ≤ 9223372036854775807) : ∃ v, GlSzShadeS.P l 1048576 = some v ∧ (0 ≤ v → l.length ≤ 1048576) := by
  simp only [GlSzShadeS.P, letK, iteK_if]
  rw [wrap_in (by omega) (by omega)]
  by_cases h : (1048576 : Int) - (l.length : Int) < 0
  · exact ⟨-1, by rw [if_pos (by simp; omega)], by omega⟩
  · rw [if_neg (by simp; omega)]
    refine cnt_ex (n := l.length) (Q := fun v => 0 ≤ v → l.length ≤ 1048576) (fun _ (s : Int) => 0 ≤ s ∧ s ≤ 1048576) ?_ ?_ l.length 0 _ (by omega) ⟨by omega, by omega⟩
    · intro k s nx hk hI hn
      obtain ⟨x, hx, hi⟩ := at_lt (l := l) (k := k) hk
      simp only [GlSzShadeS.l0, hi, Option.bind_some, unShade, letK, appK, iteK_if]
      obtain ⟨v, hv, hv1⟩ := szOne x s (hf x (List.mem_of_getElem? hx)) hI.1 hI.2
      have hv' : GlSzShade.P ⟨x.name, x.hue, x.width, x.dark, x.light⟩ s = some v := hv
      rw [hv']
      simp only [Option.bind_some]
      by_cases hb : v < 0
      · rw [if_pos (by simpa using hb)]; exact ⟨-1, by simp, by omega⟩
      · rw [if_neg (by simpa using hb)]
        exact hn _ ⟨by omega, by omega⟩
    · intro s hI; exact ⟨s, rfl, fun _ => by omega⟩
end Go.Proofs.Ytpbbechgpgnpbaa.QHShadeE

/- Chapter 7: hues and shades: the plain functions of the program and of the reference agree, and the laws answer true. (QL7Best) No condition but those of each theorem. -/
namespace Go.Proofs.Ytpbbechgpgnpbaa.QL7Best
set_option linter.unusedVariables false
set_option linter.unusedSimpArgs false
open Go.RowKit
open Go.Proofs.Ytpbbechgpgnpbaa.GoP Go.Proofs.Ytpbbechgpgnpbaa.PlainStamp Go.Proofs.Ytpbbechgpgnpbaa.QBase Go.Proofs.Ytpbbechgpgnpbaa.Q7Best Go.Proofs.Ytpbbechgpgnpbaa.Q7List Go.Proofs.Ytpbbechgpgnpbaa.QLoop Go.Proofs.Ytpbbechgpgnpbaa.PShade Go.Proofs.Ytpbbechgpgnpbaa.QHShadeE

theorem law_best (fuel : Nat) (hfu : 100 ≤ fuel) (l : List Shade) (hue light : Int) (hf : ∀ s ∈ l, s.fits) (hl : l.length ≤ 9223372036854775807) : GlFnExactBestShade.P fuel l hue light = some true := by
  obtain ⟨v, hv, hn⟩ := szS l hf hl
  simp only [GlFnExactBestShade.P, hv, Option.bind_some, letK, iteK_if]
  by_cases hb : v < 0
  · rw [if_pos (by simp; omega)]
  · rw [if_neg (by simp; omega)]
    obtain ⟨⟨a, b⟩, hr⟩ : ∃ x, x = bestRes l hue light := ⟨_, rfl⟩
    simp [toS l (hn (by omega)), best_spec l hue light hf hl, best_impl l hue light hl fuel hfu, ← hr, bind2, joinK, appK, iteK_if, eqS]
end Go.Proofs.Ytpbbechgpgnpbaa.QL7Best

