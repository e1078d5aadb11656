/- Texts on which the proofs of several laws stand, one behind the other (8 of 13). No condition of their own. -/
import Derived.Test.YtgimcnpkngpmiaaGreatDoorX12P7
import Derived.Test.YtgimcnpkngpmiaaGreatDoorX12P2
import Derived.Test.YtgimcnpkngpmiaaGreatDoorX12P1
import Derived.Shelf.SlSortCmp.SmallK
import Derived.Test.YtgimcnpkngpmiaaGreatDoorChecked
import Derived.WalkKit
import Derived.WalkSpells
import Derived.WalkLawsBesides
import Derived.BigQuiet
import Derived.OwnWalk
import Derived.Deep.LoopGhost
import Derived.Deep.QuietTactic
import Derived.IntWalk
import Derived.Lib.QuietBelow
import Derived.Test.YtgimcnpkngpmiaaGreatDoorX12P5
import Derived.Test.YtgimcnpkngpmiaaGreatDoorX12P6
import Derived.Test.YtgimcnpkngpmiaaGreatDoorX12P4
import Derived.Deep.AppendLies
/- slices.SortFunc of postmarks by their first days as a plain function; the contract of the program's (at 12 elements or fewer). No condition. -/
namespace Go.Proofs.YtgimcnpkngpmiaaGreatDoor.GxSlicesSortFuncLoopExampleG01062ImplPostmarkLoopExampleG01062ImplPostmarkiGapBetween1
set_option linter.unusedVariables false
open Go.RowKit Go.Sort
open Go.Proofs.YtgimcnpkngpmiaaGreatDoor.Turn Go.Proofs.YtgimcnpkngpmiaaGreatDoor.GoM Go.Proofs.YtgimcnpkngpmiaaGreatDoor.PPostmark
instance : Inhabited Postmark := ⟨zero⟩
def cf (x y : Postmark) : Int := Lib.compareInt x.first y.first
def sortF (l : List Postmark) : List Postmark := (Sort.insertionSort (ltOf cf) l.toArray 0 l.toArray.size).toList
def P (x_0 : List Postmark) : Option (List Postmark) := if 0 < x_0.length ∧ x_0.length ≤ 12 then some (sortF x_0) else none
theorem lt_iff (x y : Postmark) : ltOf cf x y = decide (x.first < y.first) := by
  unfold ltOf cf Lib.compareInt
  by_cases h : x.first < y.first
  · simp [h]
  · by_cases h2 : y.first < x.first <;> simp [h, h2]
theorem swo : SWO (ltOf cf) where
  irrefl := by intro x; rw [lt_iff]; simp
  trans := by intro x y z; rw [lt_iff, lt_iff, lt_iff]; simp only [decide_eq_true_eq]; omega
  ntrans := by intro x y z; rw [lt_iff, lt_iff, lt_iff]; simp only [decide_eq_false_iff_not]; omega
theorem closure (x y : Postmark) (W : World) : Calls Tryz.prog 41 #[.agg x.cells.toArray, .agg y.cells.toArray] W fun e w' => e = .returned (.int .i64 (cf x y)) ∧ ∃ q os', w' = Sort.grow (W.drewN q) os' := by
  have hcon := fun W' => Tryz.cmp_Compare_int x.first y.first W'
  unfold cf
  generalize Lib.compareInt x.first y.first = r at hcon ⊢
  obtain ⟨a0, a1, a2, a3, a4, a5⟩ := x
  obtain ⟨b0, b1, b2, b3, b4, b5⟩ := y
  unfold Postmark.cells
  dsimp only at hcon ⊢
  go_enter Tryz.func41, Tryz.ntmps41
  go_wp2_with (go_at_call 42; refine (hcon _).mono ?_; rintro e w' ⟨rfl, rfl⟩)
  go_ret
  exact ⟨rfl, 0, _, by rw [alloc_eq_grow, alloc_eq_grow, grow_grow]; rfl⟩
theorem flat_eq (l : List Postmark) : flatK Postmark.cells 6 l.toArray = (flat l).toArray := by
  apply Array.ext
  · simp [flat_len]
  · intro t h1 h2
    have h3 : t < l.length * 6 := by simpa using h1
    have hk : t / 6 < l.length := by omega
    have hx : l[t / 6]? = some l[t / 6] := List.getElem?_eq_getElem hk
    have h4 := flat_at l (t / 6) l[t / 6] hx (t % 6) (by omega)
    rw [show t / 6 * 6 + t % 6 = t by omega] at h4
    have e1 := get_flatK Postmark.cells 6 l.toArray t (by simpa using h3)
    rw [getElem!_pos (flatK Postmark.cells 6 l.toArray) t h1] at e1
    rw [e1]
    have e2 : l.toArray[t / 6]! = l[t / 6] := by rw [getElem!_pos l.toArray (t / 6) (by simpa using hk)]; simp
    rw [e2]
    have h5 : (flat l)[t]? = some ((flat l)[t]'(by rw [flat_len]; omega)) := List.getElem?_eq_getElem _
    rw [h5] at h4
    have h6 : t % 6 < l[t / 6].cells.length := by simp [Postmark.cells]; omega
    rw [List.getElem?_eq_getElem h6] at h4
    rw [getElem!_pos l[t / 6].cells (t % 6) h6]
    simpa using (Option.some.inj h4).symm
theorem own_holdsV {b T n c g K : Nat} {w : World} {xs : List Value} (h : w.ownsRow b T K (.slice (some ⟨g, 0, none⟩) n c) n xs) : Sort.Holds id w g 0 xs.toArray := by
  intro j hj
  have hj' : j < xs.length := by simpa using hj
  refine ⟨?_, h.frozenAt _⟩
  obtain ⟨ad, ea, hc⟩ := (own_cells h).2 (by omega)
  obtain rfl := Option.some.inj ea
  have := hc j xs[j] (List.getElem?_eq_getElem hj')
  rw [add_flat] at this
  simp only [Nat.zero_add] at this ⊢
  rw [this]
  simp [hj']
theorem own_putV {b T n c g K : Nat} {w : World} {xs ys : List Value} (hm : ys.length = xs.length) (h : w.ownsRow b T K (.slice (some ⟨g, 0, none⟩) n c) n xs) (q : Nat) :
    (Sort.putRow id (Sort.ahead w q) g 0 ys.toArray).ownsRow b T K (.slice (some ⟨g, 0, none⟩) n c) n ys ∧ w.grownBy (Sort.putRow id (Sort.ahead w q) g 0 ys.toArray) (some g) := by
  have hH := own_holdsV h
  rw [Lib.putRow_eq_setCells id w g 0 xs.toArray ys q hH (by simp; omega)]
  have hd : w.grownBy (w.drewN q) (some g) := ⟨rfl, rfl, rfl, Nat.le_refl _, fun _ _ _ => rfl⟩
  have h0 : w.grownBy (w.drewN q) none := ⟨rfl, rfl, rfl, Nat.le_refl _, fun _ _ _ => rfl⟩
  have h1 := h.kept h0 (by simp [Value.ownBlock])
  have hl : xs.length = n * K := h.1
  have h2 := Go.Proofs.YtgimcnpkngpmiaaGreatDoor.GoK.own_setCells (ys.map id) 0 h1 (by rw [List.length_map]; omega)
  have e : xs.take 0 ++ ys.map id ++ xs.drop (0 + (ys.map id).length) = ys := by
    rw [List.length_map, Nat.zero_add, hm, List.drop_of_length_le (by omega)]
    simp
  rw [e] at h2
  exact ⟨h2.1, Aid.grown_tr hd h2.2⟩
theorem hlen (n : Nat) (W : World) (h : n ≤ 12) : Calls Tryz.prog 63 #[.int .u64 n] W fun e w' => (∃ l : Int, e = .returned (.int .i64 l)) ∧ w' = W :=
  (Tryz.bits_Len n W (by omega) (by omega)).mono fun _ _ ⟨he, hw⟩ => ⟨⟨_, he⟩, hw⟩
theorem sortF_len (l : List Postmark) : (sortF l).length = l.length := by
  have h := (insertionSort_holds (lt := ltOf cf) swo l.toArray 0 l.toArray.size (Nat.zero_le _) (Nat.le_refl _)).1.1
  unfold sortF
  rw [Array.length_toList, h]; simp
theorem sortF_perm (l : List Postmark) : (sortF l).Perm l := by
  obtain ⟨h1, _, h3⟩ := (insertionSort_holds (lt := ltOf cf) swo l.toArray 0 l.toArray.size (Nat.zero_le _) (Nat.le_refl _)).1
  unfold sortF
  generalize Sort.insertionSort (ltOf cf) l.toArray 0 l.toArray.size = S at h1 h3 ⊢
  have e : S.extract 0 l.toArray.size = S := by rw [← h1, Array.extract_size]
  rw [e, Array.extract_size] at h3
  exact h3
theorem sortF_sorted (l : List Postmark) : List.Pairwise (fun x y : Postmark => x.first ≤ y.first) (sortF l) := by
  have hS := (insertionSort_holds (lt := ltOf cf) swo l.toArray 0 l.toArray.size (Nat.zero_le _) (Nat.le_refl _))
  have hsz := hS.1.1
  have h2 := hS.2
  rw [List.pairwise_iff_getElem]
  intro i j hi hj hij
  unfold sortF at hi hj ⊢
  rw [Array.length_toList] at hi hj
  have h := h2 i j (Nat.zero_le _) hij (by omega)
  rw [lt_iff, getElem!_pos (Sort.insertionSort (ltOf cf) l.toArray 0 l.toArray.size) i hi, getElem!_pos (Sort.insertionSort (ltOf cf) l.toArray 0 l.toArray.size) j hj] at h
  simp only [decide_eq_false_iff_not] at h
  simp only [Array.getElem_toList]
  omega
theorem C (x_0 : List Postmark) (A0 : Option Addr) (c0 : Nat) (b0 : Nat) (w : World) (M0 : Hid (w.ownsRow b0 34 6 (.slice A0 x_0.length c0) x_0.length (flat x_0))) (N0 : Hid (x_0.length ≤ 9223372036854775807)) {l_ : List Postmark} (H : Hid (P x_0 = some l_)) :
    Calls Tryz.prog 40 #[.slice A0 x_0.length c0, .func (.func 41) #[] #[]] w (fun e w' => e = .returned (.tuple #[]) ∧ w'.ownsRow b0 34 6 (.slice A0 x_0.length c0) x_0.length (flat l_) ∧ l_.length = x_0.length ∧ w.grownBy w' (Value.slice A0 x_0.length c0).ownBlock) := by
  have h : P x_0 = some l_ := H
  unfold P at h
  by_cases hl : 0 < x_0.length ∧ x_0.length ≤ 12
  · rw [if_pos hl] at h
    obtain rfl := Option.some.inj h
    have M := M0.out
    have hlen0 := sortF_len x_0
    obtain ⟨g, rfl⟩ := own_some M hl.1
    have hg := (M.lt g (by simp [Value.ownBlock])).2
    have hH : HoldsK Postmark.cells 6 w g 0 x_0.toArray := by
      unfold HoldsK
      rw [flat_eq]
      exact own_holdsV M
    have eg : ∀ args w, (callFunc 41 args).run Tryz.prog w = .ok (.enter 41 args) w := enters_of Tryz.func41 (by kernel_rfl) rfl
    have con := Go.Proofs.AnyQ.slices_SortFunc_small Tryz.sortPm 6 Tryz.isAgg34 Tryz.sizeOf34 Postmark.cells (fun x => by simp [Postmark.cells]) (fun x v hv => by simp only [Postmark.cells, List.mem_cons, List.not_mem_nil, or_false] at hv; rcases hv with rfl | rfl | rfl | rfl | rfl | rfl <;> rfl) cf 41 #[] g 0 c0 x_0.toArray w eg (fun _ _ _ _ x y => by simpa using closure x y _) hH hg (by simpa using hl.2) hlen
    have hsz : x_0.toArray.size = x_0.length := by simp
    rw [hsz] at con
    refine con.mono ?_
    rintro e w' ⟨rfl, n, os, rfl⟩
    have hd : (Sort.insertionSort (ltOf cf) x_0.toArray 0 x_0.length) = (sortF x_0).toArray := by unfold sortF; rw [hsz]
    rw [hd]
    unfold sortWorldK putRowK
    rw [flat_eq]
    obtain ⟨h1, h2⟩ := own_putV (ys := flat (sortF x_0)) (by rw [flat_len, flat_len, hlen0]) M n
    have h3 := Go.Proofs.YtgimcnpkngpmiaaGreatDoor.GoS.grown_grow (Sort.putRow id (Sort.ahead w n) g 0 (flat (sortF x_0)).toArray) os none
    exact ⟨rfl, h1.kept h3 (by simp [Value.ownBlock]), hlen0, Aid.grown_tr h2 (Go.Proofs.YtgimcnpkngpmiaaGreatDoor.GoS.grown_grow _ os _)⟩
  · rw [if_neg hl] at h; simp at h
end Go.Proofs.YtgimcnpkngpmiaaGreatDoor.GxSlicesSortFuncLoopExampleG01062ImplPostmarkLoopExampleG01062ImplPostmarkiGapBetween1

/- loop.example/g01062/impl.GapBetween as a plain function, and the contract of the program's: where the plain one has an answer, the program has it. Conditions: slices read as lists. -/
namespace Go.Proofs.YtgimcnpkngpmiaaGreatDoor.GiGapBetween
set_option linter.unusedVariables false
set_option linter.unusedSimpArgs false
open Go.RowKit
open Go.Proofs.YtgimcnpkngpmiaaGreatDoor.Rowed Go.Proofs.YtgimcnpkngpmiaaGreatDoor.Turn Go.Proofs.YtgimcnpkngpmiaaGreatDoor.Aid Go.Proofs.YtgimcnpkngpmiaaGreatDoor.GoP Go.Proofs.YtgimcnpkngpmiaaGreatDoor.GoM

def l0 (t_20 : (List Go.Proofs.YtgimcnpkngpmiaaGreatDoor.PPostmark.Postmark)) (k0 : Nat) (s : Int × Int) (nx0 bk0 : Int × Int → Option (Int × Bool)) : Option (Int × Bool) :=
  unp2 s fun gap_7l0 reached_8l0 =>
  Option.bind (idx t_20 (k0 : Int)) fun (yt_24 : Go.Proofs.YtgimcnpkngpmiaaGreatDoor.PPostmark.Postmark) =>
  unPostmark yt_24 fun (t_24_id : Int) (t_24_town : ByteArray) (t_24_kind_ : Int) (t_24_first : Int) (t_24_last : Int) (t_24_lost : ByteArray) =>
  letK (IntKind.i64.wrap (t_24_first - reached_8l0)) fun (t_32 : Int) =>
  letK (IntKind.i64.wrap (t_32 - 1)) fun (t_33 : Int) =>
  letK (max t_33 0) fun (t_34 : Int) =>
  letK (IntKind.i64.wrap (gap_7l0 + t_34)) fun (t_35 : Int) =>
  letK (max reached_8l0 t_24_last) fun (t_40 : Int) =>
  appK nx0 (t_35, t_40)

def e0  (s : Int × Int) : Option (Int × Bool) :=
  unp2 s fun gap_7l0 reached_8l0 =>
  some (gap_7l0, true)

def P (fuel : Nat) (list : (List Go.Proofs.YtgimcnpkngpmiaaGreatDoor.PPostmark.Postmark)) (town : ByteArray) : Option (Int × Bool) :=
  Option.bind (Go.Proofs.YtgimcnpkngpmiaaGreatDoor.GiMarksOf.P fuel list town) fun (t_4 : (List Go.Proofs.YtgimcnpkngpmiaaGreatDoor.PPostmark.Postmark)) =>
  letK ((t_4.length : Int) == 0) fun (t_8 : Bool) =>
  iteK t_8
  (some (0, false))
  (Option.bind (Go.Proofs.YtgimcnpkngpmiaaGreatDoor.GxSlicesSortFuncLoopExampleG01062ImplPostmarkLoopExampleG01062ImplPostmarkiGapBetween1.P t_4) fun (lt_12 : (List Go.Proofs.YtgimcnpkngpmiaaGreatDoor.PPostmark.Postmark)) =>
  Option.bind (idx lt_12 0) fun (yt_15 : Go.Proofs.YtgimcnpkngpmiaaGreatDoor.PPostmark.Postmark) =>
  unPostmark yt_15 fun (t_15_id : Int) (t_15_town : ByteArray) (t_15_kind_ : Int) (t_15_first : Int) (t_15_last : Int) (t_15_lost : ByteArray) =>
  guardK ((0 : Int) ≤ 1 ∧ (1 : Int) ≤ (lt_12.length : Int)) <|
  letK (List.drop (Int.toNat 1) lt_12) fun (t_20 : (List Go.Proofs.YtgimcnpkngpmiaaGreatDoor.PPostmark.Postmark)) =>
  cntK (l0 t_20) (t_20.length) 0 (0, t_15_last) (e0 ))

set_option maxRecDepth 100000 in
set_option maxHeartbeats 2000000 in
theorem C (fuel : Nat) (list : (List Go.Proofs.YtgimcnpkngpmiaaGreatDoor.PPostmark.Postmark)) (town : ByteArray) (A0 : Option Addr) (c0 : Nat)  (w : World) (M0 : Hid (Cells w 6 A0 list.length (Go.Proofs.YtgimcnpkngpmiaaGreatDoor.PPostmark.flat list))) (N0 : Hid (list.length ≤ 9223372036854775807)) (Q0 : Hid (Room A0 list.length c0))  {r0 : Int} {r1 : Bool} (H : Hid (P fuel list town = some (r0, r1))) :
    Calls Tryz.prog 12 #[.slice A0 list.length c0, .string town] w (Gives (.tuple #[.int .i64 r0, .bool r1]) w) := by
  have HB := Lib.hid (Below.refl w.heap.size w)
  unfold P at H
  have N0o := N0.out
  obtain ⟨i0_34, hi_34, hz0_34, hz1_34, hz2_34⟩ := Aid.info_parts (P := Tryz.prog) (T := 34) (z := .agg #[.int .i64 0, .string ByteArray.empty, .int .i64 0, .int .i64 0, .int .i64 0, .string ByteArray.empty]) (s := 6) (b := 64) (by kernel_rfl)
  go_enter Tryz.func12, Tryz.ntmps12
  replace H := bind_hid H
  obtain ⟨t_4, qt_4, H⟩ := H
  go_wp2_with fail
  go_at_call 39
  refine (Go.Proofs.YtgimcnpkngpmiaaGreatDoor.GiMarksOf.C fuel (list) (town) A0 c0 _   (Lib.hid (Cells.below M0.out HB.out)) N0 Q0 qt_4).mono ?_
  rintro e_t_4 wt_4 ⟨At_4, ct_4, rfl, ot_4, bt_4⟩
  have Ot_4 := Lib.hid (own_lower ot_4 HB.out.size)
  clear ot_4
  have HBwt_4 := Lib.hid (Below.step HB.out bt_4)
  clear bt_4
  replace H := let_hid H
  obtain ⟨t_8, ht_8, H⟩ := H
  cases t_8 with
  | false =>
    have nht_8 : ¬ (t_4.length = 0) := by have := ne_of_beq_false ht_8; omega
    replace H := ite_f H
    replace H := bind_hid H
    obtain ⟨lt_12, qt_12, H⟩ := H
    go_wp2_with fail
    go_at_call 40
    refine (Go.Proofs.YtgimcnpkngpmiaaGreatDoor.GxSlicesSortFuncLoopExampleG01062ImplPostmarkLoopExampleG01062ImplPostmarkiGapBetween1.C (t_4) At_4 ct_4 w.heap.size _   Ot_4 (Lib.hid (own_max Ot_4.out))   qt_12).mono ?_
    rintro e_t_12 wt_12 ⟨rfl, ot_12, nt_12, gt_12⟩
    have Pt_12 := Lib.hid ot_12
    have Gt_12 := Lib.hid gt_12
    replace nt_12 := Lib.hid nt_12
    clear ot_12 gt_12
    have HBwt_12 := Lib.hid (HBwt_4.out.grown Gt_12.out HBwt_4.out.size (fun q hq => (Ot_4.out.lt q hq).1))
    clear Ot_4 Gt_12
    replace H := idx_hid H
    obtain ⟨nt_15, yt_15, et_15, lt_15, gt_15, H⟩ := H
    obtain rfl : 0 = nt_15 := by omega
    clear et_15
    obtain ⟨t_15_id, t_15_town, t_15_kind_, t_15_first, t_15_last, t_15_lost⟩ := yt_15
    replace H := unPostmark_hid H
    have hqt_15 := nt_12.out
    obtain ⟨qt_15, Qt_15⟩ := own_some Pt_12.out (by omega)
    subst Qt_15
    obtain ⟨ab_t_15, ao_t_15, zt_15, At_15, z_t_15, ct_15_0, ct_15_1, ct_15_2, ct_15_3, ct_15_4, ct_15_5⟩ := Go.Proofs.YtgimcnpkngpmiaaGreatDoor.OPostmark.at_ (own_cells Pt_12.out) (k := 0) (by omega)
    obtain rfl := Option.some.inj (gt_15.out.symm.trans z_t_15)
    simp only [Option.some.injEq, Addr.mk.injEq] at At_15
    obtain ⟨rfl, rfl, _⟩ := At_15
    clear z_t_15
    have b1t_15 : (0 : Int) < ((t_4.length : Nat) : Int) := by omega
    have b3t_15 : 0 < t_4.length := by omega
    try simp only [Nat.zero_mul, Nat.add_zero, Nat.zero_add, Nat.reduceMul] at ct_15_0 ct_15_1 ct_15_2 ct_15_3 ct_15_4 ct_15_5
    clear hqt_15
    replace H := guard_hid H
    obtain ⟨hl_t_20, H⟩ := H
    replace H := let_hid H
    obtain ⟨t_20, ht_20, H⟩ := H
    have hht_20 := Lib.hid ht_20
    have hgt_20 := Lib.hid hl_t_20
    clear ht_20
    clear hl_t_20
    obtain ⟨At_20, ct_20, rt_20, mt_20, qt_20⟩ := Go.Proofs.YtgimcnpkngpmiaaGreatDoor.GoD.slice_view (P := Tryz.prog) (t := 24) (e := 34) (k := .i64) (lo := 1) (ys := (Go.Proofs.YtgimcnpkngpmiaaGreatDoor.PPostmark.flat t_20)) (m := t_20.length) (by kernel_rfl) (by kernel_rfl) hi_34 hz1_34 Pt_12.out (by have h_ := hgt_20.out; have hq_ := nt_12.out; omega) (by have hq_ := nt_12.out; rw [← hht_20.out, List.length_drop] <;> omega) (by rw [← hht_20.out]; exact flat_drop Go.Proofs.YtgimcnpkngpmiaaGreatDoor.PPostmark.Postmark.cells 6 (fun _ => rfl) _ _)
    have Mt_20 := Lib.hid mt_20
    have Qt_20 := Lib.hid qt_20
    have Nt_20 : Hid (t_20.length ≤ 9223372036854775807) := Lib.hid (by have hq_ := nt_12.out; have h_ := own_max Pt_12.out; rw [← hht_20.out, List.length_drop] <;> omega)
    have hb_0 : t_20.length ≤ 9223372036854775807 := Nt_20.out
    go_wp2_with fail
    go_loopg [26, 7, 8] (t_20.length) (fun m_ v26_ v7_ v8_ wr => ∃ (k0 : Nat) (gap_7l0 : Int) (reached_8l0 : Int), k0 + m_ = t_20.length ∧ v26_ = .int .i64 (k0 : Int) ∧ v7_ = .int .i64 gap_7l0 ∧ v8_ = .int .i64 reached_8l0 ∧ Hid (cntK (l0 t_20) m_ k0 (gap_7l0, reached_8l0) (e0 ) = some (r0, r1)) ∧ Hid (Below w.heap.size w wr) ∧ Hid (wr.ownsRow w.heap.size 34 6 (.slice (some ⟨qt_15, 0, none⟩) t_4.length ct_4) t_4.length (Go.Proofs.YtgimcnpkngpmiaaGreatDoor.PPostmark.flat lt_12)))
    case atStart => exact ⟨0, _, _, by omega, rfl, rfl, rfl, H, HBwt_12, Pt_12⟩
    case round =>
      obtain ⟨k0, gap_7l0, reached_8l0, hkm0, rfl, rfl, rfl, H, HBwr0, Pt_12⟩ := hrel
      rename World => wr0
      cases gk with
      | zero =>
        obtain rfl : k0 = t_20.length := by omega
        have hc0 : decide (((t_20.length : Nat) : Int) < ((t_20.length : Nat) : Int)) = false := by simp
        replace H := cnt_zero H
        unfold e0 at H
        replace H := unp2_hid H
        cases ret_hid H
        go_wp2_with fail
        go_ret2
        exact ⟨rfl, HBwr0.out⟩
      | succ m0 =>
        have hlt0 : k0 < t_20.length := by omega
        have hc0 : decide ((k0 : Int) < ((t_20.length : Nat) : Int)) = true := by simp; omega
        replace H := cnt_succ H
        unfold l0 at H
        replace H := unp2_hid H
        replace H := idx_hid H
        obtain ⟨nt_24, yt_24, et_24, lt_24, gt_24, H⟩ := H
        obtain rfl : k0 = nt_24 := by omega
        clear et_24
        obtain ⟨t_24_id, t_24_town, t_24_kind_, t_24_first, t_24_last, t_24_lost⟩ := yt_24
        replace H := unPostmark_hid H
        obtain ⟨ab_t_24, ao_t_24, zt_24, At_24, z_t_24, ct_24_0, ct_24_1, ct_24_2, ct_24_3, ct_24_4, ct_24_5⟩ := Go.Proofs.YtgimcnpkngpmiaaGreatDoor.OPostmark.at_ (Mt_20.out _ Pt_12.out) lt_24
        obtain rfl := Option.some.inj (gt_24.out.symm.trans z_t_24)
        subst At_24
        clear z_t_24
        have b0t_24 : (0 : Int) ≤ (k0 : Int) := by omega
        have b1t_24 : (k0 : Int) < ((t_20.length : Nat) : Int) := by omega
        have b2t_24 : ((k0 : Int)).toNat = k0 := by omega
        obtain ⟨w_p_26, hw_p_26⟩ : ∃ x, wr0.alloc (.cells #[.int .i64 t_24_id, .string t_24_town, .int .i64 t_24_kind_, .int .i64 t_24_first, .int .i64 t_24_last, .string t_24_lost] 34) = x := ⟨_, rfl⟩
        have bw_p_26 : Below wr0.heap.size wr0 w_p_26 := by rw [← hw_p_26]; exact (Below.refl _ _).alloc (Nat.le_refl _) _
        have Dp_26_t_4 := Lib.hid (apart_fresh Pt_12.out)
        have HBw_p_26 := Lib.hid (Below.step HBwr0.out bw_p_26)
        have ct_24_0__479 := cell_below bw_p_26 ct_24_0
        have ct_24_1__480 := cell_below bw_p_26 ct_24_1
        have ct_24_2__481 := cell_below bw_p_26 ct_24_2
        have ct_24_3__482 := cell_below bw_p_26 ct_24_3
        have ct_24_4__483 := cell_below bw_p_26 ct_24_4
        have ct_24_5__484 := cell_below bw_p_26 ct_24_5
        replace Pt_12 := Lib.hid (own_below Pt_12.out bw_p_26)
        clear bw_p_26
        have kp_26_0 : w_p_26.cell? ⟨wr0.heap.size, 0, none⟩ = some (.int .i64 t_24_id) := by rw [← hw_p_26]; exact box_new _ _ _ 0 _ rfl
        have kp_26_1 : w_p_26.cell? ⟨wr0.heap.size, 1, none⟩ = some (.string t_24_town) := by rw [← hw_p_26]; exact box_new _ _ _ 1 _ rfl
        have kp_26_2 : w_p_26.cell? ⟨wr0.heap.size, 2, none⟩ = some (.int .i64 t_24_kind_) := by rw [← hw_p_26]; exact box_new _ _ _ 2 _ rfl
        have kp_26_3 : w_p_26.cell? ⟨wr0.heap.size, 3, none⟩ = some (.int .i64 t_24_first) := by rw [← hw_p_26]; exact box_new _ _ _ 3 _ rfl
        have kp_26_4 : w_p_26.cell? ⟨wr0.heap.size, 4, none⟩ = some (.int .i64 t_24_last) := by rw [← hw_p_26]; exact box_new _ _ _ 4 _ rfl
        have kp_26_5 : w_p_26.cell? ⟨wr0.heap.size, 5, none⟩ = some (.string t_24_lost) := by rw [← hw_p_26]; exact box_new _ _ _ 5 _ rfl
        replace H := let_hid H
        obtain ⟨t_32, ht_32, H⟩ := H
        replace H := let_hid H
        obtain ⟨t_33, ht_33, H⟩ := H
        replace H := let_hid H
        obtain ⟨t_34, ht_34, H⟩ := H
        replace H := let_hid H
        obtain ⟨t_35, ht_35, H⟩ := H
        replace H := let_hid H
        obtain ⟨t_40, ht_40, H⟩ := H
        replace H := app_hid H
        go_wp2_with fail
        clear ct_24_0 ct_24_1 ct_24_2 ct_24_3 ct_24_4 ct_24_5
        go_roundg m0
        case measure => omega
        case rel => exact ⟨k0 + 1, _, _, by omega, by go_num, rfl, rfl, H, HBw_p_26, Pt_12⟩
  | true =>
    have Hht_8 : Hid (t_4.length = 0) := Lib.hid (by have := eq_of_beq ht_8; omega)
    have nht_8 : (t_4.length == 0) = true := beq_iff_eq.2 Hht_8.out
    replace H := ite_t H
    cases ret_hid H
    go_wp2_with fail
    go_ret2
    exact ⟨rfl, HBwt_4.out⟩
end Go.Proofs.YtgimcnpkngpmiaaGreatDoor.GiGapBetween

/- loop.example/g01062/spec.l11Used as a plain function, and the contract of the program's: where the plain one has an answer, the program has it. Conditions: slices read as lists. -/
namespace Go.Proofs.YtgimcnpkngpmiaaGreatDoor.GsL11Used
set_option linter.unusedVariables false
set_option linter.unusedSimpArgs false
open Go.RowKit
open Go.Proofs.YtgimcnpkngpmiaaGreatDoor.Rowed Go.Proofs.YtgimcnpkngpmiaaGreatDoor.Turn Go.Proofs.YtgimcnpkngpmiaaGreatDoor.Aid Go.Proofs.YtgimcnpkngpmiaaGreatDoor.GoP Go.Proofs.YtgimcnpkngpmiaaGreatDoor.GoM

def P (p : Go.Proofs.YtgimcnpkngpmiaaGreatDoor.PPostmark.Postmark) (day : Int) : Option (Bool) :=
  unPostmark p fun (p_id : Int) (p_town : ByteArray) (p_kind_ : Int) (p_first : Int) (p_last : Int) (p_lost : ByteArray) =>
  Option.bind (Go.Proofs.YtgimcnpkngpmiaaGreatDoor.GsL1In.P day p_first p_last) fun (t_7 : Bool) =>
  some t_7

set_option maxRecDepth 100000 in
set_option maxHeartbeats 2000000 in
theorem C (p : Go.Proofs.YtgimcnpkngpmiaaGreatDoor.PPostmark.Postmark) (day : Int)   (w : World)   {r : Bool} (H : Hid (P p day = some r)) :
    Calls Tryz.prog 44 #[p.val, .int .i64 day] w (Gives (.bool r) w) := by
  have HB := Lib.hid (Below.refl w.heap.size w)
  unfold P at H
  obtain ⟨p_id, p_town, p_kind_, p_first, p_last, p_lost⟩ := p
  replace H := unPostmark_hid H
  unfold Go.Proofs.YtgimcnpkngpmiaaGreatDoor.PPostmark.Postmark.val
  go_enter Tryz.func44, Tryz.ntmps44
  obtain ⟨w_p_0, hw_p_0⟩ : ∃ x, w.alloc (.cells #[.int .i64 p_id, .string p_town, .int .i64 p_kind_, .int .i64 p_first, .int .i64 p_last, .string p_lost] 34) = x := ⟨_, rfl⟩
  have bw_p_0 : Below w.heap.size w w_p_0 := by rw [← hw_p_0]; exact (Below.refl _ _).alloc (Nat.le_refl _) _
  have HBw_p_0 := Lib.hid (Below.step HB.out bw_p_0)
  clear bw_p_0
  have kp_0_0 : w_p_0.cell? ⟨w.heap.size, 0, none⟩ = some (.int .i64 p_id) := by rw [← hw_p_0]; exact box_new _ _ _ 0 _ rfl
  have kp_0_1 : w_p_0.cell? ⟨w.heap.size, 1, none⟩ = some (.string p_town) := by rw [← hw_p_0]; exact box_new _ _ _ 1 _ rfl
  have kp_0_2 : w_p_0.cell? ⟨w.heap.size, 2, none⟩ = some (.int .i64 p_kind_) := by rw [← hw_p_0]; exact box_new _ _ _ 2 _ rfl
  have kp_0_3 : w_p_0.cell? ⟨w.heap.size, 3, none⟩ = some (.int .i64 p_first) := by rw [← hw_p_0]; exact box_new _ _ _ 3 _ rfl
  have kp_0_4 : w_p_0.cell? ⟨w.heap.size, 4, none⟩ = some (.int .i64 p_last) := by rw [← hw_p_0]; exact box_new _ _ _ 4 _ rfl
  have kp_0_5 : w_p_0.cell? ⟨w.heap.size, 5, none⟩ = some (.string p_lost) := by rw [← hw_p_0]; exact box_new _ _ _ 5 _ rfl
  replace H := bind_hid H
  obtain ⟨t_7, qt_7, H⟩ := H
  go_wp2_with fail
  go_at_call 59
  refine (Go.Proofs.YtgimcnpkngpmiaaGreatDoor.GsL1In.C (day) (p_first) (p_last)  _    qt_7).mono ?_
  rintro e_t_7 wt_7 ⟨rfl, bt_7⟩
  have HBwt_7 := Lib.hid (Below.step HBw_p_0.out bt_7)
  replace kp_0_0 := cell_below bt_7 kp_0_0
  replace kp_0_1 := cell_below bt_7 kp_0_1
  replace kp_0_2 := cell_below bt_7 kp_0_2
  replace kp_0_3 := cell_below bt_7 kp_0_3
  replace kp_0_4 := cell_below bt_7 kp_0_4
  replace kp_0_5 := cell_below bt_7 kp_0_5
  clear bt_7
  obtain rfl := ret_hid H
  go_wp2_with fail
  go_ret
  exact ⟨rfl, HBwt_7.out⟩
end Go.Proofs.YtgimcnpkngpmiaaGreatDoor.GsL11Used

/- loop.example/g01062/spec.GapBetween as a plain function, and the contract of the program's: where the plain one has an answer, the program has it. Conditions: slices read as lists. -/
namespace Go.Proofs.YtgimcnpkngpmiaaGreatDoor.GsGapBetween
set_option linter.unusedVariables false
set_option linter.unusedSimpArgs false
open Go.RowKit
open Go.Proofs.YtgimcnpkngpmiaaGreatDoor.Rowed Go.Proofs.YtgimcnpkngpmiaaGreatDoor.Turn Go.Proofs.YtgimcnpkngpmiaaGreatDoor.Aid Go.Proofs.YtgimcnpkngpmiaaGreatDoor.GoP Go.Proofs.YtgimcnpkngpmiaaGreatDoor.GoM

def l0 (list : (List Go.Proofs.YtgimcnpkngpmiaaGreatDoor.PPostmark.Postmark)) (town : ByteArray) (k0 : Nat) (s : Int × Int) (nx0 bk0 : Int × Int → Option (Int × Bool)) : Option (Int × Bool) :=
  unp2 s fun first_6l0 last_7l0 =>
  Option.bind (idx list (k0 : Int)) fun (yt_21 : Go.Proofs.YtgimcnpkngpmiaaGreatDoor.PPostmark.Postmark) =>
  unPostmark yt_21 fun (t_21_id : Int) (t_21_town : ByteArray) (t_21_kind_ : Int) (t_21_first : Int) (t_21_last : Int) (t_21_lost : ByteArray) =>
  letK (t_21_town.toList == town.toList) fun (t_25 : Bool) =>
  iteK t_25
  (Option.bind (idx list (k0 : Int)) fun (yt_29 : Go.Proofs.YtgimcnpkngpmiaaGreatDoor.PPostmark.Postmark) =>
  unPostmark yt_29 fun (t_29_id : Int) (t_29_town : ByteArray) (t_29_kind_ : Int) (t_29_first : Int) (t_29_last : Int) (t_29_lost : ByteArray) =>
  Option.bind (Go.Proofs.YtgimcnpkngpmiaaGreatDoor.GsL1Least.P first_6l0 t_29_first) fun (t_32 : Int) =>
  Option.bind (idx list (k0 : Int)) fun (yt_37 : Go.Proofs.YtgimcnpkngpmiaaGreatDoor.PPostmark.Postmark) =>
  unPostmark yt_37 fun (t_37_id : Int) (t_37_town : ByteArray) (t_37_kind_ : Int) (t_37_first : Int) (t_37_last : Int) (t_37_lost : ByteArray) =>
  Option.bind (Go.Proofs.YtgimcnpkngpmiaaGreatDoor.GsL1Most.P last_7l0 t_37_last) fun (t_40 : Int) =>
  appK nx0 (t_32, t_40))
  (appK nx0 (first_6l0, last_7l0))

def l2 (list : (List Go.Proofs.YtgimcnpkngpmiaaGreatDoor.PPostmark.Postmark)) (town : ByteArray) (day_10l1 : Int) (k2 : Nat) (s : Bool) (nx2 bk2 : Bool → Option (Int × Bool)) : Option (Int × Bool) :=
  letK s fun some_11l2 =>
  joinK (fun (t_78 : Bool) =>
  appK nx2 (t_78)) fun jt_78 => iteK some_11l2 (appK jt_78 true) (Option.bind (idx list (k2 : Int)) fun (yt_65 : Go.Proofs.YtgimcnpkngpmiaaGreatDoor.PPostmark.Postmark) =>
  unPostmark yt_65 fun (t_65_id : Int) (t_65_town : ByteArray) (t_65_kind_ : Int) (t_65_first : Int) (t_65_last : Int) (t_65_lost : ByteArray) =>
  letK (t_65_town.toList == town.toList) fun (t_69 : Bool) =>
  joinK (fun (t_77 : Bool) =>
  appK jt_78 t_77) fun jt_77 => iteK t_69 (Option.bind (idx list (k2 : Int)) fun (yt_73 : Go.Proofs.YtgimcnpkngpmiaaGreatDoor.PPostmark.Postmark) =>
  unPostmark yt_73 fun (t_73_id : Int) (t_73_town : ByteArray) (t_73_kind_ : Int) (t_73_first : Int) (t_73_last : Int) (t_73_lost : ByteArray) =>
  Option.bind (Go.Proofs.YtgimcnpkngpmiaaGreatDoor.GsL11Used.P (Go.Proofs.YtgimcnpkngpmiaaGreatDoor.PPostmark.Postmark.mk t_73_id t_73_town t_73_kind_ t_73_first t_73_last t_73_lost) day_10l1) fun (t_76 : Bool) =>
  appK jt_77 t_76) (appK jt_77 false))

def e2 (nx1 : (Int × Int) → Option (Int × Bool)) (gap_9l1 : Int) (day_10l1 : Int) (s : Bool) : Option (Int × Bool) :=
  letK s fun some_11l2 =>
  letK (!some_11l2) fun (t_84 : Bool) =>
  iteK t_84
  (letK (IntKind.i64.wrap (gap_9l1 + 1)) fun (t_86 : Int) =>
  letK (IntKind.i64.wrap (day_10l1 + 1)) fun (t_89 : Int) =>
  appK nx1 (t_86, t_89))
  (letK (IntKind.i64.wrap (day_10l1 + 1)) fun (t_89 : Int) =>
  appK nx1 (gap_9l1, t_89))

def l1 (list : (List Go.Proofs.YtgimcnpkngpmiaaGreatDoor.PPostmark.Postmark)) (town : ByteArray) (last_7l0 : Int) (s : Int × Int) (nx1 bk1 : Int × Int → Option (Int × Bool)) : Option (Int × Bool) :=
  unp2 s fun gap_9l1 day_10l1 =>
  letK (decide (day_10l1 ≤ last_7l0)) fun (t_54 : Bool) =>
  iteK t_54
  (cntK (l2 list town day_10l1) (list.length) 0 (false) (e2 nx1 gap_9l1 day_10l1))
  (appK bk1 (gap_9l1, day_10l1))

def e1  (s : Int × Int) : Option (Int × Bool) :=
  unp2 s fun gap_9l1 day_10l1 =>
  some (gap_9l1, true)

def e0 (list : (List Go.Proofs.YtgimcnpkngpmiaaGreatDoor.PPostmark.Postmark)) (town : ByteArray) (fuel : Nat) (s : Int × Int) : Option (Int × Bool) :=
  unp2 s fun first_6l0 last_7l0 =>
  letK (decide (last_7l0 < 0)) fun (t_46 : Bool) =>
  iteK t_46
  (some (0, false))
  (loopK (l1 list town last_7l0) fuel (0, first_6l0) (e1 ))

def P (fuel : Nat) (list : (List Go.Proofs.YtgimcnpkngpmiaaGreatDoor.PPostmark.Postmark)) (town : ByteArray) : Option (Int × Bool) :=
  Option.bind (Go.Proofs.YtgimcnpkngpmiaaGreatDoor.GsL11Good.P fuel list) fun (t_3 : Bool) =>
  letK (!t_3) fun (t_4 : Bool) =>
  joinK (fun (t_9 : Bool) =>
  iteK t_9
  (some (0, false))
  (cntK (l0 list town) (list.length) 0 (4000, (-1)) (e0 list town fuel))) fun jt_9 => iteK t_4 (appK jt_9 true) (Option.bind (Go.Proofs.YtgimcnpkngpmiaaGreatDoor.GsL2Word.P town) fun (t_7 : Bool) =>
  letK (!t_7) fun (t_8 : Bool) =>
  appK jt_9 t_8)

set_option maxRecDepth 100000 in
set_option maxHeartbeats 2000000 in
theorem C (fuel : Nat) (list : (List Go.Proofs.YtgimcnpkngpmiaaGreatDoor.PPostmark.Postmark)) (town : ByteArray) (A0 : Option Addr) (c0 : Nat)  (w : World) (M0 : Hid (Cells w 6 A0 list.length (Go.Proofs.YtgimcnpkngpmiaaGreatDoor.PPostmark.flat list))) (N0 : Hid (list.length ≤ 9223372036854775807))  {r0 : Int} {r1 : Bool} (H : Hid (P fuel list town = some (r0, r1))) :
    Calls Tryz.prog 13 #[.slice A0 list.length c0, .string town] w (Gives (.tuple #[.int .i64 r0, .bool r1]) w) := by
  have HB := Lib.hid (Below.refl w.heap.size w)
  unfold P at H
  have N0o := N0.out
  go_enter Tryz.func13, Tryz.ntmps13
  replace H := bind_hid H
  obtain ⟨t_3, qt_3, H⟩ := H
  go_wp2_with fail
  go_at_call 27
  refine (Go.Proofs.YtgimcnpkngpmiaaGreatDoor.GsL11Good.C fuel (list) A0 c0 _   (Lib.hid (Cells.below M0.out HB.out)) N0 qt_3).mono ?_
  rintro e_t_3 wt_3 ⟨rfl, bt_3⟩
  have HBwt_3 := Lib.hid (Below.step HB.out bt_3)
  clear bt_3
  cases t_3 with
  | false =>
    replace H := let_hid H
    obtain ⟨t_4, ht_4, H⟩ := H
    obtain rfl : t_4 = true := ht_4.symm
    replace H := join_hid H
    replace H := ite_t H
    replace H := app_hid H
    replace H := ite_t H
    cases ret_hid H
    go_wp2_with fail
    go_ret2
    exact ⟨rfl, HBwt_3.out⟩
  | true =>
    replace H := let_hid H
    obtain ⟨t_4, ht_4, H⟩ := H
    obtain rfl : t_4 = false := ht_4.symm
    replace H := join_hid H
    replace H := ite_f H
    replace H := bind_hid H
    obtain ⟨t_7, qt_7, H⟩ := H
    go_wp2_with fail
    go_at_call 43
    refine (Go.Proofs.YtgimcnpkngpmiaaGreatDoor.GsL2Word.C (town)  _    qt_7).mono ?_
    rintro e_t_7 wt_7 ⟨rfl, bt_7⟩
    have HBwt_7 := Lib.hid (Below.step HBwt_3.out bt_7)
    clear bt_7
    cases t_7 with
    | false =>
      replace H := let_hid H
      obtain ⟨t_8, ht_8, H⟩ := H
      obtain rfl : t_8 = true := ht_8.symm
      replace H := app_hid H
      replace H := ite_t H
      cases ret_hid H
      go_wp2_with fail
      go_ret2
      exact ⟨rfl, HBwt_7.out⟩
    | true =>
      replace H := let_hid H
      obtain ⟨t_8, ht_8, H⟩ := H
      obtain rfl : t_8 = false := ht_8.symm
      replace H := app_hid H
      replace H := ite_f H
      go_wp2_with fail
      go_loopg [8, 6, 7] (list.length) (fun m_ v8_ v6_ v7_ wr => ∃ (k0 : Nat) (first_6l0 : Int) (last_7l0 : Int), k0 + m_ = list.length ∧ v8_ = .int .i64 (k0 : Int) ∧ v6_ = .int .i64 first_6l0 ∧ v7_ = .int .i64 last_7l0 ∧ Hid (cntK (l0 list town) m_ k0 (first_6l0, last_7l0) (e0 list town fuel) = some (r0, r1)) ∧ Hid (Below w.heap.size w wr))
      case atStart => exact ⟨0, _, _, by omega, rfl, rfl, rfl, H, HBwt_7⟩
      case round =>
        obtain ⟨k0, first_6l0, last_7l0, hkm0, rfl, rfl, rfl, H, HBwr0⟩ := hrel
        rename World => wr0
        cases gk with
        | zero =>
          obtain rfl : k0 = list.length := by omega
          have hc0 : decide (((list.length : Nat) : Int) < ((list.length : Nat) : Int)) = false := by simp
          replace H := cnt_zero H
          unfold e0 at H
          replace H := unp2_hid H
          replace H := let_hid H
          obtain ⟨t_46, ht_46, H⟩ := H
          cases t_46 with
          | false =>
            replace H := ite_f H
            go_wp2_with fail
            go_loopg [9, 10] (fuel) (fun m_ v9_ v10_ wr => ∃ (gap_9l1 : Int) (day_10l1 : Int), v9_ = .int .i64 gap_9l1 ∧ v10_ = .int .i64 day_10l1 ∧ Hid (loopK (l1 list town last_7l0) m_ (gap_9l1, day_10l1) (e1 ) = some (r0, r1)) ∧ Hid (Below w.heap.size w wr))
            case atStart => exact ⟨_, _, rfl, rfl, H, HBwr0⟩
            case round =>
              obtain ⟨gap_9l1, day_10l1, rfl, rfl, H, HBwr1⟩ := hrel
              rename World => wr1
              cases gk with
              | zero => exact (loop_zero H).elim
              | succ m1 =>
                replace H := loop_succ H
                unfold l1 at H
                replace H := unp2_hid H
                replace H := let_hid H
                obtain ⟨t_54, ht_54, H⟩ := H
                cases t_54 with
                | false =>
                  replace H := ite_f H
                  replace H := app_hid H
                  unfold e1 at H
                  replace H := unp2_hid H
                  cases ret_hid H
                  go_wp2_with fail
                  go_ret2
                  exact ⟨rfl, HBwr1.out⟩
                | true =>
                  replace H := ite_t H
                  go_wp2_with fail
                  go_loopg [12, 11] (list.length) (fun m_ v12_ v11_ wr => ∃ (k2 : Nat) (some_11l2 : Bool), k2 + m_ = list.length ∧ v12_ = .int .i64 (k2 : Int) ∧ v11_ = .bool some_11l2 ∧ Hid (cntK (l2 list town day_10l1) m_ k2 (some_11l2) (e2 (fun s' => loopK (l1 list town last_7l0) m1 s' (e1 )) gap_9l1 day_10l1) = some (r0, r1)) ∧ Hid (Below w.heap.size w wr))
                  case atStart => exact ⟨0, _, by omega, rfl, rfl, H, HBwr1⟩
                  case round =>
                    obtain ⟨k2, some_11l2, hkm2, rfl, rfl, H, HBwr2⟩ := hrel
                    rename World => wr2
                    cases gk with
                    | zero =>
                      obtain rfl : k2 = list.length := by omega
                      have hc2 : decide (((list.length : Nat) : Int) < ((list.length : Nat) : Int)) = false := by simp
                      replace H := cnt_zero H
                      unfold e2 at H
                      replace H := let_hid H
                      obtain ⟨_, rfl, H⟩ := H
                      cases some_11l2 with
                      | false =>
                        replace H := let_hid H
                        obtain ⟨t_84, ht_84, H⟩ := H
                        obtain rfl : t_84 = true := ht_84.symm
                        replace H := ite_t H
                        replace H := let_hid H
                        obtain ⟨t_86, ht_86, H⟩ := H
                        replace H := let_hid H
                        obtain ⟨t_89, ht_89, H⟩ := H
                        replace H := app_hid H
                        go_wp2_with fail
                        go_roundg m1
                        case measure => omega
                        case rel => exact ⟨_, _, rfl, rfl, H, HBwr2⟩
                      | true =>
                        replace H := let_hid H
                        obtain ⟨t_84, ht_84, H⟩ := H
                        obtain rfl : t_84 = false := ht_84.symm
                        replace H := ite_f H
                        replace H := let_hid H
                        obtain ⟨t_89, ht_89, H⟩ := H
                        replace H := app_hid H
                        go_wp2_with fail
                        go_roundg m1
                        case measure => omega
                        case rel => exact ⟨_, _, rfl, rfl, H, HBwr2⟩
                    | succ m2 =>
                      have hlt2 : k2 < list.length := by omega
                      have hc2 : decide ((k2 : Int) < ((list.length : Nat) : Int)) = true := by simp; omega
                      replace H := cnt_succ H
                      unfold l2 at H
                      replace H := let_hid H
                      obtain ⟨_, rfl, H⟩ := H
                      replace H := join_hid H
                      cases some_11l2 with
                      | false =>
                        replace H := ite_f H
                        replace H := idx_hid H
                        obtain ⟨nt_65, yt_65, et_65, lt_65, gt_65, H⟩ := H
                        obtain rfl : k2 = nt_65 := by omega
                        clear et_65
                        obtain ⟨t_65_id, t_65_town, t_65_kind_, t_65_first, t_65_last, t_65_lost⟩ := yt_65
                        replace H := unPostmark_hid H
                        obtain ⟨ab_t_65, ao_t_65, zt_65, At_65, z_t_65, ct_65_0, ct_65_1, ct_65_2, ct_65_3, ct_65_4, ct_65_5⟩ := Go.Proofs.YtgimcnpkngpmiaaGreatDoor.OPostmark.at_ M0.out lt_65
                        obtain rfl := Option.some.inj (gt_65.out.symm.trans z_t_65)
                        subst At_65
                        have ltt_65 := cell_lt ct_65_0
                        replace ct_65_0 := cell_below HBwr2.out ct_65_0
                        replace ct_65_1 := cell_below HBwr2.out ct_65_1
                        replace ct_65_2 := cell_below HBwr2.out ct_65_2
                        replace ct_65_3 := cell_below HBwr2.out ct_65_3
                        replace ct_65_4 := cell_below HBwr2.out ct_65_4
                        replace ct_65_5 := cell_below HBwr2.out ct_65_5
                        clear z_t_65
                        have b0t_65 : (0 : Int) ≤ (k2 : Int) := by omega
                        have b1t_65 : (k2 : Int) < ((list.length : Nat) : Int) := by omega
                        have b2t_65 : ((k2 : Int)).toNat = k2 := by omega
                        replace H := let_hid H
                        obtain ⟨t_69, ht_69, H⟩ := H
                        replace H := join_hid H
                        cases t_69 with
                        | false =>
                          replace H := ite_f H
                          replace H := app_hid H
                          replace H := app_hid H
                          replace H := app_hid H
                          go_wp2_with fail
                          go_roundg m2
                          case measure => omega
                          case rel => exact ⟨k2 + 1, _, by omega, by go_num, rfl, H, HBwr2⟩
                        | true =>
                          replace H := ite_t H
                          replace H := idx_hid H
                          obtain ⟨nt_73, yt_73, et_73, lt_73, gt_73, H⟩ := H
                          obtain rfl : k2 = nt_73 := by omega
                          clear et_73
                          obtain rfl := Option.some.inj (gt_65.out.symm.trans gt_73.out)
                          clear gt_73 lt_73
                          replace H := unPostmark_hid H
                          replace H := bind_hid H
                          obtain ⟨t_76, qt_76, H⟩ := H
                          go_wp2_with fail
                          go_at_call 44
                          refine (Go.Proofs.YtgimcnpkngpmiaaGreatDoor.GsL11Used.C ((Go.Proofs.YtgimcnpkngpmiaaGreatDoor.PPostmark.Postmark.mk t_65_id t_65_town t_65_kind_ t_65_first t_65_last t_65_lost)) (day_10l1)  _    qt_76).mono ?_
                          rintro e_t_76 wt_76 ⟨rfl, bt_76⟩
                          have HBwt_76 := Lib.hid (Below.step HBwr2.out bt_76)
                          replace ct_65_0 := cell_below bt_76 ct_65_0
                          replace ct_65_1 := cell_below bt_76 ct_65_1
                          replace ct_65_2 := cell_below bt_76 ct_65_2
                          replace ct_65_3 := cell_below bt_76 ct_65_3
                          replace ct_65_4 := cell_below bt_76 ct_65_4
                          replace ct_65_5 := cell_below bt_76 ct_65_5
                          clear bt_76
                          replace H := app_hid H
                          replace H := app_hid H
                          replace H := app_hid H
                          go_wp2_with fail
                          go_roundg m2
                          case measure => omega
                          case rel => exact ⟨k2 + 1, _, by omega, by go_num, rfl, H, HBwt_76⟩
                      | true =>
                        replace H := ite_t H
                        replace H := app_hid H
                        replace H := app_hid H
                        go_wp2_with fail
                        go_roundg m2
                        case measure => omega
                        case rel => exact ⟨k2 + 1, _, by omega, by go_num, rfl, H, HBwr2⟩
          | true =>
            replace H := ite_t H
            cases ret_hid H
            go_wp2_with fail
            go_ret2
            exact ⟨rfl, HBwr0.out⟩
        | succ m0 =>
          have hlt0 : k0 < list.length := by omega
          have hc0 : decide ((k0 : Int) < ((list.length : Nat) : Int)) = true := by simp; omega
          replace H := cnt_succ H
          unfold l0 at H
          replace H := unp2_hid H
          replace H := idx_hid H
          obtain ⟨nt_21, yt_21, et_21, lt_21, gt_21, H⟩ := H
          obtain rfl : k0 = nt_21 := by omega
          clear et_21
          obtain ⟨t_21_id, t_21_town, t_21_kind_, t_21_first, t_21_last, t_21_lost⟩ := yt_21
          replace H := unPostmark_hid H
          obtain ⟨ab_t_21, ao_t_21, zt_21, At_21, z_t_21, ct_21_0, ct_21_1, ct_21_2, ct_21_3, ct_21_4, ct_21_5⟩ := Go.Proofs.YtgimcnpkngpmiaaGreatDoor.OPostmark.at_ M0.out lt_21
          obtain rfl := Option.some.inj (gt_21.out.symm.trans z_t_21)
          subst At_21
          have ltt_21 := cell_lt ct_21_0
          replace ct_21_0 := cell_below HBwr0.out ct_21_0
          replace ct_21_1 := cell_below HBwr0.out ct_21_1
          replace ct_21_2 := cell_below HBwr0.out ct_21_2
          replace ct_21_3 := cell_below HBwr0.out ct_21_3
          replace ct_21_4 := cell_below HBwr0.out ct_21_4
          replace ct_21_5 := cell_below HBwr0.out ct_21_5
          clear z_t_21
          have b0t_21 : (0 : Int) ≤ (k0 : Int) := by omega
          have b1t_21 : (k0 : Int) < ((list.length : Nat) : Int) := by omega
          have b2t_21 : ((k0 : Int)).toNat = k0 := by omega
          replace H := let_hid H
          obtain ⟨t_25, ht_25, H⟩ := H
          cases t_25 with
          | false =>
            replace H := ite_f H
            replace H := app_hid H
            go_wp2_with fail
            go_roundg m0
            case measure => omega
            case rel => exact ⟨k0 + 1, _, _, by omega, by go_num, rfl, rfl, H, HBwr0⟩
          | true =>
            replace H := ite_t H
            replace H := idx_hid H
            obtain ⟨nt_29, yt_29, et_29, lt_29, gt_29, H⟩ := H
            obtain rfl : k0 = nt_29 := by omega
            clear et_29
            obtain rfl := Option.some.inj (gt_21.out.symm.trans gt_29.out)
            clear gt_29 lt_29
            replace H := unPostmark_hid H
            replace H := bind_hid H
            obtain ⟨t_32, qt_32, H⟩ := H
            go_wp2_with fail
            go_at_call 30
            refine (Go.Proofs.YtgimcnpkngpmiaaGreatDoor.GsL1Least.C (first_6l0) (t_21_first)  _    qt_32).mono ?_
            rintro e_t_32 wt_32 ⟨rfl, bt_32⟩
            have HBwt_32 := Lib.hid (Below.step HBwr0.out bt_32)
            replace ct_21_0 := cell_below bt_32 ct_21_0
            replace ct_21_1 := cell_below bt_32 ct_21_1
            replace ct_21_2 := cell_below bt_32 ct_21_2
            replace ct_21_3 := cell_below bt_32 ct_21_3
            replace ct_21_4 := cell_below bt_32 ct_21_4
            replace ct_21_5 := cell_below bt_32 ct_21_5
            clear bt_32
            replace H := idx_hid H
            obtain ⟨nt_37, yt_37, et_37, lt_37, gt_37, H⟩ := H
            obtain rfl : k0 = nt_37 := by omega
            clear et_37
            obtain rfl := Option.some.inj (gt_21.out.symm.trans gt_37.out)
            clear gt_37 lt_37
            replace H := unPostmark_hid H
            replace H := bind_hid H
            obtain ⟨t_40, qt_40, H⟩ := H
            go_wp2_with fail
            go_at_call 29
            refine (Go.Proofs.YtgimcnpkngpmiaaGreatDoor.GsL1Most.C (last_7l0) (t_21_last)  _    qt_40).mono ?_
            rintro e_t_40 wt_40 ⟨rfl, bt_40⟩
            have HBwt_40 := Lib.hid (Below.step HBwt_32.out bt_40)
            replace ct_21_0 := cell_below bt_40 ct_21_0
            replace ct_21_1 := cell_below bt_40 ct_21_1
            replace ct_21_2 := cell_below bt_40 ct_21_2
            replace ct_21_3 := cell_below bt_40 ct_21_3
            replace ct_21_4 := cell_below bt_40 ct_21_4
            replace ct_21_5 := cell_below bt_40 ct_21_5
            clear bt_40
            replace H := app_hid H
            go_wp2_with fail
            go_roundg m0
            case measure => omega
            case rel => exact ⟨k0 + 1, _, _, by omega, by go_num, rfl, rfl, H, HBwt_40⟩
end Go.Proofs.YtgimcnpkngpmiaaGreatDoor.GsGapBetween

/- loop.example/g01062/spec.DrawTownsOn as a plain function, and the contract of the program's: where the plain one has an answer, the program has it. Conditions: slices read as lists. -/
namespace Go.Proofs.YtgimcnpkngpmiaaGreatDoor.GsDrawTownsOn
set_option linter.unusedVariables false
set_option linter.unusedSimpArgs false
open Go.RowKit
open Go.Proofs.YtgimcnpkngpmiaaGreatDoor.Rowed Go.Proofs.YtgimcnpkngpmiaaGreatDoor.Turn Go.Proofs.YtgimcnpkngpmiaaGreatDoor.Aid Go.Proofs.YtgimcnpkngpmiaaGreatDoor.GoP Go.Proofs.YtgimcnpkngpmiaaGreatDoor.GoM

def P (fuel : Nat) (tapes : List Int → Go.Proofs.YtgimcnpkngpmiaaGreatDoor.GoC.Tape) (code : (List Int)) : Option ((List Go.Proofs.YtgimcnpkngpmiaaGreatDoor.PPostmark.Postmark) × Int) :=
  letK (tapes code) fun (t_4 : Go.Proofs.YtgimcnpkngpmiaaGreatDoor.GoC.Tape) =>
  bind2 (Go.Proofs.YtgimcnpkngpmiaaGreatDoor.GsL1CurPostmarks11.P fuel t_4) fun (t_7 : (List Go.Proofs.YtgimcnpkngpmiaaGreatDoor.PPostmark.Postmark)) (t_7_tp : Go.Proofs.YtgimcnpkngpmiaaGreatDoor.GoC.Tape) =>
  bind2 (Go.Proofs.YtgimcnpkngpmiaaGreatDoor.GsL1CurDay11.P t_7_tp t_7) fun (t_12 : Int) (t_12_tp : Go.Proofs.YtgimcnpkngpmiaaGreatDoor.GoC.Tape) =>
  some (t_7, t_12)

set_option maxRecDepth 100000 in
set_option maxHeartbeats 2000000 in
theorem C (fuel : Nat) (tapes : List Int → Go.Proofs.YtgimcnpkngpmiaaGreatDoor.GoC.Tape) (code : (List Int)) (A0 : Option Addr) (c0 : Nat)  (w : World) (HE : Hid (Go.Proofs.YtgimcnpkngpmiaaGreatDoor.GoC.Tells tapes)) (M0 : Hid (Cells w 1 A0 code.length (Go.Proofs.YtgimcnpkngpmiaaGreatDoor.GoC.u8s code))) (N0 : Hid (code.length ≤ 9223372036854775807)) (V0 : Hid (∀ z ∈ code, 0 ≤ z ∧ z ≤ 255))  {r0 : (List Go.Proofs.YtgimcnpkngpmiaaGreatDoor.PPostmark.Postmark)} {r1 : Int} (H : Hid (P fuel tapes code = some (r0, r1))) :
    Calls Tryz.prog 14 #[.slice A0 code.length c0] w (fun e w' => ∃ A_r0 c_r0, e = .returned (.tuple #[.slice A_r0 r0.length c_r0, .int .i64 r1]) ∧ w'.ownsRow w.heap.size 34 6 (.slice A_r0 r0.length c_r0) r0.length (Go.Proofs.YtgimcnpkngpmiaaGreatDoor.PPostmark.flat r0) ∧ Below w.heap.size w w') := by
  have HB := Lib.hid (Below.refl w.heap.size w)
  unfold P at H
  have N0o := N0.out
  go_enter Tryz.func14, Tryz.ntmps14
  replace H := let_hid H
  obtain ⟨t_4, ht_4, H⟩ := H
  obtain ⟨w_t_4, hw_t_4⟩ : ∃ x, w.alloc (.cells #[.slice A0 code.length c0, .int .i64 0, .int .u64 0] 49) = x := ⟨_, rfl⟩
  have bw_t_4 : Below w.heap.size w w_t_4 := by rw [← hw_t_4]; exact (Below.refl _ _).alloc (Nat.le_refl _) _
  have Kt_4 : Hid (Go.Proofs.YtgimcnpkngpmiaaGreatDoor.GoC.CurIs w_t_4 w.heap.size w.heap.size A0 c0 t_4) := Lib.hid (by rw [← hw_t_4, ← ht_4]; exact Go.Proofs.YtgimcnpkngpmiaaGreatDoor.GoC.cur_new HB.out.size (Cells.below M0.out HB.out) (fun a_ ha_ h0_ => by subst ha_; exact Go.Proofs.YtgimcnpkngpmiaaGreatDoor.GoC.cells_lt M0.out (by unfold Go.Proofs.YtgimcnpkngpmiaaGreatDoor.GoC.u8s; rw [List.length_map]; exact h0_)) (HE.out.2.2 code V0.out N0.out))
  have hht_4 := Lib.hid ht_4
  clear ht_4
  have HBw_t_4 := Lib.hid (Below.step HB.out bw_t_4)
  clear bw_t_4
  replace H := bind2_hid H
  obtain ⟨t_7, t_7_tp, qt_7, H⟩ := H
  go_wp2_with fail
  go_at_call 20
  refine (Go.Proofs.YtgimcnpkngpmiaaGreatDoor.GsL1CurPostmarks11.C fuel (t_4) (w.heap.size) (A0) (c0) (w.heap.size) _   Kt_4 qt_7).mono ?_
  rintro e_t_7 wt_7 ⟨At_7, ct_7, rfl, ot_7, kt_7, gt_7⟩
  have Dt_7_t_4 := Lib.hid (Go.Proofs.YtgimcnpkngpmiaaGreatDoor.GoC.apart_callcur ot_7 Kt_4.out)
  have Ot_7 := Lib.hid (own_lower ot_7 HBw_t_4.out.size)
  clear ot_7
  have Kt_7 := Lib.hid kt_7
  have Gt_7 : Hid (w_t_4.grownBy wt_7 (Value.slice (some ⟨w.heap.size, 0, none⟩) 1 1).ownBlock) := Lib.hid gt_7
  clear kt_7 gt_7
  have HBwt_7 := Lib.hid (Go.Proofs.YtgimcnpkngpmiaaGreatDoor.GoC.below_cur HBw_t_4.out Gt_7.out HBw_t_4.out.size (Go.Proofs.YtgimcnpkngpmiaaGreatDoor.GoC.cur_lt Kt_4.out).1)
  clear Kt_4 Gt_7
  replace H := bind2_hid H
  obtain ⟨t_12, t_12_tp, qt_12, H⟩ := H
  go_wp2_with fail
  go_at_call 22
  refine (Go.Proofs.YtgimcnpkngpmiaaGreatDoor.GsL1CurDay11.C (t_7_tp) (t_7) At_7 ct_7 (w.heap.size) (A0) (c0) (w.heap.size) _   (Lib.hid (own_cells Ot_7.out)) (Lib.hid (own_max Ot_7.out)) Kt_7 (Lib.hid (fun _ => Dt_7_t_4.out)) qt_12).mono ?_
  rintro e_t_12 wt_12 ⟨rfl, kt_12, gt_12⟩
  have Kt_12 := Lib.hid kt_12
  have Gt_12 : Hid (wt_7.grownBy wt_12 (Value.slice (some ⟨w.heap.size, 0, none⟩) 1 1).ownBlock) := Lib.hid gt_12
  clear kt_12 gt_12
  have HBwt_12 := Lib.hid (Go.Proofs.YtgimcnpkngpmiaaGreatDoor.GoC.below_cur HBwt_7.out Gt_12.out HBwt_7.out.size (Go.Proofs.YtgimcnpkngpmiaaGreatDoor.GoC.cur_lt Kt_7.out).1)
  replace Ot_7 := Lib.hid (own_other Ot_7.out Gt_12.out (Apart.symm Dt_7_t_4.out))
  clear Kt_7 Gt_12
  cases ret_hid H
  go_wp2_with fail
  go_ret2
  exact ⟨At_7, ct_7, rfl, Ot_7.out, HBwt_12.out⟩
end Go.Proofs.YtgimcnpkngpmiaaGreatDoor.GsDrawTownsOn

/- An append onto a row of its own as one step of a region that draws its order. No condition. -/
namespace Go.Proofs.YtgimcnpkngpmiaaGreatDoor.GoH
set_option linter.unusedVariables false
theorem step_append_own {P : Program} {w : World} {ops : Array Oper} {o : Oper} {a : Act} {K : Act → World → Prop} {Q : Exit → Act → World → Prop} {E : Prop} (hgd : o.guard = none) (s x : Operand) (t : TypeId)
    (ho : o.op = .call { callee := .builtin .append, args := #[s, x], argTypes := #[t, t] })
    (base : Nat) (e : TypeId) (i : TypeInfo) (z : Value) (size bytes : Nat) (ht : P.underlying t = some (.slice e)) (hi : P.info? e = some i) (hz : i.zero = some z)
    (hsize : i.size = size) (hby : i.bytes = bytes) (hzs : z.cells.size = size) (hsz : 0 < size)
    (A : Option Addr) (c n : Nat) (xs : List Value) (hs : a.eval s = .slice A n c) (hown : w.ownsRow base e size (.slice A n c) n xs)
    (ad : Addr) (cc : Nat) (news : List Value) (hx : a.eval x = .slice (some ad) 1 cc) (hl : news.length = 1 * size) (hnews : ∀ j u, news[j]? = some u → w.cell? (ad.add j) = some u) (h1 : ∀ u ∈ news, u.oneCell' = true)
    (h63 : n + 1 ≤ maxLen) (hbytes : (n + 1) * bytes ≤ 140737488355328) (hbase : base ≤ w.heap.size)
    (h : ∀ v' w', w'.ownsRow base e size v' (n + 1) (xs ++ news) → w.grownBy w' (Value.slice A n c).ownBlock → (v'.ownBlock = (Value.slice A n c).ownBlock ∨ v'.ownBlock = some w.heap.size) → K (a.put o.dst v') w') :
    if Region.wanted o (yielded ops a.tmps) = true then Oper.wp P o a w K Q else E := by
  refine Go.step_append_lies w hgd s x t ho base e i z size bytes ht hi hz hsize hby hzs hsz (.slice A n c) n xs hs hown ad 1 cc news hx hl hnews h1 (by omega) h63 hbytes hbase w.heap.size rfl ?_
  intro g cap w' o1 g1 y1 _
  refine h _ w' o1 g1 ?_
  rcases y1 with y1 | y1
  · left; rw [y1]; rfl
  · right; rw [y1]; rfl
/-- append(a, b...) onto a row of its own as one step of such a region -/
theorem step_spread_own {P : Program} {w : World} {ops : Array Oper} {o : Oper} {a : Act} {K : Act → World → Prop} {Q : Exit → Act → World → Prop} {E : Prop} (hgd : o.guard = none) (s x : Operand) (t : TypeId)
    (ho : o.op = .call { callee := .builtin .append, args := #[s, x], argTypes := #[t, t] })
    (base : Nat) (e : TypeId) (i : TypeInfo) (z : Value) (size bytes : Nat) (ht : P.underlying t = some (.slice e)) (hi : P.info? e = some i) (hz : i.zero = some z)
    (hsize : i.size = size) (hby : i.bytes = bytes) (hzs : z.cells.size = size) (hsz : 0 < size)
    (A1 : Option Addr) (c1 n : Nat) (xs : List Value) (hs : a.eval s = .slice A1 n c1) (hown : w.ownsRow base e size (.slice A1 n c1) n xs)
    (A : Option Addr) (m c : Nat) (news : List Value) (hx : a.eval x = .slice A m c) (hN : Go.Proofs.YtgimcnpkngpmiaaGreatDoor.GoM.Room A m c) (hc : Go.Proofs.YtgimcnpkngpmiaaGreatDoor.Rowed.Cells w size A m news) (h1 : ∀ u ∈ news, u.oneCell' = true)
    (h63 : n + m ≤ maxLen) (hbytes : (n + m) * bytes ≤ 140737488355328) (hbase : base ≤ w.heap.size)
    (h : ∀ v' w', w'.ownsRow base e size v' (n + m) (xs ++ news) → w.grownBy w' (Value.slice A1 n c1).ownBlock → (v'.ownBlock = (Value.slice A1 n c1).ownBlock ∨ v'.ownBlock = some w.heap.size) → K (a.put o.dst v') w') :
    if Region.wanted o (yielded ops a.tmps) = true then Oper.wp P o a w K Q else E := by
  have hw : Region.wanted o (yielded ops a.tmps) = true := by simp [Region.wanted, hgd]
  rw [if_pos hw]
  obtain ⟨v', w', hr, h2, h3, h5⟩ : ∃ v' w', (Builtin.append_ #[t, t] o.type #[.slice A1 n c1, .slice A m c]).run P w = .ok v' w' ∧ w'.ownsRow base e size v' (n + m) (xs ++ news) ∧ w.grownBy w' (Value.slice A1 n c1).ownBlock ∧ (v'.ownBlock = (Value.slice A1 n c1).ownBlock ∨ v'.ownBlock = some w.heap.size) := by
    cases A with
    | some ad =>
      obtain ⟨v', w', hr, h2, h3, _, h5⟩ := run_append_own_at (P := P) w base t o.type e i z size bytes ht hi hz hsize hby hzs hsz (.slice A1 n c1) n xs hown ad m c news hc.1 (fun j u hu => by
        obtain ⟨ad', e', hcell⟩ := hc.2 (by have := (List.getElem?_eq_some_iff.1 hu).1; omega)
        obtain rfl : ad = ad' := Option.some.inj e'
        exact hcell j u hu) h1 h63 hbytes hbase
      exact ⟨v', w', hr, h2, h3, h5⟩
    | none =>
      have hm : m = 0 := by
        cases news with
        | nil =>
          have h0 : ([] : List Value).length = m * size := hc.1
          rw [List.length_nil] at h0
          rcases Nat.mul_eq_zero.1 h0.symm with h1 | h1 <;> omega
        | cons y l => obtain ⟨ad, e', _⟩ := hc.2 (by simp); simp at e'
      obtain rfl : c = 0 := hN.2 rfl
      subst hm
      have hn : news = [] := List.eq_nil_of_length_eq_zero (by have := hc.1; simpa using this)
      subst hn
      exact ⟨_, w, run_append_owned_none (P := P) w base t o.type e i size ht hi (.slice A1 n c1) n xs hown, by simpa using hown, World.grownBy.refl w _, .inl rfl⟩
  unfold Oper.wp execOp
  simp only [ho, resolve, invoke, builtin, Sem.run_bind, Sem.run_pure, Result.andThen_ok, List.map_toArray, List.map_cons, List.map_nil, hs, hx, hr]
  exact h v' w' h2 h3 h5
end Go.Proofs.YtgimcnpkngpmiaaGreatDoor.GoH

