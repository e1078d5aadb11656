/- The contract of fewestByValue: the table of the least numbers of stamps. Conditions: the slice reads as a list of at most twelve valid stamps; the greatest value is at most 11999. -/
import Derived.Test.YtmbfekfpahlmfaaAreStamps
import Derived.Test.YtmbfekfpahlmfaaOutInt
import Derived.Test.YtmbfekfpahlmfaaPlainCost
import Derived.Test.YtmbfekfpahlmfaaTable
import Derived.StillTailTactics
namespace Go.Proofs.Ytmbfekfpahlmfaa.CostImpl
set_option linter.unusedVariables false
open Go.RowKit
open Go.Proofs.Ytmbfekfpahlmfaa.Rowed Go.Proofs.Ytmbfekfpahlmfaa.PlainStamp Go.Proofs.Ytmbfekfpahlmfaa.Stamp Go.Proofs.Ytmbfekfpahlmfaa.HelpStamp Go.Proofs.Ytmbfekfpahlmfaa.HelpInt Go.Proofs.Ytmbfekfpahlmfaa.OutInt Go.Proofs.Ytmbfekfpahlmfaa.PlainCost Go.Proofs.Ytmbfekfpahlmfaa.Table

/-- the table as values -/
def cv (T : Nat → Nat) (u : Nat) : Value := .int .i64 (T u : Int)
def TabPost (T : Nat → Nat) (most : Nat) (w : World) (e : Ending) (w' : World) : Prop :=
  ∃ g, e = .returned (.slice (some ⟨g, 0, none⟩) (most + 1) (most + 1)) ∧ TabRow 3 w g (most + 1) (cv T) (most + 1) w'

set_option maxHeartbeats 2000000 in
theorem tab_impl (A : Option Addr) (c : Nat) (l : List St) (y : Int) (most : Nat) (w : World) (h : Sts w A l.length l) (hok : Hid (okSts l = true)) (hm : most ≤ 11999) :
    Calls Try.prog 47 #[.slice A l.length c, .int .i64 y, .int .i64 (most : Int)] w (TabPost (cost 12000 y l) most w) := by
  obtain ⟨i0, hi, hz0, hz1, hz2⟩ := info_parts infoI
  have HH := Lib.hid h
  have h12 : l.length ≤ 12 := okSts_len hok.out
  clear h
  have e1 : (most : Int) + 1 = ((most + 1 : Nat) : Int) := by omega
  have E1 := Lib.hid e1
  clear e1
  go_enter Try.func47, Try.ntmps47
  go_wp2_with (at_make; refine wpList_make_full _ rfl _ _ 35 rfl w.heap.size 3 i0 (.int .i64 0) 1 Try.underlying35 hi hz0 hz1 .i64 .i64 _ _ (most + 1) rfl rfl (by first | rfl | omega) (by first | rfl | omega) (by rw [hz2]; omega) (by unfold maxLen; omega) (Nat.le_refl _) ?_; intro w1 hO hG; have R1 := Lib.hid (TabRow.start (T := cv (cost 12000 y l)) hO hG (by omega) (by unfold cv; rw [cost_zero]; rfl)); clear hO hG)
  go_loopw [8] (fun i wr => ∃ v : Nat, 1 ≤ v ∧ v ≤ most + 1 ∧ i = .int .i64 v ∧ Hid (TabRow 3 w w.heap.size (most + 1) (cv (cost 12000 y l)) v wr)) (fun i _ => most + 1 - (intOf i).toNat)
  case atStart => exact ⟨1, Nat.le_refl _, by omega, rfl, R1⟩
  case round =>
    obtain ⟨v, hv1, hv2, rfl, HR⟩ := hrel
    by_cases hlt : v ≤ most
    · obtain ⟨y0, hc, hf⟩ := HR.out.spot (by omega)
      have HI := Lib.hid (HR.out.store (by omega) (.int .i64 (12000 : Int)))
      clear HR
      go_wp2
      clear hc hf
      go_loopw [24] (fun j wr => ∃ k : Nat, k ≤ l.length ∧ j = .int .i64 k ∧ Hid (TabIn 3 w w.heap.size (most + 1) (cv (cost 12000 y l)) v (.int .i64 (sofar (cost 12000 y l) 12000 y v l k : Int)) wr)) (fun j _ => l.length - (intOf j).toNat)
      case atStart => exact ⟨0, Nat.zero_le _, rfl, HI⟩
      case round =>
        obtain ⟨k, hk, rfl, HI⟩ := hrel
        by_cases hlk : k < l.length
        · obtain ⟨ab, ao, s, rfl, hx, hc0, hc1, hc2, hc3⟩ := Sts.at_ HH.out hlk
          have hs := okSt_yes (okSts_at hok.out hx).1
          obtain ⟨ia, ib, ic, id⟩ := s
          have d0 := cell_below HI.out.bel hc0
          have d1 := cell_below HI.out.bel hc1
          have d2 := cell_below HI.out.bel hc2
          have d3 := cell_below HI.out.bel hc3
          have HX := Lib.hid hx
          obtain ⟨_, hf, _, _⟩ := hs
          simp only at hf
          clear hx hc0 hc1 hc2 hc3
          by_cases hy : id ≤ y
          · by_cases hb : ib ≤ (v : Int)
            · obtain ⟨f, rfl⟩ : ∃ f : Nat, ib = (f : Int) := ⟨ib.toNat, by omega⟩
              go_wp2_with fail
              obtain ⟨X, hX⟩ : ∃ X, X = wr.alloc (Obj.cells #[Value.int IntKind.i64 ia, Value.int IntKind.i64 (f : Int), Value.int IntKind.i64 ic, Value.int IntKind.i64 id] 25) := ⟨_, rfl⟩
              rw [← hX]
              have hIX : TabIn 3 w w.heap.size (most + 1) (cv (cost 12000 y l)) v (.int .i64 (sofar (cost 12000 y l) 12000 y v l k : Int)) X := by rw [hX]; exact HI.out.next ((Below.refl _ _).alloc (Nat.le_refl _) _)
              have b1 : X.cell? ⟨wr.heap.size, 1, none⟩ = some (.int .i64 (f : Int)) := by rw [hX]; exact (box4 (Below.refl _ _)).2.1
              obtain ⟨Z, hZ⟩ : ∃ Z, X.drew = Z := ⟨_, rfl⟩
              have hIZ : TabIn 3 w w.heap.size (most + 1) (cv (cost 12000 y l)) v (.int .i64 (sofar (cost 12000 y l) 12000 y v l k : Int)) Z := by rw [← hZ]; exact hIX.next ⟨rfl, rfl, rfl, Nat.le_refl _, fun _ _ => rfl⟩
              have c1 : Z.cell? ⟨wr.heap.size, 1, none⟩ = some (.int .i64 (f : Int)) := by rw [← hZ]; exact b1
              obtain ⟨p0, z0⟩ := hIZ.spot (by omega)
              have hfv : f ≤ v := by omega
              have hle1 := sofar_le (cost 12000 y l) 12000 y v l k
              have hle2 := cost_le 12000 y l (v - f)
              clear d0 d1 d2 d3 hX hIX b1 HI
              generalize wr.heap.size = q at *
              have i0 : (0 : Int) ≤ (v : Int) := by omega
              have i1 : (v : Int) < (most : Int) + 1 := by omega
              have i2 : (v : Int) < ((most + 1 : Nat) : Int) := by omega
              have i3 : (0 : Int) ≤ (v : Int) - (f : Int) := by omega
              have i4 : (v : Int) - (f : Int) < ((most + 1 : Nat) : Int) := by omega
              have i5 : ((v : Int) - (f : Int)).toNat = v - f := by omega
              have i6 : IntKind.i64.wrap ((v : Int) - (f : Int)) = (v : Int) - (f : Int) := IntWalk.i64_in _ (by omega)
              have i7 : (v : Int) - (f : Int) < (most : Int) + 1 := by omega
              by_cases hf0 : f = 0
              · subst hf0
                have HN := Lib.hid (sofar_not (T := cost 12000 y l) (cap := 12000) (y := y) (v := v) HX.out (use_no (by rintro ⟨_, h, _⟩; exact absurd h (by simp))))
                have HZ2 := Lib.hid hIZ
                clear hIZ i3 i4 i5 i6 i7
                generalize hsf : sofar (cost 12000 y l) 12000 y v l k = tk at *
                have j1 : IntKind.i64.wrap ((tk : Int) + 1) = (tk : Int) + 1 := IntWalk.i64_in _ (by omega)
                have j2 : IntKind.i64.wrap (v : Int) = (v : Int) := IntWalk.i64_in _ (by omega)
                clear hsf
                refine wp_region_still_tail 16 (by kernel_rfl) (by kernel_rfl) ?_
                simp only [List.take_succ_cons, List.take_zero, List.drop_succ_cons, List.drop_zero]
                change wpStill _ _ X.drew _ _ _
                rw [hZ]
                repeat still_step
                refine wpStill_nil ?_
                change wpList _ _ _ _ _ X.drew
                rw [hZ]
                clear i0 i1 i2 j1 j2 c1
                go_wp2_with fail
                go_roundw
                case rel =>
                  refine ⟨k + 1, by omega, by go_num, ?_⟩
                  rw [HN.out]
                  have e : (tk : Int) = min (tk : Int) ((tk : Int) + 1) := by omega
                  have hs := HZ2.out.store (by omega) (.int .i64 (min (tk : Int) ((tk : Int) + 1)))
                  rw [← e] at hs
                  first | exact Lib.hid hs | (rw [← e]; exact Lib.hid hs)
                case measure => simp [intOf]; omega
              · have p1 := hIZ.read (u := v - f) (by omega) (by omega)
                unfold cv at p1
                have HN := Lib.hid (sofar_use (T := cost 12000 y l) (cap := 12000) (y := y) (v := v) HX.out (use_yes hy (by simp; omega) hb))
                have HZ2 := Lib.hid hIZ
                clear hIZ
                generalize hsf : sofar (cost 12000 y l) 12000 y v l k = tk at *
                have j1 : IntKind.i64.wrap ((cost 12000 y l (v - f) : Int) + 1) = (cost 12000 y l (v - f) : Int) + 1 := IntWalk.i64_in _ (by omega)
                clear hsf
                refine wp_region_still_tail 16 (by kernel_rfl) (by kernel_rfl) ?_
                simp only [List.take_succ_cons, List.take_zero, List.drop_succ_cons, List.drop_zero]
                change wpStill _ _ X.drew _ _ _
                rw [hZ]
                repeat still_step
                refine wpStill_nil ?_
                change wpList _ _ _ _ _ X.drew
                rw [hZ]
                clear p1 i0 i1 i2 i3 i4 i5 i6 i7 j1 c1
                go_wp2_with fail
                go_roundw
                case rel =>
                  refine ⟨k + 1, by omega, by go_num, ?_⟩
                  rw [HN.out]
                  have e : ((min tk (cost 12000 y l (v - (f : Int).toNat) + 1) : Nat) : Int) = min (tk : Int) ((cost 12000 y l (v - f) : Int) + 1) := by rw [Int.toNat_natCast]; omega
                  rw [e]
                  exact Lib.hid (HZ2.out.store (by omega) _)
                case measure => simp [intOf]; omega
            · have HN := Lib.hid (sofar_not (T := cost 12000 y l) (cap := 12000) (y := y) (v := v) HX.out (use_no (by rintro ⟨_, _, h⟩; exact hb h)))
              go_wp2_with fail
              go_roundw
              case rel => exact ⟨k + 1, by omega, by go_num, by rw [HN.out]; exact Lib.hid (HI.out.next ((Below.refl _ _).alloc (Nat.le_refl _) _))⟩
              case measure => simp [intOf]; omega
          · have HN := Lib.hid (sofar_not (T := cost 12000 y l) (cap := 12000) (y := y) (v := v) HX.out (use_no (by rintro ⟨h, _, _⟩; exact hy h)))
            go_wp2_with fail
            go_roundw
            case rel => exact ⟨k + 1, by omega, by go_num, by rw [HN.out]; exact Lib.hid (HI.out.next ((Below.refl _ _).alloc (Nat.le_refl _) _))⟩
            case measure => simp [intOf]; omega
        · obtain rfl : k = l.length := by omega
          have HD := Lib.hid (HI.out.done (by unfold cv; rw [sofar_all, ← cost_eq 12000 y l (by omega)]))
          clear HI
          go_wp2_with fail
          go_roundw
          case rel => exact ⟨v + 1, by omega, by omega, by go_num, HD⟩
          case measure => simp [intOf]; omega
    · obtain rfl : v = most + 1 := by omega
      go_wp2_with fail
      go_ret
      exact ⟨_, rfl, HR.out⟩
end Go.Proofs.Ytmbfekfpahlmfaa.CostImpl
