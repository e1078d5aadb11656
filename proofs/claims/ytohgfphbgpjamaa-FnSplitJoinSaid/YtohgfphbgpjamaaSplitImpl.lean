/- The contract of impl.SplitString: a new slice that holds the pieces of the string between the separating bytes, or an empty slice and false. Condition: the strings have at most 1048576 bytes. -/
import Derived.Test.YtohgfphbgpjamaaPartsIter
import Derived.RangeFuncWrites
import Derived.RangeFuncFrom
import Derived.Shelf.Abstract
import Derived.Maps.AppendAt
import Derived.Maps.OwnIn
namespace Go.Proofs.Ytohgfphbgpjamaa.SplitImpl
set_option linter.unusedVariables false
open Go.RowKit Go.Shelf
open Go.Proofs.Ytohgfphbgpjamaa.PlainSplit Go.Proofs.Ytohgfphbgpjamaa.PartsIter
attribute [local go_sem] Oper.semAt_some

theorem infoS : (Try.prog.info? 9).map (fun i => (i.zero, i.size, i.bytes)) = some (some (.string ByteArray.empty), 1, 16) := by kernel_rfl

theorem parts_in (n : Nat) (s : ByteArray) (b : UInt8) (w : World) :
    CallsIn Fence.wide n Try.prog 27 #[.string s, .int .u8 (b.toNat : Int)] w fun e w' => e = .returned (.func (.func 36) #[] #[.pointer (some ⟨w.heap.size, 0, none⟩), .pointer (some ⟨w.heap.size + 1, 0, none⟩)]) ∧
      w' = (w.alloc (.cells #[.string s] 9)).alloc (.cells #[.int .u8 (b.toNat : Int)] 5) := by
  refine callsIn_of_wp Try.func27 rfl trivial ?_ rfl
  simp only [Try.ntmps27, List.size_toArray, List.length_cons, List.length_nil, Nat.reduceAdd, Nat.reduceSub, Array.replicate_succ, Array.replicate_zero, List.push_toArray, List.append_toArray, List.nil_append, List.cons_append]
  gi_wp2
  go_ret
  exact ⟨rfl, rfl⟩

theorem stops (n : Nat) (hn : 1 ≤ n) (B1 B2 : Nat) (s : ByteArray) (b : UInt8) (hs : s.size ≤ 4000) (w : World)
    (c1 : w.cell? ⟨B1, 0, none⟩ = some (.string s)) (c2 : w.cell? ⟨B2, 0, none⟩ = some (.int .u8 (b.toNat : Int))) :
    SeqStopsK Fence.wide n Try.prog 36 #[.pointer (some ⟨B1, 0, none⟩), .pointer (some ⟨B2, 0, none⟩)] (fun x : ByteArray => #[Value.string x]) (Kp2 B1 B2) (fun ys => ys = split s b) (fun pre => pre <+: split s b) (split s b).length w :=
  fun l J Jx W hW hJ _ hY h0 =>
    iter_in n hn l B1 B2 s b hs J Jx W (fun pre W1 W2 h hg => hJ pre W1 W2 none h hg (fun r e => by cases e)) hY
      ((hW.cell (p := ⟨B1, 0, none⟩) (World.block_lt_of_cell? w _ c1)).trans c1) ((hW.cell (p := ⟨B2, 0, none⟩) (World.block_lt_of_cell? w _ c2)).trans c2) h0

theorem kp2_b {B1 B2 : Nat} (W : World) (l : Nat) (o o' : Obj) (h : W.heap[l]? = some o) (hc : o.isCells = false) : Kp2 B1 B2 W (W.putObj l o') := by
  have key : ∀ B v, W.cell? ⟨B, 0, none⟩ = some v → (W.putObj l o').cell? ⟨B, 0, none⟩ = some v := by
    intro B v hv
    refine cell_kept hv (grownBy_putObj' W l o') (fun r e => ?_)
    cases e
    exact ⟨o, h, hc⟩
  exact ⟨fun v hv => key B1 v hv, fun v hv => key B2 v hv⟩

theorem kp2_app {W w1 : World} {tmp : Obj} {v v' : Value} {BX B1 B2 : Nat} (hg : (W.alloc tmp).grownBy w1 v.ownBlock) (h1 : v.ownBlock ≠ some B1) (h2 : v.ownBlock ≠ some B2) (e1 : BX ≠ B1) (e2 : BX ≠ B2) :
    Kp2 B1 B2 W (w1.setCell ⟨BX, 0, none⟩ v') := by
  have key : ∀ B u, v.ownBlock ≠ some B → BX ≠ B → W.cell? ⟨B, 0, none⟩ = some u → (w1.setCell ⟨BX, 0, none⟩ v').cell? ⟨B, 0, none⟩ = some u := by
    intro B u hb he hu
    have hlt := World.block_lt_of_cell? W _ hu
    rw [World.cell?_setCell_other _ _ _ _ (by intro e; injection e with e; omega)]
    exact hg.cell ((World.cell?_alloc_lt W tmp _ hlt).trans hu) (fun e => hb e.symm)
  exact ⟨fun u hu => key B1 u h1 e1 hu, fun u hu => key B2 u h2 e2 hu⟩
theorem own_ne {v v' : Value} {k B : Nat} (h : v'.ownBlock = v.ownBlock ∨ v'.ownBlock = some k) (hv : v.ownBlock ≠ some B) (hk : B < k) : v'.ownBlock ≠ some B := by
  rcases h with h | h
  · rw [h]; exact hv
  · rw [h]; intro e; injection e with e; omega

theorem own_second (w : World) (k : Nat) (hk : w.heap.size ≤ k) : OwnFrom k (fun (_ : List ByteArray) W => Below w.heap.size w W ∧ k ≤ W.heap.size) :=
  fun s W W' row hs hg hr => ⟨hs.1.grown hg hs.1.size (fun r e => by have := (hr r e).1; omega), Nat.le_trans hs.2 hg.size⟩

theorem owns_empty (w : World) (e : TypeId) : (w.alloc (.cells #[] e)).ownsRow w.heap.size e 1 (.slice (some ⟨w.heap.size, 0, none⟩) 0 0) 0 [] :=
  ⟨rfl, .inr ⟨w.heap.size, 0, #[], rfl, Nat.le_refl _, heap_alloc_new w _, Nat.le_refl _, by unfold maxLen; omega, rfl, rfl⟩⟩

def SplPost (s : ByteArray) (b : UInt8) (w : World) (e : Ending) (w' : World) : Prop :=
  ∃ g cap, e = .returned (.tuple #[.slice (some ⟨g, 0, none⟩) (split s b).length cap, .bool true]) ∧ w'.ownsRow w.heap.size 9 1 (.slice (some ⟨g, 0, none⟩) (split s b).length cap) (split s b).length ((split s b).map Value.string) ∧ Below w.heap.size w w'

set_option maxRecDepth 100000 in
set_option maxHeartbeats 2000000 in
theorem split_in (n : Nat) (hn : 3 ≤ n) (s : ByteArray) (b : UInt8) (hs : s.size ≤ 4000) (w : World) :
    CallsIn Fence.wide n Try.prog 10 #[.string s, .string ⟨#[b]⟩] w (SplPost s b w) := by
  have h1 : 1 ≤ n := by omega
  obtain ⟨i0, hi, hz0, hz1, hz2⟩ := info_parts infoS
  refine callsIn_of_wp_marks Try.func10 rfl trivial ?_ rfl
  simp only [Try.ntmps10, List.size_toArray, List.length_cons, List.length_nil, Nat.reduceAdd, Nat.reduceSub, Array.replicate_succ, Array.replicate_zero, List.push_toArray, List.append_toArray, List.nil_append, List.cons_append]
  have hd : decide (4000 < (s.size : Int)) = false := by simp; omega
  gi_wp2_with (refine ⟨trivial, ?_⟩; gi_at_call 27; refine (parts_in (n - 1) s b _).mono ?_; rintro e w' ⟨rfl, rfl⟩)
  obtain ⟨w4, hw4⟩ : ∃ w4, (((w.alloc (.cells #[] 9)).alloc (.cells #[.slice (some ⟨w.heap.size, 0, none⟩) 0 0] 26)).alloc (.cells #[.string s] 9)).alloc (.cells #[.int .u8 (b.toNat : Int)] 5) = w4 := ⟨_, rfl⟩
  have hsz4 : w4.heap.size = w.heap.size + 1 + 1 + 1 + 1 := by rw [← hw4]; simp
  have bO : Boxed w4 (w.heap.size + 1) 26 (.slice (some ⟨w.heap.size, 0, none⟩) 0 0) := by
    rw [← hw4]
    have := Boxed.new (w.alloc (.cells #[] 9)) 26 (.slice (some ⟨w.heap.size, 0, none⟩) 0 0)
    rw [World.size_alloc] at this
    exact (this.alloc _).alloc _
  have hrow4 : w4.ownsRow w.heap.size 9 1 (.slice (some ⟨w.heap.size, 0, none⟩) 0 0) 0 [] := by
    rw [← hw4]
    exact (((owns_empty w 9).alloc _).alloc _).alloc _
  have k1 : w4.cell? ⟨w.heap.size + 1 + 1, 0, none⟩ = some (.string s) := by
    rw [← hw4]
    have := Boxed.new ((w.alloc (.cells #[] 9)).alloc (.cells #[.slice (some ⟨w.heap.size, 0, none⟩) 0 0] 26)) 9 (.string s)
    rw [World.size_alloc, World.size_alloc] at this
    exact (this.alloc _).cell
  have k2 : w4.cell? ⟨w.heap.size + 1 + 1 + 1, 0, none⟩ = some (.int .u8 (b.toNat : Int)) := by
    rw [← hw4]
    have := Boxed.new (((w.alloc (.cells #[] 9)).alloc (.cells #[.slice (some ⟨w.heap.size, 0, none⟩) 0 0] 26)).alloc (.cells #[.string s] 9)) 5 (.int .u8 (b.toNat : Int))
    rw [World.size_alloc, World.size_alloc, World.size_alloc] at this
    exact this.cell
  have hB4 : Below w.heap.size w w4 := by
    rw [← hw4]
    exact ((((Below.refl _ w).alloc (Nat.le_refl _) _).alloc (by simp) _).alloc (by simp; omega) _).alloc (by simp; omega) _
  rw [hw4]
  clear hw4
  refine wpIn_rangeFunc_ownG rfl h1 (gf := 36) (lb := #[.pointer (some ⟨w.heap.size + 1 + 1, 0, none⟩), .pointer (some ⟨w.heap.size + 1 + 1 + 1, 0, none⟩)]) rfl trivial (enters_of Try.func36 (by kernel_rfl) rfl)
    (stops (n - 1) (by omega) (w.heap.size + 1 + 1) (w.heap.size + 1 + 1 + 1) s b hs w4 k1 k2) Kp2.trans (fun W l o o' _ h hc _ => kp2_b W l o o' h hc) (Below.refl _ _) (fun _ => rfl)
    (fun pre W => (∃ v, Boxed W (w.heap.size + 1) 26 v ∧ W.ownsRow w.heap.size 9 1 v pre.length (pre.map Value.string) ∧ (v.ownBlock ≠ some (w.heap.size + 1 + 1) ∧ v.ownBlock ≠ some (w.heap.size + 1 + 1 + 1))) ∧ (Below w.heap.size w W ∧ w4.heap.size ≤ W.heap.size))
    (fun _ _ _ => False)
    (OwnFrom.and (Own.from (holdsRow_own w.heap.size (w.heap.size + 1) 26 9 1 (fun (pre : List ByteArray) => pre.length) (fun pre => pre.map Value.string) (fun pre v => v.ownBlock ≠ some (w.heap.size + 1 + 1) ∧ v.ownBlock ≠ some (w.heap.size + 1 + 1 + 1))) _) (own_second w _ (by omega)))
    (fun _ _ _ _ _ hs _ _ => hs)
    ⟨⟨_, bO, hrow4, by constructor <;> (show some w.heap.size ≠ some _; intro e; injection e; omega)⟩, hB4, Nat.le_refl _⟩
    (fun x => { tmps := #[.string s, .string ⟨#[b]⟩, undef, undef, .slice none 0 0, .bool false, .pointer (some ⟨w.heap.size + 1, 0, none⟩), .string x, .string s, .int .i64 s.size, .bool false, .bool false, .string ⟨#[b]⟩, .int .i64 1, .bool false, .bool false, undef,
      .slice (some ⟨w.heap.size, 0, none⟩) 0 0, .string s, .string ⟨#[b]⟩, .int .u8 (b.toNat : Int), .func (.func 36) #[] #[.pointer (some ⟨w.heap.size + 1 + 1, 0, none⟩), .pointer (some ⟨w.heap.size + 1 + 1 + 1, 0, none⟩)],
      .string x, undef, undef, undef, undef, undef], defers := [] }) ?assign ?body ?done ?stop
  case assign =>
    intro l x W K hK
    gi_wp2
    exact hK
  case body =>
    rintro l pre x W ⟨⟨v, hv, hrow, hnb1, hnb2⟩, hB, hsz⟩ hlt
    have hc := hv.cell
    have hN := (split_len s b).2
    have hpl : pre.length ≤ 4001 := by omega
    have NB := Lib.hid (And.intro hnb1 hnb2)
    have HSZ := Lib.hid hsz
    have HROW := Lib.hid hrow
    have HBB := Lib.hid hB
    have HV := Lib.hid hv
    clear hnb1 hnb2 hlt hN k1 k2 hrow4 bO hsz hv
    gi_wp2_with (gi_at_builtin; refine wpListIn_append_own_at _ rfl _ _ 26 rfl w.heap.size 9 i0 (.string ByteArray.empty) 1 16 Try.underlying26 hi hz0 hz1 hz2 rfl (by decide) _ _ _ rfl (hrow.alloc _) ⟨W.heap.size, 0, none⟩ 1 1 [.string x] rfl rfl (cell_one_new _ _ _) (by simp [Value.oneCell']) (by unfold maxLen; omega) (by omega) (by have := hB.size; simp; omega) ?_; intro v' w1 hown' hgrow _ hat; obtain ⟨g', cap', rfl⟩ := ownsRow_succ hown'; obtain ⟨hv1, hv2, hr2, hk2, hb2⟩ := HV.out.appended (by decide) HROW.out hB.size (by omega) hown' hgrow; have hc1 := hv1.cell; have hf1 := hv1.frozen; have AT := Lib.hid hat; have OW := Lib.hid hr2; have GR := Lib.hid hgrow; have K2 := Lib.hid hk2; have B2 := Lib.hid hb2; have V2 := Lib.hid hv2; clear hat hr2 hgrow hk2 hb2 hv2 hown')
    exact ⟨K2.out.from _, kp2_app GR.out NB.out.1 NB.out.2 (by omega) (by omega),
      ⟨_, V2.out, by simpa using OW.out, own_ne AT.out NB.out.1 (by have := HSZ.out; simp; omega), own_ne AT.out NB.out.2 (by have := HSZ.out; simp; omega)⟩, HBB.out.trans B2.out, Nat.le_trans HSZ.out B2.out.size⟩
  case done =>
    rintro D ys W hD rfl ⟨⟨v, hv, hrow, hnb⟩, hB, hsz⟩ hK
    obtain ⟨g, cap, rfl⟩ : ∃ g cap, v = .slice (some ⟨g, 0, none⟩) (split s b).length cap := by
      have hne := (split_len s b).1
      rcases hrow.2 with ⟨_, h⟩ | ⟨g3, cap3, _, h, _⟩
      · omega
      · exact ⟨g3, cap3, h⟩
    have hc := hv.cell
    have OW := Lib.hid (ownsRow_putObj hrow (.deferred none) hK rfl)
    have BB := Lib.hid (hB.trans (belowK_b (w := w) (Nat.le_refl _) W D _ (.deferred none) (by omega) hK rfl rfl))
    clear hrow hB hnb k1 k2 hrow4 bO
    gi_wp2
    refine ⟨by simp, .inl ⟨_, _, rfl, run_takeDeferred hK, ?_⟩⟩
    exact ⟨_, results_tmp2 rfl _ _ _, g, cap, rfl, OW.out, BB.out⟩
  case stop =>
    rintro D c pre W _ _ h _
    exact h.elim
end Go.Proofs.Ytohgfphbgpjamaa.SplitImpl
