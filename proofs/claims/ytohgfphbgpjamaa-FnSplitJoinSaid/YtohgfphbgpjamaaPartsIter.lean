/- The contract of the function value that impl.partsOf hands back: for every loop body it yields the pieces of its string between the separating bytes, in order. Condition: the string has at most 4000 bytes. -/
import Derived.Test.YtohgfphbgpjamaaChecked
import Derived.Test.YtohgfphbgpjamaaPlainSplit
import Derived.RangeFuncBox
import Derived.RangeFuncLeaves
import Derived.RangeFuncKeeps
import Derived.WalkKit
import Derived.OwnWalkIn
import Derived.TacticsInMore
import Derived.LoopNIn
import Derived.LoopIn
import Derived.Sort.LoopGhostIn
import Derived.Sort.QuietIn
import Derived.WalkMore
import Derived.Lib.Hide
import Derived.WalkSpells
import Derived.Outline
namespace Go.Proofs.Ytohgfphbgpjamaa.PartsIter
set_option linter.unusedVariables false
open Go.RowKit
open Go.Proofs.Ytohgfphbgpjamaa.PlainSplit

theorem wpIn_scope_wide {n : Nat} {P : Program} {c : Code} {Q : Exit → Act → World → Prop} {a : Act} {w : World} (h : c.wpIn Fence.wide n P (Exit.noGoto Q) a w) : (Code.scope c).wpIn Fence.wide n P Q a w :=
  wpIn_wide.2 (wp_scope_straight (wpIn_wide.1 h))

/-- what a round keeps: the two cells that the iterator reads -/
def Kp2 (B1 B2 : Nat) (W W' : World) : Prop := (∀ v, W.cell? ⟨B1, 0, none⟩ = some v → W'.cell? ⟨B1, 0, none⟩ = some v) ∧ ∀ v, W.cell? ⟨B2, 0, none⟩ = some v → W'.cell? ⟨B2, 0, none⟩ = some v
theorem Kp2.trans {B1 B2 : Nat} {A B C : World} (h : Kp2 B1 B2 A B) (k : Kp2 B1 B2 B C) : Kp2 B1 B2 A C := ⟨fun v hv => k.1 v (h.1 v hv), fun v hv => k.2 v (h.2 v hv)⟩
/-- the two cells -/
def Two (B1 B2 : Nat) (s : ByteArray) (b : UInt8) (W : World) : Prop := W.cell? ⟨B1, 0, none⟩ = some (.string s) ∧ W.cell? ⟨B2, 0, none⟩ = some (.int .u8 (b.toNat : Int))

theorem grown_drewN (W : World) (m : Nat) : W.grownBy (W.drewN m) none := ⟨rfl, rfl, rfl, Nat.le_refl _, fun _ _ _ => rfl⟩

set_option maxRecDepth 100000 in
set_option maxHeartbeats 2000000 in
theorem iter_in (n : Nat) (hn : 1 ≤ n) (l B1 B2 : Nat) (s : ByteArray) (b : UInt8) (hs : s.size ≤ 4000) (J Jx : List ByteArray → World → Prop)
    (W : World)
    (hJ : ∀ pre W1 W2, J pre W1 → W1.grownBy W2 none → J pre W2)
    (hY : ∀ pre x W1, J pre W1 → pre.length < (split s b).length → YieldAt Fence.wide (n - 1) Try.prog l #[.string x] W1 fun e W' =>
      (e = .returned (.bool true) ∧ J (pre ++ [x]) W' ∧ Kp2 B1 B2 W1 W') ∨ (e = .returned (.bool false) ∧ Jx (pre ++ [x]) W'))
    (h1 : W.cell? ⟨B1, 0, none⟩ = some (.string s)) (h2 : W.cell? ⟨B2, 0, none⟩ = some (.int .u8 (b.toNat : Int))) (h0 : J [] W) :
    CallsIn Fence.wide n Try.prog 36 #[.func (.yield l) #[] #[], .pointer (some ⟨B1, 0, none⟩), .pointer (some ⟨B2, 0, none⟩)] W fun e W' => (∃ v, e = .returned v) ∧
      ((∃ ys, ys = split s b ∧ J ys W') ∨ (∃ pre, pre <+: split s b ∧ Jx pre W')) := by
  refine callsIn_of_wp Try.func36 rfl trivial ?_ rfl
  simp only [Try.ntmps36, List.size_toArray, List.length_cons, List.length_nil, Nat.reduceAdd, Nat.reduceSub, Array.replicate_succ, Array.replicate_zero, List.push_toArray, List.append_toArray, List.nil_append, List.cons_append]
  gi_wp2
  refine wpIn_scope_wide ?_
  gi_wp2
  refine wpIn_label ?_
  gi_wp2
  gi_loopg [4, 5] (s.size + 1) (fun g t4 t5 wr => ∃ f : Nat, f ≤ s.size ∧ s.size + 1 ≤ f + g ∧ t4 = .int .i64 f ∧ Hid (frm s b f = f) ∧ J (outs s b f) wr ∧ Hid (Two B1 B2 s b wr))
  case atStart => exact ⟨0, Nat.zero_le _, by omega, rfl, Lib.hid rfl, h0, Lib.hid ⟨h1, h2⟩⟩
  case round =>
    obtain ⟨f, hf, hg, rfl, HF, hJf, HB⟩ := hrel
    cases gk with
    | zero => omega
    | succ g =>
      gi_wp2
      obtain ⟨wo, rfl⟩ : ∃ wo : World, wo = wr := ⟨_, rfl⟩
      gi_loopg [4, 5] (s.size + 1) (fun g2 t4 t5 wx => ∃ k : Nat, f ≤ k ∧ k ≤ s.size ∧ s.size + 1 ≤ k + g2 ∧ t4 = .int .i64 f ∧ t5 = .int .i64 k ∧ Hid (frm s b k = f) ∧ Hid (outs s b k = outs s b f) ∧ J (outs s b f) wx ∧ Hid (Two B1 B2 s b wx))
      case atStart => exact ⟨f, Nat.le_refl _, hf, by omega, rfl, rfl, HF, Lib.hid rfl, hJf, HB⟩
      case round =>
        obtain ⟨k, hfk, hk, hg2, rfl, rfl, HF2, HO2, hJk, HB2⟩ := hrel
        cases gk with
        | zero => omega
        | succ g2 =>
          have c1 : wr.cell? ⟨B1, 0, none⟩ = some (.string s) := HB2.out.1
          have c2 : wr.cell? ⟨B2, 0, none⟩ = some (.int .u8 (b.toNat : Int)) := HB2.out.2
          by_cases hlt : k < s.size
          · by_cases hc : s[k] = b
            · have hb1 : ((s[k].toNat : Int) != (b.toNat : Int)) = false := by rw [hc]; simp
              have HC := Lib.hid hc
              have HO3 := Lib.hid ((outs_hit s b k hlt hc).trans (by rw [HF2.out, HO2.out]))
              have HF3 := Lib.hid (frm_hit s b k hlt hc)
              have HL := Lib.hid (outs_lt s b f hf)
              have HP := Lib.hid (outs_split s b (k + 1) (by omega))
              clear hc
              gi_wp2
              gi_quiet (fail)
              have hJ3 := hJ _ _ _ hJk (grown_drewN wr nq)
              have HB3 : Hid (Two B1 B2 s b (wr.drewN nq)) := Lib.hid HB2.out
              obtain ⟨fn, tmps, assign, body, hy, hR⟩ := hY (outs s b f) (s.extract f k) (wr.drewN nq) hJ3 HL.out
              gi_wp2
              refine hR.mono ?_
              rintro e W3 (⟨rfl, hJ4, hk4⟩ | ⟨rfl, hJx4⟩)
              · have HB4 : Hid (Two B1 B2 s b W3) := Lib.hid ⟨hk4.1 _ HB3.out.1, hk4.2 _ HB3.out.2⟩
                rw [← HO3.out] at hJ4
                clear hy hk4
                gi_wp2
                gi_roundg g
                case rel => exact ⟨k + 1, by omega, by omega, by go_num, HF3, hJ4, HB4⟩
                case measure => omega
              · rw [← HO3.out] at hJx4
                clear hy
                gi_wp2
                rw [Exit.noGoto_ret]
                refine bodyPost_ret (results_none rfl _ _ _) rfl ?_
                exact ⟨⟨_, rfl⟩, .inr ⟨_, HP.out, hJx4⟩⟩
            · have hb1 : ((s[k].toNat : Int) != (b.toNat : Int)) = true := by rw [bne_iff_ne]; intro e; exact hc (UInt8.toNat_inj.1 (by omega))
              have HC := Lib.hid hc
              clear hc
              gi_wp2
              gi_quiet (fail)
              gi_wp2
              have hJ3 := hJ _ _ _ hJk (grown_drewN wr nq)
              have HB3 : Hid (Two B1 B2 s b (wr.drewN nq)) := Lib.hid HB2.out
              gi_roundg g2
              case measure => omega
              case rel => exact ⟨k + 1, by omega, by omega, by omega, rfl, by go_num, Lib.hid ((frm_miss s b k hlt HC.out).trans HF2.out), Lib.hid ((outs_miss s b k hlt HC.out).trans HO2.out), hJ3, HB3⟩
          · obtain rfl : k = s.size := by omega
            have HL := Lib.hid (outs_lt s b f hf)
            have HS : Hid (outs s b f ++ [s.extract f s.size] = split s b) := Lib.hid (by unfold split; rw [HO2.out, HF2.out])
            obtain ⟨fn, tmps, assign, body, hy, hR⟩ := hY (outs s b f) (s.extract f s.size) wr hJk HL.out
            gi_wp2
            refine hR.mono ?_
            rintro e W3 (⟨rfl, hJ4, hk4⟩ | ⟨rfl, hJx4⟩)
            · rw [HS.out] at hJ4
              clear hy hk4
              gi_wp2
              rw [Exit.noGoto_ret]
              refine bodyPost_ret (results_none rfl _ _ _) rfl ?_
              exact ⟨⟨_, rfl⟩, .inl ⟨_, rfl, hJ4⟩⟩
            · rw [HS.out] at hJx4
              clear hy
              gi_wp2
              rw [Exit.noGoto_ret]
              refine bodyPost_ret (results_none rfl _ _ _) rfl ?_
              exact ⟨⟨_, rfl⟩, .inr ⟨_, List.prefix_rfl, hJx4⟩⟩
end Go.Proofs.Ytohgfphbgpjamaa.PartsIter
