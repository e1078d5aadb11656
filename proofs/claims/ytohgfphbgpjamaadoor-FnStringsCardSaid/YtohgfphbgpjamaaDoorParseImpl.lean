/- The contract of impl.ParseInt: it reads a decimal numeral within -999999..999999, and nothing else. Conditions: the string has at most 2^47 bytes; the library's table and errors are as the library lays them. -/
import Derived.Test.YtohgfphbgpjamaaDoorFmt
import Derived.Test.YtohgfphbgpjamaaDoorParse
import Derived.Lib.AtoiErrMem
namespace Go.Proofs.YtohgfphbgpjamaaDoor.ParseImpl
set_option linter.unusedVariables false
open Go.RowKit
open Go.Proofs.YtohgfphbgpjamaaDoor.Num Go.Proofs.YtohgfphbgpjamaaDoor.PlainNum Go.Proofs.YtohgfphbgpjamaaDoor.Parse Go.Proofs.YtohgfphbgpjamaaDoor.Fmt

def ParsePost (l : List UInt8) (w : World) (e : Ending) (w' : World) : Prop :=
  ∃ v b, e = .returned (.tuple #[.int .i64 v, .bool b]) ∧ Rd l v b ∧ Below w.heap.size w w'

def Errs (w : World) : Prop := (∃ tp p, w.var? Tryd.prog "strconv.ErrSyntax" = some #[.iface tp p]) ∧ ∃ tp p, w.var? Tryd.prog "strconv.ErrRange" = some #[.iface tp p]

theorem atoi_ok (s : ByteArray) (v : Int) (w : World) (hm : s.size ≤ 140737488355328) (h : Lib.atoiAll s.data.toList = .ok v) (ht : Hid (Tab w)) :
    Calls Tryd.prog 28 #[.string s] w fun e w' => e = .returned (.tuple #[.int .i64 v, .nilIface]) ∧ Below w.heap.size w w' ∧ Hid (Tab w') := by
  refine (Tryd.strconv_Atoi_ok s (by omega) v h w).mono ?_
  rintro e w' ⟨rfl, rfl | ⟨t, rfl⟩⟩
  · exact ⟨rfl, Below.refl _ _, ht⟩
  · exact ⟨rfl, Lib.bytesWorld_below _ _ _, Lib.bytesWorld_var _ _ _ ht⟩

theorem atoi_err (s : ByteArray) (w : World) (hm : s.size ≤ 140737488355328) (h : ∀ v, Lib.atoiAll s.data.toList ≠ .ok v) (hE : Errs w) :
    Calls Tryd.prog 28 #[.string s] w fun e w' => ∃ v N, e = .returned (.tuple #[.int .i64 v, .iface 65 (.pointer (some ⟨N, 0, none⟩))]) ∧ Below w.heap.size w w' := by
  obtain ⟨⟨t1, p1, h1⟩, t2, p2, h2⟩ := hE
  cases hx : Lib.atoiAll s.data.toList with
  | ok v => exact absurd hx (h v)
  | «syntax» => exact (Tryd.strconv_Atoi_syntax_var s (by omega) hx t1 p1 w h1).mono fun e w' ⟨N, he, _, _, hb⟩ => ⟨_, N, he, hb⟩
  | range => exact (Tryd.strconv_Atoi_range_var s (by omega) hx t2 p2 w h2).mono fun e w' ⟨N, he, _, _, hb⟩ => ⟨_, N, he, hb⟩

theorem no_of {l : List UInt8} (h : ∀ v, Lib.atoiAll l = .ok v → ¬ Inv l v) (n : Int) : ¬ Inv l n := by
  intro k
  have e := atoi_itoa n k.1 k.2.1
  rw [k.2.2] at e
  exact h n e k

theorem no_other {l : List UInt8} {v : Int} (h : Lib.atoiAll l = .ok v) (k : ¬ Inv l v) : ∀ n, ¬ Inv l n :=
  no_of fun u hu => by rw [h] at hu; injection hu with hu; exact hu ▸ k

set_option maxHeartbeats 400000 in
theorem implParseInt_any (s : ByteArray) (w : World) (hm : s.size ≤ 140737488355328) (ht : Hid (Tab w)) (hE : Hid (Errs w)) :
    Calls Tryd.prog 13 #[.string s] w (ParsePost s.data.toList w) := by
  by_cases hx : ∃ v, Lib.atoiAll s.data.toList = .ok v
  · obtain ⟨v, hv⟩ := hx
    have HV := Lib.hid hv
    clear hv
    by_cases hb : -999999 ≤ v ∧ v ≤ 999999
    · obtain ⟨hb1, hb2⟩ := hb
      go_enter Tryd.func13, Tryd.ntmps13
      go_wp2_with (first | (go_at_call 28; refine (atoi_ok s v w hm HV.out ht).mono ?_; rintro e w1 ⟨rfl, hB1, ht1⟩) | (go_at_call 10; refine (implFormatInt_ok v w1 hb1 hb2 ht1).mono ?_; rintro e w2 ⟨rfl, hB2⟩))
      all_goals go_ret2
      · rename_i hne
        exact ⟨0, false, rfl, .no (no_other HV.out fun k => ne_of hne k.2.2), hB1.trans (hB2.mono hB1.size)⟩
      · rename_i heq
        exact ⟨v, true, rfl, .yes ⟨hb1, hb2, eq_of heq⟩, hB1.trans (hB2.mono hB1.size)⟩
    · have hb' : v < -999999 ∨ 999999 < v := by omega
      go_enter Tryd.func13, Tryd.ntmps13
      go_wp2_with (first | (go_at_call 28; refine (atoi_ok s v w hm HV.out ht).mono ?_; rintro e w1 ⟨rfl, hB1, ht1⟩) | (go_at_call 10; refine (implFormatInt_no v w1 hb').mono ?_; rintro e w2 ⟨rfl, rfl⟩))
      go_ret2
      exact ⟨0, false, rfl, .no (no_other HV.out fun k => by have := k.1; have := k.2.1; omega), hB1⟩
  · have HX : Hid (∀ v, Lib.atoiAll s.data.toList ≠ .ok v) := Lib.hid fun v h => hx ⟨v, h⟩
    clear hx
    go_enter Tryd.func13, Tryd.ntmps13
    go_wp2_with (go_at_call 28; refine (atoi_err s w hm HX.out hE.out).mono ?_; rintro e w1 ⟨v, N, rfl, hB1⟩)
    go_ret2
    exact ⟨0, false, rfl, .no (no_of fun u hu => absurd hu (HX.out u)), hB1⟩

end Go.Proofs.YtohgfphbgpjamaaDoor.ParseImpl
