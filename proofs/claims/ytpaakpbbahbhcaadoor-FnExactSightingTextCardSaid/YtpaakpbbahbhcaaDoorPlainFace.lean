/- Plain words on the text of a face, and on short decimal texts. No condition. -/
import Derived.Test.YtpaakpbbahbhcaaDoorPlainNum
namespace Go.Proofs.YtpaakpbbahbhcaaDoor.PlainFace
set_option linter.unusedVariables false
open Go.Proofs.YtpaakpbbahbhcaaDoor.PlainNum

def dig (d : Int) : UInt8 := UInt8.ofNat (48 + d.toNat)
theorem itoa_nn {n : Int} (h : 0 ≤ n) : Lib.itoa n = Lib.decDigits n.toNat := by
  rcases itoa_cases n with ⟨h1, _⟩ | ⟨_, e⟩
  · omega
  · rw [e]; congr 1; omega
theorem itoa_dig {d : Int} (h0 : 0 ≤ d) (h : d < 10) : Lib.itoa d = [dig d] := by
  rw [itoa_nn h0, Lib.decDigits_one (by omega)]
  rfl
theorem dec_step (n : Nat) (h : 10 ≤ n) : Lib.decDigits n = Lib.decDigits (n / 10) ++ [UInt8.ofNat (48 + n % 10)] := by
  rw [Lib.decDigits, dif_neg (by omega)]
theorem itoa_hund {r : Int} (h0 : 0 ≤ r) (h : r < 100) : Lib.itoa (100 + r) = [49, dig (r / 10), dig (r % 10)] := by
  rw [itoa_nn (by omega), dec_step _ (by omega), dec_step _ (by omega), Lib.decDigits_one (by omega)]
  unfold dig
  rw [show (100 + r).toNat / 10 / 10 = 1 by omega, show (100 + r).toNat / 10 % 10 = (r / 10).toNat by omega, show (100 + r).toNat % 10 = (r % 10).toNat by omega]
  rfl
theorem itoa_hund' {n : Int} (h0 : 0 ≤ n) : Lib.itoa (100 + n % 100) = [49, dig (n % 100 / 10), dig (n % 10)] := by
  rw [itoa_hund (by omega) (by omega), show n % 100 % 10 = n % 10 by omega]
theorem itoa_short {n : Int} (h1 : -999999 ≤ n) (h2 : n ≤ 999999) : (Lib.itoa n).length ≤ 7 := (itoa_len n h1 h2).2
/-- the text of a face -/
def faceL (n : Int) : List UInt8 := Lib.itoa (n / 100) ++ [46] ++ Lib.itoa (n / 10 % 10) ++ Lib.itoa (n % 10)
theorem faceL_len {n : Int} (h0 : 0 ≤ n) (h : n ≤ 9999) : (faceL n).length ≤ 30 := by
  unfold faceL
  have a := itoa_short (n := n / 100) (by omega) (by omega)
  have b := itoa_short (n := n / 10 % 10) (by omega) (by omega)
  have c := itoa_short (n := n % 10) (by omega) (by omega)
  simp only [List.length_append, List.length_cons, List.length_nil]
  omega
theorem faceL_hund {n : Int} (h0 : 0 ≤ n) (h : n ≤ 9999) : faceL n = Lib.itoa (n / 100) ++ [46] ++ [dig (n % 100 / 10), dig (n % 10)] := by
  unfold faceL
  rw [itoa_dig (d := n / 10 % 10) (by omega) (by omega), itoa_dig (d := n % 10) (by omega) (by omega), show n % 100 / 10 = n / 10 % 10 by omega, List.append_assoc]
  rfl
def str (l : List UInt8) : ByteArray := ⟨l.toArray⟩
def faceRes (n : Int) : ByteArray × Bool := if 0 ≤ n ∧ n ≤ 9999 then (str (faceL n), true) else (⟨#[]⟩, false)
theorem faceRes_yes {n : Int} (h0 : 0 ≤ n) (h : n ≤ 9999) : faceRes n = (str (faceL n), true) := by unfold faceRes; rw [if_pos ⟨h0, h⟩]
theorem faceRes_no {n : Int} (h : n < 0 ∨ 9999 < n) : faceRes n = (⟨#[]⟩, false) := by unfold faceRes; rw [if_neg (by omega)]
end Go.Proofs.YtpaakpbbahbhcaaDoor.PlainFace
