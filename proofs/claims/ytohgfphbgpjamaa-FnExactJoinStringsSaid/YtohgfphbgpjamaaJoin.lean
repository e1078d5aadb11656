/- The contracts of spec.JoinStrings and impl.JoinStrings: the strings joined, or the empty string and false. Conditions: the slice is one that the caller has made, its strings hold at most 1048576 bytes together. -/
import Derived.Test.YtohgfphbgpjamaaStands
import Derived.Test.YtohgfphbgpjamaaRow
import Derived.Test.YtohgfphbgpjamaaPlainJoin
import Derived.Test.YtohgfphbgpjamaaShelf
import Derived.WalkSpells
import Derived.BigQuiet
import Derived.Deep.QuietTactic
import Derived.Outline
namespace Go.Proofs.Ytohgfphbgpjamaa.Join
set_option linter.unusedVariables false
open Go.RowKit
open Go.Proofs.Ytohgfphbgpjamaa.Rowed Go.Proofs.Ytohgfphbgpjamaa.PlainJoin Go.Proofs.Ytohgfphbgpjamaa.Stands

/-- a slice of the call's own, at block g, that holds the strings l -/
def Own (w : World) (g : Nat) (l : List ByteArray) : Prop := g < w.heap.size ∧ ∀ (j : Nat) x, l[j]? = some x → w.cell? ⟨g, j, none⟩ = some (.string x)
theorem Own.below {w w' : World} {g : Nat} {l : List ByteArray} (h : Own w g l) (hb : Below w.heap.size w w') : Own w' g l :=
  ⟨Nat.lt_of_lt_of_le h.1 hb.size, fun j x hx => cell_below hb (h.2 j x hx)⟩

def JoinPost (l : List ByteArray) (sep : ByteArray) (w : World) (e : Ending) (w' : World) : Prop :=
  ∃ t : ByteArray, ∃ b, e = .returned (.tuple #[.string t, .bool b]) ∧ Jn l sep.data.toList t.data.toList b ∧ Below w.heap.size w w'

theorem at_some {l : List ByteArray} {k : Nat} (h : k < l.length) : ∃ x, l[k]? = some x := ⟨_, List.getElem?_eq_getElem h⟩

theorem size3 (q x : ByteArray) (b : UInt8) : (q ++ ⟨#[b]⟩ ++ x).size = q.size + 1 + x.size := by
  rw [ByteArray.size_append, ByteArray.size_append]; rfl
theorem len_size (s : ByteArray) : s.data.toList.length = s.size := by simp
theorem step_next {l : List ByteArray} {b : UInt8} {k : Nat} {q x : ByteArray} (hq : q.data.toList = J l b k) (hk : 0 < k) (hx : l[k]? = some x) : (q ++ ⟨#[b]⟩ ++ x).data.toList = J l b (k + 1) := by
  rw [J_next l b k x hk hx, ← hq]; simp
theorem step_first {l : List ByteArray} {b : UInt8} {k : Nat} {q x : ByteArray} (hq : q.data.toList = J l b k) (hk : ¬ 0 < k) (hx : l[k]? = some x) : (q ++ x).data.toList = J l b (k + 1) := by
  obtain rfl : k = 0 := by omega
  rw [J_first l b x hx]
  rw [J_zero] at hq
  simp at hq
  simp [hq]
theorem room_no {l : List ByteArray} {b : UInt8} {k : Nat} {t : ByteArray} (ht : t.data.toList = J l b (k + 1)) (hk : k < l.length) (hs : 4000 < t.size) : Jn l [b] [] false := by
  refine no_room ?_
  have h1 := J_le l b (k + 1) (by omega) (by omega)
  have h2 := len_size t
  rw [ht] at h2
  omega

set_option maxHeartbeats 1000000 in
theorem specJoin_one (g c : Nat) (l : List ByteArray) (b : UInt8) (w : World) (ho : Own w g l) (hn : l.length ≤ 1048576) (hz : Hid (∀ x ∈ l, x.size ≤ 1048576)) (hne : 1 ≤ l.length) :
    Calls Try.prog 13 #[.slice (some ⟨g, 0, none⟩) l.length c, .string ⟨#[b]⟩] w (JoinPost l ⟨#[b]⟩ w) := by
  have HO := Lib.hid ho
  clear ho
  go_enter Try.func13, Try.ntmps13
  go_wp2
  go_loopw [6, 7] (fun t i wr => ∃ (k : Nat) (q : ByteArray), k ≤ l.length ∧ i = .int .i64 k ∧ t = .string q ∧ Hid (q.data.toList = J l b k) ∧ q.size ≤ 4000 ∧ Hid (NoMark l b k) ∧ DrawnTo w wr) (fun _ i _ => l.length - (intOf i).toNat)
  case atStart => exact ⟨0, ⟨#[]⟩, Nat.zero_le _, rfl, rfl, Lib.hid rfl, Nat.zero_le _, Lib.hid (NoMark.zero l b), DrawnTo.refl w⟩
  case round =>
    obtain ⟨k, q, hk, rfl, rfl, hq, hq4, hcl, hD⟩ := hrel
    by_cases hlt : k < l.length
    · obtain ⟨x, hx⟩ := at_some hlt
      have hcell : wr.cell? ⟨g, k, none⟩ = some (.string x) := hD.cell (HO.out.2 k x hx)
      have hxz : x.size ≤ 1048576 := hz.out x (List.mem_of_getElem? hx)
      have HX := Lib.hid hx
      clear hx
      have hb1 : 0 ≤ (k : Int) := by omega
      have hb2 : (k : Int) < l.length := by omega
      by_cases hm : b ∈ x.data.toList
      · have HM := Lib.hid hm
        clear hm
        go_wp2_with fail
        go_quiet ((go_at_call 32; exact Calls.quiet_of_same (stands_yes x b _ (by omega) HM.out)))
        go_wp2_with fail
        go_ret2
        exact ⟨_, false, rfl, no_mark HX.out HM.out, (hD.more _).below⟩
      · have HM := Lib.hid hm
        clear hm
        go_wp2_with fail
        go_quiet ((go_at_call 32; exact Calls.quiet_of_same (stands_no x b _ (by omega) HM.out)))
        go_wp2_with fail
        · go_ret2
          exact ⟨_, false, rfl, room_no (step_next hq.out (by omega) HX.out) hlt (by rw [size3]; omega), (hD.more _).below⟩
        · go_roundw
          case rel => exact ⟨k + 1, q ++ ⟨#[b]⟩ ++ x, by omega, by go_num, rfl, Lib.hid (step_next hq.out (by omega) HX.out), by rw [size3]; omega, Lib.hid (hcl.out.succ HX.out HM.out), hD.more _⟩
          case measure => simp [intOf]; omega
        · go_ret2
          exact ⟨_, false, rfl, room_no (step_first hq.out (by omega) HX.out) hlt (by simp; omega), (hD.more _).below⟩
        · go_roundw
          case rel => exact ⟨k + 1, q ++ x, by omega, by go_num, rfl, Lib.hid (step_first hq.out (by omega) HX.out), by simp; omega, Lib.hid (hcl.out.succ HX.out HM.out), hD.more _⟩
          case measure => simp [intOf]; omega
    · obtain rfl : k = l.length := by omega
      have HE := Lib.hid (hq.out.trans (J_all l b))
      have HL := Lib.hid (len_size q)
      have HN : Hid (l ≠ []) := Lib.hid (by intro e; rw [e] at hne; simp at hne)
      clear hq
      go_wp2
      go_ret2
      exact ⟨q, true, rfl, by rw [HE.out]; exact yes_join HN.out hcl.out.all (by rw [← HE.out, HL.out]; exact hq4), hD.below⟩

theorem specJoin_sep (A : Option Addr) (n c : Nat) (l : List ByteArray) (sep : ByteArray) (w : World) (h1 : sep.size ≠ 1) (hm : sep.size ≤ 9223372036854775807) (hn : n ≤ 9223372036854775807) :
    Calls Try.prog 13 #[.slice A n c, .string sep] w (JoinPost l sep w) := by
  have HS : Hid (sep.data.toList.length ≠ 1) := Lib.hid (by rw [len_size]; exact h1)
  have h2 : ((sep.size : Int) == 1) = false := by rw [beq_eq_false_iff_ne]; omega
  have h3 : ((sep.size : Int) != 1) = true := by rw [bne_iff_ne]; omega
  clear h1
  go_enter Try.func13, Try.ntmps13
  go_wp2_with fail
  all_goals go_ret2
  all_goals exact ⟨_, false, rfl, no_sep HS.out, Below.refl _ _⟩
theorem specJoin_nil (A : Option Addr) (c : Nat) (b : UInt8) (w : World) :
    Calls Try.prog 13 #[.slice A 0 c, .string ⟨#[b]⟩] w (JoinPost [] ⟨#[b]⟩ w) := by
  go_enter Try.func13, Try.ntmps13
  go_wp2_with fail
  all_goals go_ret2
  all_goals exact ⟨_, false, rfl, no_parts, Below.refl _ _⟩

theorem contains_yes (s : ByteArray) (b : UInt8) (w : World) (h : b ∈ s.data.toList) :
    Calls Try.prog 30 #[.string s, .string ⟨#[b]⟩] w fun e w' => e = .returned (.bool true) ∧ w = w' :=
  (Try.strings_Contains_one s b w).mono fun e w' ⟨he, hw⟩ => by rw [decide_eq_true ((mem_iff _ _).1 h)] at he; exact ⟨he, hw.symm⟩
theorem contains_no (s : ByteArray) (b : UInt8) (w : World) (h : b ∉ s.data.toList) :
    Calls Try.prog 30 #[.string s, .string ⟨#[b]⟩] w fun e w' => e = .returned (.bool false) ∧ w = w' :=
  (Try.strings_Contains_one s b w).mono fun e w' ⟨he, hw⟩ => by rw [decide_eq_false (fun k => h ((mem_iff _ _).2 k))] at he; exact ⟨he, hw.symm⟩

/-- the sum of the lengths of the first k strings, and of the separators between all -/
def tot (l : List ByteArray) (k : Nat) : Nat := (l.length - 1) + ((l.take k).map ByteArray.size).sum
theorem tot_next {l : List ByteArray} {k : Nat} {x : ByteArray} (hx : l[k]? = some x) : tot l (k + 1) = tot l k + x.size := by
  have hk := (List.getElem?_eq_some_iff.1 hx).1
  unfold tot
  rw [List.take_succ_eq_append_getElem hk, (List.getElem?_eq_some_iff.1 hx).2, List.map_append, List.sum_append]
  simp; omega
theorem tot_all (l : List ByteArray) (b : UInt8) (h : 1 ≤ l.length) : tot l l.length = (full l b).length := by
  rw [full_len l b h]; unfold tot; rw [List.take_of_length_le (Nat.le_refl _)]
theorem tot_no {l : List ByteArray} {b : UInt8} {k : Nat} (h : 1 ≤ l.length) (hs : 4000 < tot l k) : Jn l [b] [] false := by
  refine no_room ?_
  rw [full_len l b h]
  have := sizes_take l k
  unfold tot at hs
  omega

set_option maxHeartbeats 1000000 in
theorem implJoin_one (g c : Nat) (l : List ByteArray) (b : UInt8) (w : World) (hcap : l.length ≤ c) (ho : Own w g l) (hn : l.length ≤ 1048576) (hz : Hid (∀ x ∈ l, x.size ≤ 1048576)) (hne : 1 ≤ l.length) :
    Calls Try.prog 12 #[.slice (some ⟨g, 0, none⟩) l.length c, .string ⟨#[b]⟩] w (JoinPost l ⟨#[b]⟩ w) := by
  have HO := Lib.hid ho
  clear ho
  have ht0 : Hid (tot l 0 = l.length - 1) := Lib.hid (by simp [tot])
  have hl0 : ((l.length : Int) == 0) = false := by rw [beq_eq_false_iff_ne]; omega
  go_enter Try.func12, Try.ntmps12
  go_wp2
  go_loop [6, 22] (fun t i => ∃ k : Nat, k ≤ l.length ∧ i = .int .i64 k ∧ t = .int .i64 (tot l k) ∧ (tot l k ≤ 4000 ∨ k = 0) ∧ tot l k ≤ 1048576 + 4000 ∧ Hid (NoMark l b k)) (fun _ i => l.length - (intOf i).toNat)
  case atStart => exact ⟨0, Nat.zero_le _, rfl, by rw [ht0.out]; congr 1; omega, .inr rfl, by rw [ht0.out]; omega, Lib.hid (NoMark.zero l b)⟩
  case round =>
    obtain ⟨k, hk, rfl, rfl, h4, ht4, hcl⟩ := hrel
    by_cases hlt : k < l.length
    · obtain ⟨x, hx⟩ := at_some hlt
      have hcell : w.cell? ⟨g, k, none⟩ = some (.string x) := HO.out.2 k x hx
      have hxz : x.size ≤ 1048576 := hz.out x (List.mem_of_getElem? hx)
      have HX := Lib.hid hx
      have HT := Lib.hid (tot_next hx)
      clear hx h4
      by_cases hs : 4000 < tot l k + x.size
      · have HR : Hid (Jn l [b] [] false) := Lib.hid (tot_no hne (k := k + 1) (by rw [HT.out]; exact hs))
        go_wp2
        go_ret2
        exact ⟨_, false, rfl, HR.out, Below.refl _ _⟩
      · by_cases hm : b ∈ x.data.toList
        · have HM := Lib.hid hm
          clear hm
          go_wp2_with (go_at_call 30; refine (contains_yes x b _ HM.out).mono ?_; rintro e w' ⟨rfl, rfl⟩)
          go_ret2
          exact ⟨_, false, rfl, no_mark HX.out HM.out, Below.refl _ _⟩
        · have HM := Lib.hid hm
          clear hm
          go_wp2_with (go_at_call 30; refine (contains_no x b _ HM.out).mono ?_; rintro e w' ⟨rfl, rfl⟩)
          go_round
          case rel => exact ⟨k + 1, by omega, by go_num, by rw [HT.out]; go_num, .inl (by rw [HT.out]; omega), by rw [HT.out]; omega, Lib.hid (hcl.out.succ HX.out HM.out)⟩
          case measure => simp [intOf]; omega
    · obtain rfl : k = l.length := by omega
      have HF := Lib.hid (tot_all l b hne)
      have HN : Hid (l ≠ []) := Lib.hid (by intro e; rw [e] at hne; simp at hne)
      have H4 : Hid ((full l b).length ≤ 4000) := Lib.hid (by rw [← HF.out]; omega)
      clear h4
      go_wp2_with (go_at_call 31; refine (Try.strings_Join g 0 c l ⟨#[b]⟩ w (fun j x hx => by rw [Nat.zero_add]; exact HO.out.2 j x hx) HO.out.1 (by omega) hcap (Nat.le_trans H4.out (by omega))).mono ?_; rintro e w' ⟨rfl, hB⟩)
      go_ret2
      exact ⟨_, true, rfl, yes_join HN.out hcl.out.all H4.out, hB⟩

theorem implJoin_sep (A : Option Addr) (n c : Nat) (l : List ByteArray) (sep : ByteArray) (w : World) (h1 : sep.size ≠ 1) (hm : sep.size ≤ 9223372036854775807) (hn : n ≤ 9223372036854775807) :
    Calls Try.prog 12 #[.slice A n c, .string sep] w (JoinPost l sep w) := by
  have HS : Hid (sep.data.toList.length ≠ 1) := Lib.hid (by rw [len_size]; exact h1)
  have h2 : ((sep.size : Int) == 1) = false := by rw [beq_eq_false_iff_ne]; omega
  have h3 : ((sep.size : Int) != 1) = true := by rw [bne_iff_ne]; omega
  clear h1
  go_enter Try.func12, Try.ntmps12
  go_wp2_with fail
  all_goals go_ret2
  all_goals exact ⟨_, false, rfl, no_sep HS.out, Below.refl _ _⟩
theorem implJoin_nil (A : Option Addr) (c : Nat) (b : UInt8) (w : World) :
    Calls Try.prog 12 #[.slice A 0 c, .string ⟨#[b]⟩] w (JoinPost [] ⟨#[b]⟩ w) := by
  go_enter Try.func12, Try.ntmps12
  go_wp2_with fail
  all_goals go_ret2
  all_goals exact ⟨_, false, rfl, no_parts, Below.refl _ _⟩

theorem sep_one {sep : ByteArray} (h : sep.size = 1) : ∃ b, sep = ⟨#[b]⟩ := by
  obtain ⟨⟨l⟩⟩ := sep
  match l, h with
  | [b], _ => exact ⟨b, rfl⟩

theorem own_of {w : World} {base g c : Nat} {l : List ByteArray} (h : w.ownsRow base 9 1 (.slice (some ⟨g, 0, none⟩) l.length c) l.length (l.map Value.string)) (h0 : 1 ≤ l.length) : Own w g l := by
  have hall : ∀ (j : Nat) x, l[j]? = some x → w.cell? ⟨g, j, none⟩ = some (.string x) := by
    intro j x hx
    have hj := (List.getElem?_eq_some_iff.1 hx).1
    rw [h.cellAt j (by omega), List.getElem?_map, hx]; rfl
  obtain ⟨x, hx⟩ := at_some (l := l) (k := 0) (by omega)
  exact ⟨cell_lt (hall 0 x hx), hall⟩

theorem specJoin_any (g c : Nat) (l : List ByteArray) (sep : ByteArray) (w : World) (ho : 1 ≤ l.length → Own w g l) (hn : l.length ≤ 1048576) (hz : ∀ x ∈ l, x.size ≤ 1048576) (hm : sep.size ≤ 1048576) :
    Calls Try.prog 13 #[.slice (some ⟨g, 0, none⟩) l.length c, .string sep] w (JoinPost l sep w) := by
  by_cases h1 : sep.size = 1
  · obtain ⟨b, rfl⟩ := sep_one h1
    by_cases h0 : 1 ≤ l.length
    · exact specJoin_one g c l b w (ho h0) hn (Lib.hid hz) h0
    · obtain rfl : l = [] := List.eq_nil_of_length_eq_zero (by omega)
      exact specJoin_nil _ _ b w
  · exact specJoin_sep _ _ _ l sep w h1 (by omega) (by omega)
theorem implJoin_any (g c : Nat) (l : List ByteArray) (sep : ByteArray) (w : World) (hcap : l.length ≤ c) (ho : 1 ≤ l.length → Own w g l) (hn : l.length ≤ 1048576) (hz : ∀ x ∈ l, x.size ≤ 1048576) (hm : sep.size ≤ 1048576) :
    Calls Try.prog 12 #[.slice (some ⟨g, 0, none⟩) l.length c, .string sep] w (JoinPost l sep w) := by
  by_cases h1 : sep.size = 1
  · obtain ⟨b, rfl⟩ := sep_one h1
    by_cases h0 : 1 ≤ l.length
    · exact implJoin_one g c l b w hcap (ho h0) hn (Lib.hid hz) h0
    · obtain rfl : l = [] := List.eq_nil_of_length_eq_zero (by omega)
      exact implJoin_nil _ _ b w
  · exact implJoin_sep _ _ _ l sep w h1 (by omega) (by omega)
end Go.Proofs.Ytohgfphbgpjamaa.Join
