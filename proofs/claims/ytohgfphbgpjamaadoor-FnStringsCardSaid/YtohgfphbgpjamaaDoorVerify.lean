/- The contracts of spec.VerifyChecksum and impl.VerifyChecksum: the text of a sealed string and true, or the empty string and false. Conditions: the string has at most 1048576 bytes; for impl the library's variables are as the library lays them. -/
import Derived.Test.YtohgfphbgpjamaaDoorAppendSum
import Derived.Test.YtohgfphbgpjamaaDoorSplit
import Derived.Test.YtohgfphbgpjamaaDoorPlainVerify
import Derived.Laws.OwnMore
namespace Go.Proofs.YtohgfphbgpjamaaDoor.Verify
set_option linter.unusedVariables false
open Go.RowKit
open Go.Proofs.YtohgfphbgpjamaaDoor.PlainSum Go.Proofs.YtohgfphbgpjamaaDoor.PlainNum Go.Proofs.YtohgfphbgpjamaaDoor.PlainSeal Go.Proofs.YtohgfphbgpjamaaDoor.Sum Go.Proofs.YtohgfphbgpjamaaDoor.Num Go.Proofs.YtohgfphbgpjamaaDoor.Fmt Go.Proofs.YtohgfphbgpjamaaDoor.Seal Go.Proofs.YtohgfphbgpjamaaDoor.AppendSum Go.Proofs.YtohgfphbgpjamaaDoor.PlainSplit Go.Proofs.YtohgfphbgpjamaaDoor.Split

def VerPost (l : List UInt8) (w : World) (e : Ending) (w' : World) : Prop :=
  ∃ t : ByteArray, ∃ b, e = .returned (.tuple #[.string t, .bool b]) ∧ PlainVerify.Vf l t.data.toList b ∧ Below w.heap.size w w'

theorem ne_txt {t s : ByteArray} (h : (!t.toList == s.toList) = true) : t.data.toList ≠ s.data.toList := by
  intro e
  rw [Lib.toList_data, Lib.toList_data, e] at h
  simp at h
theorem eq_txt {t s : ByteArray} (h : (!t.toList == s.toList) = false) : t.data.toList = s.data.toList := by
  rw [Lib.toList_data, Lib.toList_data, Bool.not_eq_false'] at h
  exact eq_of_beq h
theorem ne_ver {p s : ByteArray} (h : (!(sealedOf p).toList == s.toList) = true) : sealed p.data.toList ≠ s.data.toList := ne_txt h
theorem eq_ver {p s : ByteArray} (h : (!(sealedOf p).toList == s.toList) = false) : sealed p.data.toList = s.data.toList := eq_txt h

theorem cell_below {w w' : World} (hb : Below w.heap.size w w') {a : Addr} {v : Value} (hc : w.cell? a = some v) : w'.cell? a = some v := (hb.cell (World.block_lt_of_cell? w a hc)).trans hc

theorem first_cell {s p : ByteArray} {r : List ByteArray} {w : World} {B g cap : Nat} (hp : split s 35 = p :: r)
    (h : w.ownsRow B 9 1 (.slice (some ⟨g, 0, none⟩) (split s 35).length cap) (split s 35).length ((split s 35).map Value.string)) : w.cell? ⟨g, 0, none⟩ = some (.string p) := by
  rw [h.cellAt 0 (by rw [hp]; simp), hp]; rfl

set_option maxHeartbeats 400000 in
theorem specVerify_any (s : ByteArray) (w : World) (hs : s.size ≤ 1048576) :
    Calls Tryd.prog 20 #[.string s] w (VerPost s.data.toList w) := by
  have el : Hid (s.data.toList.length = s.size) := Lib.hid (by simp)
  by_cases h1 : 4000 < s.size
  · go_enter Tryd.func20, Tryd.ntmps20
    go_wp2_with fail
    go_ret2
    exact ⟨_, false, rfl, PlainVerify.no_long (by rw [el.out]; exact h1), Below.refl _ _⟩
  · obtain ⟨p, r, hp, hu⟩ := PlainVerify.split_first s
    have HP := Lib.hid hp
    have HU := Lib.hid hu
    have hpl : p.size ≤ 4000 := by
      have := PlainVerify.upto_len s.data.toList
      rw [← hu, el.out] at this
      have e2 : p.data.toList.length = p.size := by simp
      omega
    clear hp hu
    go_enter Tryd.func20, Tryd.ntmps20
    go_wp2_with (first | (go_at_call 36; refine (l1Split_any s 35 _ hs).mono ?_; rintro e w1 ⟨g, cap, rfl, hO, hB⟩; have hc0 : w1.cell? ⟨g, 0, none⟩ = some (.string p) := first_cell HP.out hO; have hn0 := Lib.hid (split_len s 35); have hlen : 1 ≤ (split s 35).length := hn0.out.1; clear hO) | (go_at_call 34; refine (l1Seal_any p _ (by omega)).mono ?_; rintro e w2 ⟨rfl, m, rfl⟩))
    all_goals go_ret2
    · rename_i hne
      exact ⟨_, false, rfl, PlainVerify.no_eq (by rw [← HU.out]; exact ne_ver hne), hB.trans ⟨rfl, rfl, rfl, Nat.le_refl _, fun _ _ => rfl⟩⟩
    · rename_i heq
      exact ⟨_, true, rfl, by rw [HU.out]; exact PlainVerify.yes_eq (by rw [el.out]; omega) (by rw [← HU.out]; exact eq_ver heq), hB.trans ⟨rfl, rfl, rfl, Nat.le_refl _, fun _ _ => rfl⟩⟩
def MaxInt (w : World) : Prop := ∃ m, w.cell? ⟨2, 0, none⟩ = some (.int .i64 m)
theorem maxInt_of {w : World} (h : w.ShapedOpen Tryd.prog) : MaxInt w := Tryd.laysM145.s1_3 w h
theorem maxInt_below {w w' : World} (hb : Below w.heap.size w w') (h : MaxInt w) : MaxInt w' := let ⟨m, hm⟩ := h; ⟨m, cell_below hb hm⟩

theorem cut_no (s : ByteArray) (w : World) (hs : s.size ≤ 1048576) (hm : MaxInt w) (h : (35 : UInt8) ∉ s.data.toList) :
    Calls Tryd.prog 35 #[.string s, .string ⟨#[35]⟩] w fun e w' => ∃ a b, e = .returned (.tuple #[.string a, .string b, .bool false]) ∧ Below w.heap.size w w' := by
  obtain ⟨m, hm⟩ := hm
  refine (Tryd.strings_Cut s ⟨#[35]⟩ m w (by omega) hm).mono ?_
  rintro e w' ⟨rfl, n, rfl⟩
  have hc := PlainVerify.cut_no s.data.toList h
  exact ⟨⟨(Lib.cut s.data.toList [35]).1.toArray⟩, ⟨(Lib.cut s.data.toList [35]).2.1.toArray⟩, by rw [← hc], ⟨rfl, rfl, rfl, Nat.le_refl _, fun _ _ => rfl⟩⟩
theorem cut_yes (s : ByteArray) (w : World) (hs : s.size ≤ 1048576) (hm : MaxInt w) (h : (35 : UInt8) ∈ s.data.toList) :
    Calls Tryd.prog 35 #[.string s, .string ⟨#[35]⟩] w fun e w' => ∃ a b, e = .returned (.tuple #[.string a, .string b, .bool true]) ∧ a.data.toList = PlainVerify.upto s.data.toList ∧ Below w.heap.size w w' := by
  obtain ⟨m, hm⟩ := hm
  refine (Tryd.strings_Cut s ⟨#[35]⟩ m w (by omega) hm).mono ?_
  rintro e w' ⟨rfl, n, rfl⟩
  have hc := PlainVerify.cut_yes s.data.toList h
  exact ⟨⟨(Lib.cut s.data.toList [35]).1.toArray⟩, ⟨(Lib.cut s.data.toList [35]).2.1.toArray⟩, by rw [← hc.1], hc.2, ⟨rfl, rfl, rfl, Nat.le_refl _, fun _ _ => rfl⟩⟩

theorem small_of {s a : ByteArray} (h : a.data.toList = PlainVerify.upto s.data.toList) (hs : s.size ≤ 1048576) : a.size ≤ 140737488355328 := by
  have h1 := PlainVerify.upto_len s.data.toList
  rw [← h] at h1
  have e1 : a.data.toList.length = a.size := by simp
  have e2 : s.data.toList.length = s.size := by simp
  omega

theorem ver_false {l u : List UInt8} {t : List UInt8} (hu : u = PlainVerify.upto l) (h : Sl u t false) : PlainVerify.Vf l [] false := by
  subst hu
  rcases h with ⟨h0, _⟩ | ⟨_, h1, h2⟩
  · simp at h0
  · exact PlainVerify.no_ok h2
theorem ver_ne {l u : List UInt8} {t : List UInt8} (hu : u = PlainVerify.upto l) (h : Sl u t true) (hne : t ≠ l) : PlainVerify.Vf l [] false := by
  subst hu
  rcases h with ⟨_, h1, h2⟩ | ⟨h0, _⟩
  · exact PlainVerify.no_eq (fun e => hne (h2.trans e))
  · simp at h0
theorem ver_eq {l u : List UInt8} {t : List UInt8} (hu : u = PlainVerify.upto l) (h : Sl u t true) (heq : t = l) : PlainVerify.Vf l u true := by
  subst hu
  rcases h with ⟨_, h1, h2⟩ | ⟨h0, _⟩
  · exact .inl ⟨rfl, h1, h2.symm.trans heq⟩
  · simp at h0

set_option maxHeartbeats 400000 in
theorem implVerify_any (s : ByteArray) (w : World) (hs : s.size ≤ 1048576) (ht : Hid (Tab w)) (hm : Hid (MaxInt w)) :
    Calls Tryd.prog 18 #[.string s] w (VerPost s.data.toList w) := by
  by_cases h2 : (35 : UInt8) ∈ s.data.toList
  · have H2 := Lib.hid h2
    clear h2
    go_enter Tryd.func18, Tryd.ntmps18
    go_wp2_with (first | (go_at_call 35; refine (cut_yes s w hs hm.out H2.out).mono ?_; rintro e w1 ⟨a, q, rfl, hu, hB1⟩; have HU := Lib.hid hu; clear hu) | (go_at_call 16; refine (implAppend_any a w1 (small_of HU.out hs) (tab_below hB1 ht)).mono ?_; rintro e w2 ⟨t, b, rfl, hS, hB2⟩; rcases b with _ | _ <;> (have HS := Lib.hid hS; clear hS)))
    all_goals go_ret2
    · exact ⟨_, false, rfl, ver_false HU.out HS.out, hB1.trans (hB2.mono hB1.size)⟩
    · rename_i hne
      exact ⟨_, false, rfl, ver_ne HU.out HS.out (ne_txt hne), hB1.trans (hB2.mono hB1.size)⟩
    · rename_i heq
      exact ⟨_, true, rfl, ver_eq HU.out HS.out (eq_txt heq), hB1.trans (hB2.mono hB1.size)⟩
  · have H2 := Lib.hid h2
    clear h2
    go_enter Tryd.func18, Tryd.ntmps18
    go_wp2_with (go_at_call 35; refine (cut_no s w hs hm.out H2.out).mono ?_; rintro e w1 ⟨a, q, rfl, hB1⟩)
    go_ret2
    exact ⟨_, false, rfl, PlainVerify.no_mark H2.out, hB1⟩
end Go.Proofs.YtohgfphbgpjamaaDoor.Verify
