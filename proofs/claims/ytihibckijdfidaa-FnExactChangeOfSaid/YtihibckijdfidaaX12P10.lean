/- Texts on which the proofs of several laws stand, one behind the other (10 of 24). No condition of their own. -/
import Derived.Test.YtihibckijdfidaaX12P4
import Derived.Test.YtihibckijdfidaaX12P5
import Derived.Test.YtihibckijdfidaaX12P1
import Derived.Test.YtihibckijdfidaaX12P7
import Derived.Test.YtihibckijdfidaaX12P6
import Derived.Test.YtihibckijdfidaaX12P2
import Derived.Test.YtihibckijdfidaaX12P8
import Derived.Test.YtihibckijdfidaaX12P9
import Derived.Test.YtihibckijdfidaaX12P3
import Derived.Test.YtihibckijdfidaaChecked
import Derived.WalkKit
import Derived.WalkSpells
import Derived.WalkLawsBesides
import Derived.BigQuiet
import Derived.OwnWalk
import Derived.Deep.LoopGhost
import Derived.Deep.QuietTactic
import Derived.IntWalk
import Derived.Lib.QuietBelow
set_option linter.unusedVariables false
set_option linter.unusedSimpArgs false
namespace Go.Proofs.Ytihibckijdfidaa.Q12Made
open Go.RowKit
open Go.Proofs.Ytihibckijdfidaa.GoP Go.Proofs.Ytihibckijdfidaa.PlainStamp Go.Proofs.Ytihibckijdfidaa.QBase Go.Proofs.Ytihibckijdfidaa.Q12Find Go.Proofs.Ytihibckijdfidaa.Q12Put Go.Proofs.Ytihibckijdfidaa.Q12Bits Go.Proofs.Ytihibckijdfidaa.Q8Days Go.Proofs.Ytihibckijdfidaa.QSort Go.Proofs.Ytihibckijdfidaa.QFold Go.Proofs.Ytihibckijdfidaa.QRiseL Go.Proofs.Ytihibckijdfidaa.QOrd Go.Proofs.Ytihibckijdfidaa.Q8For Go.Proofs.Ytihibckijdfidaa.Q8List Go.Proofs.Ytihibckijdfidaa.Q8Rate Go.Proofs.Ytihibckijdfidaa.QLoop Go.Proofs.Ytihibckijdfidaa.PRate Go.Proofs.Ytihibckijdfidaa.PCover

/-- the cover at a day, a zone and a weight, if it will do -/
def try3 (rs : List Rate) (x : Cover) (c d z g : Int) : Option Cover := if (decide (0 < rateV rs d z g) && (rateV rs d z g == x.paid || hb c 3)) = true then some ⟨x.id, d, z, g, rateV rs d z g, x.from_, x.to_, x.leave, x.arrive⟩ else none
def inD (rs : List Rate) (x : Cover) (c : Int) (D Z W : List Int) : Option Cover := D.findSome? fun d => Z.findSome? fun z => W.findSome? fun g => try3 rs x c d z g
def resC (o : Option Cover) : Cover × Bool := match o with | some y => (y, true) | none => (⟨0, 0, 0, 0, 0, 0, 0, 0, 0⟩, false)
/-- the weights at which a rate can differ from that of a gram less -/
def tweights (l : List Rate) : List Int := compI (sortI (1 :: l.map fun r => r.grams + 1))
theorem mem_weights {l : List Rate} {g : Int} : g ∈ tweights l ↔ g = 1 ∨ ∃ r ∈ l, g = r.grams + 1 := by
  unfold tweights
  rw [compI_mem (sortI_up _), sortI_mem, List.mem_cons, List.mem_map]
  constructor
  · rintro (h | ⟨r, hr, rfl⟩)
    · exact .inl h
    · exact .inr ⟨r, hr, rfl⟩
  · rintro (h | ⟨r, hr, rfl⟩)
    · exact .inl h
    · exact .inr ⟨r, hr, rfl⟩
theorem weights_up (l : List Rate) : List.Pairwise (fun a b => a < b) (tweights l) := compI_up (sortI_up _)
theorem weights_eq {l : List Rate} (h : okRs l = true) : GiTurningWeights.P l = some (tweights l) := by
  have h16 := riseL_len h
  simp only [GiTurningWeights.P, letK]
  refine cnt_is _ (fun k s => s = 1 :: (l.take k).map fun r => r.grams + 1) ?_ ?_ _ (by simp)
  · intro k s nx hk hI hn
    obtain ⟨x, hx, hi⟩ := at_lt (l := l) (k := k) hk
    have hok := okR_of (rs_mem h (List.mem_of_getElem? hx))
    simp only [GiTurningWeights.l0, hi, Option.bind_some, unRate, letK, appK]
    have hs : s.length ≤ 20 := by rw [hI, List.length_cons, List.length_map, List.length_take]; omega
    rw [wrap_in (by omega) (by omega), guardK_pos (by omega)]
    exact hn _ (by rw [take_next hx, List.map_append, hI]; simp)
  · intro s hI
    rw [List.take_of_length_le (Nat.le_refl _)] at hI
    have hs : s.length ≤ 1000000 := by rw [hI, List.length_cons, List.length_map]; omega
    simp only [GiTurningWeights.e0, letK, sort_eq s hs, comp_eq, Option.bind_some]
    rw [hI]; rfl
theorem zones_eq : GiAllZones.P = some [0, 1, 2, 3, 4, 5, 6, 7, 8, 9] := by kernel_rfl
theorem choices_eq (c n kept : Int) (all : List Int) : GiChoices.P c n kept all = some (if (bits .and IntKind.i64 c n == 0) = true then [kept] else all) := by
  simp only [GiChoices.P, letK, iteK_if]
  split <;> rfl
def daysI (rs : List Rate) (x : Cover) (c : Int) : List Int := if hb c 0 = true then tdays rs else [x.day]
def zonesI (x : Cover) (c : Int) : List Int := if hb c 1 = true then [0, 1, 2, 3, 4, 5, 6, 7, 8, 9] else [x.zone]
def weightsI (rs : List Rate) (x : Cover) (c : Int) : List Int := if hb c 2 = true then tweights rs else [x.grams]
/-- the cover that a change makes -/
def madeV (rs : List Rate) (x : Cover) (c : Int) : Option Cover := inD rs x c (daysI rs x c) (zonesI x c) (weightsI rs x c)
theorem not_ite {α : Type} (b : Bool) (x y : α) : (if (!b) = true then x else y) = if b = true then y else x := by cases b <;> rfl
theorem made_impl {rs : List Rate} (h : okRs rs = true) (x : Cover) {c : Int} (hc : 0 ≤ c ∧ c ≤ 15) : GiMade.P rs x c = some (resC (madeV rs x c)) := by
  obtain ⟨h0, h1, h2, h3⟩ := and_eq hc
  have hd : ∀ D Z W : List Int, cntK (GiMade.l0 rs c W Z D) D.length 0 (0, 0, 0, 0, 0, 0, 0, 0, 0, x.id, x.day, x.zone, x.grams, x.paid, x.from_, x.to_, x.leave, x.arrive) GiMade.e0 = some (resC (inD rs x c D Z W)) := by
    intro D Z W
    rw [some_loop (g := fun d => Z.findSome? fun z => W.findSome? fun g => try3 rs x c d z g) _ (fun y => some (y, true))]
    · unfold inD
      cases D.findSome? fun d => Z.findSome? fun z => W.findSome? fun g => try3 rs x c d z g <;> rfl
    · intro k nx d hk
      have hi : idx D (k : Int) = some d := by rw [idx_nat, hk]
      simp only [GiMade.l0, unp18, hi, Option.bind_some]
      rw [some_loop (g := fun z => W.findSome? fun g => try3 rs x c d z g) _ (fun y => some (y, true))]
      · cases Z.findSome? fun z => W.findSome? fun g => try3 rs x c d z g <;> rfl
      · intro k nx z hk
        have hi : idx Z (k : Int) = some z := by rw [idx_nat, hk]
        simp only [GiMade.l1, unp18, hi, Option.bind_some]
        rw [some_loop (g := fun g => try3 rs x c d z g) _ (fun y => some (y, true))]
        · cases W.findSome? fun g => try3 rs x c d z g <;> rfl
        · intro k nx g hk
          have hi : idx W (k : Int) = some g := by rw [idx_nat, hk]
          simp only [GiMade.l2, unp18, hi, rateOn_eq, Option.bind_some, letK, joinK, appK, iteK_if, h3, try3]
          by_cases p1 : 0 < rateV rs d z g
          · by_cases p2 : rateV rs d z g = x.paid
            · simp [p1, p2]
              rw [← p2]; simp [p1]
            · cases p3 : hb c 3 <;> simp [p1, p2]
          · simp [p1]
  have hx := hd (daysI rs x c) (zonesI x c) (weightsI rs x c)
  unfold daysI zonesI weightsI at hx
  obtain ⟨a, b, e, f, g, i, j, k, l⟩ := x
  simp only [GiMade.P, unCover, weights_eq h, zones_eq, days_eq h, choices_eq, h0, h1, h2, not_ite, Option.bind_some]
  exact hx
theorem rate_pos {rs : List Rate} {d z g : Int} (h : 0 < rateV rs d z g) : ∃ r ∈ rs, r.zone = z ∧ g ≤ r.grams ∧ r.from_ ≤ d ∧ d ≤ r.until_ ∧ rateV rs d z g = r.cents := by
  unfold rateV at h ⊢
  cases hf : rs.find? (onB d z g) with
  | none => rw [hf] at h; simp at h
  | some r =>
    have h1 := List.find?_some hf
    simp only [onB, Bool.and_eq_true, decide_eq_true_eq] at h1
    have h2 := inB_of h1.2
    exact ⟨r, List.mem_of_find?_eq_some hf, h1.1.1, h1.1.2, h2.1, h2.2, rfl⟩
theorem try_some {rs : List Rate} {x y : Cover} {c d z g : Int} (h : try3 rs x c d z g = some y) : 0 < rateV rs d z g ∧ (rateV rs d z g = x.paid ∨ hb c 3 = true) ∧ y = ⟨x.id, d, z, g, rateV rs d z g, x.from_, x.to_, x.leave, x.arrive⟩ := by
  unfold try3 at h
  split at h
  · rename_i hh
    simp only [Bool.and_eq_true, decide_eq_true_eq, Bool.or_eq_true, beq_iff_eq] at hh
    exact ⟨hh.1, hh.2, (Option.some.inj h).symm⟩
  · simp at h
theorem fs_is {α β : Type} {l : List α} {f : α → Option β} (h : (l.findSome? f).isSome = true) : ∃ a ∈ l, (f a).isSome = true := by
  obtain ⟨b, hb⟩ := Option.isSome_iff_exists.1 h
  obtain ⟨a, ha, hf⟩ := List.exists_of_findSome?_eq_some hb
  exact ⟨a, ha, by rw [hf]; rfl⟩
/-- the days of the reference: rising, the first one, those on which rates begin or have ended -/
theorem days_spec {fuel : Nat} {rs : List Rate} (h : okRs rs = true) (hf : 100 < fuel) (day : Int) : ∃ D, GsL12Days.P fuel rs day true = some D ∧ List.Pairwise (fun a b => a < b) D ∧ ∀ d, d ∈ D ↔ d = 0 ∨ ∃ r ∈ rs, d = r.from_ ∨ (r.until_ < 4000 ∧ d = r.until_ + 1) := by
  have h16 := riseL_len h
  have key : ∃ D, cntK (GsL12Days.l0 rs fuel) rs.length 0 [0] GsL12Days.e0 = some D ∧ (fun D => List.Pairwise (fun a b => a < b) D ∧ ∀ d, d ∈ D ↔ d = 0 ∨ ∃ r ∈ rs, d = r.from_ ∨ (r.until_ < 4000 ∧ d = r.until_ + 1)) D := by
   refine cnt_ex (n := rs.length)
    (fun k s => s.length ≤ 1 + 2 * k ∧ List.Pairwise (fun a b => a < b) s ∧ ∀ d, d ∈ s ↔ d = 0 ∨ ∃ r ∈ rs.take k, d = r.from_ ∨ (r.until_ < 4000 ∧ d = r.until_ + 1)) ?_ ?_ rs.length 0 [0] (by omega) (by simp)
   · rintro k s nx hk ⟨i1, i2, i3⟩ hn
     obtain ⟨r, hr, hi⟩ := at_lt (l := rs) (k := k) hk
     have hok := okR_of (rs_mem h (List.mem_of_getElem? hr))
     obtain ⟨m, hm, m1, m2, m3⟩ := put_eq (fuel := fuel) (by omega : s.length ≤ 1000) i2 r.from_ (by omega)
     have htk : ∀ d : Int, (∃ q ∈ rs.take (k + 1), d = q.from_ ∨ (q.until_ < 4000 ∧ d = q.until_ + 1)) ↔ ((∃ q ∈ rs.take k, d = q.from_ ∨ (q.until_ < 4000 ∧ d = q.until_ + 1)) ∨ d = r.from_ ∨ (r.until_ < 4000 ∧ d = r.until_ + 1)) := by
       intro d
       rw [take_next hr]
       constructor
       · rintro ⟨q, hq, e⟩
         rcases List.mem_append.1 hq with hq | hq
         · exact .inl ⟨q, hq, e⟩
         · rw [List.mem_singleton.1 hq] at e; exact .inr e
       · rintro (⟨q, hq, e⟩ | e)
         · exact ⟨q, List.mem_append.2 (.inl hq), e⟩
         · exact ⟨r, by simp, e⟩
     simp only [GsL12Days.l0, hi, hm, Option.bind_some, unRate, letK, appK, iteK_if]
     by_cases hu : r.until_ < 4000
     · obtain ⟨p, hp, p1, p2, p3⟩ := put_eq (fuel := fuel) (by omega : m.length ≤ 1000) m1 (r.until_ + 1) (by omega)
       rw [wrap_in (by omega) (by omega)]
       simp only [decide_eq_true hu, if_true, hp, Option.bind_some]
       refine hn _ ⟨by omega, p1, fun d => ?_⟩
       rw [p2, m2, i3, htk]
       constructor
       · rintro (e | e | e | e)
         · exact .inr (.inr (.inr ⟨hu, e⟩))
         · exact .inr (.inr (.inl e))
         · exact .inl e
         · exact .inr (.inl e)
       · rintro (e | e | e | ⟨_, e⟩)
         · exact .inr (.inr (.inl e))
         · exact .inr (.inr (.inr e))
         · exact .inr (.inl e)
         · exact .inl e
     · simp only [decide_eq_false hu, Bool.false_eq_true, if_false]
       refine hn _ ⟨by omega, m1, fun d => ?_⟩
       rw [m2, i3, htk]
       constructor
       · rintro (e | e | e)
         · exact .inr (.inr (.inl e))
         · exact .inl e
         · exact .inr (.inl e)
       · rintro (e | e | e | ⟨e, _⟩)
         · exact .inr (.inl e)
         · exact .inr (.inr e)
         · exact .inl e
         · exact absurd e hu
   · rintro s ⟨i1, i2, i3⟩
     rw [List.take_of_length_le (Nat.le_refl _)] at i3
     exact ⟨s, rfl, i2, i3⟩
  obtain ⟨D, hD, hq⟩ := key
  refine ⟨D, ?_, hq⟩
  rw [← hD]
  simp only [GsL12Days.P, letK, iteK_if]
  simp
theorem weights_spec {fuel : Nat} {rs : List Rate} (h : okRs rs = true) (hf : 100 < fuel) (grams : Int) : ∃ W, GsL12Weights.P fuel rs grams true = some W ∧ List.Pairwise (fun a b => a < b) W ∧ ∀ g, g ∈ W ↔ g = 1 ∨ ∃ r ∈ rs, r.grams < 2000 ∧ g = r.grams + 1 := by
  have h16 := riseL_len h
  have key : ∃ D, cntK (GsL12Weights.l0 rs fuel) rs.length 0 [1] GsL12Weights.e0 = some D ∧ (fun D => List.Pairwise (fun a b => a < b) D ∧ ∀ g, g ∈ D ↔ g = 1 ∨ ∃ r ∈ rs, r.grams < 2000 ∧ g = r.grams + 1) D := by
   refine cnt_ex (n := rs.length)
    (fun k s => s.length ≤ 1 + k ∧ List.Pairwise (fun a b => a < b) s ∧ ∀ g, g ∈ s ↔ g = 1 ∨ ∃ r ∈ rs.take k, r.grams < 2000 ∧ g = r.grams + 1) ?_ ?_ rs.length 0 [1] (by omega) (by simp)
   · rintro k s nx hk ⟨i1, i2, i3⟩ hn
     obtain ⟨r, hr, hi⟩ := at_lt (l := rs) (k := k) hk
     have hok := okR_of (rs_mem h (List.mem_of_getElem? hr))
     have htk : ∀ g : Int, (∃ q ∈ rs.take (k + 1), q.grams < 2000 ∧ g = q.grams + 1) ↔ ((∃ q ∈ rs.take k, q.grams < 2000 ∧ g = q.grams + 1) ∨ (r.grams < 2000 ∧ g = r.grams + 1)) := by
       intro d
       rw [take_next hr]
       constructor
       · rintro ⟨q, hq, e⟩
         rcases List.mem_append.1 hq with hq | hq
         · exact .inl ⟨q, hq, e⟩
         · rw [List.mem_singleton.1 hq] at e; exact .inr e
       · rintro (⟨q, hq, e⟩ | e)
         · exact ⟨q, List.mem_append.2 (.inl hq), e⟩
         · exact ⟨r, by simp, e⟩
     simp only [GsL12Weights.l0, hi, Option.bind_some, unRate, letK, appK, iteK_if]
     by_cases hu : r.grams < 2000
     · obtain ⟨p, hp, p1, p2, p3⟩ := put_eq (fuel := fuel) (by omega : s.length ≤ 1000) i2 (r.grams + 1) (by omega)
       rw [wrap_in (by omega) (by omega)]
       simp only [decide_eq_true hu, if_true, hp, Option.bind_some]
       refine hn _ ⟨by omega, p1, fun d => ?_⟩
       rw [p2, i3, htk]
       constructor
       · rintro (e | e | e)
         · exact .inr (.inr ⟨hu, e⟩)
         · exact .inl e
         · exact .inr (.inl e)
       · rintro (e | e | ⟨_, e⟩)
         · exact .inr (.inl e)
         · exact .inr (.inr e)
         · exact .inl e
     · simp only [decide_eq_false hu, Bool.false_eq_true, if_false]
       refine hn _ ⟨by omega, i2, fun d => ?_⟩
       rw [i3, htk]
       constructor
       · rintro (e | e)
         · exact .inl e
         · exact .inr (.inl e)
       · rintro (e | e | ⟨e, _⟩)
         · exact .inl e
         · exact .inr e
         · exact absurd e hu
   · rintro s ⟨i1, i2, i3⟩
     rw [List.take_of_length_le (Nat.le_refl _)] at i3
     exact ⟨s, rfl, i2, i3⟩
  obtain ⟨D, hD, hq⟩ := key
  refine ⟨D, ?_, hq⟩
  rw [← hD]
  simp only [GsL12Weights.P, letK, iteK_if]
  simp
theorem make_spec {fuel : Nat} {rs : List Rate} (h : okRs rs = true) (x : Cover) {c : Int} (hc : 0 ≤ c ∧ c ≤ 15) (hf : 100 < fuel) : GsL12Make.P fuel rs x c = some (resC (madeV rs x c)) := by
  obtain ⟨h0, h1, h2, h3⟩ := has_eq hc
  have hd : ∀ D Z W : List Int, cntK (GsL12Make.l0 rs c x.id x.paid x.from_ x.to_ x.leave x.arrive D Z W) D.length 0 (0, 0, 0, 0, 0, 0, 0, 0, 0) GsL12Make.e0 = some (resC (inD rs x c D Z W)) := by
    intro D Z W
    rw [some_loop (g := fun d => Z.findSome? fun z => W.findSome? fun g => try3 rs x c d z g) _ (fun y => some (y, true))]
    · unfold inD
      cases D.findSome? fun d => Z.findSome? fun z => W.findSome? fun g => try3 rs x c d z g <;> rfl
    · intro k0 nx d hk
      have i0 : idx D (k0 : Int) = some d := by rw [idx_nat, hk]
      simp only [GsL12Make.l0, unp9]
      rw [some_loop (g := fun z => W.findSome? fun g => try3 rs x c d z g) _ (fun y => some (y, true))]
      · cases Z.findSome? fun z => W.findSome? fun g => try3 rs x c d z g <;> rfl
      · intro k1 nx z hk
        have i1 : idx Z (k1 : Int) = some z := by rw [idx_nat, hk]
        simp only [GsL12Make.l1, unp9]
        rw [some_loop (g := fun g => try3 rs x c d z g) _ (fun y => some (y, true))]
        · cases W.findSome? fun g => try3 rs x c d z g <;> rfl
        · intro k2 nx g hk
          have i2 : idx W (k2 : Int) = some g := by rw [idx_nat, hk]
          simp only [GsL12Make.l2, GsL12Make.j0, GsL12Explained.P, unCover, unp9, i0, i1, i2, l8For_eq, h3, Option.bind_some, letK, joinK, appK, iteK_if, try3]
          cases p3 : hb c 3 with
          | true =>
            by_cases p1 : 0 < rateV rs d z g <;> simp [p1]
          | false =>
            by_cases p2 : rateV rs d z g = x.paid
            · by_cases p1 : 0 < rateV rs d z g
              · rw [p2] at p1; simp [p1, p2]
              · rw [p2] at p1; simp [p1, p2]
            · by_cases p1 : 0 < x.paid <;> simp [p1, p2]
  obtain ⟨D, hD, hDu, hDm⟩ := days_spec (fuel := fuel) h hf x.day
  obtain ⟨W, hW, hWu, hWm⟩ := weights_spec (fuel := fuel) h hf x.grams
  have hD0 : GsL12Days.P fuel rs x.day false = some [x.day] := rfl
  have hW0 : GsL12Weights.P fuel rs x.grams false = some [x.grams] := rfl
  have hZ : GsL12Zones.P x.zone (hb c 1) = some (zonesI x c) := by unfold zonesI; cases hb c 1 <;> rfl
  have eD : GsL12Days.P fuel rs x.day (hb c 0) = some (if hb c 0 = true then D else [x.day]) := by cases hb c 0 <;> simp [hD, hD0]
  have eW : GsL12Weights.P fuel rs x.grams (hb c 2) = some (if hb c 2 = true then W else [x.grams]) := by cases hb c 2 <;> simp [hW, hW0]
  have hx := hd (if hb c 0 = true then D else [x.day]) (zonesI x c) (if hb c 2 = true then W else [x.grams])
  have hsame : inD rs x c (if hb c 0 = true then D else [x.day]) (zonesI x c) (if hb c 2 = true then W else [x.grams]) = madeV rs x c := by
    have hw : ∀ d z, (if hb c 2 = true then W else [x.grams]).findSome? (fun g => try3 rs x c d z g) = (weightsI rs x c).findSome? (fun g => try3 rs x c d z g) := by
      intro d z
      unfold weightsI
      cases hb c 2 with
      | false => rfl
      | true =>
        simp only [if_true]
        refine fs_same hWu (weights_up rs) fun g hg => ?_
        obtain ⟨y, hy⟩ := Option.isSome_iff_exists.1 hg
        obtain ⟨r, hr, _, hle, _⟩ := rate_pos (try_some hy).1
        have hok := okR_of (rs_mem h hr)
        rw [hWm, mem_weights]
        constructor
        · rintro (e | ⟨q, hq, _, e⟩)
          · exact .inl e
          · exact .inr ⟨q, hq, e⟩
        · rintro (e | ⟨q, hq, e⟩)
          · exact .inl e
          · exact .inr ⟨q, hq, by omega, e⟩
    unfold inD madeV
    simp only [hw]
    unfold inD daysI
    cases hb c 0 with
    | false => rfl
    | true =>
      simp only [if_true]
      refine fs_same hDu (days_up rs) fun d hg => ?_
      obtain ⟨z, _, hz⟩ := fs_is hg
      obtain ⟨g, _, hg2⟩ := fs_is hz
      obtain ⟨y, hy⟩ := Option.isSome_iff_exists.1 hg2
      obtain ⟨r, hr, _, _, hfr, hun, _⟩ := rate_pos (try_some hy).1
      have hok := okR_of (rs_mem h hr)
      rw [hDm, mem_days]
      constructor
      · rintro (e | ⟨q, hq, e | ⟨_, e⟩⟩)
        · exact ⟨r, hr, .inl (by omega)⟩
        · exact ⟨q, hq, .inl e⟩
        · exact ⟨q, hq, .inr e⟩
      · rintro ⟨q, hq, e | e⟩
        · exact .inr ⟨q, hq, .inl e⟩
        · exact .inr ⟨q, hq, .inr ⟨by omega, e⟩⟩
  rw [hsame] at hx
  obtain ⟨a, b, e, f, g, i, j, k, l⟩ := x
  simp only [GsL12Make.P, unCover, h0, h1, h2, eD, eW, hZ, Option.bind_some]
  exact hx
end Go.Proofs.Ytihibckijdfidaa.Q12Made

namespace Go.Proofs.Ytihibckijdfidaa.Q12Cover
open Go.RowKit
open Go.Proofs.Ytihibckijdfidaa.GoP Go.Proofs.Ytihibckijdfidaa.PlainStamp Go.Proofs.Ytihibckijdfidaa.QBase Go.Proofs.Ytihibckijdfidaa.Q8Rate Go.Proofs.Ytihibckijdfidaa.QLoop Go.Proofs.Ytihibckijdfidaa.PCover

theorem isMinute_eq (n : Int) : GiIsMinute.P n = some (inB n 0 9999) := by simp only [GiIsMinute.P, within_eq, Option.bind_some]
theorem isOffice_eq (n : Int) : GiIsPostOffice.P n = some (inB n 0 9) := by simp only [GiIsPostOffice.P, within_eq, Option.bind_some]
theorem l9Office_eq (n : Int) : GsL9Office.P n = some (inB n 0 9) := by simp only [GsL9Office.P, l1In_eq, Option.bind_some]
theorem l9Minute_eq (n : Int) : GsL9Minute.P n = some (inB n 0 9999) := by simp only [GsL9Minute.P, l1In_eq, Option.bind_some]
def okC (x : Cover) : Bool := inB x.id 1 999 && inB x.day 0 4000 && inB x.zone 0 9 && inB x.grams 1 2000 && inB x.paid 1 9999 && inB x.from_ 0 9 && inB x.to_ 0 9 && (x.from_ != x.to_) && inB x.leave 0 9999 && inB x.arrive 0 9999 && decide (x.leave ≤ x.arrive)
theorem isCover_eq (x : Cover) : GiIsCover.P x = some (okC x) := by
  obtain ⟨a, b, c, d, e, f, g, h, i⟩ := x
  simp only [GiIsCover.P, unCover, within_eq, isDay_eq, isZone_eq, isWeight_eq, isRateCents_eq, isOffice_eq, isMinute_eq, Option.bind_some, letK, joinK, appK, iteK_if, okC]
  cases inB a 1 999 <;> cases inB b 0 4000 <;> cases inB c 0 9 <;> cases inB d 1 2000 <;> cases inB e 1 9999 <;> cases inB f 0 9 <;> cases inB g 0 9 <;> simp
  all_goals by_cases hfg : f = g <;> cases inB h 0 9999 <;> cases inB i 0 9999 <;> simp [hfg]
theorem l10One_eq (x : Cover) : GsL10One.P x = some (okC x) := by
  obtain ⟨a, b, c, d, e, f, g, h, i⟩ := x
  have hh : inB h 0 i = (inB h 0 9999 && inB i 0 9999 && decide (h ≤ i)) ∨ inB i 0 9999 = false := by
    unfold inB
    by_cases hi : 0 ≤ i ∧ i ≤ 9999
    · left; rw [Bool.eq_iff_iff]; simp; omega
    · right; simp; omega
  simp only [GsL10One.P, unCover, l1In_eq, l2Day_eq, l8Zone_eq, l8Grams_eq, l8Cents_eq, l9Office_eq, l9Minute_eq, Option.bind_some, letK, joinK, appK, iteK_if, okC]
  cases inB a 1 999 <;> cases inB b 0 4000 <;> cases inB c 0 9 <;> cases inB d 1 2000 <;> cases inB e 1 9999 <;> cases inB f 0 9 <;> cases inB g 0 9 <;> simp
  all_goals
    by_cases hfg : f = g
    · simp [hfg]
    · rcases hh with hh | hh
      · rw [hh]; cases inB h 0 9999 <;> cases inB i 0 9999 <;> simp [hfg]
      · simp [hh]
end Go.Proofs.Ytihibckijdfidaa.Q12Cover

namespace Go.Proofs.Ytihibckijdfidaa.GiLoPossibleChanges
open Go.RowKit
open Go.Proofs.Ytihibckijdfidaa.Rowed Go.Proofs.Ytihibckijdfidaa.Turn Go.Proofs.Ytihibckijdfidaa.Aid Go.Proofs.Ytihibckijdfidaa.GoP Go.Proofs.Ytihibckijdfidaa.GoM

def l0 (rates : (List PRate.Rate)) (x_id : Int) (x_day : Int) (x_zone : Int) (x_grams : Int) (x_paid : Int) (x_from_ : Int) (x_to_ : Int) (x_leave : Int) (x_arrive : Int) (k0 : Nat) (s : (List Int)) (nx0 bk0 : (List Int) → Option ((List Int))) : Option ((List Int)) :=
 letK s fun changes_5l0 =>
 bind2 (GiMade.P rates (PCover.Cover.mk x_id x_day x_zone x_grams x_paid x_from_ x_to_ x_leave x_arrive) (k0 : Int)) fun (t_11a : PCover.Cover) (t_11b : Bool) =>
 unCover t_11a fun (t_11a_id : Int) (t_11a_day : Int) (t_11a_zone : Int) (t_11a_grams : Int) (t_11a_paid : Int) (t_11a_from_ : Int) (t_11a_to_ : Int) (t_11a_leave : Int) (t_11a_arrive : Int) =>
 iteK t_11b
 (guardK (changes_5l0.length ≤ 1099511627776) <|
 letK (changes_5l0 ++ [(k0 : Int)]) fun (t_22 : (List Int)) =>
 appK nx0 (t_22))
 (appK nx0 (changes_5l0))

def e0  (s : (List Int)) : Option ((List Int)) :=
 letK s fun changes_5l0 =>
 some changes_5l0

def P (rates : (List PRate.Rate)) (x : PCover.Cover) : Option ((List Int)) :=
 unCover x fun (x_id : Int) (x_day : Int) (x_zone : Int) (x_grams : Int) (x_paid : Int) (x_from_ : Int) (x_to_ : Int) (x_leave : Int) (x_arrive : Int) =>
 cntK (l0 rates x_id x_day x_zone x_grams x_paid x_from_ x_to_ x_leave x_arrive) (16) 0 (([] : List Int)) (e0 )

set_option maxRecDepth 100000 in
set_option maxHeartbeats 2000000 in
theorem C (rates : (List PRate.Rate)) (x : PCover.Cover) (A0 : Option Addr) (c0 : Nat)  (w : World) (M0 : Hid (Cells w 5 A0 rates.length (PRate.flat rates))) (N0 : Hid (rates.length ≤ 9223372036854775807))  {r : (List Int)} (H : Hid (P rates x = some r)) :
  Calls Try.prog 92 #[.slice A0 rates.length c0, x.val] w (fun e w' => ∃ A_r c_r, e = .returned (.slice A_r r.length c_r) ∧ w'.ownsRow w.heap.size 3 1 (.slice A_r r.length c_r) r.length (HelpInt.iv r) ∧ Below w.heap.size w w') := by
 have HB := Lib.hid (Below.refl w.heap.size w); unfold P at H; obtain ⟨x_id, x_day, x_zone, x_grams, x_paid, x_from_, x_to_, x_leave, x_arrive⟩ := x; replace H := unCover_hid H; unfold PCover.Cover.val; have N0o := N0.out; obtain ⟨i0_3, hi_3, c14, b14, a14⟩ := Aid.info_parts (P := Try.prog) (T := 3) (z := .int .i64 0) (s := 1) (b := 8) (by kernel_rfl)
 go_enter Try.func92, Try.ntmps92
 obtain ⟨d10, l10⟩ : ∃ x, w.alloc (.cells #[.int .i64 x_id, .int .i64 x_day, .int .i64 x_zone, .int .i64 x_grams, .int .i64 x_paid, .int .i64 x_from_, .int .i64 x_to_, .int .i64 x_leave, .int .i64 x_arrive] 30) = x := ⟨_, rfl⟩; have h12 : Below w.heap.size w d10 := (by rw [← l10]; exact (Below.refl _ _).alloc (Nat.le_refl _) _); have b12 := Lib.hid (Below.step HB.out h12); clear h12; have p11 : d10.cell? ⟨w.heap.size, 0, none⟩ = some (.int .i64 x_id) := (by rw [← l10]; exact box_new _ _ _ 0 _ rfl); have q13 : d10.cell? ⟨w.heap.size, 1, none⟩ = some (.int .i64 x_day) := (by rw [← l10]; exact box_new _ _ _ 1 _ rfl); have f12 : d10.cell? ⟨w.heap.size, 2, none⟩ = some (.int .i64 x_zone) := (by rw [← l10]; exact box_new _ _ _ 2 _ rfl); have d12 : d10.cell? ⟨w.heap.size, 3, none⟩ = some (.int .i64 x_grams) := (by rw [← l10]; exact box_new _ _ _ 3 _ rfl); have c13 : d10.cell? ⟨w.heap.size, 4, none⟩ = some (.int .i64 x_paid) := (by rw [← l10]; exact box_new _ _ _ 4 _ rfl); have i12 : d10.cell? ⟨w.heap.size, 5, none⟩ = some (.int .i64 x_from_) := (by rw [← l10]; exact box_new _ _ _ 5 _ rfl); have p13 : d10.cell? ⟨w.heap.size, 6, none⟩ = some (.int .i64 x_to_) := (by rw [← l10]; exact box_new _ _ _ 6 _ rfl); have s12 : d10.cell? ⟨w.heap.size, 7, none⟩ = some (.int .i64 x_leave) := (by rw [← l10]; exact box_new _ _ _ 7 _ rfl); have n12 : d10.cell? ⟨w.heap.size, 8, none⟩ = some (.int .i64 x_arrive) := (by rw [← l10]; exact box_new _ _ _ 8 _ rfl); obtain ⟨o12, r12⟩ : ∃ x, d10.alloc (.cells #[] 3) = x := ⟨_, rfl⟩; have j10 : Below d10.heap.size d10 o12 := (by rw [← r12]; exact (Below.refl _ _).alloc (Nat.le_refl _) _); have Ot_2 : Hid (o12.ownsRow w.heap.size 3 1 (.slice (some ⟨d10.heap.size, 0, none⟩) 0 0) 0 []) := Lib.hid (by rw [← r12]; exact own_empty b12.out.size); have r13 := Lib.hid (apart_box p11); have x13 := Lib.hid (Below.step b12.out j10); have q10 := cell_below j10 p11; have r10 := cell_below j10 q13; have o10 := cell_below j10 f12; have p10 := cell_below j10 d12; have n10 := cell_below j10 c13; have t10 := cell_below j10 i12; have s10 := cell_below j10 p13; have v10 := cell_below j10 s12; have w10 := cell_below j10 n12; clear j10; go_wp2_with fail; clear p11 q13 f12 d12 c13 i12 p13 s12 n12; go_loopg [10, 5] (16) (fun m_ v10_ v5_ wr => ∃ (k0 : Nat) (x10 : (List Int)) (y10 : Option Addr) (z10 : Nat), k0 + m_ = 16 ∧ v10_ = .int .i64 (k0 : Int) ∧ v5_ = .slice y10 x10.length z10 ∧ Hid (cntK (l0 rates x_id x_day x_zone x_grams x_paid x_from_ x_to_ x_leave x_arrive) m_ k0 (x10) (e0 ) = some r) ∧ Hid (Below w.heap.size w wr) ∧ wr.cell? ⟨w.heap.size, 0, none⟩ = some (.int .i64 x_id) ∧ wr.cell? ⟨w.heap.size, 1, none⟩ = some (.int .i64 x_day) ∧ wr.cell? ⟨w.heap.size, 2, none⟩ = some (.int .i64 x_zone) ∧ wr.cell? ⟨w.heap.size, 3, none⟩ = some (.int .i64 x_grams) ∧ wr.cell? ⟨w.heap.size, 4, none⟩ = some (.int .i64 x_paid) ∧ wr.cell? ⟨w.heap.size, 5, none⟩ = some (.int .i64 x_from_) ∧ wr.cell? ⟨w.heap.size, 6, none⟩ = some (.int .i64 x_to_) ∧ wr.cell? ⟨w.heap.size, 7, none⟩ = some (.int .i64 x_leave) ∧ wr.cell? ⟨w.heap.size, 8, none⟩ = some (.int .i64 x_arrive) ∧ Hid (wr.ownsRow w.heap.size 3 1 (.slice y10 x10.length z10) x10.length (HelpInt.iv x10)) ∧ Hid (Apart y10 (some ⟨w.heap.size, 0, none⟩)))
 case atStart => exact ⟨0, _, _, _, by omega, rfl, rfl, H, x13, q10, r10, o10, p10, n10, t10, s10, v10, w10, Ot_2, Lib.hid r13.out⟩
 case round =>
  obtain ⟨k0, x10, y10, z10, hkm0, rfl, rfl, H, r11, q10, r10, o10, p10, n10, t10, s10, v10, w10, e10, i10⟩ := hrel; rename World => wr0
  cases gk with
  | zero =>
   obtain rfl : k0 = 16 := (by omega); have hc0 : decide (((16 : Nat) : Int) < ((16 : Nat) : Int)) = false := (by simp); replace H := cnt_zero H; unfold e0 at H; replace H := let_hid H; obtain ⟨_, rfl, H⟩ := H; obtain rfl := ret_hid H; go_wp2_with fail; go_ret; exact ⟨y10, z10, rfl, e10.out, r11.out⟩
  | succ m0 =>
   have hlt0 : k0 < 16 := (by omega); have hc0 : decide ((k0 : Int) < ((16 : Nat) : Int)) = true := (by simp; omega); replace H := cnt_succ H; have hd0 : decide ((k0 : Int) < 16) = true := (by simp; omega); unfold l0 at H; replace H := let_hid H; obtain ⟨_, rfl, H⟩ := H; replace H := bind2_hid H; obtain ⟨w13, e14, s13, H⟩ := H; obtain ⟨v12, b13, c12, y12, l13, g13, w12, z12, q12⟩ := w13; replace H := unCover_hid H; go_wp2_with fail; go_at_call 90; refine (GiMade.C (rates) ((PCover.Cover.mk x_id x_day x_zone x_grams x_paid x_from_ x_to_ x_leave x_arrive)) ((k0 : Int)) A0 c0 _   (Lib.hid (Cells.below M0.out r11.out)) N0 s13).mono ?_; rintro h14 h10 ⟨rfl, g10⟩; unfold PCover.Cover.val; have t13 := Lib.hid (Below.step r11.out g10); replace q10 := cell_below g10 q10; replace r10 := cell_below g10 r10; replace o10 := cell_below g10 o10; replace p10 := cell_below g10 p10; replace n10 := cell_below g10 n10; replace t10 := cell_below g10 t10; replace s10 := cell_below g10 s10; replace v10 := cell_below g10 v10; replace w10 := cell_below g10 w10; replace e10 := Lib.hid (own_below e10.out g10); clear g10; obtain ⟨c10, m10⟩ : ∃ x, h10.alloc (.cells #[.int .i64 v12, .int .i64 b13, .int .i64 c12, .int .i64 y12, .int .i64 l13, .int .i64 g13, .int .i64 w12, .int .i64 z12, .int .i64 q12] 30) = x := ⟨_, rfl⟩; have f10 : Below h10.heap.size h10 c10 := (by rw [← m10]; exact (Below.refl _ _).alloc (Nat.le_refl _) _); have k10 := Lib.hid (apart_fresh e10.out); have k12 := Lib.hid (Below.step t13.out f10); have l11 := cell_below f10 q10; have j11 := cell_below f10 r10; have w11 := cell_below f10 o10; have e11 := cell_below f10 p10; have g11 := cell_below f10 n10; have q11 := cell_below f10 t10; have i11 := cell_below f10 s10; have v11 := cell_below f10 v10; have b11 := cell_below f10 w10; replace e10 := Lib.hid (own_below e10.out f10); clear f10; have z11 : c10.cell? ⟨h10.heap.size, 0, none⟩ = some (.int .i64 v12) := (by rw [← m10]; exact box_new _ _ _ 0 _ rfl); have g12 : c10.cell? ⟨h10.heap.size, 1, none⟩ = some (.int .i64 b13) := (by rw [← m10]; exact box_new _ _ _ 1 _ rfl); have a12 : c10.cell? ⟨h10.heap.size, 2, none⟩ = some (.int .i64 c12) := (by rw [← m10]; exact box_new _ _ _ 2 _ rfl); have y11 : c10.cell? ⟨h10.heap.size, 3, none⟩ = some (.int .i64 y12) := (by rw [← m10]; exact box_new _ _ _ 3 _ rfl); have e13 : c10.cell? ⟨h10.heap.size, 4, none⟩ = some (.int .i64 l13) := (by rw [← m10]; exact box_new _ _ _ 4 _ rfl); have a13 : c10.cell? ⟨h10.heap.size, 5, none⟩ = some (.int .i64 g13) := (by rw [← m10]; exact box_new _ _ _ 5 _ rfl); have m13 : c10.cell? ⟨h10.heap.size, 6, none⟩ = some (.int .i64 w12) := (by rw [← m10]; exact box_new _ _ _ 6 _ rfl); have d13 : c10.cell? ⟨h10.heap.size, 7, none⟩ = some (.int .i64 z12) := (by rw [← m10]; exact box_new _ _ _ 7 _ rfl); have t12 : c10.cell? ⟨h10.heap.size, 8, none⟩ = some (.int .i64 q12) := (by rw [← m10]; exact box_new _ _ _ 8 _ rfl)
   cases e14 with
   | false =>
    replace H := ite_f H; replace H := app_hid H; go_wp2_with fail; clear q10 r10 o10 p10 n10 t10 s10 v10 w10
    go_roundg m0
    case measure => omega
    case rel => exact ⟨k0 + 1, _, _, _, by omega, by go_num, rfl, H, k12, l11, j11, w11, e11, g11, q11, i11, v11, b11, e10, Lib.hid i10.out⟩
   | true =>
    replace H := ite_t H; obtain ⟨f14, m12⟩ : ∃ x, c10.alloc (.cells #[.int .i64 (k0 : Int)] 3) = x := ⟨_, rfl⟩; have a10 : Below c10.heap.size c10 f14 := (by rw [← m12]; exact (Below.refl _ _).alloc (Nat.le_refl _) _); have e12 := Lib.hid (Below.step k12.out a10); have a11 := cell_below a10 l11; have k11 := cell_below a10 j11; have h11 := cell_below a10 w11; have s11 := cell_below a10 e11; have t11 := cell_below a10 g11; have d11 := cell_below a10 q11; have x11 := cell_below a10 i11; have n11 := cell_below a10 v11; have m11 := cell_below a10 b11; have o11 := cell_below a10 z11; have j13 := cell_below a10 g12; have p12 := cell_below a10 a12; have f13 := cell_below a10 y11; have h13 := cell_below a10 e13; have o13 := cell_below a10 a13; have i13 := cell_below a10 m13; have x12 := cell_below a10 d13; have n13 := cell_below a10 t12; replace e10 := Lib.hid (own_below e10.out a10); clear a10; replace H := guard_hid H; obtain ⟨i14, H⟩ := H; replace H := let_hid H; obtain ⟨t_22, l12, H⟩ := H; have v13 := Lib.hid l12; clear l12; have f11 := e12.out.size; go_wp2_with (at_builtin; refine wpList_append_own_at _ rfl _ _ 38 rfl w.heap.size 3 i0_3 (.int .i64 0) 1 8 Try.underlying38 hi_3 c14 b14 a14 rfl (by decide) _ _ _ rfl e10.out ⟨c10.heap.size, 0, none⟩ 1 1 [.int .i64 (k0 : Int)] rfl rfl (news_new m12) (one_cells rfl) (by unfold maxLen; omega) (by omega) f11 ?_; intro vt_22 wt_22 ot_22 gt_22 zt_22 yt_22; clear zt_22; obtain ⟨k13, j14, rfl, j12⟩ := own_push v13.out (HelpInt.iv_snoc _ _) rfl ot_22; have d14 := Lib.hid j12; have c11 := Lib.hid yt_22; have b10 := Lib.hid gt_22; clear ot_22 gt_22 j12 yt_22; refine stop_in ?_); refine stop_out ?_; have z13 := Lib.hid (e12.out.grown b10.out f11 (fun q hq => (e10.out.lt q hq).1)); clear f11; have y13 : Hid (Apart (some ⟨k13, 0, none⟩) _) := Lib.hid (apart_app i10.out (fun a_ ha_ => by cases ha_; exact cell_lt a11) c11.out); have g14 : Hid (Apart (some ⟨k13, 0, none⟩) _) := Lib.hid (apart_app (Apart.symm k10.out) (fun a_ ha_ => by cases ha_; exact cell_lt o11) c11.out); replace a11 := cell_other a11 b10.out i10.out; replace k11 := cell_other k11 b10.out i10.out; replace h11 := cell_other h11 b10.out i10.out; replace s11 := cell_other s11 b10.out i10.out; replace t11 := cell_other t11 b10.out i10.out; replace d11 := cell_other d11 b10.out i10.out; replace x11 := cell_other x11 b10.out i10.out; replace n11 := cell_other n11 b10.out i10.out; replace m11 := cell_other m11 b10.out i10.out; replace o11 := cell_other o11 b10.out (Apart.symm k10.out); replace j13 := cell_other j13 b10.out (Apart.symm k10.out); replace p12 := cell_other p12 b10.out (Apart.symm k10.out); replace f13 := cell_other f13 b10.out (Apart.symm k10.out); replace h13 := cell_other h13 b10.out (Apart.symm k10.out); replace o13 := cell_other o13 b10.out (Apart.symm k10.out); replace i13 := cell_other i13 b10.out (Apart.symm k10.out); replace x12 := cell_other x12 b10.out (Apart.symm k10.out); replace n13 := cell_other n13 b10.out (Apart.symm k10.out); clear q10 r10 o10 p10 n10 t10 s10 v10 w10 l11 j11 w11 e11 g11 q11 i11 v11 b11 z11 g12 a12 y11 e13 a13 m13 d13 t12; clear e10 c11 b10; replace H := app_hid H; go_wp2_with fail
    go_roundg m0
    case measure => omega
    case rel => exact ⟨k0 + 1, _, _, _, by omega, by go_num, rfl, H, z13, a11, k11, h11, s11, t11, d11, x11, n11, m11, d14, Lib.hid y13.out⟩
end Go.Proofs.Ytihibckijdfidaa.GiLoPossibleChanges

namespace Go.Proofs.Ytihibckijdfidaa.GiPossibleChanges
open Go.RowKit
open Go.Proofs.Ytihibckijdfidaa.Rowed Go.Proofs.Ytihibckijdfidaa.Turn Go.Proofs.Ytihibckijdfidaa.Aid Go.Proofs.Ytihibckijdfidaa.GoP Go.Proofs.Ytihibckijdfidaa.GoM

def P (rates : (List PRate.Rate)) (x : PCover.Cover) : Option ((List Int) × Bool) :=
 unCover x fun (x_id : Int) (x_day : Int) (x_zone : Int) (x_grams : Int) (x_paid : Int) (x_from_ : Int) (x_to_ : Int) (x_leave : Int) (x_arrive : Int) =>
 Option.bind (GiCanExplain.P rates (PCover.Cover.mk x_id x_day x_zone x_grams x_paid x_from_ x_to_ x_leave x_arrive)) fun (t_5 : Bool) =>
 letK (!t_5) fun (t_6 : Bool) =>
 iteK t_6
 (some (([] : List Int), false))
 (Option.bind (GiLoPossibleChanges.P rates (PCover.Cover.mk x_id x_day x_zone x_grams x_paid x_from_ x_to_ x_leave x_arrive)) fun (t_12 : (List Int)) =>
 some (t_12, true))

set_option maxRecDepth 100000 in
set_option maxHeartbeats 2000000 in
theorem C (rates : (List PRate.Rate)) (x : PCover.Cover) (A0 : Option Addr) (c0 : Nat)  (w : World) (M0 : Hid (Cells w 5 A0 rates.length (PRate.flat rates))) (N0 : Hid (rates.length ≤ 9223372036854775807))  {r0 : (List Int)} {r1 : Bool} (H : Hid (P rates x = some (r0, r1))) :
  Calls Try.prog 25 #[.slice A0 rates.length c0, x.val] w (fun e w' => ∃ A_r0 c_r0, e = .returned (.tuple #[.slice A_r0 r0.length c_r0, .bool r1]) ∧ w'.ownsRow w.heap.size 3 1 (.slice A_r0 r0.length c_r0) r0.length (HelpInt.iv r0) ∧ Below w.heap.size w w') := by
 have HB := Lib.hid (Below.refl w.heap.size w); unfold P at H; obtain ⟨x_id, x_day, x_zone, x_grams, x_paid, x_from_, x_to_, x_leave, x_arrive⟩ := x; replace H := unCover_hid H; unfold PCover.Cover.val; have N0o := N0.out
 go_enter Try.func25, Try.ntmps25
 obtain ⟨d10, c10⟩ : ∃ x, w.alloc (.cells #[.int .i64 x_id, .int .i64 x_day, .int .i64 x_zone, .int .i64 x_grams, .int .i64 x_paid, .int .i64 x_from_, .int .i64 x_to_, .int .i64 x_leave, .int .i64 x_arrive] 30) = x := ⟨_, rfl⟩; have q10 : Below w.heap.size w d10 := (by rw [← c10]; exact (Below.refl _ _).alloc (Nat.le_refl _) _); have p10 := Lib.hid (Below.step HB.out q10); clear q10; have e10 : d10.cell? ⟨w.heap.size, 0, none⟩ = some (.int .i64 x_id) := (by rw [← c10]; exact box_new _ _ _ 0 _ rfl); have g10 : d10.cell? ⟨w.heap.size, 1, none⟩ = some (.int .i64 x_day) := (by rw [← c10]; exact box_new _ _ _ 1 _ rfl); have j10 : d10.cell? ⟨w.heap.size, 2, none⟩ = some (.int .i64 x_zone) := (by rw [← c10]; exact box_new _ _ _ 2 _ rfl); have n10 : d10.cell? ⟨w.heap.size, 3, none⟩ = some (.int .i64 x_grams) := (by rw [← c10]; exact box_new _ _ _ 3 _ rfl); have f10 : d10.cell? ⟨w.heap.size, 4, none⟩ = some (.int .i64 x_paid) := (by rw [← c10]; exact box_new _ _ _ 4 _ rfl); have m10 : d10.cell? ⟨w.heap.size, 5, none⟩ = some (.int .i64 x_from_) := (by rw [← c10]; exact box_new _ _ _ 5 _ rfl); have h10 : d10.cell? ⟨w.heap.size, 6, none⟩ = some (.int .i64 x_to_) := (by rw [← c10]; exact box_new _ _ _ 6 _ rfl); have k10 : d10.cell? ⟨w.heap.size, 7, none⟩ = some (.int .i64 x_leave) := (by rw [← c10]; exact box_new _ _ _ 7 _ rfl); have l10 : d10.cell? ⟨w.heap.size, 8, none⟩ = some (.int .i64 x_arrive) := (by rw [← c10]; exact box_new _ _ _ 8 _ rfl); replace H := bind_hid H; obtain ⟨t_5, qt_5, H⟩ := H; go_wp2_with fail; go_at_call 84; refine (GiCanExplain.C (rates) ((PCover.Cover.mk x_id x_day x_zone x_grams x_paid x_from_ x_to_ x_leave x_arrive)) A0 c0 _   (Lib.hid (Cells.below M0.out p10.out)) N0 qt_5).mono ?_; rintro j11 wt_5 ⟨rfl, bt_5⟩; have i10 := Lib.hid (Below.step p10.out bt_5); replace e10 := cell_below bt_5 e10; replace g10 := cell_below bt_5 g10; replace j10 := cell_below bt_5 j10; replace n10 := cell_below bt_5 n10; replace f10 := cell_below bt_5 f10; replace m10 := cell_below bt_5 m10; replace h10 := cell_below bt_5 h10; replace k10 := cell_below bt_5 k10; replace l10 := cell_below bt_5 l10; clear bt_5
 cases t_5 with
 | false =>
  replace H := let_hid H; obtain ⟨t_6, ht_6, H⟩ := H; obtain rfl : t_6 = true := ht_6.symm; replace H := ite_t H; obtain ⟨r10, s10⟩ : ∃ x, wt_5.alloc (.cells #[] 3) = x := ⟨_, rfl⟩; have a10 : Below wt_5.heap.size wt_5 r10 := (by rw [← s10]; exact (Below.refl _ _).alloc (Nat.le_refl _) _); have Ot_7 : Hid (r10.ownsRow w.heap.size 3 1 (.slice (some ⟨wt_5.heap.size, 0, none⟩) 0 0) 0 []) := Lib.hid (by rw [← s10]; exact own_empty i10.out.size); have e11 := Lib.hid (apart_box e10); have t10 := Lib.hid (Below.step i10.out a10); have k11 := cell_below a10 e10; have g11 := cell_below a10 g10; have h11 := cell_below a10 j10; have m11 := cell_below a10 n10; have n11 := cell_below a10 f10; have c11 := cell_below a10 m10; have i11 := cell_below a10 h10; have a11 := cell_below a10 k10; have b11 := cell_below a10 l10; clear a10; cases ret_hid H; go_wp2_with fail; go_ret2; exact ⟨(some ⟨wt_5.heap.size, 0, none⟩), 0, rfl, Ot_7.out, t10.out⟩
 | true =>
  replace H := let_hid H; obtain ⟨t_6, ht_6, H⟩ := H; obtain rfl : t_6 = false := ht_6.symm; replace H := ite_f H; replace H := bind_hid H; obtain ⟨t_12, z10, H⟩ := H; go_wp2_with fail; go_at_call 92; refine (GiLoPossibleChanges.C (rates) ((PCover.Cover.mk x_id x_day x_zone x_grams x_paid x_from_ x_to_ x_leave x_arrive)) A0 c0 _   (Lib.hid (Cells.below M0.out i10.out)) N0 z10).mono ?_; rintro l11 f11 ⟨x10, y10, rfl, o10, b10⟩; have d11 := Lib.hid (apart_callbox o10 e10); have v10 := Lib.hid (own_lower o10 i10.out.size); clear o10; have w10 := Lib.hid (Below.step i10.out b10); replace e10 := cell_below b10 e10; replace g10 := cell_below b10 g10; replace j10 := cell_below b10 j10; replace n10 := cell_below b10 n10; replace f10 := cell_below b10 f10; replace m10 := cell_below b10 m10; replace h10 := cell_below b10 h10; replace k10 := cell_below b10 k10; replace l10 := cell_below b10 l10; clear b10; cases ret_hid H; go_wp2_with fail; go_ret2; exact ⟨x10, y10, rfl, v10.out, w10.out⟩
end Go.Proofs.Ytihibckijdfidaa.GiPossibleChanges

namespace Go.Proofs.Ytihibckijdfidaa.GsL12All
open Go.RowKit
open Go.Proofs.Ytihibckijdfidaa.Rowed Go.Proofs.Ytihibckijdfidaa.Turn Go.Proofs.Ytihibckijdfidaa.Aid Go.Proofs.Ytihibckijdfidaa.GoP Go.Proofs.Ytihibckijdfidaa.GoM

def l0 (rates : (List PRate.Rate)) (x_id : Int) (x_day : Int) (x_zone : Int) (x_grams : Int) (x_paid : Int) (x_from_ : Int) (x_to_ : Int) (x_leave : Int) (x_arrive : Int) (fuel : Nat) (k0 : Nat) (s : (List Int)) (nx0 bk0 : (List Int) → Option ((List Int))) : Option ((List Int)) :=
 letK s fun out_5l0 =>
 bind2 (GsL12Make.P fuel rates (PCover.Cover.mk x_id x_day x_zone x_grams x_paid x_from_ x_to_ x_leave x_arrive) (k0 : Int)) fun (t_10a : PCover.Cover) (t_10b : Bool) =>
 unCover t_10a fun (t_10a_id : Int) (t_10a_day : Int) (t_10a_zone : Int) (t_10a_grams : Int) (t_10a_paid : Int) (t_10a_from_ : Int) (t_10a_to_ : Int) (t_10a_leave : Int) (t_10a_arrive : Int) =>
 iteK t_10b
 (guardK (out_5l0.length ≤ 1099511627776) <|
 letK (out_5l0 ++ [(k0 : Int)]) fun (t_21 : (List Int)) =>
 appK nx0 (t_21))
 (appK nx0 (out_5l0))

def e0  (s : (List Int)) : Option ((List Int)) :=
 letK s fun out_5l0 =>
 some out_5l0

def P (fuel : Nat) (rates : (List PRate.Rate)) (x : PCover.Cover) : Option ((List Int)) :=
 unCover x fun (x_id : Int) (x_day : Int) (x_zone : Int) (x_grams : Int) (x_paid : Int) (x_from_ : Int) (x_to_ : Int) (x_leave : Int) (x_arrive : Int) =>
 cntK (l0 rates x_id x_day x_zone x_grams x_paid x_from_ x_to_ x_leave x_arrive fuel) (16) 0 (([] : List Int)) (e0 )

set_option maxRecDepth 100000 in
set_option maxHeartbeats 2000000 in
theorem C (fuel : Nat) (rates : (List PRate.Rate)) (x : PCover.Cover) (A0 : Option Addr) (c0 : Nat)  (w : World) (M0 : Hid (Cells w 5 A0 rates.length (PRate.flat rates))) (N0 : Hid (rates.length ≤ 9223372036854775807))  {r : (List Int)} (H : Hid (P fuel rates x = some r)) :
  Calls Try.prog 91 #[.slice A0 rates.length c0, x.val] w (fun e w' => ∃ A_r c_r, e = .returned (.slice A_r r.length c_r) ∧ w'.ownsRow w.heap.size 3 1 (.slice A_r r.length c_r) r.length (HelpInt.iv r) ∧ Below w.heap.size w w') := by
 have HB := Lib.hid (Below.refl w.heap.size w); unfold P at H; obtain ⟨x_id, x_day, x_zone, x_grams, x_paid, x_from_, x_to_, x_leave, x_arrive⟩ := x; replace H := unCover_hid H; unfold PCover.Cover.val; have N0o := N0.out; obtain ⟨i0_3, hi_3, w13, a14, r13⟩ := Aid.info_parts (P := Try.prog) (T := 3) (z := .int .i64 0) (s := 1) (b := 8) (by kernel_rfl)
 go_enter Try.func91, Try.ntmps91
 obtain ⟨c10, l10⟩ : ∃ x, w.alloc (.cells #[.int .i64 x_id, .int .i64 x_day, .int .i64 x_zone, .int .i64 x_grams, .int .i64 x_paid, .int .i64 x_from_, .int .i64 x_to_, .int .i64 x_leave, .int .i64 x_arrive] 30) = x := ⟨_, rfl⟩; have l13 : Below w.heap.size w c10 := (by rw [← l10]; exact (Below.refl _ _).alloc (Nat.le_refl _) _); have h12 := Lib.hid (Below.step HB.out l13); clear l13; have x11 : c10.cell? ⟨w.heap.size, 0, none⟩ = some (.int .i64 x_id) := (by rw [← l10]; exact box_new _ _ _ 0 _ rfl); have i12 : c10.cell? ⟨w.heap.size, 1, none⟩ = some (.int .i64 x_day) := (by rw [← l10]; exact box_new _ _ _ 1 _ rfl); have r12 : c10.cell? ⟨w.heap.size, 2, none⟩ = some (.int .i64 x_zone) := (by rw [← l10]; exact box_new _ _ _ 2 _ rfl); have o13 : c10.cell? ⟨w.heap.size, 3, none⟩ = some (.int .i64 x_grams) := (by rw [← l10]; exact box_new _ _ _ 3 _ rfl); have s12 : c10.cell? ⟨w.heap.size, 4, none⟩ = some (.int .i64 x_paid) := (by rw [← l10]; exact box_new _ _ _ 4 _ rfl); have d12 : c10.cell? ⟨w.heap.size, 5, none⟩ = some (.int .i64 x_from_) := (by rw [← l10]; exact box_new _ _ _ 5 _ rfl); have h13 : c10.cell? ⟨w.heap.size, 6, none⟩ = some (.int .i64 x_to_) := (by rw [← l10]; exact box_new _ _ _ 6 _ rfl); have g13 : c10.cell? ⟨w.heap.size, 7, none⟩ = some (.int .i64 x_leave) := (by rw [← l10]; exact box_new _ _ _ 7 _ rfl); have x12 : c10.cell? ⟨w.heap.size, 8, none⟩ = some (.int .i64 x_arrive) := (by rw [← l10]; exact box_new _ _ _ 8 _ rfl); obtain ⟨c13, y11⟩ : ∃ x, c10.alloc (.cells #[] 3) = x := ⟨_, rfl⟩; have j10 : Below c10.heap.size c10 c13 := (by rw [← y11]; exact (Below.refl _ _).alloc (Nat.le_refl _) _); have Ot_2 : Hid (c13.ownsRow w.heap.size 3 1 (.slice (some ⟨c10.heap.size, 0, none⟩) 0 0) 0 []) := Lib.hid (by rw [← y11]; exact own_empty h12.out.size); have s13 := Lib.hid (apart_box x11); have f14 := Lib.hid (Below.step h12.out j10); have r10 := cell_below j10 x11; have q10 := cell_below j10 i12; have s10 := cell_below j10 r12; have v10 := cell_below j10 o13; have o10 := cell_below j10 s12; have p10 := cell_below j10 d12; have t10 := cell_below j10 h13; have w10 := cell_below j10 g13; have n10 := cell_below j10 x12; clear j10; go_wp2_with fail; clear x11 i12 r12 o13 s12 d12 h13 g13 x12; go_loopg [6, 5] (16) (fun m_ v6_ v5_ wr => ∃ (k0 : Nat) (x10 : (List Int)) (y10 : Option Addr) (z10 : Nat), k0 + m_ = 16 ∧ v6_ = .int .i64 (k0 : Int) ∧ v5_ = .slice y10 x10.length z10 ∧ Hid (cntK (l0 rates x_id x_day x_zone x_grams x_paid x_from_ x_to_ x_leave x_arrive fuel) m_ k0 (x10) (e0 ) = some r) ∧ Hid (Below w.heap.size w wr) ∧ wr.cell? ⟨w.heap.size, 0, none⟩ = some (.int .i64 x_id) ∧ wr.cell? ⟨w.heap.size, 1, none⟩ = some (.int .i64 x_day) ∧ wr.cell? ⟨w.heap.size, 2, none⟩ = some (.int .i64 x_zone) ∧ wr.cell? ⟨w.heap.size, 3, none⟩ = some (.int .i64 x_grams) ∧ wr.cell? ⟨w.heap.size, 4, none⟩ = some (.int .i64 x_paid) ∧ wr.cell? ⟨w.heap.size, 5, none⟩ = some (.int .i64 x_from_) ∧ wr.cell? ⟨w.heap.size, 6, none⟩ = some (.int .i64 x_to_) ∧ wr.cell? ⟨w.heap.size, 7, none⟩ = some (.int .i64 x_leave) ∧ wr.cell? ⟨w.heap.size, 8, none⟩ = some (.int .i64 x_arrive) ∧ Hid (wr.ownsRow w.heap.size 3 1 (.slice y10 x10.length z10) x10.length (HelpInt.iv x10)) ∧ Hid (Apart y10 (some ⟨w.heap.size, 0, none⟩)))
 case atStart => exact ⟨0, _, _, _, by omega, rfl, rfl, H, f14, r10, q10, s10, v10, o10, p10, t10, w10, n10, Ot_2, Lib.hid s13.out⟩
 case round =>
  obtain ⟨k0, x10, y10, z10, hkm0, rfl, rfl, H, i11, r10, q10, s10, v10, o10, p10, t10, w10, n10, f10, i10⟩ := hrel; rename World => wr0
  cases gk with
  | zero =>
   obtain rfl : k0 = 16 := (by omega); have hc0 : decide (((16 : Nat) : Int) < ((16 : Nat) : Int)) = false := (by simp); replace H := cnt_zero H; unfold e0 at H; replace H := let_hid H; obtain ⟨_, rfl, H⟩ := H; obtain rfl := ret_hid H; go_wp2_with fail; go_ret; exact ⟨y10, z10, rfl, f10.out, i11.out⟩
  | succ m0 =>
   have hlt0 : k0 < 16 := (by omega); have hc0 : decide ((k0 : Int) < ((16 : Nat) : Int)) = true := (by simp; omega); replace H := cnt_succ H; have hd0 : decide ((k0 : Int) < 16) = true := (by simp; omega); unfold l0 at H; replace H := let_hid H; obtain ⟨_, rfl, H⟩ := H; replace H := bind2_hid H; obtain ⟨c14, e14, y13, H⟩ := H; obtain ⟨e12, n12, z12, w12, a12, q12, e13, i13, a13⟩ := c14; replace H := unCover_hid H; go_wp2_with fail; go_at_call 88; refine (GsL12Make.C fuel (rates) ((PCover.Cover.mk x_id x_day x_zone x_grams x_paid x_from_ x_to_ x_leave x_arrive)) ((k0 : Int)) A0 c0 _   (Lib.hid (Cells.below M0.out i11.out)) N0 y13).mono ?_; rintro i14 h10 ⟨rfl, e10⟩; unfold PCover.Cover.val; have t13 := Lib.hid (Below.step i11.out e10); replace r10 := cell_below e10 r10; replace q10 := cell_below e10 q10; replace s10 := cell_below e10 s10; replace v10 := cell_below e10 v10; replace o10 := cell_below e10 o10; replace p10 := cell_below e10 p10; replace t10 := cell_below e10 t10; replace w10 := cell_below e10 w10; replace n10 := cell_below e10 n10; replace f10 := Lib.hid (own_below f10.out e10); clear e10; obtain ⟨d10, k10⟩ : ∃ x, h10.alloc (.cells #[.int .i64 e12, .int .i64 n12, .int .i64 z12, .int .i64 w12, .int .i64 a12, .int .i64 q12, .int .i64 e13, .int .i64 i13, .int .i64 a13] 30) = x := ⟨_, rfl⟩; have g10 : Below h10.heap.size h10 d10 := (by rw [← k10]; exact (Below.refl _ _).alloc (Nat.le_refl _) _); have m10 := Lib.hid (apart_fresh f10.out); have f13 := Lib.hid (Below.step t13.out g10); have n11 := cell_below g10 r10; have p11 := cell_below g10 q10; have l11 := cell_below g10 s10; have t11 := cell_below g10 v10; have d11 := cell_below g10 o10; have m11 := cell_below g10 p10; have c11 := cell_below g10 t10; have v11 := cell_below g10 w10; have b11 := cell_below g10 n10; replace f10 := Lib.hid (own_below f10.out g10); clear g10; have m13 : d10.cell? ⟨h10.heap.size, 0, none⟩ = some (.int .i64 e12) := (by rw [← k10]; exact box_new _ _ _ 0 _ rfl); have o12 : d10.cell? ⟨h10.heap.size, 1, none⟩ = some (.int .i64 n12) := (by rw [← k10]; exact box_new _ _ _ 1 _ rfl); have p12 : d10.cell? ⟨h10.heap.size, 2, none⟩ = some (.int .i64 z12) := (by rw [← k10]; exact box_new _ _ _ 2 _ rfl); have p13 : d10.cell? ⟨h10.heap.size, 3, none⟩ = some (.int .i64 w12) := (by rw [← k10]; exact box_new _ _ _ 3 _ rfl); have y12 : d10.cell? ⟨h10.heap.size, 4, none⟩ = some (.int .i64 a12) := (by rw [← k10]; exact box_new _ _ _ 4 _ rfl); have c12 : d10.cell? ⟨h10.heap.size, 5, none⟩ = some (.int .i64 q12) := (by rw [← k10]; exact box_new _ _ _ 5 _ rfl); have g12 : d10.cell? ⟨h10.heap.size, 6, none⟩ = some (.int .i64 e13) := (by rw [← k10]; exact box_new _ _ _ 6 _ rfl); have z11 : d10.cell? ⟨h10.heap.size, 7, none⟩ = some (.int .i64 i13) := (by rw [← k10]; exact box_new _ _ _ 7 _ rfl); have b12 : d10.cell? ⟨h10.heap.size, 8, none⟩ = some (.int .i64 a13) := (by rw [← k10]; exact box_new _ _ _ 8 _ rfl)
   cases e14 with
   | false =>
    replace H := ite_f H; replace H := app_hid H; go_wp2_with fail; clear r10 q10 s10 v10 o10 p10 t10 w10 n10
    go_roundg m0
    case measure => omega
    case rel => exact ⟨k0 + 1, _, _, _, by omega, by go_num, rfl, H, f13, n11, p11, l11, t11, d11, m11, c11, v11, b11, f10, Lib.hid i10.out⟩
   | true =>
    replace H := ite_t H; obtain ⟨x13, j13⟩ : ∃ x, d10.alloc (.cells #[.int .i64 (k0 : Int)] 3) = x := ⟨_, rfl⟩; have a10 : Below d10.heap.size d10 x13 := (by rw [← j13]; exact (Below.refl _ _).alloc (Nat.le_refl _) _); have q13 := Lib.hid (Below.step f13.out a10); have a11 := cell_below a10 n11; have q11 := cell_below a10 p11; have w11 := cell_below a10 l11; have j11 := cell_below a10 t11; have o11 := cell_below a10 d11; have s11 := cell_below a10 m11; have h11 := cell_below a10 c11; have e11 := cell_below a10 v11; have g11 := cell_below a10 b11; have k11 := cell_below a10 m13; have f12 := cell_below a10 o12; have k12 := cell_below a10 p12; have t12 := cell_below a10 p13; have l12 := cell_below a10 y12; have k13 := cell_below a10 c12; have m12 := cell_below a10 g12; have d13 := cell_below a10 z11; have j12 := cell_below a10 b12; replace f10 := Lib.hid (own_below f10.out a10); clear a10; replace H := guard_hid H; obtain ⟨h14, H⟩ := H; replace H := let_hid H; obtain ⟨t_21, v12, H⟩ := H; have z13 := Lib.hid v12; clear v12; have f11 := q13.out.size; go_wp2_with (at_builtin; refine wpList_append_own_at _ rfl _ _ 38 rfl w.heap.size 3 i0_3 (.int .i64 0) 1 8 Try.underlying38 hi_3 w13 a14 r13 rfl (by decide) _ _ _ rfl f10.out ⟨d10.heap.size, 0, none⟩ 1 1 [.int .i64 (k0 : Int)] rfl rfl (news_new j13) (one_cells rfl) (by unfold maxLen; omega) (by omega) f11 ?_; intro vt_21 wt_21 ot_21 gt_21 zt_21 yt_21; clear zt_21; obtain ⟨n13, j14, rfl, b13⟩ := own_push z13.out (HelpInt.iv_snoc _ _) rfl ot_21; have d14 := Lib.hid b13; have r11 := Lib.hid yt_21; have b10 := Lib.hid gt_21; clear ot_21 gt_21 b13 yt_21; refine stop_in ?_); refine stop_out ?_; have b14 := Lib.hid (q13.out.grown b10.out f11 (fun q hq => (f10.out.lt q hq).1)); clear f11; have v13 : Hid (Apart (some ⟨n13, 0, none⟩) _) := Lib.hid (apart_app i10.out (fun a_ ha_ => by cases ha_; exact cell_lt a11) r11.out); have g14 : Hid (Apart (some ⟨n13, 0, none⟩) _) := Lib.hid (apart_app (Apart.symm m10.out) (fun a_ ha_ => by cases ha_; exact cell_lt k11) r11.out); replace a11 := cell_other a11 b10.out i10.out; replace q11 := cell_other q11 b10.out i10.out; replace w11 := cell_other w11 b10.out i10.out; replace j11 := cell_other j11 b10.out i10.out; replace o11 := cell_other o11 b10.out i10.out; replace s11 := cell_other s11 b10.out i10.out; replace h11 := cell_other h11 b10.out i10.out; replace e11 := cell_other e11 b10.out i10.out; replace g11 := cell_other g11 b10.out i10.out; replace k11 := cell_other k11 b10.out (Apart.symm m10.out); replace f12 := cell_other f12 b10.out (Apart.symm m10.out); replace k12 := cell_other k12 b10.out (Apart.symm m10.out); replace t12 := cell_other t12 b10.out (Apart.symm m10.out); replace l12 := cell_other l12 b10.out (Apart.symm m10.out); replace k13 := cell_other k13 b10.out (Apart.symm m10.out); replace m12 := cell_other m12 b10.out (Apart.symm m10.out); replace d13 := cell_other d13 b10.out (Apart.symm m10.out); replace j12 := cell_other j12 b10.out (Apart.symm m10.out); clear r10 q10 s10 v10 o10 p10 t10 w10 n10 n11 p11 l11 t11 d11 m11 c11 v11 b11 m13 o12 p12 p13 y12 c12 g12 z11 b12; clear f10 r11 b10; replace H := app_hid H; go_wp2_with fail
    go_roundg m0
    case measure => omega
    case rel => exact ⟨k0 + 1, _, _, _, by omega, by go_num, rfl, H, b14, a11, q11, w11, j11, o11, s11, h11, e11, g11, d14, Lib.hid v13.out⟩
end Go.Proofs.Ytihibckijdfidaa.GsL12All

namespace Go.Proofs.Ytihibckijdfidaa.GsPossibleChanges
open Go.RowKit
open Go.Proofs.Ytihibckijdfidaa.Rowed Go.Proofs.Ytihibckijdfidaa.Turn Go.Proofs.Ytihibckijdfidaa.Aid Go.Proofs.Ytihibckijdfidaa.GoP Go.Proofs.Ytihibckijdfidaa.GoM

def P (fuel : Nat) (rates : (List PRate.Rate)) (x : PCover.Cover) : Option ((List Int) × Bool) :=
 unCover x fun (x_id : Int) (x_day : Int) (x_zone : Int) (x_grams : Int) (x_paid : Int) (x_from_ : Int) (x_to_ : Int) (x_leave : Int) (x_arrive : Int) =>
 Option.bind (GsL8Good.P fuel rates) fun (t_4 : Bool) =>
 letK (!t_4) fun (t_5 : Bool) =>
 joinK (fun (t_10 : Bool) =>
 iteK t_10
 (some (([] : List Int), false))
 (Option.bind (GsL12All.P fuel rates (PCover.Cover.mk x_id x_day x_zone x_grams x_paid x_from_ x_to_ x_leave x_arrive)) fun (t_16 : (List Int)) =>
 some (t_16, true))) fun jt_10 => iteK t_5 (appK jt_10 true) (Option.bind (GsL10One.P (PCover.Cover.mk x_id x_day x_zone x_grams x_paid x_from_ x_to_ x_leave x_arrive)) fun (t_8 : Bool) =>
 letK (!t_8) fun (t_9 : Bool) =>
 appK jt_10 t_9)

set_option maxRecDepth 100000 in
set_option maxHeartbeats 2000000 in
theorem C (fuel : Nat) (rates : (List PRate.Rate)) (x : PCover.Cover) (A0 : Option Addr) (c0 : Nat)  (w : World) (M0 : Hid (Cells w 5 A0 rates.length (PRate.flat rates))) (N0 : Hid (rates.length ≤ 9223372036854775807))  {r0 : (List Int)} {r1 : Bool} (H : Hid (P fuel rates x = some (r0, r1))) :
  Calls Try.prog 24 #[.slice A0 rates.length c0, x.val] w (fun e w' => ∃ A_r0 c_r0, e = .returned (.tuple #[.slice A_r0 r0.length c_r0, .bool r1]) ∧ w'.ownsRow w.heap.size 3 1 (.slice A_r0 r0.length c_r0) r0.length (HelpInt.iv r0) ∧ Below w.heap.size w w') := by
 have HB := Lib.hid (Below.refl w.heap.size w); unfold P at H; obtain ⟨x_id, x_day, x_zone, x_grams, x_paid, x_from_, x_to_, x_leave, x_arrive⟩ := x; replace H := unCover_hid H; unfold PCover.Cover.val; have N0o := N0.out
 go_enter Try.func24, Try.ntmps24
 obtain ⟨e10, d10⟩ : ∃ x, w.alloc (.cells #[.int .i64 x_id, .int .i64 x_day, .int .i64 x_zone, .int .i64 x_grams, .int .i64 x_paid, .int .i64 x_from_, .int .i64 x_to_, .int .i64 x_leave, .int .i64 x_arrive] 30) = x := ⟨_, rfl⟩; have w10 : Below w.heap.size w e10 := (by rw [← d10]; exact (Below.refl _ _).alloc (Nat.le_refl _) _); have v10 := Lib.hid (Below.step HB.out w10); clear w10; have c10 : e10.cell? ⟨w.heap.size, 0, none⟩ = some (.int .i64 x_id) := (by rw [← d10]; exact box_new _ _ _ 0 _ rfl); have m10 : e10.cell? ⟨w.heap.size, 1, none⟩ = some (.int .i64 x_day) := (by rw [← d10]; exact box_new _ _ _ 1 _ rfl); have f10 : e10.cell? ⟨w.heap.size, 2, none⟩ = some (.int .i64 x_zone) := (by rw [← d10]; exact box_new _ _ _ 2 _ rfl); have j10 : e10.cell? ⟨w.heap.size, 3, none⟩ = some (.int .i64 x_grams) := (by rw [← d10]; exact box_new _ _ _ 3 _ rfl); have h10 : e10.cell? ⟨w.heap.size, 4, none⟩ = some (.int .i64 x_paid) := (by rw [← d10]; exact box_new _ _ _ 4 _ rfl); have l10 : e10.cell? ⟨w.heap.size, 5, none⟩ = some (.int .i64 x_from_) := (by rw [← d10]; exact box_new _ _ _ 5 _ rfl); have i10 : e10.cell? ⟨w.heap.size, 6, none⟩ = some (.int .i64 x_to_) := (by rw [← d10]; exact box_new _ _ _ 6 _ rfl); have k10 : e10.cell? ⟨w.heap.size, 7, none⟩ = some (.int .i64 x_leave) := (by rw [← d10]; exact box_new _ _ _ 7 _ rfl); have g10 : e10.cell? ⟨w.heap.size, 8, none⟩ = some (.int .i64 x_arrive) := (by rw [← d10]; exact box_new _ _ _ 8 _ rfl); replace H := bind_hid H; obtain ⟨t_4, qt_4, H⟩ := H; go_wp2_with fail; go_at_call 80; refine (GsL8Good.C fuel (rates) A0 c0 _   (Lib.hid (Cells.below M0.out v10.out)) N0 qt_4).mono ?_; rintro e11 wt_4 ⟨rfl, bt_4⟩; have q10 := Lib.hid (Below.step v10.out bt_4); replace c10 := cell_below bt_4 c10; replace m10 := cell_below bt_4 m10; replace f10 := cell_below bt_4 f10; replace j10 := cell_below bt_4 j10; replace h10 := cell_below bt_4 h10; replace l10 := cell_below bt_4 l10; replace i10 := cell_below bt_4 i10; replace k10 := cell_below bt_4 k10; replace g10 := cell_below bt_4 g10; clear bt_4
 cases t_4 with
 | false =>
  replace H := let_hid H; obtain ⟨t_5, ht_5, H⟩ := H; obtain rfl : t_5 = true := ht_5.symm; replace H := join_hid H; replace H := ite_t H; replace H := app_hid H; replace H := ite_t H; obtain ⟨p10, o10⟩ : ∃ x, wt_4.alloc (.cells #[] 3) = x := ⟨_, rfl⟩; have a10 : Below wt_4.heap.size wt_4 p10 := (by rw [← o10]; exact (Below.refl _ _).alloc (Nat.le_refl _) _); have s10 : Hid (p10.ownsRow w.heap.size 3 1 (.slice (some ⟨wt_4.heap.size, 0, none⟩) 0 0) 0 []) := Lib.hid (by rw [← o10]; exact own_empty q10.out.size); have c11 := Lib.hid (apart_box c10); have t10 := Lib.hid (Below.step q10.out a10); have s11 := cell_below a10 c10; have y11 := cell_below a10 m10; have i11 := cell_below a10 f10; have t11 := cell_below a10 j10; have v11 := cell_below a10 h10; have k11 := cell_below a10 l10; have o11 := cell_below a10 i10; have q11 := cell_below a10 k10; have a12 := cell_below a10 g10; clear a10; cases ret_hid H; go_wp2_with fail; go_ret2; exact ⟨(some ⟨wt_4.heap.size, 0, none⟩), 0, rfl, s10.out, t10.out⟩
 | true =>
  replace H := let_hid H; obtain ⟨t_5, ht_5, H⟩ := H; obtain rfl : t_5 = false := ht_5.symm; replace H := join_hid H; replace H := ite_f H; replace H := bind_hid H; obtain ⟨t_8, qt_8, H⟩ := H; go_wp2_with fail; go_at_call 81; refine (GsL10One.C ((PCover.Cover.mk x_id x_day x_zone x_grams x_paid x_from_ x_to_ x_leave x_arrive))  _    qt_8).mono ?_; rintro p11 wt_8 ⟨rfl, bt_8⟩; have n10 := Lib.hid (Below.step q10.out bt_8); replace c10 := cell_below bt_8 c10; replace m10 := cell_below bt_8 m10; replace f10 := cell_below bt_8 f10; replace j10 := cell_below bt_8 j10; replace h10 := cell_below bt_8 h10; replace l10 := cell_below bt_8 l10; replace i10 := cell_below bt_8 i10; replace k10 := cell_below bt_8 k10; replace g10 := cell_below bt_8 g10; clear bt_8
  cases t_8 with
  | false =>
   replace H := let_hid H; obtain ⟨t_9, ht_9, H⟩ := H; obtain rfl : t_9 = true := ht_9.symm; replace H := app_hid H; replace H := ite_t H; obtain ⟨p10, o10⟩ : ∃ x, wt_8.alloc (.cells #[] 3) = x := ⟨_, rfl⟩; have a10 : Below wt_8.heap.size wt_8 p10 := (by rw [← o10]; exact (Below.refl _ _).alloc (Nat.le_refl _) _); have s10 : Hid (p10.ownsRow w.heap.size 3 1 (.slice (some ⟨wt_8.heap.size, 0, none⟩) 0 0) 0 []) := Lib.hid (by rw [← o10]; exact own_empty n10.out.size); have c11 := Lib.hid (apart_box c10); have t10 := Lib.hid (Below.step n10.out a10); have m11 := cell_below a10 c10; have d11 := cell_below a10 m10; have g11 := cell_below a10 f10; have r11 := cell_below a10 j10; have x11 := cell_below a10 h10; have j11 := cell_below a10 l10; have z11 := cell_below a10 i10; have w11 := cell_below a10 k10; have n11 := cell_below a10 g10; clear a10; cases ret_hid H; go_wp2_with fail; go_ret2; exact ⟨(some ⟨wt_8.heap.size, 0, none⟩), 0, rfl, s10.out, t10.out⟩
  | true =>
   replace H := let_hid H; obtain ⟨t_9, ht_9, H⟩ := H; obtain rfl : t_9 = false := ht_9.symm; replace H := app_hid H; replace H := ite_f H; replace H := bind_hid H; obtain ⟨t_16, b11, H⟩ := H; go_wp2_with fail; go_at_call 91; refine (GsL12All.C fuel (rates) ((PCover.Cover.mk x_id x_day x_zone x_grams x_paid x_from_ x_to_ x_leave x_arrive)) A0 c0 _   (Lib.hid (Cells.below M0.out n10.out)) N0 b11).mono ?_; rintro f11 l11 ⟨x10, y10, rfl, r10, b10⟩; have h11 := Lib.hid (apart_callbox r10 c10); have z10 := Lib.hid (own_lower r10 n10.out.size); clear r10; have a11 := Lib.hid (Below.step n10.out b10); replace c10 := cell_below b10 c10; replace m10 := cell_below b10 m10; replace f10 := cell_below b10 f10; replace j10 := cell_below b10 j10; replace h10 := cell_below b10 h10; replace l10 := cell_below b10 l10; replace i10 := cell_below b10 i10; replace k10 := cell_below b10 k10; replace g10 := cell_below b10 g10; clear b10; cases ret_hid H; go_wp2_with fail; go_ret2; exact ⟨x10, y10, rfl, z10.out, a11.out⟩
end Go.Proofs.Ytihibckijdfidaa.GsPossibleChanges

namespace Go.Proofs.Ytihibckijdfidaa.GiIsChange
open Go.RowKit
open Go.Proofs.Ytihibckijdfidaa.Rowed Go.Proofs.Ytihibckijdfidaa.Turn Go.Proofs.Ytihibckijdfidaa.Aid Go.Proofs.Ytihibckijdfidaa.GoP Go.Proofs.Ytihibckijdfidaa.GoM

def P (change : Int) : Option (Bool) :=
  Option.bind (Go.Proofs.Ytihibckijdfidaa.GiWithin.P change 0 15) fun (t_2 : Bool) =>
  some t_2

set_option maxRecDepth 100000 in
set_option maxHeartbeats 2000000 in
theorem C (change : Int)   (w : World)   {r : Bool} (H : Hid (P change = some r)) :
    Calls Try.prog 89 #[.int .i64 change] w (Gives (.bool r) w) := by
  have HB := Lib.hid (Below.refl w.heap.size w)
  unfold P at H
  go_enter Try.func89, Try.ntmps89
  replace H := bind_hid H
  obtain ⟨t_2, qt_2, H⟩ := H
  go_wp2_with fail
  go_at_call 119
  refine (Go.Proofs.Ytihibckijdfidaa.GiWithin.C (change) (0) (15)  _    qt_2).mono ?_
  rintro e_t_2 wt_2 ⟨rfl, bt_2⟩
  have HBwt_2 := Lib.hid (Below.step HB.out bt_2)
  clear bt_2
  obtain rfl := ret_hid H
  go_wp2_with fail
  go_ret
  exact ⟨rfl, HBwt_2.out⟩
end Go.Proofs.Ytihibckijdfidaa.GiIsChange

namespace Go.Proofs.Ytihibckijdfidaa.GiMakeCover
open Go.RowKit
open Go.Proofs.Ytihibckijdfidaa.Rowed Go.Proofs.Ytihibckijdfidaa.Turn Go.Proofs.Ytihibckijdfidaa.Aid Go.Proofs.Ytihibckijdfidaa.GoP Go.Proofs.Ytihibckijdfidaa.GoM

def P (rates : (List PRate.Rate)) (x : PCover.Cover) (change : Int) : Option (PCover.Cover × Bool) :=
 unCover x fun (x_id : Int) (x_day : Int) (x_zone : Int) (x_grams : Int) (x_paid : Int) (x_from_ : Int) (x_to_ : Int) (x_leave : Int) (x_arrive : Int) =>
 Option.bind (GiCanExplain.P rates (PCover.Cover.mk x_id x_day x_zone x_grams x_paid x_from_ x_to_ x_leave x_arrive)) fun (t_5 : Bool) =>
 letK (!t_5) fun (t_6 : Bool) =>
 joinK (fun (t_11 : Bool) =>
 iteK t_11
 (some ((PCover.Cover.mk 0 0 0 0 0 0 0 0 0), false))
 (bind2 (GiMade.P rates (PCover.Cover.mk x_id x_day x_zone x_grams x_paid x_from_ x_to_ x_leave x_arrive) change) fun (t_18a : PCover.Cover) (t_18b : Bool) =>
 unCover t_18a fun (t_18a_id : Int) (t_18a_day : Int) (t_18a_zone : Int) (t_18a_grams : Int) (t_18a_paid : Int) (t_18a_from_ : Int) (t_18a_to_ : Int) (t_18a_leave : Int) (t_18a_arrive : Int) =>
 some ((PCover.Cover.mk t_18a_id t_18a_day t_18a_zone t_18a_grams t_18a_paid t_18a_from_ t_18a_to_ t_18a_leave t_18a_arrive), t_18b))) fun jt_11 => iteK t_6 (appK jt_11 true) (Option.bind (GiIsChange.P change) fun (t_9 : Bool) =>
 letK (!t_9) fun (t_10 : Bool) =>
 appK jt_11 t_10)

set_option maxRecDepth 100000 in
set_option maxHeartbeats 2000000 in
theorem C (rates : (List PRate.Rate)) (x : PCover.Cover) (change : Int) (A0 : Option Addr) (c0 : Nat)  (w : World) (M0 : Hid (Cells w 5 A0 rates.length (PRate.flat rates))) (N0 : Hid (rates.length ≤ 9223372036854775807))  {r0 : PCover.Cover} {r1 : Bool} (H : Hid (P rates x change = some (r0, r1))) :
  Calls Try.prog 22 #[.slice A0 rates.length c0, x.val, .int .i64 change] w (Gives (.tuple #[(PCover.Cover.val r0), .bool r1]) w) := by
 have HB := Lib.hid (Below.refl w.heap.size w); unfold P at H; obtain ⟨x_id, x_day, x_zone, x_grams, x_paid, x_from_, x_to_, x_leave, x_arrive⟩ := x; replace H := unCover_hid H; unfold PCover.Cover.val; have N0o := N0.out
 go_enter Try.func22, Try.ntmps22
 obtain ⟨a10, l10⟩ : ∃ x, w.alloc (.cells #[.int .i64 x_id, .int .i64 x_day, .int .i64 x_zone, .int .i64 x_grams, .int .i64 x_paid, .int .i64 x_from_, .int .i64 x_to_, .int .i64 x_leave, .int .i64 x_arrive] 30) = x := ⟨_, rfl⟩; have f12 : Below w.heap.size w a10 := (by rw [← l10]; exact (Below.refl _ _).alloc (Nat.le_refl _) _); have c12 := Lib.hid (Below.step HB.out f12); clear f12; have v11 : a10.cell? ⟨w.heap.size, 0, none⟩ = some (.int .i64 x_id) := (by rw [← l10]; exact box_new _ _ _ 0 _ rfl); have z11 : a10.cell? ⟨w.heap.size, 1, none⟩ = some (.int .i64 x_day) := (by rw [← l10]; exact box_new _ _ _ 1 _ rfl); have b12 : a10.cell? ⟨w.heap.size, 2, none⟩ = some (.int .i64 x_zone) := (by rw [← l10]; exact box_new _ _ _ 2 _ rfl); have a12 : a10.cell? ⟨w.heap.size, 3, none⟩ = some (.int .i64 x_grams) := (by rw [← l10]; exact box_new _ _ _ 3 _ rfl); have h12 : a10.cell? ⟨w.heap.size, 4, none⟩ = some (.int .i64 x_paid) := (by rw [← l10]; exact box_new _ _ _ 4 _ rfl); have y11 : a10.cell? ⟨w.heap.size, 5, none⟩ = some (.int .i64 x_from_) := (by rw [← l10]; exact box_new _ _ _ 5 _ rfl); have l12 : a10.cell? ⟨w.heap.size, 6, none⟩ = some (.int .i64 x_to_) := (by rw [← l10]; exact box_new _ _ _ 6 _ rfl); have d12 : a10.cell? ⟨w.heap.size, 7, none⟩ = some (.int .i64 x_leave) := (by rw [← l10]; exact box_new _ _ _ 7 _ rfl); have k12 : a10.cell? ⟨w.heap.size, 8, none⟩ = some (.int .i64 x_arrive) := (by rw [← l10]; exact box_new _ _ _ 8 _ rfl); obtain ⟨i10, j10⟩ : ∃ x, a10.alloc (.cells #[.int .i64 0, .int .i64 0, .int .i64 0, .int .i64 0, .int .i64 0, .int .i64 0, .int .i64 0, .int .i64 0, .int .i64 0] 30) = x := ⟨_, rfl⟩; have k10 : Below a10.heap.size a10 i10 := (by rw [← j10]; exact (Below.refl _ _).alloc (Nat.le_refl _) _); have b10 := Lib.hid (apart_box v11); have g12 := Lib.hid (Below.step c12.out k10); have t10 := cell_below k10 v11; have w10 := cell_below k10 z11; have v10 := cell_below k10 b12; have s10 := cell_below k10 a12; have o10 := cell_below k10 h12; have q10 := cell_below k10 y11; have m10 := cell_below k10 l12; have p10 := cell_below k10 d12; have r10 := cell_below k10 k12; clear k10; have a11 : i10.cell? ⟨a10.heap.size, 0, none⟩ = some (.int .i64 0) := (by rw [← j10]; exact box_new _ _ _ 0 _ rfl); have y10 : i10.cell? ⟨a10.heap.size, 1, none⟩ = some (.int .i64 0) := (by rw [← j10]; exact box_new _ _ _ 1 _ rfl); have e11 : i10.cell? ⟨a10.heap.size, 2, none⟩ = some (.int .i64 0) := (by rw [← j10]; exact box_new _ _ _ 2 _ rfl); have b11 : i10.cell? ⟨a10.heap.size, 3, none⟩ = some (.int .i64 0) := (by rw [← j10]; exact box_new _ _ _ 3 _ rfl); have z10 : i10.cell? ⟨a10.heap.size, 4, none⟩ = some (.int .i64 0) := (by rw [← j10]; exact box_new _ _ _ 4 _ rfl); have c11 : i10.cell? ⟨a10.heap.size, 5, none⟩ = some (.int .i64 0) := (by rw [← j10]; exact box_new _ _ _ 5 _ rfl); have f11 : i10.cell? ⟨a10.heap.size, 6, none⟩ = some (.int .i64 0) := (by rw [← j10]; exact box_new _ _ _ 6 _ rfl); have d11 : i10.cell? ⟨a10.heap.size, 7, none⟩ = some (.int .i64 0) := (by rw [← j10]; exact box_new _ _ _ 7 _ rfl); have g11 : i10.cell? ⟨a10.heap.size, 8, none⟩ = some (.int .i64 0) := (by rw [← j10]; exact box_new _ _ _ 8 _ rfl); have Ot_1 : Hid (i10.ownsRow w.heap.size 30 9 (.slice (some ⟨a10.heap.size, 0, none⟩) 1 1) 1 [.int .i64 0, .int .i64 0, .int .i64 0, .int .i64 0, .int .i64 0, .int .i64 0, .int .i64 0, .int .i64 0, .int .i64 0]) := Lib.hid (by rw [← j10]; exact own_laid (n := 1) c12.out.size rfl rfl (by unfold maxLen; omega)); replace H := bind_hid H; obtain ⟨t_5, qt_5, H⟩ := H; go_wp2_with fail; clear v11 z11 b12 a12 h12 y11 l12 d12 k12; go_at_call 84; refine (GiCanExplain.C (rates) ((PCover.Cover.mk x_id x_day x_zone x_grams x_paid x_from_ x_to_ x_leave x_arrive)) A0 c0 _   (Lib.hid (Cells.below M0.out g12.out)) N0 qt_5).mono ?_; rintro f14 wt_5 ⟨rfl, bt_5⟩; have s11 := Lib.hid (Below.step g12.out bt_5)
 replace t10 := cell_below bt_5 t10; replace w10 := cell_below bt_5 w10; replace v10 := cell_below bt_5 v10; replace s10 := cell_below bt_5 s10; replace o10 := cell_below bt_5 o10; replace q10 := cell_below bt_5 q10; replace m10 := cell_below bt_5 m10; replace p10 := cell_below bt_5 p10; replace r10 := cell_below bt_5 r10; replace a11 := cell_below bt_5 a11; replace y10 := cell_below bt_5 y10; replace e11 := cell_below bt_5 e11; replace b11 := cell_below bt_5 b11; replace z10 := cell_below bt_5 z10; replace c11 := cell_below bt_5 c11; replace f11 := cell_below bt_5 f11; replace d11 := cell_below bt_5 d11; replace g11 := cell_below bt_5 g11; replace Ot_1 := Lib.hid (own_below Ot_1.out bt_5); clear bt_5
 cases t_5 with
 | false =>
  replace H := let_hid H; obtain ⟨t_6, ht_6, H⟩ := H; obtain rfl : t_6 = true := ht_6.symm; replace H := join_hid H; replace H := ite_t H; replace H := app_hid H; replace H := ite_t H; obtain ⟨c10, j11⟩ : ∃ x, (((((((((wt_5).setCell ⟨a10.heap.size, 0, none⟩ (.int .i64 0)).setCell ⟨a10.heap.size, 1, none⟩ (.int .i64 0)).setCell ⟨a10.heap.size, 2, none⟩ (.int .i64 0)).setCell ⟨a10.heap.size, 3, none⟩ (.int .i64 0)).setCell ⟨a10.heap.size, 4, none⟩ (.int .i64 0)).setCell ⟨a10.heap.size, 5, none⟩ (.int .i64 0)).setCell ⟨a10.heap.size, 6, none⟩ (.int .i64 0)).setCell ⟨a10.heap.size, 7, none⟩ (.int .i64 0)).setCell ⟨a10.heap.size, 8, none⟩ (.int .i64 0) = x := ⟨_, rfl⟩; have l13 := Ot_1.out.frozenAt 0; have s12 := Ot_1.out.frozenAt 1; have b14 := Ot_1.out.frozenAt 2; have d13 := Ot_1.out.frozenAt 3; have r13 := Ot_1.out.frozenAt 4; have j13 := Ot_1.out.frozenAt 5; have n12 := Ot_1.out.frozenAt 6; have h13 := Ot_1.out.frozenAt 7; have o13 := Ot_1.out.frozenAt 8; have x10 := Lib.hid (own_stores [(0, .int .i64 0), (1, .int .i64 0), (2, .int .i64 0), (3, .int .i64 0), (4, .int .i64 0), (5, .int .i64 0), (6, .int .i64 0), (7, .int .i64 0), (8, .int .i64 0)] Ot_1.out); have f10 : Hid (c10.ownsRow w.heap.size 30 9 (.slice (some ⟨a10.heap.size, 0, none⟩) 1 1) 1 [.int .i64 0, .int .i64 0, .int .i64 0, .int .i64 0, .int .i64 0, .int .i64 0, .int .i64 0, .int .i64 0, .int .i64 0]) := Lib.hid (by rw [← j11]; exact x10.out.1); have d10 : Hid (wt_5.grownBy c10 (Value.slice (some ⟨a10.heap.size, 0, none⟩) 1 1).ownBlock) := Lib.hid (by rw [← j11]; exact x10.out.2); have x11 := Lib.hid (s11.out.grown d10.out s11.out.size (fun q hq => (Ot_1.out.lt q hq).1)); clear x10; have d15 := cell_other t10 d10.out b10.out; have f15 := cell_other w10 d10.out b10.out; have c15 := cell_other v10 d10.out b10.out; have r14 := cell_other s10 d10.out b10.out; have m14 := cell_other o10 d10.out b10.out; have o15 := cell_other q10 d10.out b10.out; have d14 := cell_other m10 d10.out b10.out; have x14 := cell_other p10 d10.out b10.out; have w14 := cell_other r10 d10.out b10.out; clear Ot_1 d10; have a13 : c10.cell? ⟨a10.heap.size, 0, none⟩ = some (.int .i64 0) := f10.out.cells rfl 0 _ rfl; have m13 : c10.cell? ⟨a10.heap.size, 1, none⟩ = some (.int .i64 0) := f10.out.cells rfl 1 _ rfl; have i13 : c10.cell? ⟨a10.heap.size, 2, none⟩ = some (.int .i64 0) := f10.out.cells rfl 2 _ rfl; have v12 : c10.cell? ⟨a10.heap.size, 3, none⟩ = some (.int .i64 0) := f10.out.cells rfl 3 _ rfl; have g13 : c10.cell? ⟨a10.heap.size, 4, none⟩ = some (.int .i64 0) := f10.out.cells rfl 4 _ rfl; have p12 : c10.cell? ⟨a10.heap.size, 5, none⟩ = some (.int .i64 0) := f10.out.cells rfl 5 _ rfl; have o12 : c10.cell? ⟨a10.heap.size, 6, none⟩ = some (.int .i64 0) := f10.out.cells rfl 6 _ rfl; have b13 : c10.cell? ⟨a10.heap.size, 7, none⟩ = some (.int .i64 0) := f10.out.cells rfl 7 _ rfl; have p13 : c10.cell? ⟨a10.heap.size, 8, none⟩ = some (.int .i64 0) := f10.out.cells rfl 8 _ rfl; have hR_ := ret_hid H; simp only [Prod.mk.injEq] at hR_; obtain ⟨rfl, rfl⟩ := hR_; go_wp2_with fail
  (try simp only [Exit.inBlock, Exit.then])
  refine bodyPost_ret (v := .tuple #[.agg #[.int .i64 0, .int .i64 0, .int .i64 0, .int .i64 0, .int .i64 0, .int .i64 0, .int .i64 0, .int .i64 0, .int .i64 0], .bool false]) ?hr_ ?hd_ ?_
  case hd_ => rfl
  case hr_ => simp [results, Try.results22, a13, m13, i13, v12, g13, p12, o12, b13, p13, go_sem]
  exact ⟨rfl, x11.out⟩
 | true =>
  replace H := let_hid H; obtain ⟨t_6, ht_6, H⟩ := H; obtain rfl : t_6 = false := ht_6.symm; replace H := join_hid H; replace H := ite_f H; replace H := bind_hid H; obtain ⟨t_9, qt_9, H⟩ := H; go_wp2_with fail; go_at_call 89; refine (GiIsChange.C (change)  _    qt_9).mono ?_; rintro l14 wt_9 ⟨rfl, bt_9⟩; have r11 := Lib.hid (Below.step s11.out bt_9); replace t10 := cell_below bt_9 t10; replace w10 := cell_below bt_9 w10; replace v10 := cell_below bt_9 v10; replace s10 := cell_below bt_9 s10; replace o10 := cell_below bt_9 o10; replace q10 := cell_below bt_9 q10; replace m10 := cell_below bt_9 m10; replace p10 := cell_below bt_9 p10; replace r10 := cell_below bt_9 r10; replace a11 := cell_below bt_9 a11; replace y10 := cell_below bt_9 y10; replace e11 := cell_below bt_9 e11; replace b11 := cell_below bt_9 b11; replace z10 := cell_below bt_9 z10; replace c11 := cell_below bt_9 c11; replace f11 := cell_below bt_9 f11; replace d11 := cell_below bt_9 d11; replace g11 := cell_below bt_9 g11; replace Ot_1 := Lib.hid (own_below Ot_1.out bt_9); clear bt_9
  cases t_9 with
  | false =>
   replace H := let_hid H; obtain ⟨t_10, t11, H⟩ := H; obtain rfl : t_10 = true := t11.symm; replace H := app_hid H; replace H := ite_t H; obtain ⟨c10, j11⟩ : ∃ x, (((((((((wt_9).setCell ⟨a10.heap.size, 0, none⟩ (.int .i64 0)).setCell ⟨a10.heap.size, 1, none⟩ (.int .i64 0)).setCell ⟨a10.heap.size, 2, none⟩ (.int .i64 0)).setCell ⟨a10.heap.size, 3, none⟩ (.int .i64 0)).setCell ⟨a10.heap.size, 4, none⟩ (.int .i64 0)).setCell ⟨a10.heap.size, 5, none⟩ (.int .i64 0)).setCell ⟨a10.heap.size, 6, none⟩ (.int .i64 0)).setCell ⟨a10.heap.size, 7, none⟩ (.int .i64 0)).setCell ⟨a10.heap.size, 8, none⟩ (.int .i64 0) = x := ⟨_, rfl⟩; have l13 := Ot_1.out.frozenAt 0; have s12 := Ot_1.out.frozenAt 1; have b14 := Ot_1.out.frozenAt 2; have d13 := Ot_1.out.frozenAt 3; have r13 := Ot_1.out.frozenAt 4; have j13 := Ot_1.out.frozenAt 5; have n12 := Ot_1.out.frozenAt 6; have h13 := Ot_1.out.frozenAt 7; have o13 := Ot_1.out.frozenAt 8; have x10 := Lib.hid (own_stores [(0, .int .i64 0), (1, .int .i64 0), (2, .int .i64 0), (3, .int .i64 0), (4, .int .i64 0), (5, .int .i64 0), (6, .int .i64 0), (7, .int .i64 0), (8, .int .i64 0)] Ot_1.out); have f10 : Hid (c10.ownsRow w.heap.size 30 9 (.slice (some ⟨a10.heap.size, 0, none⟩) 1 1) 1 [.int .i64 0, .int .i64 0, .int .i64 0, .int .i64 0, .int .i64 0, .int .i64 0, .int .i64 0, .int .i64 0, .int .i64 0]) := Lib.hid (by rw [← j11]; exact x10.out.1); have d10 : Hid (wt_9.grownBy c10 (Value.slice (some ⟨a10.heap.size, 0, none⟩) 1 1).ownBlock) := Lib.hid (by rw [← j11]; exact x10.out.2); have x11 := Lib.hid (r11.out.grown d10.out r11.out.size (fun q hq => (Ot_1.out.lt q hq).1)); clear x10; have p15 := cell_other t10 d10.out b10.out; have t14 := cell_other w10 d10.out b10.out; have a15 := cell_other v10 d10.out b10.out; have q14 := cell_other s10 d10.out b10.out; have m15 := cell_other o10 d10.out b10.out; have g15 := cell_other q10 d10.out b10.out; have s14 := cell_other m10 d10.out b10.out; have y14 := cell_other p10 d10.out b10.out; have g14 := cell_other r10 d10.out b10.out; clear Ot_1 d10; have w12 : c10.cell? ⟨a10.heap.size, 0, none⟩ = some (.int .i64 0) := f10.out.cells rfl 0 _ rfl; have y12 : c10.cell? ⟨a10.heap.size, 1, none⟩ = some (.int .i64 0) := f10.out.cells rfl 1 _ rfl; have z13 : c10.cell? ⟨a10.heap.size, 2, none⟩ = some (.int .i64 0) := f10.out.cells rfl 2 _ rfl; have n13 : c10.cell? ⟨a10.heap.size, 3, none⟩ = some (.int .i64 0) := f10.out.cells rfl 3 _ rfl; have x13 : c10.cell? ⟨a10.heap.size, 4, none⟩ = some (.int .i64 0) := f10.out.cells rfl 4 _ rfl; have y13 : c10.cell? ⟨a10.heap.size, 5, none⟩ = some (.int .i64 0) := f10.out.cells rfl 5 _ rfl; have t13 : c10.cell? ⟨a10.heap.size, 6, none⟩ = some (.int .i64 0) := f10.out.cells rfl 6 _ rfl; have r12 : c10.cell? ⟨a10.heap.size, 7, none⟩ = some (.int .i64 0) := f10.out.cells rfl 7 _ rfl; have m12 : c10.cell? ⟨a10.heap.size, 8, none⟩ = some (.int .i64 0) := f10.out.cells rfl 8 _ rfl; have hR_ := ret_hid H; simp only [Prod.mk.injEq] at hR_; obtain ⟨rfl, rfl⟩ := hR_; go_wp2_with fail
   (try simp only [Exit.inBlock, Exit.then])
   refine bodyPost_ret (v := .tuple #[.agg #[.int .i64 0, .int .i64 0, .int .i64 0, .int .i64 0, .int .i64 0, .int .i64 0, .int .i64 0, .int .i64 0, .int .i64 0], .bool false]) ?hr_ ?hd_ ?_
   case hd_ => rfl
   case hr_ => simp [results, Try.results22, w12, y12, z13, n13, x13, y13, t13, r12, m12, go_sem]
   exact ⟨rfl, x11.out⟩
  | true =>
   replace H := let_hid H; obtain ⟨t_10, t11, H⟩ := H; obtain rfl : t_10 = false := t11.symm; replace H := app_hid H; replace H := ite_f H; replace H := bind2_hid H; obtain ⟨q12, z12, s13, H⟩ := H; obtain ⟨p11, k11, m11, l11, i11, h11, o11, q11, n11⟩ := q12; replace H := unCover_hid H; go_wp2_with fail; go_at_call 90; refine (GiMade.C (rates) ((PCover.Cover.mk x_id x_day x_zone x_grams x_paid x_from_ x_to_ x_leave x_arrive)) (change) A0 c0 _   (Lib.hid (Cells.below M0.out r11.out)) N0 s13).mono ?_; rintro h15 i12 ⟨rfl, e10⟩; unfold PCover.Cover.val; have e12 := Lib.hid (Below.step r11.out e10); replace t10 := cell_below e10 t10; replace w10 := cell_below e10 w10; replace v10 := cell_below e10 v10; replace s10 := cell_below e10 s10; replace o10 := cell_below e10 o10; replace q10 := cell_below e10 q10; replace m10 := cell_below e10 m10; replace p10 := cell_below e10 p10; replace r10 := cell_below e10 r10; replace a11 := cell_below e10 a11; replace y10 := cell_below e10 y10; replace e11 := cell_below e10 e11; replace b11 := cell_below e10 b11; replace z10 := cell_below e10 z10; replace c11 := cell_below e10 c11; replace f11 := cell_below e10 f11; replace d11 := cell_below e10 d11; replace g11 := cell_below e10 g11; replace Ot_1 := Lib.hid (own_below Ot_1.out e10); clear e10; obtain ⟨g10, j12⟩ : ∃ x, (((((((((i12).setCell ⟨a10.heap.size, 0, none⟩ (.int .i64 p11)).setCell ⟨a10.heap.size, 1, none⟩ (.int .i64 k11)).setCell ⟨a10.heap.size, 2, none⟩ (.int .i64 m11)).setCell ⟨a10.heap.size, 3, none⟩ (.int .i64 l11)).setCell ⟨a10.heap.size, 4, none⟩ (.int .i64 i11)).setCell ⟨a10.heap.size, 5, none⟩ (.int .i64 h11)).setCell ⟨a10.heap.size, 6, none⟩ (.int .i64 o11)).setCell ⟨a10.heap.size, 7, none⟩ (.int .i64 q11)).setCell ⟨a10.heap.size, 8, none⟩ (.int .i64 n11) = x := ⟨_, rfl⟩; have e15 := Ot_1.out.frozenAt 0; have o14 := Ot_1.out.frozenAt 1; have e14 := Ot_1.out.frozenAt 2; have n14 := Ot_1.out.frozenAt 3; have i14 := Ot_1.out.frozenAt 4; have i15 := Ot_1.out.frozenAt 5; have j14 := Ot_1.out.frozenAt 6; have k14 := Ot_1.out.frozenAt 7; have p14 := Ot_1.out.frozenAt 8; have w11 := Lib.hid (own_stores [(0, .int .i64 p11), (1, .int .i64 k11), (2, .int .i64 m11), (3, .int .i64 l11), (4, .int .i64 i11), (5, .int .i64 h11), (6, .int .i64 o11), (7, .int .i64 q11), (8, .int .i64 n11)] Ot_1.out); have n10 : Hid (g10.ownsRow w.heap.size 30 9 (.slice (some ⟨a10.heap.size, 0, none⟩) 1 1) 1 [.int .i64 p11, .int .i64 k11, .int .i64 m11, .int .i64 l11, .int .i64 i11, .int .i64 h11, .int .i64 o11, .int .i64 q11, .int .i64 n11]) := Lib.hid (by rw [← j12]; exact w11.out.1); have h10 : Hid (i12.grownBy g10 (Value.slice (some ⟨a10.heap.size, 0, none⟩) 1 1).ownBlock) := Lib.hid (by rw [← j12]; exact w11.out.2); have t12 := Lib.hid (e12.out.grown h10.out e12.out.size (fun q hq => (Ot_1.out.lt q hq).1)); clear w11; have j15 := cell_other t10 h10.out b10.out; have h14 := cell_other w10 h10.out b10.out; have l15 := cell_other v10 h10.out b10.out; have b15 := cell_other s10 h10.out b10.out; have n15 := cell_other o10 h10.out b10.out; have k15 := cell_other q10 h10.out b10.out; have v14 := cell_other m10 h10.out b10.out; have c14 := cell_other p10 h10.out b10.out; have z14 := cell_other r10 h10.out b10.out; clear Ot_1 h10; have v13 : g10.cell? ⟨a10.heap.size, 0, none⟩ = some (.int .i64 p11) := n10.out.cells rfl 0 _ rfl; have f13 : g10.cell? ⟨a10.heap.size, 1, none⟩ = some (.int .i64 k11) := n10.out.cells rfl 1 _ rfl; have c13 : g10.cell? ⟨a10.heap.size, 2, none⟩ = some (.int .i64 m11) := n10.out.cells rfl 2 _ rfl; have k13 : g10.cell? ⟨a10.heap.size, 3, none⟩ = some (.int .i64 l11) := n10.out.cells rfl 3 _ rfl; have q13 : g10.cell? ⟨a10.heap.size, 4, none⟩ = some (.int .i64 i11) := n10.out.cells rfl 4 _ rfl; have a14 : g10.cell? ⟨a10.heap.size, 5, none⟩ = some (.int .i64 h11) := n10.out.cells rfl 5 _ rfl; have e13 : g10.cell? ⟨a10.heap.size, 6, none⟩ = some (.int .i64 o11) := n10.out.cells rfl 6 _ rfl
   have w13 : g10.cell? ⟨a10.heap.size, 7, none⟩ = some (.int .i64 q11) := n10.out.cells rfl 7 _ rfl; have x12 : g10.cell? ⟨a10.heap.size, 8, none⟩ = some (.int .i64 n11) := n10.out.cells rfl 8 _ rfl; have hR_ := ret_hid H; simp only [Prod.mk.injEq] at hR_; obtain ⟨rfl, rfl⟩ := hR_; go_wp2_with fail
   (try simp only [Exit.inBlock, Exit.then])
   refine bodyPost_ret (v := .tuple #[.agg #[.int .i64 p11, .int .i64 k11, .int .i64 m11, .int .i64 l11, .int .i64 i11, .int .i64 h11, .int .i64 o11, .int .i64 q11, .int .i64 n11], .bool z12]) ?hr_ ?hd_ ?_
   case hd_ => rfl
   case hr_ => simp [results, Try.results22, v13, f13, c13, k13, q13, a14, e13, w13, x12, go_sem]
   exact ⟨rfl, t12.out⟩
end Go.Proofs.Ytihibckijdfidaa.GiMakeCover

