/- The walk of the law FnStrings: it returns true and writes nothing that was there. Conditions: its bytes read as bytes; the library's variables are as the library lays them. -/
import Derived.Test.YtohgfphbgpjamaaDoorFmtPost
import Derived.Test.YtohgfphbgpjamaaDoorParseImpl
import Derived.Test.YtohgfphbgpjamaaDoorAppendSum
import Derived.Test.YtohgfphbgpjamaaDoorVerify
import Derived.Test.YtohgfphbgpjamaaDoorDrawStrings
import Derived.Test.YtohgfphbgpjamaaDoorLawHelp
import Derived.Test.YtohgfphbgpjamaaDoorPlainFlip
import Derived.StillTailTactics
import Derived.Laws.BitsLemmas
import Derived.Lib.ConvBytes
import Derived.Outline
namespace Go.Proofs.YtohgfphbgpjamaaDoor.StringsLaw
set_option linter.unusedVariables false
open Go.RowKit
open Go.Proofs.YtohgfphbgpjamaaDoor.Rowed Go.Proofs.YtohgfphbgpjamaaDoor.Cursor Go.Proofs.YtohgfphbgpjamaaDoor.CurMore Go.Proofs.YtohgfphbgpjamaaDoor.DrawStrings Go.Proofs.YtohgfphbgpjamaaDoor.LawHelp
open Go.Proofs.YtohgfphbgpjamaaDoor.Fmt Go.Proofs.YtohgfphbgpjamaaDoor.FmtPost Go.Proofs.YtohgfphbgpjamaaDoor.PlainNum Go.Proofs.YtohgfphbgpjamaaDoor.Parse Go.Proofs.YtohgfphbgpjamaaDoor.ParseImpl Go.Proofs.YtohgfphbgpjamaaDoor.PlainSeal Go.Proofs.YtohgfphbgpjamaaDoor.Seal Go.Proofs.YtohgfphbgpjamaaDoor.AppendSum

/-- what stands through the whole law: the bytes, the library's variables -/
structure Base (w0 W : World) : Prop where
  bel : Below w0.heap.size w0 W
  tab : Hid (Tab W)
  err : Hid (Errs W)
  mx : Hid (Verify.MaxInt W)
theorem Base.next {w0 W W' : World} (h : Base w0 W) (hb : Below W.heap.size W W') : Base w0 W' :=
  ⟨Below.step h.bel hb, tab_below hb h.tab, ⟨let ⟨t, p, q⟩ := h.err.1; ⟨t, p, var_below hb q⟩, let ⟨t, p, q⟩ := h.err.2; ⟨t, p, var_below hb q⟩⟩, Verify.maxInt_below hb h.mx⟩
theorem code_at {w0 W : World} {A : Option Addr} {n : Nat} (hc : ByteCode w0 w0.heap.size A n) (h : Base w0 W) : ByteCode W W.heap.size A n :=
  ByteCode.widen (ByteCode.below hc h.bel) h.bel.size

theorem fm_size {n : Int} {s : ByteArray} {b : Bool} (h : Fm n s b) : s.size ≤ 140737488355328 := by
  rcases h with ⟨_, h1, h2, rfl⟩ | ⟨_, _, rfl⟩
  · have := (itoa_len n h1 h2).2
    show (Lib.itoa n).length ≤ _
    omega
  · show 0 ≤ _; omega
theorem fm_back {n v : Int} {s : ByteArray} {b there : Bool} (h : Fm n s b) (k : Rd s.data.toList v there) : b = true → v = n ∧ there = true := by
  rintro rfl
  rcases h with ⟨_, h1, h2, rfl⟩ | ⟨h0, _⟩
  · exact (k.uniq (Rd.yes ⟨h1, h2, rfl⟩))
  · simp at h0

theorem sl_no {l : List UInt8} {y : ByteArray} (h : Sl l y.data.toList false) : y = ⟨#[]⟩ := by
  rcases h with ⟨h0, _⟩ | ⟨_, h1, _⟩
  · simp at h0
  · exact PlainSeal.ext_of h1
theorem sl_yes {x y : ByteArray} (h : Sl x.data.toList y.data.toList true) : Ok x.data.toList ∧ y = sealedOf x := by
  rcases h with ⟨_, h1, h2⟩ | ⟨h0, _⟩
  · exact ⟨h1, PlainSeal.ext_of h2⟩
  · simp at h0
theorem seal_size {x : ByteArray} (h : Ok x.data.toList) : (sealedOf x).size ≤ 1048576 := by
  have := h.2.2
  rw [sealedOf_size]; omega
theorem ver_back {x z : ByteArray} {b : Bool} (h : Ok x.data.toList) (k : PlainVerify.Vf (sealedOf x).data.toList z.data.toList b) : x = z ∧ b = true := by
  have := PlainVerify.Vf.uniq k (.inl ⟨rfl, h, rfl⟩)
  exact ⟨(PlainSeal.ext_of this.1).symm, this.2⟩

theorem seal_pos (x : ByteArray) : 1 ≤ (sealedOf x).size := by
  have := (sealed_len x.data.toList).1
  rw [sealedOf_size]; omega
theorem idx_of {a : Int} {N : Nat} (h : 0 ≤ a) (hN : 1 ≤ N) : ∃ kk : Nat, a % (N : Int) = kk ∧ kk < N := by
  have h1 := Int.emod_nonneg a (b := (N : Int)) (by omega)
  have h2 := Int.emod_lt_of_pos a (b := (N : Int)) (by omega)
  exact ⟨(a % (N : Int)).toNat, by omega, by omega⟩
theorem conv_bytes (W : World) (s : ByteArray) : ∃ cp W2, (convert 9 22 (.string s)).run Tryd.prog W = .ok (.slice (some ⟨W.heap.size, 0, none⟩) s.size cp) W2 ∧ Below W.heap.size W W2 ∧ W.heap.size < W2.heap.size ∧
    (∀ j, j < s.size → W2.cell? ⟨W.heap.size, j, none⟩ = some (.int .u8 ((s.data.toList.getD j 0).toNat : Int))) ∧ (∀ j, j < s.size → W2.frozen? ⟨W.heap.size, j, none⟩ = false) := by
  refine ⟨_, _, Lib.run_convert_string_bytes (P := Tryd.prog) W 9 22 5 s Tryd.underlying9 Tryd.underlying22 Tryd.underlying5, Lib.bytesWorld_below W _ s, by rw [Lib.bytesWorld_size]; omega, fun j hj => Lib.bytesWorld_cell W _ s j hj, fun j hj => ?_⟩
  have hsz : s.size ≤ (Lib.bytesCells W 5 s).size := by
    unfold Lib.bytesCells
    rw [Array.size_append, Array.size_map]
    show s.size ≤ s.size + _
    omega
  simp only [World.frozen?, Lib.bytesWorld_at_new]
  simp; omega

theorem xor_byte (b : UInt8) (d : Nat) (h1 : 1 ≤ d) (h2 : d ≤ 255) : ∃ v : UInt8, bits .xor .u8 (b.toNat : Int) (d : Int) = (v.toNat : Int) ∧ v ≠ b := by
  have e : d = (UInt8.ofNat d).toNat := by rw [UInt8.toNat_ofNat']; omega
  refine ⟨b ^^^ UInt8.ofNat d, ?_, fun h => ?_⟩
  · have hb := b.toNat_lt
    have x1 : (BitVec.ofInt 8 (b.toNat : Int)).toNat = b.toNat := by
      rw [BitVec.ofInt_natCast, BitVec.toNat_ofNat]; exact Nat.mod_eq_of_lt (by omega)
    have x2 : (BitVec.ofInt 8 (d : Int)).toNat = d := by
      rw [BitVec.ofInt_natCast, BitVec.toNat_ofNat]; exact Nat.mod_eq_of_lt (by omega)
    show IntKind.u8.wrap ((BitVec.ofInt 8 (b.toNat : Int) ^^^ BitVec.ofInt 8 (d : Int)).toNat : Int) = _
    rw [BitVec.toNat_xor, x1, x2, UInt8.toNat_xor, ← e, IntKind.wrap_u8]
    have hx : b.toNat ^^^ d < 2 ^ 8 := Nat.xor_lt_two_pow (by omega) (by omega)
    omega
  · have h3 : b ^^^ (b ^^^ UInt8.ofNat d) = b ^^^ b := by rw [h]
    rw [← UInt8.xor_assoc, UInt8.xor_self, UInt8.zero_xor] at h3
    rw [h3] at e
    have : (0 : UInt8).toNat = 0 := rfl
    omega

/-- what the flip gives: the byte, the byte that is stored, and that the bytes behind it are no sealed string -/
theorem flip_of {W : World} {g kk : Nat} {a10 : Int} {x : ByteArray} (hk : kk < (sealedOf x).size) (q0 : 0 ≤ a10)
    (hc : ∀ j, j < (sealedOf x).size → W.cell? ⟨g, j, none⟩ = some (.int .u8 (((sealedOf x).data.toList.getD j 0).toNat : Int))) (hok : Ok x.data.toList) :
    ∃ bt vv dd : Int, Hid (IntKind.u8.wrap (1 + a10 % 255) = dd) ∧ bits BinOp.xor IntKind.u8 bt dd = vv ∧ W.cell? ⟨g, kk, none⟩ = some (.int .u8 bt) ∧
      Hid (∃ v : UInt8, vv = (v.toNat : Int) ∧ PlainVerify.Vf ((sealedOf x).data.toList.set kk v) [] false) := by
  obtain ⟨d, hd, d1, d2⟩ : ∃ d : Nat, 1 + a10 % 255 = (d : Int) ∧ 1 ≤ d ∧ d ≤ 255 := ⟨(1 + a10 % 255).toNat, by omega, by omega, by omega⟩
  obtain ⟨v, hv, hne⟩ := xor_byte ((sealedOf x).data.toList.getD kk 0) d d1 d2
  have hlen : kk < (sealed x.data.toList).length := by rw [← sealedOf_size]; exact hk
  refine ⟨_, (v.toNat : Int), (d : Int), Lib.hid (by rw [hd, IntKind.wrap_u8]; omega), hv, hc kk hk, Lib.hid ⟨v, rfl, ?_⟩⟩
  refine PlainFlip.flip_vf x.data.toList hok kk v hlen (fun h => hne ?_)
  show v = (sealed x.data.toList).getD kk 0
  rw [List.getD_eq_getElem?_getD, h]; rfl

theorem ret_true {b : Bool} (h : b = true) : Ending.returned (.bool b) = .returned (.bool true) := by rw [h]
theorem conv_back {w3 w4 : World} {g kk cp : Nat} {y : ByteArray} {vv : Int} (hk : kk < y.size)
    (hc : ∀ j, j < y.size → w3.cell? ⟨g, j, none⟩ = some (.int .u8 ((y.data.toList.getD j 0).toNat : Int)))
    (hfl : ∃ v : UInt8, vv = (v.toNat : Int) ∧ PlainVerify.Vf (y.data.toList.set kk v) [] false)
    (hw : w3.setCell ⟨g, kk, none⟩ (.int .u8 vv) = w4) (hs : y.size ≤ 1048576) :
    ∃ fl : ByteArray, (convert 22 9 (.slice (some ⟨g, 0, none⟩) y.size cp)).run Tryd.prog w4 = .ok (.string fl) w4 ∧ fl.size = y.size ∧ fl.size ≤ 1048576 ∧
      ∀ t b, PlainVerify.Vf fl.data.toList t b → b = false := by
  obtain ⟨v, rfl, hV⟩ := hfl
  have el : y.data.toList.length = y.size := by simp
  have ell : (y.data.toList.set kk v).length = y.size := by rw [List.length_set, el]
  have hconv := run_convert_bytes_back (P := Tryd.prog) w4 22 9 5 ⟨g, 0, none⟩ cp (y.data.toList.set kk v) Tryd.underlying22 Tryd.underlying5 Tryd.underlying9 (fun j hj => by
    have hjs : j < y.size := by omega
    have ea : (⟨g, 0, none⟩ : Addr).add j = ⟨g, j, none⟩ := by
      unfold Addr.add
      by_cases h0 : j = 0
      · subst h0; simp
      · simp [h0]
    rw [ea, ← hw]
    by_cases hjk : j = kk
    · subst hjk
      rw [World.cell?_setCell_same _ _ _ (hc j hjs)]
      simp
    · rw [World.cell?_setCell_other _ _ _ _ (by intro e; injection e with _ e; omega), hc j hjs]
      rw [List.getElem_set_ne (by omega), List.getD_eq_getElem?_getD, List.getElem?_eq_getElem (by omega)]
      rfl)
  rw [ell] at hconv
  refine ⟨⟨(y.data.toList.set kk v).toArray⟩, hconv, ?_, ?_, fun t b h => ?_⟩
  · show (y.data.toList.set kk v).length = _; exact ell
  · show (y.data.toList.set kk v).length ≤ _; omega
  · exact (PlainVerify.Vf.uniq h hV).2

set_option maxRecDepth 100000 in
set_option maxHeartbeats 4000000 in
theorem law_any (w : World) (A : Option Addr) (n0 c0 : Nat) (hc : ByteCode w w.heap.size A n0) (hn0 : n0 ≤ 9223372036854775807) (hb : Base w w) :
    Calls Tryd.prog 3 #[.slice A n0 c0] w fun e w' => e = .returned (.bool true) ∧ Below w.heap.size w w' := by
  have HC : Hid (ByteCode w w.heap.size A n0) := Lib.hid hc
  have HB0 : Hid (Base w w) := Lib.hid hb
  have HBZ : Hid (Base w w) := Lib.hid hb
  clear hc hb
  by_cases hbig : 65536 < n0
  · go_enter Tryd.func3, Tryd.ntmps3
    go_wp2_with (go_at_call 8; refine (vBig_yes _ A n0 c0 hbig hn0).mono ?_; rintro e w' ⟨rfl, rfl⟩)
    go_ret
    exact ⟨rfl, Below.refl _ _⟩
  · have hn : n0 ≤ 65536 := by omega
    clear hbig
    go_enter Tryd.func3, Tryd.ntmps3
    go_wp2_with (go_at_call 8; refine (vBig_no _ A n0 c0 hn).mono ?_; rintro e w' ⟨rfl, rfl⟩)
    go_at_call 9
    refine (drawFormat_any w A n0 c0 HC.out hn0).mono ?_
    rintro e w1 ⟨n, rfl, hx1, hx2, hB1⟩
    have HB1 := Lib.hid (HB0.out.next hB1)
    clear hB1 HB0
    go_wp2_with fail
    go_at_call 10
    refine (implFmt n w1 HB1.out.tab).mono ?_
    rintro e w2 ⟨s, ok, rfl, hF, hB2⟩
    have HB2 := Lib.hid (HB1.out.next hB2)
    clear hB2 HB1
    go_wp2_with fail
    go_at_call 11
    refine (specFmt n w2).mono ?_
    rintro e w3 ⟨s', ok', rfl, hF', hB3⟩
    obtain ⟨rfl, rfl⟩ := hF.uniq hF'
    have HF := Lib.hid hF
    have HB3 := Lib.hid (HB2.out.next hB3)
    clear hB3 HB2 hF hF'
    go_wp2_with fail
    go_at_call 12
    refine (drawParse_any w3 A n0 c0 (code_at HC.out HB3.out) hn0).mono ?_
    rintro e w4 ⟨t, rfl, ht, hB4⟩
    have HB4 := Lib.hid (HB3.out.next hB4)
    clear hB4 HB3
    go_wp2_with fail
    go_at_call 13
    refine (implParseInt_any t w4 (by omega) HB4.out.tab HB4.out.err).mono ?_
    rintro e w5 ⟨m, fine, rfl, hR, hB5⟩
    have HB5 := Lib.hid (HB4.out.next hB5)
    clear hB5 HB4
    go_wp2_with fail
    go_at_call 14
    refine (specParseInt_any t w5 (by omega)).mono ?_
    rintro e w6 ⟨m', fine', rfl, hR', q6, hq6⟩
    obtain ⟨rfl, rfl⟩ := hR.uniq hR'
    have HB6 := Lib.hid (HB5.out.next (W' := w6) (by rw [hq6]; exact Rowed.below_drewN w5 q6))
    clear hq6 HB5 hR hR'
    go_wp2_with fail
    go_at_call 15
    refine (drawAppend_any w6 A n0 c0 (code_at HC.out HB6.out) hn0).mono ?_
    rintro e w7 ⟨x, rfl, hx, hB7⟩
    have HB7 := Lib.hid (HB6.out.next hB7)
    clear hB7 HB6
    go_wp2_with fail
    go_at_call 16
    refine (implAppend_any x w7 (by omega) HB7.out.tab).mono ?_
    rintro e w8 ⟨y, isSealed, rfl, hS, hB8⟩
    have HB8 := Lib.hid (HB7.out.next hB8)
    clear hB8 HB7
    go_wp2_with fail
    go_at_call 17
    refine (specAppend_any x w8 (by omega)).mono ?_
    rintro e w9 ⟨y', isSealed', rfl, hS', hB9⟩
    obtain ⟨hy, rfl⟩ := hS.uniq hS'
    obtain rfl := ext_of hy
    have HS := Lib.hid hS
    have HB9 := Lib.hid (HB8.out.next hB9)
    clear hB9 HB8 hS hS' hy
    go_wp2_with fail
    go_at_call 13
    refine (implParseInt_any s w9 (fm_size HF.out) HB9.out.tab HB9.out.err).mono ?_
    rintro e w10 ⟨v, there, rfl, hR, hB10⟩
    have HR := Lib.hid (fm_back HF.out hR)
    have HB10 := Lib.hid (HB9.out.next hB10)
    clear hB10 HB9 hR
    cases isSealed with
    | false =>
      obtain rfl := sl_no HS.out
      cases ok with
      | false =>
        go_wp2_with fail
        go_ret
        exact ⟨rfl, HB10.out.bel⟩
      | true =>
        obtain ⟨rfl, rfl⟩ := HR.out rfl
        go_wp2_with fail
        go_ret
        exact ⟨rfl, HB10.out.bel⟩
    | true =>
      obtain ⟨hok, rfl⟩ := sl_yes HS.out
      have HO := Lib.hid hok
      clear hok HS
      cases ok with
      | false =>
        go_wp2_with fail
        go_at_call 18
        refine (Verify.implVerify_any (sealedOf x) w10 (seal_size HO.out) HB10.out.tab HB10.out.mx).mono ?_
        rintro e w11 ⟨z, isOpen, rfl, hV, hB11⟩
        obtain ⟨rfl, rfl⟩ := ver_back HO.out hV
        have HB11 := Lib.hid (HB10.out.next hB11)
        clear hB11 HB10 hV
        obtain ⟨cp, W2, hcv, hB12, hsz, hcells, hfr⟩ := conv_bytes w11 (sealedOf x)
        have HB12 := Lib.hid (HB11.out.next hB12)
        have HS := Lib.hid hsz
        have HK := Lib.hid hcells
        have HR2 := Lib.hid hfr
        clear hB12 hsz hcells hfr
        obtain ⟨a9, p0, p1, v9⟩ := vAt_fix w A n0 c0 9 HC.out hn (by omega)
        obtain ⟨a10, q0, q1, v10⟩ := vAt_fix w A n0 c0 10 HC.out hn (by omega)
        have V9 := Lib.hid v9
        have V10 := Lib.hid v10
        clear v9 v10
        have hN := Lib.hid (seal_pos x)
        have hN1 : 1 ≤ (sealedOf x).size := hN.out
        obtain ⟨kk, hkk, hkN⟩ : ∃ kk : Nat, a9 % ((sealedOf x).size : Int) = kk ∧ kk < (sealedOf x).size := idx_of p0 hN1
        go_wp2_with fail
        go_at_call 19
        refine (V9.out W2 HB12.out.bel).mono ?_
        rintro e w13 ⟨rfl, hw13⟩
        obtain rfl : W2 = w13 := hw13.symm
        have HKK := Lib.hid hkk
        clear hkk
        go_wp2_with fail
        rw [HKK.out]
        obtain ⟨bt, vv, dd, hdd, hvv, hc3, FL⟩ := flip_of hkN q0 HK.out HO.out
        have hc3 : W2.drew.cell? ⟨w11.heap.size, kk, none⟩ = some (.int .u8 bt) := hc3
        have hf3 : W2.drew.frozen? ⟨w11.heap.size, kk, none⟩ = false := HR2.out kk hkN
        have HB13 := Lib.hid (HB12.out.next (W' := W2.drew) ⟨rfl, rfl, rfl, Nat.le_refl _, fun _ _ => rfl⟩)
        have HC3 : Hid (∀ j, j < (sealedOf x).size → W2.drew.cell? ⟨w11.heap.size, j, none⟩ = some (.int .u8 (((sealedOf x).data.toList.getD j 0).toNat : Int))) := Lib.hid HK.out
        obtain ⟨w3, hw3⟩ : ∃ w3, W2.drew = w3 := ⟨_, rfl⟩
        rw [hw3] at hc3 hf3 HB13 HC3
        refine wp_region_still_tail 13 (by kernel_rfl) (by kernel_rfl) ?_
        simp only [List.take_succ_cons, List.take_zero, List.drop_succ_cons, List.drop_zero]
        change wpStill _ _ W2.drew _ _ _
        rw [hw3]
        repeat still_step
        have r1 : a10.tmod 255 = a10 % 255 := Int.tmod_eq_emod_of_nonneg q0
        have r2 : IntKind.i64.wrap (a10 % 255) = a10 % 255 := IntWalk.i64_in _ (by omega)
        have r3 : IntKind.i64.wrap (1 + a10 % 255) = 1 + a10 % 255 := IntWalk.i64_in _ (by omega)
        have r4 : IntKind.u8.wrap (1 + a10 % 255) = dd := hdd.out
        still_call (V10.out w3 HB13.out.bel)
        repeat still_step
        refine wpStill_nil ?_
        change wpList _ _ _ _ _ W2.drew
        rw [hw3]
        clear r1 r2 r3 r4 hw3
        obtain ⟨w4, hw4⟩ : ∃ w4, w3.setCell ⟨w11.heap.size, kk, none⟩ (.int .u8 vv) = w4 := ⟨_, rfl⟩
        obtain ⟨fl, hcv2, hfl, hfs, hV2⟩ := conv_back (w4 := w4) (cp := cp) hkN HC3.out FL.out hw4 (seal_size HO.out)
        have FS := Lib.hid hfs
        have HV2 := Lib.hid hV2
        have B4 : Hid (Base w w4) := Lib.hid (HBZ.out.next (by rw [← hw4]; exact HB13.out.bel.setCell HB11.out.bel.size _))
        clear FL HC3 hfs hV2 hfl
        go_wp2_with fail
        clear hcv2 hw4
        go_at_call 18
        refine (Verify.implVerify_any fl w4 FS.out B4.out.tab B4.out.mx).mono ?_
        rintro e w15 ⟨z2, isBad, rfl, hVz, hB15⟩
        obtain rfl := (HV2.out _ _ hVz)
        have B15 := Lib.hid (B4.out.next hB15)
        clear hB15 hVz
        go_wp2_with fail
        go_ret
        exact ⟨ret_true rfl, B15.out.bel⟩
      | true =>
        obtain ⟨rfl, rfl⟩ := HR.out rfl
        go_wp2_with fail
        go_at_call 18
        refine (Verify.implVerify_any (sealedOf x) w10 (seal_size HO.out) HB10.out.tab HB10.out.mx).mono ?_
        rintro e w11 ⟨z, isOpen, rfl, hV, hB11⟩
        obtain ⟨rfl, rfl⟩ := ver_back HO.out hV
        have HB11 := Lib.hid (HB10.out.next hB11)
        clear hB11 HB10 hV
        obtain ⟨cp, W2, hcv, hB12, hsz, hcells, hfr⟩ := conv_bytes w11 (sealedOf x)
        have HB12 := Lib.hid (HB11.out.next hB12)
        have HS := Lib.hid hsz
        have HK := Lib.hid hcells
        have HR2 := Lib.hid hfr
        clear hB12 hsz hcells hfr
        obtain ⟨a9, p0, p1, v9⟩ := vAt_fix w A n0 c0 9 HC.out hn (by omega)
        obtain ⟨a10, q0, q1, v10⟩ := vAt_fix w A n0 c0 10 HC.out hn (by omega)
        have V9 := Lib.hid v9
        have V10 := Lib.hid v10
        clear v9 v10
        have hN := Lib.hid (seal_pos x)
        have hN1 : 1 ≤ (sealedOf x).size := hN.out
        obtain ⟨kk, hkk, hkN⟩ : ∃ kk : Nat, a9 % ((sealedOf x).size : Int) = kk ∧ kk < (sealedOf x).size := idx_of p0 hN1
        go_wp2_with fail
        go_at_call 19
        refine (V9.out W2 HB12.out.bel).mono ?_
        rintro e w13 ⟨rfl, hw13⟩
        obtain rfl : W2 = w13 := hw13.symm
        have HKK := Lib.hid hkk
        clear hkk
        go_wp2_with fail
        rw [HKK.out]
        obtain ⟨bt, vv, dd, hdd, hvv, hc3, FL⟩ := flip_of hkN q0 HK.out HO.out
        have hc3 : W2.drew.cell? ⟨w11.heap.size, kk, none⟩ = some (.int .u8 bt) := hc3
        have hf3 : W2.drew.frozen? ⟨w11.heap.size, kk, none⟩ = false := HR2.out kk hkN
        have HB13 := Lib.hid (HB12.out.next (W' := W2.drew) ⟨rfl, rfl, rfl, Nat.le_refl _, fun _ _ => rfl⟩)
        have HC3 : Hid (∀ j, j < (sealedOf x).size → W2.drew.cell? ⟨w11.heap.size, j, none⟩ = some (.int .u8 (((sealedOf x).data.toList.getD j 0).toNat : Int))) := Lib.hid HK.out
        obtain ⟨w3, hw3⟩ : ∃ w3, W2.drew = w3 := ⟨_, rfl⟩
        rw [hw3] at hc3 hf3 HB13 HC3
        refine wp_region_still_tail 13 (by kernel_rfl) (by kernel_rfl) ?_
        simp only [List.take_succ_cons, List.take_zero, List.drop_succ_cons, List.drop_zero]
        change wpStill _ _ W2.drew _ _ _
        rw [hw3]
        repeat still_step
        have r1 : a10.tmod 255 = a10 % 255 := Int.tmod_eq_emod_of_nonneg q0
        have r2 : IntKind.i64.wrap (a10 % 255) = a10 % 255 := IntWalk.i64_in _ (by omega)
        have r3 : IntKind.i64.wrap (1 + a10 % 255) = 1 + a10 % 255 := IntWalk.i64_in _ (by omega)
        have r4 : IntKind.u8.wrap (1 + a10 % 255) = dd := hdd.out
        still_call (V10.out w3 HB13.out.bel)
        repeat still_step
        refine wpStill_nil ?_
        change wpList _ _ _ _ _ W2.drew
        rw [hw3]
        clear r1 r2 r3 r4 hw3
        obtain ⟨w4, hw4⟩ : ∃ w4, w3.setCell ⟨w11.heap.size, kk, none⟩ (.int .u8 vv) = w4 := ⟨_, rfl⟩
        obtain ⟨fl, hcv2, hfl, hfs, hV2⟩ := conv_back (w4 := w4) (cp := cp) hkN HC3.out FL.out hw4 (seal_size HO.out)
        have FS := Lib.hid hfs
        have HV2 := Lib.hid hV2
        have B4 : Hid (Base w w4) := Lib.hid (HBZ.out.next (by rw [← hw4]; exact HB13.out.bel.setCell HB11.out.bel.size _))
        clear FL HC3 hfs hV2 hfl
        go_wp2_with fail
        clear hcv2 hw4
        go_at_call 18
        refine (Verify.implVerify_any fl w4 FS.out B4.out.tab B4.out.mx).mono ?_
        rintro e w15 ⟨z2, isBad, rfl, hVz, hB15⟩
        obtain rfl := (HV2.out _ _ hVz)
        have B15 := Lib.hid (B4.out.next hB15)
        clear hB15 hVz
        go_wp2_with fail
        go_ret
        exact ⟨ret_true rfl, B15.out.bel⟩
end Go.Proofs.YtohgfphbgpjamaaDoor.StringsLaw
