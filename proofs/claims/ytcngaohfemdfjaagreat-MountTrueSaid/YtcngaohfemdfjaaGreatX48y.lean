import Derived.Test.YtcngaohfemdfjaaGreatY34
import Derived.Test.YtcngaohfemdfjaaGreatY33
import Derived.Test.YtcngaohfemdfjaaGreatX44
import Derived.Test.YtcngaohfemdfjaaGreatXg
import Derived.Test.YtcngaohfemdfjaaGreatX45
import Derived.Test.YtcngaohfemdfjaaGreatX46a
import Derived.Test.YtcngaohfemdfjaaGreatX48
import Derived.Test.YtcngaohfemdfjaaGreatY06
import Derived.RegionTactic
import Derived.Deep.QuietTactic
import Derived.BigQuiet
set_option linter.unusedVariables false
set_option linter.unusedSimpArgs false
namespace Go.Proofs.YtcngaohfemdfjaaGreat
open Go.RowKit
/-- What is so at each round. -/
structure TrueIn (k : Cd) (w : World) (bt A B b o len cap : Nat) (t : Cu) (j : Nat) (W : World) : Prop where
  draw : DrawOk A B b o len cap (1000 * j + 100) W
  bel : Below w.heap.size w W
  card : Box W w.heap.size k.cs 28
  trim : Box W bt [.int .i64 t.a, .int .i64 t.b, .int .i64 t.c, .int .i64 t.d] 30
  nc : w.heap.size < A
  nt : bt < A
theorem TrueIn.grow {k : Cd} {w : World} {bt A B b o len cap : Nat} {t : Cu} {j : Nat} {W W' : World} (h : TrueIn k w bt A B b o len cap t j W) (hg : Gr W W') : TrueIn k w bt A B b o len cap t j W' :=
  ⟨h.draw.grow (Dr.of hg), bgr h.bel h.bel.size hg, h.card.grow hg, h.trim.grow hg, h.nc, h.nt⟩
theorem TrueIn.drew {k : Cd} {w : World} {bt A B b o len cap : Nat} {t : Cu} {j i : Nat} {W W' : World} (h : TrueIn k w bt A B b o len cap t j W) (hd : Dr A i W W') (hi : i ≤ 1000) : TrueIn k w bt A B b o len cap t (j + 1) W' :=
  ⟨(h.draw.grow hd).le (by omega), hd.below h.bel h.bel.size (by have := h.nc; omega), hd.box h.card (by have := h.nc; omega), hd.box h.trim (by have := h.nt; omega), h.nc, h.nt⟩
theorem TrueIn.next {k : Cd} {w : World} {bt A B b o len cap : Nat} {t : Cu} {j : Nat} {W : World} (h : TrueIn k w bt A B b o len cap t j W) : TrueIn k w bt A B b o len cap t (j + 1) W :=
  ⟨h.draw.le (by omega), h.bel, h.card, h.trim, h.nc, h.nt⟩
theorem Gr.drewN (w : World) (n : Nat) : Gr w (w.drewN n) := ⟨rfl, rfl, rfl, Nat.le_refl _, fun _ _ => rfl⟩
theorem okc_eyes' {k : Cd} (h : k.okc = true) : 1 ≤ k.elo ∧ k.elo ≤ k.ehi ∧ k.ehi ≤ 10000 := by
  unfold Cd.okc at h
  have h3 := List.all_eq_true.1 h 3 (by simp)
  have h4 := List.all_eq_true.1 h 4 (by simp)
  have h5 := List.all_eq_true.1 h 5 (by simp)
  simp [Cd.vd] at h3 h4 h5
  exact ⟨h3, h4, h5⟩
set_option maxRecDepth 100000 in
set_option maxHeartbeats 30000000 in
theorem ltrue_nil (k : Cd) (b o len cap : Nat) (w : World) (hl : k.p.l.length ≤ 40) (hT : ThingsAt k.p.l (.slice k.sp k.p.l.length k.cap) w) (hy : ByIn b o len w) (hc : Hid ((k.okc && k.p.ok) = true)) (hn : k.cuts ≤ 20) (u : Cu) (ht : Hid (k.trimA = (u, 0))) (hs : Hid (k.seenA = (((setTo k.p.sees : Nat) : Int), 0))) (he : Hid (k.err [] = 0)) (hu : Hid (u.isT k.cuts = true)) (hku : Hid (k.okT u = true)) (hm : setTo k.p.sees < 4096) (hnil : k.p.l.length = 0) :
    Calls Tryz.prog 5 #[.agg k.cs.toArray, .slice (some ⟨b, o, none⟩) len cap] w fun e w' => e = .returned (.bool true) ∧ Below w.heap.size w w' := by
  have d : decide (40 < (k.p.l.length : Int)) = false := by simp; omega
  have d' : decide (40 < k.p.l.length) = false := by simp; omega
  have x1 : ((len : Int) == 0) = false := by have := hy.1; simp; omega
  have x2 : (len == 0) = false := by have := hy.1; simp; omega
  have y1 : decide (20 < k.cuts) = false := by simpa using hn
  have hok := (Cd.err_zero he.out).1
  have hkc := (Cd.err_zero he.out).2.1
  have hbd := k.p.bounds hok
  have hlen := hbd.len
  have hth := Lib.hid hbd.things
  have htm := tm_ok (mb := 0) (u := u) hkc hu.out
  have q1 := htm.half
  have q2 := htm.step
  have q3 := htm.prism
  have q4 := htm.squeeze
  have q5 := htm.front
  have q6 := htm.deep
  have q7 := htm.elo
  have q8 := htm.ehi
  have hee := okc_eyes' hkc
  have hub := isT_le hu.out
  have k0 := (okc_cuts hkc)
  dsimp only at q1 q2 q3 q4 q5 q6 q7 q8
  have sa := step_mul q2 (x := u.a) (by omega)
  have sb := step_mul q2 (x := u.b) (by omega)
  have sc := step_mul q2 (x := u.c) (by omega)
  have sd := step_mul q2 (x := u.d) (by omega)
  have swn : k.step * (u.a - u.c) = k.step * u.a - k.step * u.c := Int.mul_sub _ _ _
  have sbc : k.step * (u.b + u.c) = k.step * u.b + k.step * u.c := Int.mul_add _ _ _
  have HTH := Lib.hid (fun (i : Nat) (t : Th) (h : k.p.l[i]? = some t) => true_thing he.out hu.out hku.out h)
  have HT := Lib.hid hT
  have HY := Lib.hid hy
  clear hl hT hy htm
  have p7 : ∀ h : 7 < k.cs.length, k.cs[7] = .slice k.sp k.p.l.length k.cap := fun _ => rfl
  have p10 : ∀ h : 10 < k.cs.length, k.cs[10] = .int .i64 k.cuts := fun _ => rfl
  have hl : k.cs.length = 17 := rfl
  have HB := Lib.hid (Box.fresh w k.cs 28)
  have c10 := HB.out.cell (i := 10) rfl
  have ccl := HB.out.lt
  go_enter Tryz.func5, Tryz.ntmps5
  go_wp2_with (first | (with_reducible refine wpList_stopLoad (ty := 28) rfl ?_; unfold Stop; first | refine wpList_loadBox row28 rfl (HB.out) rfl rfl rfl ?_ | refine wpList_loadPartG row28 rfl (HB.out) (Cd.whole k) rfl rfl rfl ?_))
  refine (mtrim_is ht.out (ThingsAt.lasts _ _ _ _ HT.out (Gr.alloc _ _))).mono ?_
  rintro e w2 ⟨rfl, hb2⟩
  have HB2 := Lib.hid ((HB.out.grow hb2).grow (Gr.alloc w2 (Obj.cells #[.int .i64 u.a, .int .i64 u.b, .int .i64 u.c, .int .i64 u.d] 30)))
  have HG2 := Lib.hid (((Gr.alloc w (Obj.cells k.cs.toArray 28)).tr hb2).tr (Gr.alloc w2 (Obj.cells #[.int .i64 u.a, .int .i64 u.b, .int .i64 u.c, .int .i64 u.d] 30)))
  have HU2 := Lib.hid (Box.fresh w2 [.int .i64 u.a, .int .i64 u.b, .int .i64 u.c, .int .i64 u.d] 30)
  clear hb2 c10 ccl
  go_wp2_with (first | (with_reducible refine wpList_stopLoad (ty := 28) rfl ?_; unfold Stop; first | refine wpList_loadBox row28 rfl (HB2.out) rfl rfl rfl ?_ | refine wpList_loadPartG row28 rfl (HB2.out) (Cd.whole k) rfl rfl rfl ?_))
  refine (seen_is hs.out (ThingsAt.lasts _ _ _ _ HT.out HG2.out)).mono ?_
  rintro e w3 ⟨rfl, hb3⟩
  have HG3 := Lib.hid (HG2.out.tr hb3)
  have HB3 := Lib.hid (HB2.out.grow hb3)
  have HU3 := Lib.hid (HU2.out.grow hb3)
  clear hb3
  go_wp2_with (first | (with_reducible refine wpList_stopLoad (ty := 28) rfl ?_; unfold Stop; first | refine wpList_loadBox row28 rfl (HB3.out) rfl rfl rfl ?_ | refine wpList_loadPartG row28 rfl (HB3.out) (Cd.whole k) rfl rfl rfl ?_))
  refine (card_is (b := true) hc.out (ThingsAt.lasts _ _ _ _ HT.out HG3.out)).mono ?_
  rintro e w4 ⟨rfl, hb4⟩
  have HG4 := Lib.hid (HG3.out.tr hb4)
  have HB4 := Lib.hid (HB3.out.grow hb4)
  have hu4 := HU3.out.grow hb4
  have HU4 := Lib.hid hu4
  have u0 := hu4.cell (i := 0) rfl
  have u1 := hu4.cell (i := 1) rfl
  have u2 := hu4.cell (i := 2) rfl
  have u3 := hu4.cell (i := 3) rfl
  have ul := hu4.lt
  clear hb4 hu4
  go_wp2_with (first | (with_reducible refine wpList_stopLoad (ty := 28) rfl ?_; unfold Stop; first | refine wpList_loadBox row28 rfl (HB4.out) rfl rfl rfl ?_ | refine wpList_loadPartG row28 rfl (HB4.out) (Cd.whole k) rfl rfl rfl ?_))
  refine (rtrimming_any k u _ (by omega)).mono ?_
  rintro e w5 ⟨rfl, hb5⟩
  rw [hu.out]
  have HG5 := Lib.hid (HG4.out.tr hb5)
  have HB5 := Lib.hid (HB4.out.grow hb5)
  have HU5 := Lib.hid (HU4.out.grow hb5)
  clear hb5 u0 u1 u2 u3 ul
  go_wp2_with fail
  have hy5 := HY.out.grow HG5.out
  refine (draws_any b o len cap _ hy5).mono ?_
  rintro e w6 ⟨rfl, hb6, hd6⟩
  have hL := (LeastIn.mk (k := k) (w := w) (bt := w2.heap.size) (t := u) (j := 0) hd6 (bgr HG5.out HG5.out.size hb6) (HB5.out.grow hb6) (HU5.out.grow hb6) (by have := HG5.out.size; have := HB5.out.lt; omega) (by have := HU5.out.lt; omega))
  obtain ⟨A, hA⟩ : ∃ A, A = w5.heap.size + 1 := ⟨_, rfl⟩
  obtain ⟨B, hB⟩ : ∃ B, B = w5.heap.size := ⟨_, rfl⟩
  rw [← hA, ← hB] at hL ⊢
  clear hd6 hb6 hy5 hA hB
  have c11 := hL.card.cell (i := 11) rfl
  have c12 := hL.card.cell (i := 12) rfl
  have ccl := hL.card.lt
  have HL := Lib.hid hL
  clear hL
  go_wp2_with fail
  refine (lpick_any HL.out.draw (by omega) k.elo k.ehi (by omega) (by omega) (by omega)).mono ?_
  rintro e w7 ⟨⟨v, rfl, ey, rfl, hey⟩, hd7⟩
  have HL7 := Lib.hid (show TrueIn k w w2.heap.size A B b o len cap u 0 w7 from ⟨(HL.out.draw.grow hd7).le (by omega), hd7.below HL.out.bel HL.out.bel.size (by have := HL.out.nc; omega), hd7.box HL.out.card (by have := HL.out.nc; omega), hd7.box HL.out.trim (by have := HL.out.nt; omega), HL.out.nc, HL.out.nt⟩)
  clear hd7 c11 c12 ccl
  have hcb := HL7.out.card
  have htb := HL7.out.trim
  have c7 := hcb.cell (i := 7) rfl
  have c9 := hcb.cell (i := 9) rfl
  have ccl := hcb.lt
  have u0 := htb.cell (i := 0) rfl
  have u2 := htb.cell (i := 2) rfl
  have ul := htb.lt
  clear hcb htb
  go_wp2_with fail
  clear c7 c9 ccl u0 u2 ul
  have HL0 := HL7
  go_loopw [104] (fun i wr => ∃ j : Nat, j ≤ k.p.l.length ∧ i = .int .i64 j ∧ TrueIn k w w2.heap.size A B b o len cap u j wr) (fun i _ => k.p.l.length - (intOf i).toNat)
  case atStart => exact ⟨0, Nat.zero_le _, rfl, HL0.out⟩
  case round =>
    obtain ⟨j, hj, rfl, hLr⟩ := hrel
    have HL := Lib.hid hLr
    clear hLr
    have hlt : ¬ j < k.p.l.length := by omega
    have : j = k.p.l.length := by omega
    subst this
    go_wp2_with fail
    refine (awake_any _).mono ?_
    rintro e wz ⟨rfl, hbz⟩
    go_wp2
    exact bodyPost_ret (v := .bool true) (by simp [results, Tryz.results5, go_sem]) rfl ⟨rfl, bgr HL.out.bel HL.out.bel.size hbz⟩
set_option maxRecDepth 100000 in
set_option maxHeartbeats 30000000 in
theorem ltrue_some (k : Cd) (b o len cap : Nat) (w : World) (hl : k.p.l.length ≤ 40) (hT : ThingsAt k.p.l (.slice k.sp k.p.l.length k.cap) w) (hy : ByIn b o len w) (hc : Hid ((k.okc && k.p.ok) = true)) (hn : k.cuts ≤ 20) (u : Cu) (ht : Hid (k.trimA = (u, 0))) (hs : Hid (k.seenA = (((setTo k.p.sees : Nat) : Int), 0))) (he : Hid (k.err [] = 0)) (hu : Hid (u.isT k.cuts = true)) (hku : Hid (k.okT u = true)) (hm : setTo k.p.sees < 4096) (tb tof : Nat) (hspe : k.sp = some ⟨tb, tof, none⟩) (hbl : tb < w.heap.size) (hcs : Hid (∀ i t, k.p.l[i]? = some t → CellsFrom w tb (tof + i * 9) t.vals)) :
    Calls Tryz.prog 5 #[.agg k.cs.toArray, .slice (some ⟨b, o, none⟩) len cap] w fun e w' => e = .returned (.bool true) ∧ Below w.heap.size w w' := by
  have d : decide (40 < (k.p.l.length : Int)) = false := by simp; omega
  have d' : decide (40 < k.p.l.length) = false := by simp; omega
  have x1 : ((len : Int) == 0) = false := by have := hy.1; simp; omega
  have x2 : (len == 0) = false := by have := hy.1; simp; omega
  have y1 : decide (20 < k.cuts) = false := by simpa using hn
  have hok := (Cd.err_zero he.out).1
  have hkc := (Cd.err_zero he.out).2.1
  have hbd := k.p.bounds hok
  have hlen := hbd.len
  have hth := Lib.hid hbd.things
  have htm := tm_ok (mb := 0) (u := u) hkc hu.out
  have q1 := htm.half
  have q2 := htm.step
  have q3 := htm.prism
  have q4 := htm.squeeze
  have q5 := htm.front
  have q6 := htm.deep
  have q7 := htm.elo
  have q8 := htm.ehi
  have hee := okc_eyes' hkc
  have hub := isT_le hu.out
  have k0 := (okc_cuts hkc)
  dsimp only at q1 q2 q3 q4 q5 q6 q7 q8
  have sa := step_mul q2 (x := u.a) (by omega)
  have sb := step_mul q2 (x := u.b) (by omega)
  have sc := step_mul q2 (x := u.c) (by omega)
  have sd := step_mul q2 (x := u.d) (by omega)
  have swn : k.step * (u.a - u.c) = k.step * u.a - k.step * u.c := Int.mul_sub _ _ _
  have sbc : k.step * (u.b + u.c) = k.step * u.b + k.step * u.c := Int.mul_add _ _ _
  have HTH := Lib.hid (fun (i : Nat) (t : Th) (h : k.p.l[i]? = some t) => true_thing he.out hu.out hku.out h)
  have HT := Lib.hid hT
  have HY := Lib.hid hy
  clear hl hT hy htm
  have p7 : ∀ h : 7 < k.cs.length, k.cs[7] = .slice k.sp k.p.l.length k.cap := fun _ => rfl
  have p10 : ∀ h : 10 < k.cs.length, k.cs[10] = .int .i64 k.cuts := fun _ => rfl
  have hl : k.cs.length = 17 := rfl
  have HB := Lib.hid (Box.fresh w k.cs 28)
  have c10 := HB.out.cell (i := 10) rfl
  have ccl := HB.out.lt
  go_enter Tryz.func5, Tryz.ntmps5
  go_wp2_with (first | (with_reducible refine wpList_stopLoad (ty := 28) rfl ?_; unfold Stop; first | refine wpList_loadBox row28 rfl (HB.out) rfl rfl rfl ?_ | refine wpList_loadPartG row28 rfl (HB.out) (Cd.whole k) rfl rfl rfl ?_))
  refine (mtrim_is ht.out (ThingsAt.lasts _ _ _ _ HT.out (Gr.alloc _ _))).mono ?_
  rintro e w2 ⟨rfl, hb2⟩
  have HB2 := Lib.hid ((HB.out.grow hb2).grow (Gr.alloc w2 (Obj.cells #[.int .i64 u.a, .int .i64 u.b, .int .i64 u.c, .int .i64 u.d] 30)))
  have HG2 := Lib.hid (((Gr.alloc w (Obj.cells k.cs.toArray 28)).tr hb2).tr (Gr.alloc w2 (Obj.cells #[.int .i64 u.a, .int .i64 u.b, .int .i64 u.c, .int .i64 u.d] 30)))
  have HU2 := Lib.hid (Box.fresh w2 [.int .i64 u.a, .int .i64 u.b, .int .i64 u.c, .int .i64 u.d] 30)
  clear hb2 c10 ccl
  go_wp2_with (first | (with_reducible refine wpList_stopLoad (ty := 28) rfl ?_; unfold Stop; first | refine wpList_loadBox row28 rfl (HB2.out) rfl rfl rfl ?_ | refine wpList_loadPartG row28 rfl (HB2.out) (Cd.whole k) rfl rfl rfl ?_))
  refine (seen_is hs.out (ThingsAt.lasts _ _ _ _ HT.out HG2.out)).mono ?_
  rintro e w3 ⟨rfl, hb3⟩
  have HG3 := Lib.hid (HG2.out.tr hb3)
  have HB3 := Lib.hid (HB2.out.grow hb3)
  have HU3 := Lib.hid (HU2.out.grow hb3)
  clear hb3
  go_wp2_with (first | (with_reducible refine wpList_stopLoad (ty := 28) rfl ?_; unfold Stop; first | refine wpList_loadBox row28 rfl (HB3.out) rfl rfl rfl ?_ | refine wpList_loadPartG row28 rfl (HB3.out) (Cd.whole k) rfl rfl rfl ?_))
  refine (card_is (b := true) hc.out (ThingsAt.lasts _ _ _ _ HT.out HG3.out)).mono ?_
  rintro e w4 ⟨rfl, hb4⟩
  have HG4 := Lib.hid (HG3.out.tr hb4)
  have HB4 := Lib.hid (HB3.out.grow hb4)
  have hu4 := HU3.out.grow hb4
  have HU4 := Lib.hid hu4
  have u0 := hu4.cell (i := 0) rfl
  have u1 := hu4.cell (i := 1) rfl
  have u2 := hu4.cell (i := 2) rfl
  have u3 := hu4.cell (i := 3) rfl
  have ul := hu4.lt
  clear hb4 hu4
  go_wp2_with (first | (with_reducible refine wpList_stopLoad (ty := 28) rfl ?_; unfold Stop; first | refine wpList_loadBox row28 rfl (HB4.out) rfl rfl rfl ?_ | refine wpList_loadPartG row28 rfl (HB4.out) (Cd.whole k) rfl rfl rfl ?_))
  refine (rtrimming_any k u _ (by omega)).mono ?_
  rintro e w5 ⟨rfl, hb5⟩
  rw [hu.out]
  have HG5 := Lib.hid (HG4.out.tr hb5)
  have HB5 := Lib.hid (HB4.out.grow hb5)
  have HU5 := Lib.hid (HU4.out.grow hb5)
  clear hb5 u0 u1 u2 u3 ul
  go_wp2_with fail
  have hy5 := HY.out.grow HG5.out
  refine (draws_any b o len cap _ hy5).mono ?_
  rintro e w6 ⟨rfl, hb6, hd6⟩
  have hL := (LeastIn.mk (k := k) (w := w) (bt := w2.heap.size) (t := u) (j := 0) hd6 (bgr HG5.out HG5.out.size hb6) (HB5.out.grow hb6) (HU5.out.grow hb6) (by have := HG5.out.size; have := HB5.out.lt; omega) (by have := HU5.out.lt; omega))
  obtain ⟨A, hA⟩ : ∃ A, A = w5.heap.size + 1 := ⟨_, rfl⟩
  obtain ⟨B, hB⟩ : ∃ B, B = w5.heap.size := ⟨_, rfl⟩
  rw [← hA, ← hB] at hL ⊢
  clear hd6 hb6 hy5 hA hB
  have c11 := hL.card.cell (i := 11) rfl
  have c12 := hL.card.cell (i := 12) rfl
  have ccl := hL.card.lt
  have HL := Lib.hid hL
  clear hL
  go_wp2_with fail
  refine (lpick_any HL.out.draw (by omega) k.elo k.ehi (by omega) (by omega) (by omega)).mono ?_
  rintro e w7 ⟨⟨v, rfl, ey, rfl, hey⟩, hd7⟩
  have HL7 := Lib.hid (show TrueIn k w w2.heap.size A B b o len cap u 0 w7 from ⟨(HL.out.draw.grow hd7).le (by omega), hd7.below HL.out.bel HL.out.bel.size (by have := HL.out.nc; omega), hd7.box HL.out.card (by have := HL.out.nc; omega), hd7.box HL.out.trim (by have := HL.out.nt; omega), HL.out.nc, HL.out.nt⟩)
  clear hd7 c11 c12 ccl
  have hcb := HL7.out.card
  have htb := HL7.out.trim
  have c7 := hcb.cell (i := 7) rfl
  have c9 := hcb.cell (i := 9) rfl
  have ccl := hcb.lt
  have u0 := htb.cell (i := 0) rfl
  have u2 := htb.cell (i := 2) rfl
  have ul := htb.lt
  clear hcb htb
  go_wp2_with fail
  clear c7 c9 ccl u0 u2 ul
  have HL0 := HL7
  go_loopw [104] (fun i wr => ∃ j : Nat, j ≤ k.p.l.length ∧ i = .int .i64 j ∧ TrueIn k w w2.heap.size A B b o len cap u j wr) (fun i _ => k.p.l.length - (intOf i).toNat)
  case atStart => exact ⟨0, Nat.zero_le _, rfl, HL0.out⟩
  case round =>
    obtain ⟨j, hj, rfl, hLr⟩ := hrel
    have HL := Lib.hid hLr
    clear hLr
    by_cases hlt : j < k.p.l.length
    · have h6 : decide ((j : Int) < (k.p.l.length : Int)) = true := by simp; omega
      obtain ⟨t, htk⟩ : ∃ t, k.p.l[j]? = some t := ⟨_, List.getElem?_eq_getElem hlt⟩
      have X := CellsFrom.grow hbl HL.out.bel (hcs.out j t htk)
      obtain ⟨y, hwy, hcase⟩ := HTH.out j t htk
      have hto := (hth.out t (List.mem_of_getElem? htk)).1
      have hpo := Pr.ord hok (List.mem_of_getElem? htk)
      clear htk
      have HW := Lib.hid hwy
      clear hwy
      have HCS := Lib.hid hcase
      clear hcase
      obtain ⟨xa, xb, xc, xd, xe, xf, xg, xh, xz⟩ := t
      replace X := CellsFrom.nine X
      simp only at X hpo
      have hTv := Lib.hid (fun W (hb : Below w.heap.size w W) => show ThingsAt k.p.l (.slice (some ⟨tb, tof, none⟩) k.p.l.length k.cap) W by have := HT.out.below rfl hb; rwa [hspe] at this)
      have hcb := HL.out.card
      have c0 := hcb.cell (i := 0) rfl
      have c1 := hcb.cell (i := 1) rfl
      have c2 := hcb.cell (i := 2) rfl
      have c3 := hcb.cell (i := 3) rfl
      have c4 := hcb.cell (i := 4) rfl
      have c5 := hcb.cell (i := 5) rfl
      have c6 := hcb.cell (i := 6) rfl
      have c7 := hcb.cell (i := 7) rfl
      have ccl := hcb.lt
      clear hcb
      have HL8' := Lib.hid (HL.out.grow (Gr.alloc wr (Obj.cells #[.int .i64 xa, .int .i64 xb, .int .i64 xc, .int .i64 xd, .int .i64 xe, .int .i64 xf, .int .i64 xg, .int .i64 xh, .int .i64 xz] 52)))
      have HX8' := Lib.hid (Box.fresh wr [.int .i64 xa, .int .i64 xb, .int .i64 xc, .int .i64 xd, .int .i64 xe, .int .i64 xf, .int .i64 xg, .int .i64 xh, .int .i64 xz] 52)
      go_wp2_with fail
      refine (why_is HW.out (hTv.out _ HL8'.out.bel)).mono ?_
      rintro e w8 ⟨rfl, hb8⟩
      have HL8 := Lib.hid (HL8'.out.grow hb8)
      have hx8 := HX8'.out.grow hb8
      have g0 := hx8.cell (i := 0) rfl
      have g1 := hx8.cell (i := 1) rfl
      have g4 := hx8.cell (i := 4) rfl
      have g5 := hx8.cell (i := 5) rfl
      have gl := hx8.lt
      have hwA : wr.heap.size ≠ A := by
        have h1 := HL.out.draw
        obtain ⟨q, hq, -⟩ := h1.at_
        have := hq.lt
        omega
      clear hb8 hx8 X c0 c1 c2 c3 c4 c5 c6 c7 ccl
      have hj12 : j < 12 := by omega
      rcases HCS.out with ⟨hy0, hbit⟩ | ⟨rfl, hbit, k1, k2, k3, k4, k5, k6, k7, k8⟩
      · have hy1 : (y == 0) = false := by simpa using hy0
        have hy2 : (y != 0) = true := by simpa using hy0
        have hbz := bit_zero (setTo k.p.sees) j hm hj12 hbit
        go_wp2_with fail
        exact ⟨⟨j + 1, by omega, by go_num, HL8.out.next⟩, by simp [intOf]; omega⟩
      · have hbz := (bit_shr (setTo k.p.sees) j hm hj12).2 hbit
        unfold Th.ok at hto
        simp only [inPlate] at hto
        have HK := Lib.hid (And.intro k1 (And.intro k2 (And.intro k3 (And.intro k4 (And.intro k5 (And.intro k6 (And.intro k7 k8)))))))
        clear k1 k2 k3 k4 k5 k6 k7 k8
        go_wp2_with fail
        have HDR := Lib.hid HL8.out.draw
        refine Dw.region2 (A := A) (κ := 100) 10 ?_ ?_ ?_
        · kernel_rfl
        · kernel_rfl
        simp only [List.take_succ_cons, List.take_zero, List.drop_succ_cons, List.drop_zero]
        apply Dw.chain_eq (D := [(13, none)]) rfl (by kernel_rfl)
        · intro ρ W ⟨p1, p2, p3⟩ hG hF K hK; (try simp only [FactsD, DI, DS, List.getD_cons_zero, List.getD_cons_succ, List.getD_nil, and_true, true_and] at hF); obtain he13_0 := hF; have hG2 := (Dr.drew A _).tr hG; have ⟨hc, hf, hz⟩ := hG2.cells; go_simp; exact hK _ Dw.gives_val
        apply Dw.chain_eq (D := [(130, some 0)]) rfl (by kernel_rfl)
        · intro ρ W ⟨p1, p2, p3⟩ hG hF K hK; (try simp only [FactsD, DI, DS, List.getD_cons_zero, List.getD_cons_succ, List.getD_nil, and_true, true_and] at hF); obtain he130_1 := hF; have hG2 := (Dr.drew A _).tr hG; have ⟨hc, hf, hz⟩ := hG2.cells; go_simp; exact hK _ Dw.gives_val
        apply Dw.chain_eq (D := [(131, some 0)]) rfl (by kernel_rfl)
        · intro ρ W ⟨p1, p2, p3⟩ hG hF K hK; (try simp only [FactsD, DI, DS, List.getD_cons_zero, List.getD_cons_succ, List.getD_nil, and_true, true_and] at hF); obtain he131_2 := hF; have hG2 := (Dr.drew A _).tr hG; have ⟨hc, hf, hz⟩ := hG2.cells; go_simp; exact hK _ Dw.gives_val
        apply Dw.chain_eq (D := [(9, none)]) rfl (by kernel_rfl)
        · intro ρ W ⟨p1, p2, p3⟩ hG hF K hK; (try simp only [FactsD, DI, DS, List.getD_cons_zero, List.getD_cons_succ, List.getD_nil, and_true, true_and] at hF); obtain he9_3 := hF; have hG2 := (Dr.drew A _).tr hG; have ⟨hc, hf, hz⟩ := hG2.cells; go_simp; exact hK _ Dw.gives_val
        refine Dw.chain_any (V := DI (fun r => xa ≤ r ∧ r ≤ xb)) (D := [(132, some 1), (133, some 0)]) rfl (by kernel_rfl) (DI.lasts _) ?_ ?_
        · intro ρ W ⟨p1, p2, p3⟩ hG hF K hK; (try simp only [FactsD, DI, DS, List.getD_cons_zero, List.getD_cons_succ, List.getD_nil, and_true, true_and] at hF); obtain ⟨he132_4, he133_4⟩ := hF; have hG2 := (Dr.drew A _).tr hG; have ⟨hc, hf, hz⟩ := hG2.cells; go_simp; exact hK _ (Dw.gives_rel (lpick_any (HDR.out.grow hG2) (by omega) xa xb (by omega) (by omega) (by omega)))
        apply Dw.chain_eq (D := [(13, none)]) rfl (by kernel_rfl)
        · intro ρ W ⟨p1, p2, p3⟩ hG hF K hK; (try simp only [FactsD, DI, DS, List.getD_cons_zero, List.getD_cons_succ, List.getD_nil, and_true, true_and] at hF); obtain he13_5 := hF; have hG2 := (Dr.drew A _).tr hG; have ⟨hc, hf, hz⟩ := hG2.cells; go_simp; exact hK _ Dw.gives_val
        apply Dw.chain_eq (D := [(135, some 0)]) rfl (by kernel_rfl)
        · intro ρ W ⟨p1, p2, p3⟩ hG hF K hK; (try simp only [FactsD, DI, DS, List.getD_cons_zero, List.getD_cons_succ, List.getD_nil, and_true, true_and] at hF); obtain he135_6 := hF; have hG2 := (Dr.drew A _).tr hG; have ⟨hc, hf, hz⟩ := hG2.cells; go_simp; exact hK _ Dw.gives_val
        apply Dw.chain_eq (D := [(136, some 0)]) rfl (by kernel_rfl)
        · intro ρ W ⟨p1, p2, p3⟩ hG hF K hK; (try simp only [FactsD, DI, DS, List.getD_cons_zero, List.getD_cons_succ, List.getD_nil, and_true, true_and] at hF); obtain he136_7 := hF; have hG2 := (Dr.drew A _).tr hG; have ⟨hc, hf, hz⟩ := hG2.cells; go_simp; exact hK _ Dw.gives_val
        apply Dw.chain_eq (D := [(9, none)]) rfl (by kernel_rfl)
        · intro ρ W ⟨p1, p2, p3⟩ hG hF K hK; (try simp only [FactsD, DI, DS, List.getD_cons_zero, List.getD_cons_succ, List.getD_nil, and_true, true_and] at hF); obtain he9_8 := hF; have hG2 := (Dr.drew A _).tr hG; have ⟨hc, hf, hz⟩ := hG2.cells; go_simp; exact hK _ Dw.gives_val
        refine Dw.chain_any (V := DI (fun r => xe ≤ r ∧ r ≤ xf)) (D := [(137, some 1), (138, some 0)]) rfl (by kernel_rfl) (DI.lasts _) ?_ ?_
        · intro ρ W ⟨p1, p2, p3⟩ hG hF K hK; (try simp only [FactsD, DI, DS, List.getD_cons_zero, List.getD_cons_succ, List.getD_nil, and_true, true_and] at hF); obtain ⟨he137_9, he138_9⟩ := hF; have hG2 := (Dr.drew A _).tr hG; have ⟨hc, hf, hz⟩ := hG2.cells; go_simp; exact hK _ (Dw.gives_rel (lpick_any (HDR.out.grow hG2) (by omega) xe xf (by omega) (by omega) (by omega)))
        refine Dw.chain_done ?_
        intro vs W hG hV
        obtain ⟨⟨pr, e9, hpr⟩, -, -, -, -, ⟨pl, e4, hpl⟩, -⟩ := hV
        set_option maxRecDepth 100000 in
        simp only [lay, Act.put, List.getElem?_toArray, List.getElem?_cons_succ, List.getElem?_cons_zero, Option.bind_some, List.setIfInBounds_toArray, List.set_cons_succ, List.set_cons_zero]
        simp only [Nat.reduceSub] at e4
        simp only [Nat.reduceSub] at e9
        generalize vs 0 = v0
        generalize vs 1 = v1
        generalize vs 2 = v2
        generalize vs 3 = v3
        generalize vs 4 = v4 at *
        generalize vs 5 = v5
        generalize vs 6 = v6
        generalize vs 7 = v7
        generalize vs 8 = v8
        generalize vs 9 = v9 at *
        subst e4
        subst e9
        have HLW := Lib.hid (HL8.out.drew hG (by omega))
        have hck := HLW.out.card
        have c8 := hck.cell (i := 8) rfl
        have c9 := hck.cell (i := 9) rfl
        have ccl := hck.lt
        have htk := HLW.out.trim
        have u0 := htk.cell (i := 0) rfl
        have u1 := htk.cell (i := 1) rfl
        have u2 := htk.cell (i := 2) rfl
        have u3 := htk.cell (i := 3) rfl
        have ul := htk.lt
        clear hG hck htk g0 g1 g4 g5 gl
        go_wp2_with fail
        go_quiet (fail)
        obtain ⟨z1, z2, z3, z4, z5, z6, z7, z8⟩ := HK.out
        rw [sbc] at z1 z2
        rw [swn] at z3 z4
        obtain ⟨bf, hbf⟩ : ∃ v, v = k.half - k.step * u.b - pl := ⟨_, rfl⟩
        obtain ⟨bh, hbh⟩ : ∃ v, v = pr + k.half - k.step * u.c := ⟨_, rfl⟩
        rw [← hbf, ← hbh]
        have f1 : decide (bf < 0) = false := by simp; omega
        have f2 : decide (bh < 0) = false := by simp; omega
        have f3 : decide (pl + k.half < k.step * u.a) = false := by rw [decide_eq_false_iff_not]; omega
        have f4 : decide (k.half - pr < k.step * u.d) = false := by rw [decide_eq_false_iff_not]; omega
        have f5 : decide (bf + bh < ey - k.squeeze) = false := by rw [decide_eq_false_iff_not]; omega
        have f6 : decide (ey + k.prism < bf + bh) = false := by rw [decide_eq_false_iff_not]; omega
        have f7 : decide (k.step * u.a - k.step * u.c + k.front < pl - pr) = false := by rw [decide_eq_false_iff_not]; omega
        have f8 : decide (pl - pr < k.step * u.a - k.step * u.c - k.deep) = false := by rw [decide_eq_false_iff_not]; omega
        have hbfb : -100000 ≤ bf ∧ bf ≤ 100000 := by omega
        have hbhb : -100000 ≤ bh ∧ bh ≤ 100000 := by omega
        clear z1 z2 z3 z4 z5 z6 z7 z8 hbf hbh
        have hck := HLW.out.card
        have c13 := hck.cell (i := 13) rfl
        have c14 := hck.cell (i := 14) rfl
        have c15 := hck.cell (i := 15) rfl
        have c16 := hck.cell (i := 16) rfl
        clear hck
        go_wp2_with fail
        exact ⟨⟨j + 1, by omega, by go_num, HLW.out.grow (Gr.drewN W nq)⟩, by simp [intOf]; omega⟩
    · have : j = k.p.l.length := by omega
      subst this
      go_wp2_with fail
      refine (awake_any _).mono ?_
      rintro e wz ⟨rfl, hbz⟩
      go_wp2
      exact bodyPost_ret (v := .bool true) (by simp [results, Tryz.results5, go_sem]) rfl ⟨rfl, bgr HL.out.bel HL.out.bel.size hbz⟩
end Go.Proofs.YtcngaohfemdfjaaGreat
