import Derived.Test.YtcngaohfemdfjaaGreatH1
import Derived.OwnWalk
set_option linter.unusedVariables false
set_option linter.unusedSimpArgs false
set_option maxRecDepth 100000
set_option maxHeartbeats 60000000
namespace Go.Proofs.YtcngaohfemdfjaaGreat
open Go.RowKit
theorem Cd.part8 (k : Cd) : (k.cs.drop 0).take 8 = k.pr := rfl
def Cd.errb (k : Cd) (b : Bool) : Int := if (k.okc && k.p.ok) = false then 1 else if b = false then 2 else if k.p.pw.1 ≤ k.p.pw.2 then 0 else 4
theorem Cd.errb_true (k : Cd) : k.errb true = k.err [] := by
  unfold Cd.errb Cd.err
  cases h1 : k.okc <;> cases h2 : k.p.ok <;> simp
theorem Cd.errb_isT (k : Cd) (u : Cu) : k.errb (u.isT k.cuts) = k.err [u] := by
  unfold Cd.errb Cd.err
  cases h1 : k.okc <;> cases h2 : k.p.ok <;> simp
theorem Cd.errb_bad {k : Cd} (h : (k.okc && k.p.ok) = false) (b : Bool) (us : List Cu) : k.errb b = k.err us := by
  unfold Cd.errb Cd.err
  rw [if_pos h]
  cases h1 : k.okc <;> cases h2 : k.p.ok <;> simp_all
def NumsAt (l : List Int) (v : Value) (w : World) : Prop :=
  l.length ≤ 1000 ∧ ((l = [] ∧ v = .slice none 0 0) ∨ ∃ b o cap, v = .slice (some ⟨b, o, none⟩) l.length cap ∧ b < w.heap.size ∧ ∀ i z, l[i]? = some z → w.cell? ⟨b, o + i, none⟩ = some (.int .i64 z))
theorem NumsAt.lasts (l : List Int) : Lasts (NumsAt l) := fun v W W' h hG => by
  obtain ⟨h0, h⟩ := h
  refine ⟨h0, ?_⟩
  rcases h with h | ⟨b, o, cap, h1, h2, h3⟩
  · exact .inl h
  · exact .inr ⟨b, o, cap, h1, (bcell hG).2.2 _ h2, fun i z hi => by rw [(bcell hG).1 _ _ h2]; exact h3 i z hi⟩
theorem NumsAt.own {w : World} {base : Nat} {v : Value} {l : List Int} {n : Nat} (h : w.ownsRow base 3 1 v n (l.map (Value.int .i64))) (hn : n = l.length) (hl : l.length ≤ 1000) : NumsAt l v w := by
  subst hn
  obtain ⟨_, h1⟩ := h
  rcases h1 with ⟨rfl, hn⟩ | ⟨g, cap, cur, rfl, hg, hb, -, -, -, ht⟩
  · exact ⟨hl, .inl ⟨List.eq_nil_of_length_eq_zero hn, rfl⟩⟩
  · refine ⟨hl, .inr ⟨g, 0, cap, rfl, ?_, fun i z hi => ?_⟩⟩
    · exact (show Box w g cur.toList 3 by unfold Box; simpa using hb).lt
    · have hx : cur.toList[i]? = some (.int .i64 z) := by
        have hil := (List.getElem?_eq_some_iff.1 hi).1
        have h2 : (l.map (Value.int .i64))[i]? = some (.int .i64 z) := by rw [List.getElem?_map, hi]; rfl
        rw [← ht, List.getElem?_take_of_lt (by simpa using hil)] at h2
        exact h2
      have := (show Box w g cur.toList 3 by unfold Box; simpa using hb).cell hx
      rwa [Nat.zero_add]
theorem Tryz.info3 : (Tryz.prog.info? 3).map (fun i => (i.zero, i.size, i.bytes)) = some (some (.int .i64 0), 1, 8) := by kernel_rfl
theorem rcheck_any (k : Cd) (b : Bool) (w : World) (hT : TsA k.p.l (.slice k.sp k.p.l.length k.cap) w) :
    Calls Tryz.prog 50 #[.agg k.cs.toArray, .bool b] w fun e w' => e = .returned (.int .i64 (k.errb b)) ∧ Below w.heap.size w w' := by
  have HT := Lib.hid hT
  obtain ⟨r, hr⟩ : ∃ r, k.errb b = r := ⟨_, rfl⟩
  rw [hr]
  have hR := Lib.hid hr
  clear hr hT
  have HB := Lib.hid (Box.fresh w k.cs 28)
  have p7 : ∀ h : 7 < k.cs.length, k.cs[7] = .slice k.sp k.p.l.length k.cap := fun _ => rfl
  have p10 : ∀ h : 10 < k.cs.length, k.cs[10] = .int .i64 k.cuts := fun _ => rfl
  have hl : k.cs.length = 17 := rfl
  cases hc : (k.okc && k.p.ok) with
  | false =>
    have hc := Lib.hid hc
    go_enter Tryz.func50, Tryz.ntmps50
    go_wp2_with (first | (with_reducible refine wsl (ty := 28) rfl ?_; unfold Stop; first | refine wlb row28 rfl (HB.out) rfl rfl rfl ?_ | refine wlg row28 rfl (HB.out) (Cd.whole k) rfl rfl rfl ?_))
    refine (card_is (b := false) hc.out (TsA.lasts _ _ _ _ HT.out (Gr.alloc _ _))).mono ?_
    rintro e w1 ⟨rfl, hb1⟩
    go_wp2_with fail
    exact bodyPost_ret (v := .int .i64 1) (by simp [results, Tryz.results50, go_sem]) rfl ⟨by rw [← hR.out]; unfold Cd.errb; rw [if_pos hc.out], Gr.tr (Gr.alloc _ _) hb1⟩
  | true =>
    have hc := Lib.hid hc
    cases b with
    | false =>
      go_enter Tryz.func50, Tryz.ntmps50
      go_wp2_with (first | (with_reducible refine wsl (ty := 28) rfl ?_; unfold Stop; first | refine wlb row28 rfl (HB.out) rfl rfl rfl ?_ | refine wlg row28 rfl (HB.out) (Cd.whole k) rfl rfl rfl ?_))
      refine (card_is (b := true) hc.out (TsA.lasts _ _ _ _ HT.out (Gr.alloc _ _))).mono ?_
      rintro e w1 ⟨rfl, hb1⟩
      go_wp2_with fail
      exact bodyPost_ret (v := .int .i64 2) (by simp [results, Tryz.results50, go_sem]) rfl ⟨by rw [← hR.out]; unfold Cd.errb; rw [if_neg (by rw [hc.out]; simp)]; rfl, Gr.tr (Gr.alloc _ _) hb1⟩
    | true =>
      have hpe : k.p.power.2.2 = r := by
        rw [← hR.out]
        have h1 : k.okc = true ∧ k.p.ok = true := by have := hc.out; simpa using this
        unfold Pr.power Cd.errb
        rw [if_pos h1.2]
        simp only [h1.1, h1.2, Bool.and_self, Bool.true_eq_false, if_false]
        split <;> rfl
      have HP := Lib.hid (fun W hT' => (show Calls Tryz.prog 65 #[.agg k.pr.toArray] W fun e w' => e = .returned (.tuple #[.agg #[.int .i64 k.p.power.1, .int .i64 k.p.power.2.1], .int .i64 r]) ∧ Below W.heap.size W w' by
        have := rpower_any k.p (.slice k.sp k.p.l.length k.cap) W hT'
        rw [hpe] at this
        exact this))
      generalize k.p.power.1 = P1 at *
      generalize k.p.power.2.1 = P2 at *
      clear hpe
      go_enter Tryz.func50, Tryz.ntmps50
      go_wp2_with (first | (with_reducible refine wsl (ty := 28) rfl ?_; unfold Stop; first | refine wlb row28 rfl (HB.out) rfl rfl rfl ?_ | refine wlg row28 rfl (HB.out) (Cd.whole k) rfl rfl rfl ?_))
      refine (card_is (b := true) hc.out (TsA.lasts _ _ _ _ HT.out (Gr.alloc _ _))).mono ?_
      rintro e w1 ⟨rfl, hb1⟩
      have HB1 := Lib.hid (HB.out.grow hb1)
      have HG1 := Lib.hid ((Gr.alloc w (Obj.cells k.cs.toArray 28)).tr hb1)
      go_wp2_with (first | (with_reducible refine wsl (ty := 26) rfl ?_; unfold Stop; refine wpList_loadPart row26 rfl (HB1.out) (Cd.part8 k) rfl rfl rfl ?_))
      refine (HP.out _ (TsA.lasts _ _ _ _ HT.out HG1.out)).mono ?_
      rintro e w2 ⟨rfl, hb2⟩
      go_wp2_with fail
      exact bodyPost_ret (v := .int .i64 r) (by simp [results, Tryz.results50, go_sem]) rfl ⟨rfl, (HG1.out.tr hb2).tr (Gr.alloc _ _)⟩
theorem Pr.seesTo_len (p : Pr) : ∀ n : Nat, (p.seesTo n).length ≤ n
  | 0 => Nat.le_refl _
  | n + 1 => by
    rw [Pr.seesTo_succ, List.length_append]
    have := Pr.seesTo_len p n
    cases p.view n <;> simp <;> omega
theorem Pr.view_of' {p : Pr} {n : Nat} {t : Th} (ht : p.l[n]? = some t) : p.view n = if (t.see p.ti p.ne p.fa).why p.pw.1 p.pw.2 = 0 then some ⟨t.a, t.b, t.e, t.f, (t.see p.ti p.ne p.fa).lo, (t.see p.ti p.ne p.fa).hi⟩ else none := by
  have hs : p.seen[n]? = some (t.see p.ti p.ne p.fa) := by
    unfold Pr.seen seenOf
    rw [List.getElem?_map, ht]
    rfl
  unfold Pr.view
  rw [ht, hs]
theorem rseenThings_ok (k : Cd) (sp : Option Addr) (hspe : k.sp = sp) (w : World) (hT : TsA k.p.l (.slice sp k.p.l.length k.cap) w) (hok : k.p.ok = true) (hp : k.p.pw.1 ≤ k.p.pw.2) :
    Calls Tryz.prog 51 #[.agg k.cs.toArray] w fun e w' => (∃ v, e = .returned v ∧ NumsAt (k.p.sees.map (·.1)) v w') ∧ Below w.heap.size w w' := by
  have hlen : k.p.l.length ≤ 12 := (k.p.bounds hok).len
  have HL := Lib.hid hlen
  have hT' : TsA k.p.l (.slice k.sp k.p.l.length k.cap) w := by rw [hspe]; exact hT
  have HT := Lib.hid hT'
  obtain ⟨i0, ii0, iz0, iz1, iz2⟩ := info_parts Tryz.info3
  have II0 := Lib.hid ii0
  have IZ0 := Lib.hid iz0
  have IZ1 := Lib.hid iz1
  have IZ2 := Lib.hid iz2
  clear hT hT' ii0 iz0 iz1 iz2
  have HB := Lib.hid (Box.fresh w k.cs 28)
  have HG0 := Lib.hid (Gr.alloc w (Obj.cells k.cs.toArray 28))
  have hb0 := HB.out.lt
  have p7 : ∀ h : 7 < k.cs.length, k.cs[7] = .slice k.sp k.p.l.length k.cap := fun _ => rfl
  have p10 : ∀ h : 10 < k.cs.length, k.cs[10] = .int .i64 k.cuts := fun _ => rfl
  have hl : k.cs.length = 17 := rfl
  go_enter Tryz.func51, Tryz.ntmps51
  go_wp2_with fail
  generalize hV0 : (w.alloc (Obj.cells k.cs.toArray 28)) = V0 at *
  clear hV0
  generalize hB1 : V0.heap.size = B1 at *
  have HB1 := Lib.hid hB1
  clear hB1
  go_loopw [3, 4] (fun v i wr => ∃ n : Nat, n ≤ k.p.l.length ∧ i = .int .i64 n ∧ Below B1 V0 wr ∧ wr.ownsRow B1 3 1 v (k.p.seesTo n).length (((k.p.seesTo n).map (·.1)).map (Value.int .i64))) (fun _ i _ => k.p.l.length - (intOf i).toNat)
  case atStart => exact ⟨0, Nat.zero_le _, rfl, Below.refl _ _, World.ownsRow_nil _ _ _ _⟩
  case round =>
    obtain ⟨n, hnn, rfl, hg, hox⟩ := hrel
    obtain ⟨xp, xn, xc, rfl⟩ := own_slice hox
    have HG := Lib.hid hg
    have HOX := Lib.hid hox
    have hsz := hg.size
    have hsl : (k.p.seesTo n).length ≤ n := Pr.seesTo_len k.p n
    have hbox := HB.out.below hg hb0
    have c7 := hbox.cell (i := 7) rfl
    have cl := hbox.lt
    have HBR := Lib.hid hbox
    have HTR := Lib.hid (TsA.lasts _ _ _ _ HT.out (show Gr w wr from Below.trans HG0.out (HG.out.mono (by omega))))
    clear hg hox hbox
    by_cases hlt : n < k.p.l.length
    · obtain ⟨t, htk⟩ : ∃ t, k.p.l[n]? = some t := ⟨k.p.l[n]'hlt, List.getElem?_eq_getElem _⟩
      have HW := Lib.hid (rwhy_ok (w := wr) hok hp htk HTR.out)
      have hvw := Pr.view_of' htk
      by_cases hw : (t.see k.p.ti k.p.ne k.p.fa).why k.p.pw.1 k.p.pw.2 = 0
      · rw [if_pos hw] at hvw
        rw [hw] at HW
        have hst : k.p.seesTo (n + 1) = k.p.seesTo n ++ [((n : Int), ⟨t.a, t.b, t.e, t.f, (t.see k.p.ti k.p.ne k.p.fa).lo, (t.see k.p.ti k.p.ne k.p.fa).hi⟩)] := by rw [Pr.seesTo_succ, hvw]; rfl
        have HST := Lib.hid hst
        clear hst hvw hw htk
        go_wp2_with (first | (with_reducible refine wsl (ty := 26) rfl ?_; unfold Stop; refine wpList_loadPart row26 rfl (HBR.out) (Cd.part8 k) rfl rfl rfl ?_))
        refine HW.out.mono ?_
        rintro e w1 ⟨rfl, hb1⟩
        have hox1 := own_gr HOX.out hb1
        have hg1 : Below B1 V0 w1 := bgr HG.out (by have := HB1.out; omega) hb1
        have hsz1 : wr.heap.size ≤ w1.heap.size := hb1.size
        have HOX1 := Lib.hid (own_gr hox1 (Gr.alloc w1 (Obj.cells #[.int .i64 (n : Nat)] 3)))
        have HG1 := Lib.hid (bgr hg1 (by have := HB1.out; omega) (Gr.alloc w1 (Obj.cells #[.int .i64 (n : Nat)] 3)))
        have HN := Lib.hid (World.news_of_block (w := w1.alloc (Obj.cells #[.int .i64 (n : Nat)] 3)) (cs := #[.int .i64 (n : Nat)]) (t := 3) (fr := (0, 0)) (show Box (w1.alloc (Obj.cells #[.int .i64 (n : Nat)] 3)) w1.heap.size [.int .i64 (n : Nat)] 3 from Box.fresh w1 _ _))
        have hB1e := HB1.out
        have hs2 : (w1.alloc (Obj.cells #[.int .i64 (n : Nat)] 3)).heap.size = w1.heap.size + 1 := by simp
        have hL := HL.out
        clear hox1 hg1 hb1
        go_wp2_with (at_builtin; refine wpList_append_lies _ rfl _ _ 78 rfl B1 3 i0 _ 1 8 Tryz.underlying78 II0.out IZ0.out IZ1.out IZ2.out rfl (by decide) _ _ _ rfl HOX1.out ⟨w1.heap.size, 0, none⟩ 1 1 [.int .i64 (n : Nat)] rfl rfl ?c1 ?c2 ?c3 ?c4 ?c5 ?c6 _ rfl ?_)
        case c1 => exact HN.out
        case c2 => simp [Value.oneCell']
        case c3 => omega
        case c4 => unfold maxLen; omega
        case c5 => omega
        case c6 => omega
        intro g capx w3 hown3 hgrow3 hat3 hlt3
        have HOX3 := Lib.hid hown3
        have HG3 := Lib.hid (HG1.out.grown hgrow3 (by omega) (fun q e => by have := HOX.out.lt q e; omega))
        clear hown3 hgrow3 hat3
        go_wp2
        exact ⟨⟨n + 1, by omega, by go_num, HG3.out, by have h := HOX3.out; (try rw [← List.map_map] at h); rw [HST.out, List.length_append, List.map_append, List.map_append]; exact h⟩, by simp [intOf]; omega⟩
      · rw [if_neg hw] at hvw
        have hw' : ((t.see k.p.ti k.p.ne k.p.fa).why k.p.pw.1 k.p.pw.2 == 0) = false := by simpa using hw
        have hst : k.p.seesTo (n + 1) = k.p.seesTo n := by rw [Pr.seesTo_succ, hvw]; simp
        have HST := Lib.hid hst
        generalize (t.see k.p.ti k.p.ne k.p.fa).why k.p.pw.1 k.p.pw.2 = y at *
        clear hst hvw htk
        go_wp2_with (first | (with_reducible refine wsl (ty := 26) rfl ?_; unfold Stop; refine wpList_loadPart row26 rfl (HBR.out) (Cd.part8 k) rfl rfl rfl ?_))
        refine HW.out.mono ?_
        rintro e w1 ⟨rfl, hb1⟩
        have HOX1 := Lib.hid (own_gr HOX.out hb1)
        have HG1 := Lib.hid (show Below B1 V0 w1 from bgr HG.out (by have := HB1.out; omega) hb1)
        have hL := HL.out
        clear hb1
        go_wp2
        exact ⟨⟨n + 1, by omega, by go_num, HG1.out, by rw [HST.out]; exact HOX1.out⟩, by simp [intOf]; omega⟩
    · have hkl : n = k.p.l.length := by omega
      subst hkl
      have hlt51 : decide ((k.p.l.length : Int) < (k.p.l.length : Int)) = false := by simp
      have HN := Lib.hid (show NumsAt (k.p.sees.map (·.1)) (.slice xp xn xc) wr from NumsAt.own HOX.out (by unfold Pr.sees; simp) (by have := HL.out; unfold Pr.sees; simp; omega))
      have HGW := Lib.hid (show Gr w wr from Below.trans HG0.out (HG.out.mono (by omega)))
      clear HOX
      go_wp2
      exact bodyPost_ret (v := .slice xp xn xc) (by simp [results, Tryz.results51, go_sem]) rfl ⟨⟨_, rfl, HN.out⟩, HGW.out⟩
theorem NumsAt.cells {l : List Int} {v : Value} {w : World} (h : NumsAt l v w) : ∃ sp cap, v = .slice sp l.length cap ∧ l.length ≤ 1000 ∧ ∀ i z, l[i]? = some z → ∃ b o, sp = some ⟨b, o, none⟩ ∧ b < w.heap.size ∧ w.cell? ⟨b, o + i, none⟩ = some (.int .i64 z) := by
  obtain ⟨h0, h | ⟨b, o, cap, h1, h2, h3⟩⟩ := h
  · obtain ⟨rfl, rfl⟩ := h
    exact ⟨none, 0, rfl, h0, fun i z hi => by cases hi⟩
  · exact ⟨_, cap, h1, h0, fun i z hi => ⟨b, o, rfl, h2, h3 i z hi⟩⟩
theorem rpow2_any (n : Nat) (w : World) (hn : n ≤ 12) :
    Calls Tryz.prog 52 #[.int .i64 n] w fun e w' => e = .returned (.int .i64 ((2 ^ n : Nat) : Int)) ∧ Below w.heap.size w w' := by
  go_enter Tryz.func52, Tryz.ntmps52
  go_wp2
  go_loopw [3, 4] (fun out i wr => ∃ k : Nat, k ≤ n ∧ i = .int .i64 k ∧ out = .int .i64 ((2 ^ k : Nat) : Int) ∧ Gr w wr) (fun _ i _ => n - (intOf i).toNat)
  case atStart => exact ⟨0, Nat.zero_le _, rfl, rfl, Gr.same _⟩
  case round =>
    obtain ⟨k, hk, rfl, rfl, hg⟩ := hrel
    have HG := Lib.hid hg
    clear hg
    by_cases hlt : k < n
    · have hq : 2 ^ k ≤ 4096 := by
        have := Nat.pow_le_pow_right (n := 2) (by omega) (show k ≤ 12 by omega)
        simpa using this
      have HQ := Lib.hid (show 2 ^ (k + 1) = 2 * 2 ^ k by rw [Nat.pow_succ]; omega)
      generalize 2 ^ k = q at *
      go_wp2
      exact ⟨⟨k + 1, by omega, by go_num, by rw [HQ.out]; go_num, HG.out⟩, by simp [intOf]; omega⟩
    · have hkn : k = n := by omega
      subst hkn
      go_wp2
      go_ret
      exact ⟨rfl, HG.out⟩
theorem setTo_lt2 {l : List (Int × Vw)} {m : Nat} (h : ∀ q ∈ l, q.1.toNat < m) : setTo l < 2 ^ m := by
  unfold setTo
  have key : ∀ (l : List (Int × Vw)) (a : Nat), a < 2 ^ m → (∀ q ∈ l, q.1.toNat < m) → l.foldl (fun m q => m ||| 2 ^ q.1.toNat) a < 2 ^ m := by
    intro l
    induction l with
    | nil => intro a ha _; exact ha
    | cons q l ih =>
      intro a ha hq
      simp only [List.foldl_cons]
      refine ih _ ?_ fun r hr => hq r (by simp [hr])
      exact Nat.or_lt_two_pow ha (Nat.pow_lt_pow_right (by omega) (hq q (by simp)))
  exact key l 0 (Nat.two_pow_pos m) h
theorem setTo_add {l : List (Int × Vw)} {q : Int × Vw} (h : ∀ r ∈ l, r.1.toNat < q.1.toNat) : setTo (l ++ [q]) = setTo l + 2 ^ q.1.toNat := by
  have e := Nat.two_pow_add_eq_or_of_lt (setTo_lt2 h) 1
  rw [Nat.mul_one] at e
  rw [setTo_snoc, Nat.or_comm, ← e]
  omega
theorem Pr.seesTo_key {p : Pr} {n : Nat} {q : Int × Vw} (h : q ∈ p.seesTo n) : ∃ i : Nat, i < n ∧ q.1 = (i : Int) ∧ p.view i = some q.2 := by
  obtain ⟨i, h1, h2, h3⟩ := mem_seesTo h
  exact ⟨i, h1, h2, h3⟩
theorem Pr.seesTo_sorted (p : Pr) : ∀ n j : Nat, ∀ q, (p.seesTo n)[j]? = some q → ∀ r ∈ (p.seesTo n).take j, r.1.toNat < q.1.toNat
  | 0, j, q, h, r, hr => by simp [Pr.seesTo] at h
  | n + 1, j, q, h, r, hr => by
    rw [Pr.seesTo_succ] at h hr
    cases hv : p.view n with
    | none =>
      rw [hv] at h hr
      simp only [Option.map_none, Option.toList_none, List.append_nil] at h hr
      exact p.seesTo_sorted n j q h r hr
    | some x =>
      rw [hv] at h hr
      simp only [Option.map_some, Option.toList_some] at h hr
      by_cases hj : j < (p.seesTo n).length
      · rw [List.getElem?_append_left hj] at h
        rw [List.take_append_of_le_length (by omega)] at hr
        exact p.seesTo_sorted n j q h r hr
      · have hj2 : j = (p.seesTo n).length := by
          have := (List.getElem?_eq_some_iff.1 h).1
          simp at this
          omega
        subst hj2
        simp at h hr
        subst h
        obtain ⟨i, h1, h2, -⟩ := Pr.seesTo_key hr
        simp only [Int.toNat_natCast]
        omega
theorem rseen_ok (k : Cd) (w : World) (hT : TsA k.p.l (.slice k.sp k.p.l.length k.cap) w) (hok : k.p.ok = true) (hp : k.p.pw.1 ≤ k.p.pw.2) (he : Hid (k.errb true = 0)) :
    Calls Tryz.prog 15 #[.agg k.cs.toArray] w fun e w' => e = .returned (.tuple #[.int .i64 (setTo k.p.sees : Nat), .int .i64 0]) ∧ Below w.heap.size w w' := by
  have hlen : k.p.l.length ≤ 12 := (k.p.bounds hok).len
  have HT := Lib.hid hT
  have HC : Hid (∀ W, TsA k.p.l (.slice k.sp k.p.l.length k.cap) W → Calls Tryz.prog 50 #[.agg k.cs.toArray, .bool true] W fun e w' => e = .returned (.int .i64 0) ∧ Below W.heap.size W w') := Lib.hid fun W h => by
    have := rcheck_any k true W h
    rwa [he.out] at this
  have HS : Hid (∀ W, TsA k.p.l (.slice k.sp k.p.l.length k.cap) W → Calls Tryz.prog 51 #[.agg k.cs.toArray] W fun e w' => (∃ v, e = .returned v ∧ NumsAt (k.p.sees.map (·.1)) v w') ∧ Below W.heap.size W w') := Lib.hid fun W h => rseenThings_ok k _ rfl W h hok hp
  have hsl : k.p.sees.length ≤ 12 := Nat.le_trans (Pr.seesTo_len k.p _) hlen
  have HSL := Lib.hid hsl
  have HSO := Lib.hid (fun j q h => Pr.seesTo_sorted k.p k.p.l.length j q h)
  have HKY := Lib.hid (fun q (h : q ∈ k.p.sees) => Pr.seesTo_key h)
  have HLN := Lib.hid hlen
  clear hT
  have HB := Lib.hid (Box.fresh w k.cs 28)
  have p7 : ∀ h : 7 < k.cs.length, k.cs[7] = .slice k.sp k.p.l.length k.cap := fun _ => rfl
  have p10 : ∀ h : 10 < k.cs.length, k.cs[10] = .int .i64 k.cuts := fun _ => rfl
  have hl : k.cs.length = 17 := rfl
  go_enter Tryz.func15, Tryz.ntmps15
  go_wp2_with (first | (with_reducible refine wsl (ty := 28) rfl ?_; unfold Stop; first | refine wlb row28 rfl (HB.out) rfl rfl rfl ?_ | refine wlg row28 rfl (HB.out) (Cd.whole k) rfl rfl rfl ?_))
  refine (HC.out _ (TsA.lasts _ _ _ _ HT.out (Gr.alloc _ _))).mono ?_
  rintro e w1 ⟨rfl, hb1⟩
  have HG1 := Lib.hid ((Gr.alloc w (Obj.cells k.cs.toArray 28)).tr hb1)
  have HB1 := Lib.hid (HB.out.grow hb1)
  clear hb1
  go_wp2_with (first | (with_reducible refine wsl (ty := 28) rfl ?_; unfold Stop; first | refine wlb row28 rfl (HB1.out) rfl rfl rfl ?_ | refine wlg row28 rfl (HB1.out) (Cd.whole k) rfl rfl rfl ?_))
  refine (HS.out _ (TsA.lasts _ _ _ _ HT.out HG1.out)).mono ?_
  rintro e w2 ⟨⟨v, rfl, hN⟩, hb2⟩
  have HG2 := Lib.hid (HG1.out.tr hb2)
  obtain ⟨np, nc, rfl, -, hcell⟩ := hN.cells
  have HCE := Lib.hid hcell
  clear hcell hN hb2
  rw [List.length_map]
  generalize hes : k.p.sees = es at *
  obtain ⟨L, hL⟩ : ∃ L, es.length = L := ⟨_, rfl⟩
  rw [hL] at hsl ⊢
  go_wp2_with fail
  go_loopw [6, 7] (fun s i wr => ∃ j : Nat, j ≤ L ∧ i = .int .i64 j ∧ s = .int .i64 (setTo (es.take j) : Nat) ∧ Gr w2 wr) (fun _ i _ => L - (intOf i).toNat)
  case atStart => exact ⟨0, Nat.zero_le _, rfl, rfl, Gr.same _⟩
  case round =>
    obtain ⟨j, hj, rfl, rfl, hg⟩ := hrel
    have HG := Lib.hid hg
    clear hg
    by_cases hlt : j < L
    · obtain ⟨q, hq⟩ : ∃ q, es[j]? = some q := ⟨es[j]'(by omega), List.getElem?_eq_getElem _⟩
      obtain ⟨m, hm1, hm2, -⟩ := HKY.out q (List.mem_of_getElem? hq)
      obtain ⟨b, o, rfl, hb, hc⟩ := HCE.out j q.1 (by rw [List.getElem?_map, hq]; rfl)
      rw [hm2] at hc
      have hcw : wr.cell? ⟨b, o + j, none⟩ = some (.int .i64 (m : Int)) := ((bcell HG.out).1 _ _ hb).trans hc
      have hbw : b < wr.heap.size := (bcell HG.out).2.2 _ hb
      have HM := Lib.hid (rpow2_any m wr (by have := HLN.out; omega))
      have hst : es.take (j + 1) = es.take j ++ [q] := by rw [List.take_add_one, hq]; rfl
      have hadd : setTo (es.take (j + 1)) = setTo (es.take j) + 2 ^ m := by
        rw [hst, setTo_add (by have := HSO.out j q (by rw [← hes] at hq; exact hq); intro r hr; exact this r (by rw [← hes] at hr; exact hr)), hm2, Int.toNat_natCast]
      have hlt1 : setTo (es.take j) < 4096 := setTo_lt fun r hr => by
        obtain ⟨i, h1, h2, -⟩ := HKY.out r (List.mem_of_mem_take hr)
        have := HLN.out
        omega
      have hlt2 : 2 ^ m ≤ 4096 := by
        have := Nat.pow_le_pow_right (n := 2) (by omega) (show m ≤ 12 by have := HLN.out; omega)
        simpa using this
      have HADD := Lib.hid hadd
      clear hc hst hadd hm2 hq
      generalize 2 ^ m = pm at *
      generalize setTo (es.take j) = sj at *
      go_wp2_with fail
      refine HM.out.mono ?_
      rintro e w3 ⟨rfl, hb3⟩
      have HG3 := Lib.hid (HG.out.tr hb3)
      clear hb3
      go_wp2
      exact ⟨⟨j + 1, by omega, by go_num, by rw [HADD.out]; go_num, HG3.out⟩, by simp [intOf]; omega⟩
    · have hjl : j = L := by omega
      subst hjl
      have htk : es.take j = es := List.take_of_length_le (by omega)
      rw [htk]
      have hlt51 : decide ((j : Int) < (j : Int)) = false := by simp
      generalize hse : setTo es = se at *
      go_wp2
      exact bodyPost_ret (v := .tuple #[.int .i64 (se : Nat), .int .i64 0]) (by simp [results, Tryz.results15, go_sem]) rfl ⟨by rw [hes, hse], Gr.tr HG2.out HG.out⟩
theorem rseen_err (k : Cd) (w : World) (hT : TsA k.p.l (.slice k.sp k.p.l.length k.cap) w) (r : Int) (hr0 : (r != 0) = true) (he : Hid (k.errb true = r)) :
    Calls Tryz.prog 15 #[.agg k.cs.toArray] w fun e w' => e = .returned (.tuple #[.int .i64 0, .int .i64 r]) ∧ Below w.heap.size w w' := by
  have HT := Lib.hid hT
  have HC : Hid (∀ W, TsA k.p.l (.slice k.sp k.p.l.length k.cap) W → Calls Tryz.prog 50 #[.agg k.cs.toArray, .bool true] W fun e w' => e = .returned (.int .i64 r) ∧ Below W.heap.size W w') := Lib.hid fun W h => by
    have := rcheck_any k true W h
    rwa [he.out] at this
  clear hT
  have HB := Lib.hid (Box.fresh w k.cs 28)
  have p7 : ∀ h : 7 < k.cs.length, k.cs[7] = .slice k.sp k.p.l.length k.cap := fun _ => rfl
  have p10 : ∀ h : 10 < k.cs.length, k.cs[10] = .int .i64 k.cuts := fun _ => rfl
  have hl : k.cs.length = 17 := rfl
  go_enter Tryz.func15, Tryz.ntmps15
  go_wp2_with (first | (with_reducible refine wsl (ty := 28) rfl ?_; unfold Stop; first | refine wlb row28 rfl (HB.out) rfl rfl rfl ?_ | refine wlg row28 rfl (HB.out) (Cd.whole k) rfl rfl rfl ?_))
  refine (HC.out _ (TsA.lasts _ _ _ _ HT.out (Gr.alloc _ _))).mono ?_
  rintro e w1 ⟨rfl, hb1⟩
  go_wp2_with fail
  exact bodyPost_ret (v := .tuple #[.int .i64 0, .int .i64 r]) (by simp [results, Tryz.results15, go_sem]) rfl ⟨rfl, (Gr.alloc w (Obj.cells k.cs.toArray 28)).tr hb1⟩
theorem rseen_any (k : Cd) (w : World) (hT : TsA k.p.l (.slice k.sp k.p.l.length k.cap) w) :
    Calls Tryz.prog 15 #[.agg k.cs.toArray] w fun e w' => e = .returned (.tuple #[.int .i64 k.seenA.1, .int .i64 k.seenA.2]) ∧ Below w.heap.size w w' := by
  unfold Cd.seenA
  by_cases h : k.err [] = 0
  · rw [if_pos h]
    obtain ⟨h1, h2, -, h3⟩ := Cd.err_zero h
    exact rseen_ok k w hT h1 h3 (Lib.hid (by rw [k.errb_true]; exact h))
  · rw [if_neg h]
    exact rseen_err k w hT _ (by simpa using h) (Lib.hid k.errb_true)
theorem rtrimming_5 (k : Cd) (u : Cu) (w : World) (h0 : (decide (0 ≤ u.a) && decide (u.a ≤ k.cuts)) = true) (h1 : (decide (0 ≤ u.b) && decide (u.b ≤ k.cuts)) = true) (h2 : (decide (0 ≤ u.c) && decide (u.c ≤ k.cuts)) = true) (h3 : (decide (0 ≤ u.d) && decide (u.d ≤ k.cuts)) = true) :
    Calls Tryz.prog 29 #[.agg k.cs.toArray, .agg #[.int .i64 u.a, .int .i64 u.b, .int .i64 u.c, .int .i64 u.d]] w fun e w' => e = .returned (.bool (wrap64 (u.a + u.b) == wrap64 (u.c + u.d))) ∧ Below w.heap.size w w' := by
  have K0 := Lib.hid h0
  have K1 := Lib.hid h1
  have K2 := Lib.hid h2
  have K3 := Lib.hid h3
  clear h0 h1 h2 h3
  have hl : k.cs.length = 17 := rfl
  have e10 : ∀ h : 10 < k.cs.length, k.cs[10] = .int .i64 k.cuts := fun _ => rfl
  go_enter Tryz.func29, Tryz.ntmps29
  go_wp2_with (first | (go_at_call 66; refine (r3in_is (v := true) (by simpa using K0.out) _).mono ?_; rintro e w1 ⟨rfl, hb1⟩; have g1 := hb1; obtain ⟨hc1, hf1, hz1⟩ := bcell g1) | (go_at_call 66; refine (r3in_is (v := true) (by simpa using K1.out) _).mono ?_; rintro e w2 ⟨rfl, hb2⟩; have g2 := Gr.tr g1 hb2; obtain ⟨hc2, hf2, hz2⟩ := bcell g2) | (go_at_call 66; refine (r3in_is (v := true) (by simpa using K2.out) _).mono ?_; rintro e w3 ⟨rfl, hb3⟩; have g3 := Gr.tr g2 hb3; obtain ⟨hc3, hf3, hz3⟩ := bcell g3) | (go_at_call 66; refine (r3in_is (v := true) (by simpa using K3.out) _).mono ?_; rintro e w4 ⟨rfl, hb4⟩; have g4 := Gr.tr g3 hb4; obtain ⟨hc4, hf4, hz4⟩ := bcell g4))
  exact bodyPost_ret (v := .bool (wrap64 (u.a + u.b) == wrap64 (u.c + u.d))) (by simp [results, Tryz.results29, go_sem]) rfl ⟨rfl, Gr.tr ((Gr.alloc _ _).tr (Gr.alloc _ _)) g4⟩
theorem rtrim_ex (k : Cd) (u : Cu) (w : World) :
    Calls Tryz.prog 29 #[.agg k.cs.toArray, .agg #[.int .i64 u.a, .int .i64 u.b, .int .i64 u.c, .int .i64 u.d]] w fun e w' => (∃ b, e = .returned (.bool b) ∧ k.errb b = k.err [u]) ∧ Below w.heap.size w w' := by
  cases hc : (k.okc && k.p.ok) with
  | true =>
    have h1 : k.okc = true ∧ k.p.ok = true := by simpa using hc
    refine (rtrimming_any k u w (by have := (okc_cuts h1.1).2; omega)).mono ?_
    rintro e w1 ⟨rfl, hb⟩
    exact ⟨⟨_, rfl, k.errb_isT u⟩, hb⟩
  | false =>
    have key : ∀ {b : Bool}, (Calls Tryz.prog 29 #[.agg k.cs.toArray, .agg #[.int .i64 u.a, .int .i64 u.b, .int .i64 u.c, .int .i64 u.d]] w fun e w' => e = .returned (.bool b) ∧ Below w.heap.size w w') → Calls Tryz.prog 29 #[.agg k.cs.toArray, .agg #[.int .i64 u.a, .int .i64 u.b, .int .i64 u.c, .int .i64 u.d]] w fun e w' => (∃ b, e = .returned (.bool b) ∧ k.errb b = k.err [u]) ∧ Below w.heap.size w w' := fun h => by
      refine h.mono ?_
      rintro e w1 ⟨rfl, hb⟩
      exact ⟨⟨_, rfl, Cd.errb_bad hc _ _⟩, hb⟩
    cases h0 : (decide (0 ≤ u.a) && decide (u.a ≤ k.cuts)) with
    | false => exact key (rtrimming_0 k u w h0)
    | true =>
      cases h1 : (decide (0 ≤ u.b) && decide (u.b ≤ k.cuts)) with
      | false => exact key (rtrimming_1 k u w h0 h1)
      | true =>
        cases h2 : (decide (0 ≤ u.c) && decide (u.c ≤ k.cuts)) with
        | false => exact key (rtrimming_2 k u w h0 h1 h2)
        | true =>
          cases h3 : (decide (0 ≤ u.d) && decide (u.d ≤ k.cuts)) with
          | false => exact key (rtrimming_3 k u w h0 h1 h2 h3)
          | true => exact key (rtrimming_5 k u w h0 h1 h2 h3)
def TrimV (k : Cd) (u : Cu) (v : Value) (_ : World) : Prop := ∃ b, v = .bool b ∧ k.errb b = k.err [u]
theorem TrimV.lasts (k : Cd) (u : Cu) : Lasts (TrimV k u) := fun _ _ _ h _ => h
theorem rtrim_rel (k : Cd) (u : Cu) (w : World) : Calls Tryz.prog 29 #[.agg k.cs.toArray, .agg #[.int .i64 u.a, .int .i64 u.b, .int .i64 u.c, .int .i64 u.d]] w fun e w' => (∃ v, e = .returned v ∧ TrimV k u v w') ∧ Below w.heap.size w w' := by
  refine (rtrim_ex k u w).mono ?_
  rintro e w1 ⟨⟨b, rfl, h⟩, hb⟩
  exact ⟨⟨_, rfl, b, rfl, h⟩, hb⟩
theorem rhurts56 (k : Cd) (u : Cu) (sp : Option Addr) (hspe : k.sp = sp) (v : Value) (w : World) (hT : TsA k.p.l (.slice sp k.p.l.length k.cap) w) (hok : k.p.ok = true) (htm : (⟨k, 0, u⟩ : Tm).ok) (hN : NumsAt (k.p.sees.map (·.1)) v w) :
    Calls Tryz.prog 56 #[.agg k.cs.toArray, .agg #[.int .i64 u.a, .int .i64 u.b, .int .i64 u.c, .int .i64 u.d], v] w fun e w' => e = .returned (.tuple #[.int .i64 ((⟨k, 0, u⟩ : Tm).first k.p.sees).1, .int .i64 ((⟨k, 0, u⟩ : Tm).first k.p.sees).2, .bool (!decide ((⟨k, 0, u⟩ : Tm).first k.p.sees = (0, 0)))]) ∧ Below w.heap.size w w' := by
  have hlen : k.p.l.length ≤ 12 := (k.p.bounds hok).len
  have hsl : k.p.sees.length ≤ 12 := Nat.le_trans (Pr.seesTo_len k.p _) hlen
  have HT := Lib.hid hT
  have HKY := Lib.hid (fun q (h : q ∈ k.p.sees) => Pr.seesTo_key h)
  have HTH := Lib.hid (fun (x : Th) (hx : x ∈ k.p.l) (W : World) => rhurt_ok k u x W htm ((k.p.bounds hok).things x hx).1)
  have HLN := Lib.hid hlen
  obtain ⟨np, nc, rfl, -, hcell⟩ := hN.cells
  have HCE := Lib.hid hcell
  rw [List.length_map]
  obtain ⟨r1, r2, hr⟩ : ∃ a b, (⟨k, 0, u⟩ : Tm).first k.p.sees = (a, b) := ⟨_, _, rfl⟩
  rw [hr]
  have HR := Lib.hid hr
  clear hT hcell hN hr
  have hvw : ∀ q ∈ k.p.sees, ∀ i : Nat, k.p.view i = some q.2 → ∃ x, k.p.l[i]? = some x ∧ (⟨k, 0, u⟩ : Tm).why ⟨x.a, x.b, x.e, x.f, x.a - x.f, x.b - x.e⟩ = (⟨k, 0, u⟩ : Tm).why q.2 := fun q hq i hv => by
    cases hx : k.p.l[i]? with
    | none =>
      have : k.p.view i = none := by unfold Pr.view; rw [hx]
      rw [this] at hv; cases hv
    | some x =>
      rw [Pr.view_of' hx] at hv
      refine ⟨x, rfl, ?_⟩
      split at hv
      · rw [← Option.some.inj hv]; rfl
      · cases hv
  have HVW := Lib.hid hvw
  clear hvw
  generalize hes : k.p.sees = es at *
  obtain ⟨L, hL⟩ : ∃ L, es.length = L := ⟨_, rfl⟩
  rw [hL] at hsl ⊢
  have HB0 := Lib.hid (show Box ((w.alloc (Obj.cells k.cs.toArray 28)).alloc (Obj.cells #[.int .i64 u.a, .int .i64 u.b, .int .i64 u.c, .int .i64 u.d] 30)) w.heap.size k.cs 28 from (Box.fresh w k.cs 28).grow (Gr.alloc _ _))
  have HU0 := Lib.hid (show Box ((w.alloc (Obj.cells k.cs.toArray 28)).alloc (Obj.cells #[.int .i64 u.a, .int .i64 u.b, .int .i64 u.c, .int .i64 u.d] 30)) (w.heap.size + 1) [.int .i64 u.a, .int .i64 u.b, .int .i64 u.c, .int .i64 u.d] 30 by simpa using Box.fresh (w.alloc (Obj.cells k.cs.toArray 28)) [.int .i64 u.a, .int .i64 u.b, .int .i64 u.c, .int .i64 u.d] 30)
  have HG0 := Lib.hid (show Gr w ((w.alloc (Obj.cells k.cs.toArray 28)).alloc (Obj.cells #[.int .i64 u.a, .int .i64 u.b, .int .i64 u.c, .int .i64 u.d] 30)) from (Gr.alloc _ _).tr (Gr.alloc _ _))
  have p7 : ∀ h : 7 < k.cs.length, k.cs[7] = .slice k.sp k.p.l.length k.cap := fun _ => rfl
  have p10 : ∀ h : 10 < k.cs.length, k.cs[10] = .int .i64 k.cuts := fun _ => rfl
  have hl : k.cs.length = 17 := rfl
  go_enter Tryz.func56, Tryz.ntmps56
  go_wp2_with fail
  generalize hV0 : ((w.alloc (Obj.cells k.cs.toArray 28)).alloc (Obj.cells #[.int .i64 u.a, .int .i64 u.b, .int .i64 u.c, .int .i64 u.d] 30)) = V0 at *
  clear hV0
  go_loopw [9] (fun i wr => ∃ j : Nat, j ≤ L ∧ i = .int .i64 j ∧ Gr V0 wr ∧ ∀ q ∈ es.take j, (⟨k, 0, u⟩ : Tm).why q.2 = 0) (fun i _ => L - (intOf i).toNat)
  case atStart => exact ⟨0, Nat.zero_le _, rfl, Gr.same _, fun q h => by simp at h⟩
  case round =>
    obtain ⟨j, hj, rfl, hg, hz0⟩ := hrel
    have HG := Lib.hid hg
    have HZ := Lib.hid hz0
    have hb := HB0.out.grow hg
    have hu := HU0.out.grow hg
    have c7 := hb.cell (i := 7) rfl
    have cl := hb.lt
    have u0 := hu.cell (i := 0) rfl
    have u1 := hu.cell (i := 1) rfl
    have u2 := hu.cell (i := 2) rfl
    have u3 := hu.cell (i := 3) rfl
    have ul := hu.lt
    have HBR := Lib.hid hb
    have HGW := Lib.hid (HG0.out.tr hg)
    clear hg hz0 hb hu
    by_cases hlt : j < L
    · obtain ⟨q, hq⟩ : ∃ q, es[j]? = some q := ⟨es[j]'(by omega), List.getElem?_eq_getElem _⟩
      have hqm := List.mem_of_getElem? hq
      obtain ⟨m, hm1, hm2, hm3⟩ := HKY.out q hqm
      obtain ⟨x, hx, hwx⟩ := HVW.out q hqm m hm3
      obtain ⟨b, o, rfl, hb, hc⟩ := HCE.out j q.1 (by rw [List.getElem?_map, hq]; rfl)
      rw [hm2] at hc
      have hcw : wr.cell? ⟨b, o + j, none⟩ = some (.int .i64 (m : Int)) := ((bcell HGW.out).1 _ _ hb).trans hc
      have hbw : b < wr.heap.size := (bcell HGW.out).2.2 _ hb
      obtain ⟨-, h3 | ⟨tb, tof, cp, hsp, hbl, hcs⟩⟩ := TsA.lasts _ _ _ _ HT.out HGW.out
      · have := h3.1; rw [this] at hx; cases hx
      have hsp1 : sp = some ⟨tb, tof, none⟩ := by simp at hsp; exact hsp.1
      subst hsp1
      have X := CsF.nine (hcs m x hx)
      have HH := Lib.hid (HTH.out x (List.mem_of_getElem? hx))
      rw [hwx] at HH
      have hst : es.take (j + 1) = es.take j ++ [q] := by rw [List.take_add_one, hq]; rfl
      have HST := Lib.hid hst
      have hfst : (⟨k, 0, u⟩ : Tm).first es = if (⟨k, 0, u⟩ : Tm).why q.2 = 0 then (⟨k, 0, u⟩ : Tm).first (es.drop (j + 1)) else (q.1, (⟨k, 0, u⟩ : Tm).why q.2) := by
        have e1 : es = es.take j ++ (q :: es.drop (j + 1)) := by
          have e2 : es = es.take (j + 1) ++ es.drop (j + 1) := (List.take_append_drop _ _).symm
          rw [hst, List.append_assoc] at e2
          exact e2
        rw [e1, Tm.first_skip _ HZ.out]
        simp only [Tm.first]
        rw [← e1]
      have HF := Lib.hid hfst
      have HM2 := Lib.hid hm2
      obtain ⟨xa, xb, xc, xd, xe, xf, xg, xh, xz⟩ := x
      simp only at X
      unfold Th.val at HH
      dsimp only at HH
      have hml : m < k.p.l.length := hm1
      have h12 := HLN.out
      obtain ⟨y, hy⟩ : ∃ y, (⟨k, 0, u⟩ : Tm).why q.2 = y := ⟨_, rfl⟩
      rw [hy] at HH
      have HY := Lib.hid hy
      clear hc hst hfst hm2 hm3 hq hqm hx hwx hsp hcs hy
      go_upto_region 4 with fail
      refine region2 12 ?_ ?_ ?_
      · kernel_rfl
      · kernel_rfl
      simp only [List.take_succ_cons, List.take_zero, List.drop_succ_cons, List.drop_zero]
      apply ceq (D := [(3, none)]) rfl (by kernel_rfl)
      · intro ρ W ⟨p1,p2,p3⟩ hG hF K hK; (try simp [FD] at hF); rw [xlb row28 rfl (HBR.out.grow (Gr.tr (Gr.drew _) hG)) rfl hF]; exact hK _ gv
      apply ceq (D := [(4, none)]) rfl (by kernel_rfl)
      · intro ρ W ⟨p1,p2,p3⟩ hG hF K hK; (try simp [FD] at hF); have ⟨hc, hf, hz⟩ := bdr hG; go_simp; exact hK _ gv
      apply ceq (D := [(3, none)]) rfl (by kernel_rfl)
      · intro ρ W ⟨p1,p2,p3⟩ hG hF K hK; (try simp [FD] at hF); have ⟨hc, hf, hz⟩ := bdr hG; go_simp; exact hK _ gv
      apply ceq (D := [(19, some 0)]) rfl (by kernel_rfl)
      · intro ρ W ⟨p1,p2,p3⟩ hG hF K hK; (try simp [FD] at hF); have ⟨hc, hf, hz⟩ := bdr hG; go_simp; exact hK _ gv
      apply ceq (D := [(20, some 0)]) rfl (by kernel_rfl)
      · intro ρ W ⟨p1,p2,p3⟩ hG hF K hK; (try simp [FD] at hF); have ⟨hc, hf, hz⟩ := bdr hG; go_simp; exact hK _ gv
      apply ceq (D := [(2, none)]) rfl (by kernel_rfl)
      · intro ρ W ⟨p1,p2,p3⟩ hG hF K hK; (try simp [FD] at hF); have ⟨hc, hf, hz⟩ := bdr hG; go_simp; exact hK _ gv
      apply ceq (D := [(9, none)]) rfl (by kernel_rfl)
      · intro ρ W ⟨p1,p2,p3⟩ hG hF K hK; (try simp [FD] at hF); have ⟨hc, hf, hz⟩ := bdr hG; go_simp; exact hK _ gv
      apply ceq (D := [(22, some 1), (23, some 0)]) rfl (by kernel_rfl)
      · intro ρ W ⟨p1,p2,p3⟩ hG hF K hK; (try simp [FD] at hF); have ⟨hc, hf, hz⟩ := bdr hG; go_simp; exact hK _ gv
      apply ceq (D := [(24, some 0)]) rfl (by kernel_rfl)
      · intro ρ W ⟨p1,p2,p3⟩ hG hF K hK; (try simp [FD] at hF); have ⟨hc, hf, hz⟩ := bdr hG; go_simp; exact hK _ gv
      apply ceq (D := [(21, some 4), (25, some 0)]) rfl (by kernel_rfl)
      · intro ρ W ⟨p1,p2,p3⟩ hG hF K hK; (try simp [FD] at hF); have ⟨hc, hf, hz⟩ := bdr hG; go_simp; exact hK _ gv
      apply ceq (D := [(26, some 0)]) rfl (by kernel_rfl)
      · intro ρ W ⟨p1,p2,p3⟩ hG hF K hK; (try simp [FD] at hF); have ⟨hc, hf, hz⟩ := bdr hG; go_simp; exact hK _ gv
      apply ceq (D := [(17, some 10), (18, some 9), (27, some 0)]) rfl (by kernel_rfl)
      · intro ρ W ⟨p1,p2,p3⟩ hG hF K hK; (try simp [FD] at hF); have ⟨hc, hf, hz⟩ := bdr hG; go_simp; exact hK _ (gc (HH.out _))
      refine cdn ?_
      intro vs W hG hV
      obtain ⟨e11, -⟩ := hV
      simp only [Nat.reduceSub] at e11
      simp only [lay, Act.put, List.getElem?_toArray, List.getElem?_cons_succ, List.getElem?_cons_zero, Option.bind_some, List.setIfInBounds_toArray, List.set_cons_succ, List.set_cons_zero]
      generalize vs 0 = v0, vs 1 = v1, vs 2 = v2, vs 3 = v3, vs 4 = v4, vs 5 = v5, vs 6 = v6, vs 7 = v7, vs 8 = v8, vs 9 = v9, vs 10 = v10
      generalize vs 11 = v11 at *
      subst e11
      obtain ⟨hc, hf, hz⟩ := bcell hG
      have HG2 := Lib.hid (HG.out.tr hG)
      have hcw2 : W.cell? ⟨b, o + j, none⟩ = some (.int .i64 (m : Int)) := ((bcell hG).1 _ _ hbw).trans hcw
      have hbw2 : b < W.heap.size := (bcell hG).2.2 _ hbw
      clear hc hf hz hG hcw hbw X c7 cl u0 u1 u2 u3 ul
      by_cases hyz : y = 0
      · subst hyz
        go_wp2
        exact ⟨⟨j + 1, by omega, by go_num, HG2.out, fun r hr => by
          rw [HST.out] at hr
          rcases List.mem_append.1 hr with h | h
          · exact HZ.out r h
          · simp at h; rw [h]; exact HY.out⟩, by simp [intOf]; omega⟩
      · have hyz' : (y != 0) = true := by simpa using hyz
        have HE := Lib.hid (show r1 = (m : Int) ∧ r2 = y by
          have e := HF.out
          rw [HR.out, HY.out, if_neg hyz, HM2.out] at e
          exact ⟨(Prod.mk.inj e).1, (Prod.mk.inj e).2⟩)
        go_wp2_with fail
        exact bodyPost_ret (v := .tuple #[.int .i64 (m : Int), .int .i64 y, .bool true]) (by simp [results, Tryz.results56, go_sem]) rfl ⟨by rw [HE.out.1, HE.out.2]; simp [hyz], Gr.tr HG0.out HG2.out⟩
    · have hjl : j = L := by omega
      subst hjl
      have hlt51 : decide ((j : Int) < (j : Int)) = false := by simp
      have HE := Lib.hid (show r1 = 0 ∧ r2 = 0 by
        have h0 := HZ.out
        rw [List.take_of_length_le (by omega)] at h0
        have e := HR.out
        have e2 : (⟨k, 0, u⟩ : Tm).first es = (0, 0) := by
          have := Tm.first_skip (⟨k, 0, u⟩ : Tm) (l := es) (r := []) h0
          rw [List.append_nil] at this
          rw [this]; rfl
        rw [e] at e2
        exact ⟨(Prod.mk.inj e2).1, (Prod.mk.inj e2).2⟩)
      go_wp2_with fail
      exact bodyPost_ret (v := .tuple #[.int .i64 0, .int .i64 0, .bool false]) (by simp [results, Tryz.results56, go_sem]) rfl ⟨by rw [HE.out.1, HE.out.2]; simp, Gr.tr HG0.out HG.out⟩
end Go.Proofs.YtcngaohfemdfjaaGreat
