import Derived.Test.YtofdoadpaedogaaR3
import Derived.Test.YtofdoadpaedogaaT31
namespace Go.Proofs.Ytofdoadpaedogaa
open Go.RowKit

/-- The powers of a thing of a valid pair, as the specification tells them. -/
theorem rpow_any (fl fh bl bh ti ne fa : Int) (v : Value) (t : Th) (w : World) (ht : t.ok) (hti : 0 ≤ ti ∧ ti ≤ 1000) (hne : 0 ≤ ne ∧ ne ≤ 1073741824) (hfa : 0 ≤ fa ∧ fa ≤ 1073741824) (hz : 0 ≤ t.z ∧ t.z ≤ 1073741824) :
    Calls Try.prog 59 #[.agg #[.int .i64 fl, .int .i64 fh, .int .i64 bl, .int .i64 bh, .int .i64 ti, .int .i64 ne, .int .i64 fa, v], t.val] w fun e w' => e = .returned (.agg #[.int .i64 (rpw ti ne fa t).1, .int .i64 (rpw ti ne fa t).2]) ∧ Below w.heap.size w w' := by
  obtain ⟨xa, xb, xc, xd, xe, xf, xg, xh, xz⟩ := t
  obtain ⟨ha, hb, -, hd, he, hf, -, hh⟩ := ht
  cases hlv : (decide (xc ≤ xh + ti) && decide (xg ≤ xd + ti)) with
  | false =>
    have e : rpw ti ne fa ⟨xa, xb, xc, xd, xe, xf, xg, xh, xz⟩ = (1, 0) := by unfold rpw; rw [if_neg]; intro c; rw [hlv] at c; cases c.1
    rw [e]
    by_cases h0 : xz = 0
    · exact rpow_far_no1 fl fh bl bh ti ne fa v xa xb xc xd xe xf xg xh xz w ha hb hd he hf hh hti (by simpa using h0) hne.1 hne.2 hfa.1 hfa.2 hlv
    · exact rpow_mark_no1 fl fh bl bh ti ne fa v xa xb xc xd xe xf xg xh xz w ha hb hd he hf hh hti (by simpa using h0) hz.1 hz.2 hlv
  | true =>
    by_cases hs : (ovl (xa - xf, xb - xe) (0, 2000)).1 ≤ (ovl (xa - xf, xb - xe) (0, 2000)).2
    · by_cases h0 : xz = 0
      · have e : rpw ti ne fa ⟨xa, xb, xc, xd, xe, xf, xg, xh, xz⟩ = ((ovl (xa - xf, xb - xe) (0, 2000)).1 * ne, ((ovl (xa - xf, xb - xe) (0, 2000)).2 + 1) * fa - 1) := by unfold rpw; rw [if_pos ⟨hlv, hs⟩]; simp only [h0, if_true]
        rw [e]
        exact rpow_far_ok fl fh bl bh ti ne fa v xa xb xc xd xe xf xg xh xz w ha hb hd he hf hh hti (by simpa using h0) hne.1 hne.2 hfa.1 hfa.2 hlv hs
      · have e : rpw ti ne fa ⟨xa, xb, xc, xd, xe, xf, xg, xh, xz⟩ = ((ovl (xa - xf, xb - xe) (0, 2000)).1 * xz, ((ovl (xa - xf, xb - xe) (0, 2000)).2 + 1) * xz - 1) := by unfold rpw; rw [if_pos ⟨hlv, hs⟩]; simp only [h0, if_false]
        rw [e]
        exact rpow_mark_ok fl fh bl bh ti ne fa v xa xb xc xd xe xf xg xh xz w ha hb hd he hf hh hti (by simpa using h0) hz.1 hz.2 hlv hs
    · have e : rpw ti ne fa ⟨xa, xb, xc, xd, xe, xf, xg, xh, xz⟩ = (1, 0) := by unfold rpw; rw [if_neg]; exact fun c => hs c.2
      rw [e]
      by_cases h0 : xz = 0
      · exact rpow_far_no2 fl fh bl bh ti ne fa v xa xb xc xd xe xf xg xh xz w ha hb hd he hf hh hti (by simpa using h0) hne.1 hne.2 hfa.1 hfa.2 hlv (by omega)
      · exact rpow_mark_no2 fl fh bl bh ti ne fa v xa xb xc xd xe xf xg xh xz w ha hb hd he hf hh hti (by simpa using h0) hz.1 hz.2 hlv (by omega)
/-- All powers of a pair, by the specification. -/
def rallTo (fl fh bl bh ti ne fa : Int) (l : List Th) : Int × Int := ((l.filter Th.m).map (rpw ti ne fa)).foldl ovl (fl * bl, fh * bh)
theorem rallTo_mark {fl fh bl bh ti ne fa : Int} {l : List Th} {k : Nat} {t : Th} (ht : l[k]? = some t) (hm : t.m = true) : rallTo fl fh bl bh ti ne fa (l.take (k + 1)) = ovl (rallTo fl fh bl bh ti ne fa (l.take k)) (rpw ti ne fa t) := by
  have : l.take (k + 1) = l.take k ++ [t] := by rw [List.take_add_one, ht]; rfl
  unfold rallTo
  rw [this, List.filter_append, List.map_append, List.foldl_append]
  simp [List.filter, hm]
theorem rallTo_far {fl fh bl bh ti ne fa : Int} {l : List Th} {k : Nat} {t : Th} (ht : l[k]? = some t) (hm : t.m = false) : rallTo fl fh bl bh ti ne fa (l.take (k + 1)) = rallTo fl fh bl bh ti ne fa (l.take k) := by
  have : l.take (k + 1) = l.take k ++ [t] := by rw [List.take_add_one, ht]; rfl
  unfold rallTo
  rw [this, List.filter_append, List.map_append, List.foldl_append]
  simp [List.filter, hm]
theorem ThingsAt.below {l : List Th} {v : Value} {w w' : World} {B : Nat} (h : ThingsAt l v w) (hB : w.heap.size = B) (hb : Below B w w') : ThingsAt l v w' := by
  subst hB
  exact ThingsAt.lasts l _ _ _ h hb
def Pr.rall (p : Pr) : Int × Int := rallTo p.fl p.fh p.bl p.bh p.ti p.ne p.fa p.l
set_option maxRecDepth 100000 in
set_option maxHeartbeats 4000000 in
theorem rall_any (p : Pr) (v : Value) (w : World) (hok : p.ok = true) (h : ThingsAt p.l v w) :
    Calls Try.prog 76 #[.agg #[.int .i64 p.fl, .int .i64 p.fh, .int .i64 p.bl, .int .i64 p.bh, .int .i64 p.ti, .int .i64 p.ne, .int .i64 p.fa, v]] w fun e w' => e = .returned (.agg #[.int .i64 p.rall.1, .int .i64 p.rall.2]) ∧ Below w.heap.size w w' := by
  obtain ⟨sp, cap, rfl, hlen⟩ := h.len
  have hb := p.bounds hok
  obtain ⟨m0, m1⟩ := mul_in (a := p.fl) (b := p.bl) hb.fl1 (show p.fl ≤ 50000 by have := hb.fh1; have := hb.fh2; omega) hb.bl1 (show p.bl ≤ 10000 by have := hb.bh1; have := hb.bh2; omega)
  obtain ⟨m2, m3⟩ := mul_in (a := p.fh) (b := p.bh) (show 1 ≤ p.fh by have := hb.fl1; have := hb.fh1; omega) hb.fh2 (show 1 ≤ p.bh by have := hb.bl1; have := hb.bh1; omega) hb.bh2
  simp only [Int.reduceMul] at m1 m3
  have HPW := Lib.hid (fun (t : Th) (ht : t ∈ p.l) (v : Value) (w : World) => rpow_any p.fl p.fh p.bl p.bh p.ti p.ne p.fa v t w (hb.things t ht).1 ⟨hb.ti0, hb.ti1⟩ ⟨by have := hb.ne0; omega, by have := hb.ne1; have := hb.fa1; omega⟩ ⟨by have := hb.ne0; have := hb.ne1; omega, hb.fa1⟩ ⟨by have := (hb.things t ht).2; have := hb.ne0; omega, by have := (hb.things t ht).2; have := hb.fa1; omega⟩)
  clear hb
  have hWp : Below w.heap.size w ((w.alloc (.cells #[.int .i64 p.fl, .int .i64 p.fh, .int .i64 p.bl, .int .i64 p.bh, .int .i64 p.ti, .int .i64 p.ne, .int .i64 p.fa, .slice sp p.l.length cap] 26)).alloc (.cells #[.int .i64 0, .int .i64 0] 23)) := (Gr.alloc _ _).tr (Gr.alloc _ _)
  have hB : Box ((w.alloc (.cells #[.int .i64 p.fl, .int .i64 p.fh, .int .i64 p.bl, .int .i64 p.bh, .int .i64 p.ti, .int .i64 p.ne, .int .i64 p.fa, .slice sp p.l.length cap] 26)).alloc (.cells #[.int .i64 0, .int .i64 0] 23)) w.heap.size [.int .i64 p.fl, .int .i64 p.fh, .int .i64 p.bl, .int .i64 p.bh, .int .i64 p.ti, .int .i64 p.ne, .int .i64 p.fa, .slice sp p.l.length cap] 26 := (Box.fresh w _ _).grow (Gr.alloc _ _)
  have hR : Box ((w.alloc (.cells #[.int .i64 p.fl, .int .i64 p.fh, .int .i64 p.bl, .int .i64 p.bh, .int .i64 p.ti, .int .i64 p.ne, .int .i64 p.fa, .slice sp p.l.length cap] 26)).alloc (.cells #[.int .i64 0, .int .i64 0] 23)) (w.heap.size + 1) [.int .i64 0, .int .i64 0] 23 := by
    have := Box.fresh (w.alloc (.cells #[.int .i64 p.fl, .int .i64 p.fh, .int .i64 p.bl, .int .i64 p.bh, .int .i64 p.ti, .int .i64 p.ne, .int .i64 p.fa, .slice sp p.l.length cap] 26)) [.int .i64 0, .int .i64 0] 23
    simpa using this
  have hT : ThingsAt p.l (.slice sp p.l.length cap) ((w.alloc (.cells #[.int .i64 p.fl, .int .i64 p.fh, .int .i64 p.bl, .int .i64 p.bh, .int .i64 p.ti, .int .i64 p.ne, .int .i64 p.fa, .slice sp p.l.length cap] 26)).alloc (.cells #[.int .i64 0, .int .i64 0] 23)) := ThingsAt.lasts p.l _ _ _ h hWp
  go_enter Try.func76, Try.ntmps76
  go_wp2
  generalize hW0 : (w.alloc (.cells #[.int .i64 p.fl, .int .i64 p.fh, .int .i64 p.bl, .int .i64 p.bh, .int .i64 p.ti, .int .i64 p.ne, .int .i64 p.fa, .slice sp p.l.length cap] 26)).alloc (.cells #[.int .i64 0, .int .i64 0] 23) = W0 at *
  have hsz : w.heap.size + 1 + 1 = W0.heap.size := by rw [← hW0]; simp
  clear hW0
  have HB := Lib.hid hB
  have HR := Lib.hid hR
  have HWp := Lib.hid hWp
  have HT := Lib.hid hT
  have HZ := Lib.hid hsz
  have k0 : w.heap.size < W0.heap.size := by omega
  have k1 : w.heap.size + 1 < W0.heap.size := by omega
  have hF0 : Box (W0.alloc (.cells #[.int .i64 (p.fl * p.bl), .int .i64 (p.fh * p.bh)] 23)) W0.heap.size [.int .i64 (p.fl * p.bl), .int .i64 (p.fh * p.bh)] 23 := Box.fresh W0 _ _
  have HF0 := Lib.hid hF0
  rw [hsz]
  have hcs : W0.heap.size = W0.heap.size := rfl
  generalize hcc : W0.heap.size = c at *
  have HC := Lib.hid hcc
  clear hcc hcs
  clear hB hR hWp hT hsz h hF0 m0 m1 m2 m3
  have hal := @cal
  have hfl := @fal
  go_loopw [4] (fun i wr => ∃ k : Nat, k ≤ p.l.length ∧ i = .int .i64 k ∧ Below c W0 wr ∧ Box wr c [.int .i64 (rallTo p.fl p.fh p.bl p.bh p.ti p.ne p.fa (p.l.take k)).1, .int .i64 (rallTo p.fl p.fh p.bl p.bh p.ti p.ne p.fa (p.l.take k)).2] 23) (fun i _ => p.l.length - (intOf i).toNat)
  case atStart =>
    have e : rallTo p.fl p.fh p.bl p.bh p.ti p.ne p.fa (p.l.take 0) = (p.fl * p.bl, p.fh * p.bh) := by rw [List.take_zero]; rfl
    exact ⟨0, Nat.zero_le _, rfl, by have := Gr.alloc W0 (.cells #[.int .i64 (p.fl * p.bl), .int .i64 (p.fh * p.bh)] 23); unfold Gr at this; rwa [← HZ.out, ← HC.out] at *, by rw [e]; exact HF0.out⟩
  case round =>
    obtain ⟨k, hk, rfl, hg, hbx⟩ := hrel
    have HBX := Lib.hid hbx
    have HG := Lib.hid hg
    have C := (HB.out.below HG.out k0).facts
    simp only [CellsFrom, Nat.zero_add, Nat.reduceAdd, and_true] at C
    have R := (HR.out.below HG.out k1).two
    have Y := hbx.two
    have ht := ThingsAt.below HT.out HC.out HG.out
    clear hg hbx
    by_cases hlt : k < p.l.length
    · obtain ⟨t, htk⟩ : ∃ t, p.l[k]? = some t := ⟨p.l[k], List.getElem?_eq_getElem hlt⟩
      have HTW := Lib.hid ht
      obtain ⟨-, ht⟩ := ht
      rcases ht with ⟨e, -⟩ | ⟨b, o, cap', hsp, hb, hc⟩
      · rw [e] at hlt; simp at hlt
      have X := hc k t htk
      obtain ⟨hsp1, -, -⟩ : sp = some ⟨b, o, none⟩ ∧ p.l.length = p.l.length ∧ cap = cap' := by simpa using hsp
      subst hsp1
      clear hc hsp
      have HPT := Lib.hid (HPW.out t (List.mem_of_getElem? htk))
      by_cases hz : t.z = 0
      · have hm : t.m = false := by simp [Th.m, hz]
        have HS := Lib.hid (rallTo_far (fl := p.fl) (fh := p.fh) (bl := p.bl) (bh := p.bh) (ti := p.ti) (ne := p.ne) (fa := p.fa) htk hm)
        obtain ⟨xa, xb, xc, xd, xe, xf, xg, xh, xz⟩ := t
        have z1 : (xz != 0) = false := by simpa using hz
        replace X := CellsFrom.nine X
        simp only at X
        clear hz hm htk
        go_wp2
        exact ⟨⟨k + 1, by omega, by go_num, HG.out, by rw [HS.out]; exact HBX.out⟩, by simp [intOf]; omega⟩
      · have hm : t.m = true := by simp [Th.m, hz]
        have HS := Lib.hid (rallTo_mark (fl := p.fl) (fh := p.fh) (bl := p.bl) (bh := p.bh) (ti := p.ti) (ne := p.ne) (fa := p.fa) htk hm)
        have hval : t.val = .agg #[.int .i64 t.a, .int .i64 t.b, .int .i64 t.c, .int .i64 t.d, .int .i64 t.e, .int .i64 t.f, .int .i64 t.g, .int .i64 t.h, .int .i64 t.z] := rfl
        rw [hval] at HPT
        clear hval
        obtain ⟨xa, xb, xc, xd, xe, xf, xg, xh, xz⟩ := t
        have z1 : (xz != 0) = true := by simpa using hz
        replace X := CellsFrom.nine X
        simp only at X HPT
        generalize hq : rpw p.ti p.ne p.fa ⟨xa, xb, xc, xd, xe, xf, xg, xh, xz⟩ = q at *
        obtain ⟨q1, q2⟩ := q
        generalize hf : rallTo p.fl p.fh p.bl p.bh p.ti p.ne p.fa (p.l.take k) = ff at *
        obtain ⟨f1, f2⟩ := ff
        simp only at Y HPT
        have HFF := Lib.hid hf
        have HQ := Lib.hid hq
        clear hf hq hz hm htk
        go_wp2_with fail
        refine region2 9 ?_ ?_ ?_
        · kernel_rfl
        · kernel_rfl
        simp only [List.take_succ_cons, List.take_zero, List.drop_succ_cons, List.drop_zero]
        apply chain_eq (D := [(3, none)]) rfl (by kernel_rfl)
        · intro ρ W ⟨p1, p2, p3⟩ hG hF K hK; (try simp [FactsD] at hF); have ⟨hc, hf, hz⟩ := bcell (Gr.tr (Gr.drew _) hG); go_simp; exact hK _ (gives_val)
        apply chain_eq (D := [(1, none)]) rfl (by kernel_rfl)
        · intro ρ W ⟨p1, p2, p3⟩ hG hF K hK; (try simp [FactsD] at hF); have ⟨hc, hf, hz⟩ := bcell (Gr.tr (Gr.drew _) hG); go_simp; exact hK _ (gives_val)
        apply chain_eq (D := [(1, none)]) rfl (by kernel_rfl)
        · intro ρ W ⟨p1, p2, p3⟩ hG hF K hK; (try simp [FactsD] at hF); have ⟨hc, hf, hz⟩ := bcell (Gr.tr (Gr.drew _) hG); go_simp; exact hK _ (gives_val)
        apply chain_eq (D := [(36, some 0)]) rfl (by kernel_rfl)
        · intro ρ W ⟨p1, p2, p3⟩ hG hF K hK; (try simp [FactsD] at hF); have ⟨hc, hf, hz⟩ := bcell (Gr.tr (Gr.drew _) hG); go_simp; exact hK _ (gives_val)
        apply chain_eq (D := [(4, none)]) rfl (by kernel_rfl)
        · intro ρ W ⟨p1, p2, p3⟩ hG hF K hK; (try simp [FactsD] at hF); have ⟨hc, hf, hz⟩ := bcell (Gr.tr (Gr.drew _) hG); go_simp; exact hK _ (gives_val)
        apply chain_eq (D := [(37, some 1), (38, some 0)]) rfl (by kernel_rfl)
        · intro ρ W ⟨p1, p2, p3⟩ hG hF K hK; (try simp [FactsD] at hF); have ⟨hc, hf, hz⟩ := bcell (Gr.tr (Gr.drew _) hG); go_simp; exact hK _ (gives_val)
        apply chain_eq (D := [(39, some 0)]) rfl (by kernel_rfl)
        · intro ρ W ⟨p1, p2, p3⟩ hG hF K hK; (try simp [FactsD] at hF); have ⟨hc, hf, hz⟩ := bcell (Gr.tr (Gr.drew _) hG); go_simp; exact hK _ (gives_val)
        apply chain_eq (D := [(35, some 5), (40, some 0)]) rfl (by kernel_rfl)
        · intro ρ W ⟨p1, p2, p3⟩ hG hF K hK; (try simp [FactsD] at hF); have ⟨hc, hf, hz⟩ := bcell (Gr.tr (Gr.drew _) hG); go_simp; exact hK _ (gives_call (HPT.out _ _))
        apply chain_eq (D := [(34, some 7), (41, some 0)]) rfl (by kernel_rfl)
        · intro ρ W ⟨p1, p2, p3⟩ hG hF K hK; (try simp [FactsD] at hF); have ⟨hc, hf, hz⟩ := bcell (Gr.tr (Gr.drew _) hG); go_simp; exact hK _ (gives_call (rcommon_any _ _ _ _ _))
        refine chain_done ?_
        intro vs W hG hV
        obtain ⟨e8, -⟩ := hV
        simp only [Nat.reduceSub] at e8
        simp only [lay, Act.put, List.getElem?_toArray, List.getElem?_cons_succ, List.getElem?_cons_zero, Option.bind_some, List.setIfInBounds_toArray, List.set_cons_succ, List.set_cons_zero]
        generalize vs 0 = v0
        generalize vs 1 = v1
        generalize vs 2 = v2
        generalize vs 3 = v3
        generalize vs 4 = v4
        generalize vs 5 = v5
        generalize vs 6 = v6
        generalize vs 7 = v7
        generalize vs 8 = v8 at *
        subst e8
        obtain ⟨hc, hf, hz⟩ := bcell hG
        go_wp2
        refine ⟨⟨k + 1, by omega, by go_num, ((bgr HG.out (Nat.le_of_lt HBX.out.lt) hG).setCell (Nat.le_refl _) _).setCell (Nat.le_refl _) _, ?_⟩, by simp [intOf]; omega⟩
        rw [HS.out]
        exact ((HBX.out.grow hG).put 0 _).put 1 _
    · have hkl : k = p.l.length := by omega
      subst hkl
      rw [List.take_length] at *
      clear ht
      go_wp2
      exact bodyPost_ret (v := .agg #[.int .i64 p.rall.1, .int .i64 p.rall.2]) (by simp [results, Try.results76, go_sem, Pr.rall, *]) rfl ⟨rfl, ((HWp.out.trans (Below.mono HG.out (by omega))).setCell (by first | (simp; done) | (simp; omega) | omega) _).setCell (by first | (simp; done) | (simp; omega) | omega) _⟩
end Go.Proofs.Ytofdoadpaedogaa
