import Derived.Test.YtofdoadpaedogaaT15
namespace Go.Proofs.Ytofdoadpaedogaa
open Go.RowKit


/-- The things, among the first k, that can't stand still with this power. -/
def movedTo (l : List Sg) (p : Int) : Nat → Nat
  | 0 => 0
  | k + 1 => if ((l[k]?).map fun s => s.why p p).getD 0 = 0 then movedTo l p k else movedTo l p k ||| 2 ^ k
theorem movedTo_lt (l : List Sg) (p : Int) : ∀ k, movedTo l p k < 2 ^ k
  | 0 => by simp [movedTo]
  | k + 1 => by
    have h := movedTo_lt l p k
    have h1 : 2 ^ k < 2 ^ (k + 1) := by rw [Nat.pow_succ]; have := Nat.two_pow_pos k; omega
    unfold movedTo
    split
    · omega
    · exact Nat.or_lt_two_pow (by omega) h1
theorem movedTo_small (l : List Sg) (p : Int) (k : Nat) (h : k ≤ 12) : movedTo l p k < 4096 := by
  have h1 := movedTo_lt l p k
  have h2 : 2 ^ k ≤ 2 ^ 12 := Nat.pow_le_pow_right (by decide) h
  omega
theorem ret_same' {a b : Nat} (h : a = b) : Value.int .i64 (b : Int) = Value.int .i64 (a : Int) := by rw [h]
theorem ret_same {v v' : Value} (h : v = v') : Ending.returned v = Ending.returned v' := by rw [h]
set_option maxHeartbeats 2000000 in
theorem rank_any (fl fh bl bh ti ne fa : Int) (th sv : Value) (plo phi : Int) (l : List Sg) (p : Int) (w : World) (h : SeenAt l sv w) (hl : l.length ≤ 12) (hok : ∀ s ∈ l, s.ok) :
    Calls Try.prog 82 #[.agg #[.int .i64 fl, .int .i64 fh, .int .i64 bl, .int .i64 bh, .int .i64 ti, .int .i64 ne, .int .i64 fa, th, sv, .int .i64 plo, .int .i64 phi], .int .i64 p] w fun e w' => e = .returned (.agg #[.int .i64 (cnt (movedTo l p l.length) : Nat), .int .i64 (movedTo l p l.length : Nat)]) ∧ Below w.heap.size w w' := by
  obtain ⟨sp, cap, rfl, hlen⟩ := h.len
  have HOK := Lib.hid hok
  clear hok
  go_enter Try.func82, Try.ntmps82
  go_wp2
  have hB := (Box.fresh w [.int .i64 fl, .int .i64 fh, .int .i64 bl, .int .i64 bh, .int .i64 ti, .int .i64 ne, .int .i64 fa, th, (.slice sp l.length cap), .int .i64 plo, .int .i64 phi] 70).grow (Gr.alloc _ (Obj.cells #[.int .i64 0, .int .i64 0] 92))
  have hR := Box.fresh (w.alloc (Obj.cells #[.int .i64 fl, .int .i64 fh, .int .i64 bl, .int .i64 bh, .int .i64 ti, .int .i64 ne, .int .i64 fa, th, (.slice sp l.length cap), .int .i64 plo, .int .i64 phi] 70)) [.int .i64 0, .int .i64 0] 92
  have hT : SeenAt l (.slice sp l.length cap) ((w.alloc (Obj.cells #[.int .i64 fl, .int .i64 fh, .int .i64 bl, .int .i64 bh, .int .i64 ti, .int .i64 ne, .int .i64 fa, th, (.slice sp l.length cap), .int .i64 plo, .int .i64 phi] 70)).alloc (Obj.cells #[.int .i64 0, .int .i64 0] 92)) := SeenAt.lasts l _ _ _ h ((Gr.alloc _ _).tr (Gr.alloc _ _))
  have hW : Below w.heap.size w ((w.alloc (Obj.cells #[.int .i64 fl, .int .i64 fh, .int .i64 bl, .int .i64 bh, .int .i64 ti, .int .i64 ne, .int .i64 fa, th, (.slice sp l.length cap), .int .i64 plo, .int .i64 phi] 70)).alloc (Obj.cells #[.int .i64 0, .int .i64 0] 92)) := ((Below.refl _ _).alloc (Nat.le_refl _) _).alloc (by simp) _
  have hsz : ((w.alloc (Obj.cells #[.int .i64 fl, .int .i64 fh, .int .i64 bl, .int .i64 bh, .int .i64 ti, .int .i64 ne, .int .i64 fa, th, (.slice sp l.length cap), .int .i64 plo, .int .i64 phi] 70)).alloc (Obj.cells #[.int .i64 0, .int .i64 0] 92)).heap.size = w.heap.size + 2 := by simp
  change Box ((w.alloc (Obj.cells #[.int .i64 fl, .int .i64 fh, .int .i64 bl, .int .i64 bh, .int .i64 ti, .int .i64 ne, .int .i64 fa, th, (.slice sp l.length cap), .int .i64 plo, .int .i64 phi] 70)).alloc (Obj.cells #[.int .i64 0, .int .i64 0] 92)) w.heap.size _ 70 at hB
  change Box ((w.alloc (Obj.cells #[.int .i64 fl, .int .i64 fh, .int .i64 bl, .int .i64 bh, .int .i64 ti, .int .i64 ne, .int .i64 fa, th, (.slice sp l.length cap), .int .i64 plo, .int .i64 phi] 70)).alloc (Obj.cells #[.int .i64 0, .int .i64 0] 92)) _ _ 92 at hR
  rw [World.size_alloc] at hR
  generalize (w.alloc (Obj.cells #[.int .i64 fl, .int .i64 fh, .int .i64 bl, .int .i64 bh, .int .i64 ti, .int .i64 ne, .int .i64 fa, th, (.slice sp l.length cap), .int .i64 plo, .int .i64 phi] 70)).alloc (Obj.cells #[.int .i64 0, .int .i64 0] 92) = Wl at *
  have HB := Lib.hid hB
  have HR := Lib.hid hR
  have HT := Lib.hid hT
  have HW := Lib.hid hW
  have HS := Lib.hid hsz
  clear hB hT hW hsz h hR
  have hal := @cal
  have hfl := @fal
  go_loopw [5, 11] (fun mv i wr => ∃ k : Nat, k ≤ l.length ∧ i = .int .i64 k ∧ mv = .int .i64 (movedTo l p k : Nat) ∧ Gr Wl wr) (fun _ i _ => l.length - (intOf i).toNat)
  case atStart => exact ⟨0, Nat.zero_le _, rfl, rfl, Gr.same _⟩
  case round =>
    obtain ⟨k, hk, rfl, rfl, hgw⟩ := hrel
    have HG := Lib.hid hgw
    have hsm := movedTo_small l p k (by omega)
    have hp1 : movedTo l p (k + 1) = if ((l[k]?).map fun s => s.why p p).getD 0 = 0 then movedTo l p k else movedTo l p k ||| 2 ^ k := rfl
    have HP := Lib.hid hp1
    generalize hmv : movedTo l p k = mv at *
    have HMV := Lib.hid hmv
    clear hgw hp1 hmv
    by_cases hlt : k < l.length
    · have ht := SeenAt.lasts l _ _ _ HT.out HG.out
      rcases ht with ⟨e, -⟩ | ⟨b, o, cap', hsp, hb, hlen', hc⟩
      · rw [e] at hlt; simp at hlt
      obtain ⟨s, hs⟩ : ∃ s, l[k]? = some s := ⟨l[k], List.getElem?_eq_getElem hlt⟩
      have X := hc k s hs
      have hoks : s.ok := HOK.out s (List.mem_of_getElem? hs)
      obtain ⟨hsp1, -, -⟩ : sp = some ⟨b, o, none⟩ ∧ l.length = l.length ∧ cap = cap' := by simpa using hsp
      subst hsp1
      clear hc hsp
      have hp2 := HP.out
      rw [hs] at hp2
      simp only [Option.map_some, Option.getD_some] at hp2
      have hwy := fun W => why_any s p p W hoks
      obtain ⟨wy, hwe⟩ : ∃ wy, s.why p p = wy := ⟨_, rfl⟩
      simp only [hwe] at hwy hp2
      have HP2 := Lib.hid hp2
      clear hp2 HP hwe
      unfold Sg.val at hwy
      obtain ⟨wit, lo, hi, sl⟩ := s
      obtain ⟨wt, wx, hwv⟩ := wit.iface
      simp only [hwv] at X hwy
      have HWY := Lib.hid hwy
      clear hwv hs hoks hwy
      have hk12 : k < 12 := by omega
      have hsw' : w.heap.size + 2 ≤ wr.heap.size := by have := HS.out; have := HG.out.size; omega
      by_cases hwz : wy = 0
      · have hwd : (wy != 0) = false := by simpa using hwz
        have hp3 := HP2.out
        rw [if_pos hwz] at hp3
        have HP3 := Lib.hid hp3
        clear hp3 HP2 hwz
        go_wp2
        refine region2 6 ?_ ?_ ?_
        · kernel_rfl
        · kernel_rfl
        simp only [List.take_succ_cons, List.take_zero, List.drop_succ_cons, List.drop_zero]
        apply chain_eq (D := [(7, none)]) rfl (by kernel_rfl)
        · intro ρ W ⟨p1, p2, p3⟩ hG hF K hK; (try simp [FactsD] at hF); have ⟨hc, hf, hz⟩ := bcell (Gr.tr (Gr.drew _) hG); go_simp; exact hK _ (gives_val)
        apply chain_eq (D := [(1, none)]) rfl (by kernel_rfl)
        · intro ρ W ⟨p1, p2, p3⟩ hG hF K hK; (try simp [FactsD] at hF); have ⟨hc, hf, hz⟩ := bcell (Gr.tr (Gr.drew _) hG); go_simp; exact hK _ (gives_val)
        apply chain_eq (D := [(1, none)]) rfl (by kernel_rfl)
        · intro ρ W ⟨p1, p2, p3⟩ hG hF K hK; (try simp [FactsD] at hF); have ⟨hc, hf, hz⟩ := bcell (Gr.tr (Gr.drew _) hG); go_simp; exact hK _ (gives_val)
        apply chain_eq (D := [(17, some 1), (18, some 0)]) rfl (by kernel_rfl)
        · intro ρ W ⟨p1, p2, p3⟩ hG hF K hK; (try simp [FactsD] at hF); have ⟨hc, hf, hz⟩ := bcell (Gr.tr (Gr.drew _) hG); go_simp; exact hK _ (gives_call (span_any _ _ _))
        apply chain_eq (D := [(16, some 3), (19, some 0)]) rfl (by kernel_rfl)
        · intro ρ W ⟨p1, p2, p3⟩ hG hF K hK; (try simp [FactsD] at hF); have ⟨hc, hf, hz⟩ := bcell (Gr.tr (Gr.drew _) hG); go_simp; exact hK _ (gives_call (HWY.out _))
        apply chain_eq (D := [(20, some 0)]) rfl (by kernel_rfl)
        · intro ρ W ⟨p1, p2, p3⟩ hG hF K hK; (try simp [FactsD] at hF); have ⟨hc, hf, hz⟩ := bcell (Gr.tr (Gr.drew _) hG); go_simp; exact hK _ (gives_val)
        refine chain_done ?_
        intro vs W hG hV
        obtain ⟨e5, -⟩ := hV
        simp only [Nat.reduceSub] at e5
        simp only [lay, Act.put, List.getElem?_toArray, List.getElem?_cons_succ, List.getElem?_cons_zero, Option.bind_some, List.setIfInBounds_toArray, List.set_cons_succ, List.set_cons_zero]
        generalize vs 0 = v0
        generalize vs 1 = v1
        generalize vs 2 = v2
        generalize vs 3 = v3
        generalize vs 4 = v4
        generalize vs 5 = v5 at *
        subst e5
        obtain ⟨hc, hf, hz⟩ := bcell hG
        go_wp2
        refine ⟨⟨k + 1, by omega, by go_num, ret_same' HP3.out, (HG.out.tr (Gr.alloc _ _)).tr hG⟩, by simp [intOf]; omega⟩
      · have hwd : (wy != 0) = true := by simpa using hwz
        have hp3 := HP2.out
        rw [if_neg hwz] at hp3
        have HP3 := Lib.hid hp3
        clear hp3 HP2 hwz
        go_wp2
        refine region2 6 ?_ ?_ ?_
        · kernel_rfl
        · kernel_rfl
        simp only [List.take_succ_cons, List.take_zero, List.drop_succ_cons, List.drop_zero]
        apply chain_eq (D := [(7, none)]) rfl (by kernel_rfl)
        · intro ρ W ⟨p1, p2, p3⟩ hG hF K hK; (try simp [FactsD] at hF); have ⟨hc, hf, hz⟩ := bcell (Gr.tr (Gr.drew _) hG); go_simp; exact hK _ (gives_val)
        apply chain_eq (D := [(1, none)]) rfl (by kernel_rfl)
        · intro ρ W ⟨p1, p2, p3⟩ hG hF K hK; (try simp [FactsD] at hF); have ⟨hc, hf, hz⟩ := bcell (Gr.tr (Gr.drew _) hG); go_simp; exact hK _ (gives_val)
        apply chain_eq (D := [(1, none)]) rfl (by kernel_rfl)
        · intro ρ W ⟨p1, p2, p3⟩ hG hF K hK; (try simp [FactsD] at hF); have ⟨hc, hf, hz⟩ := bcell (Gr.tr (Gr.drew _) hG); go_simp; exact hK _ (gives_val)
        apply chain_eq (D := [(17, some 1), (18, some 0)]) rfl (by kernel_rfl)
        · intro ρ W ⟨p1, p2, p3⟩ hG hF K hK; (try simp [FactsD] at hF); have ⟨hc, hf, hz⟩ := bcell (Gr.tr (Gr.drew _) hG); go_simp; exact hK _ (gives_call (span_any _ _ _))
        apply chain_eq (D := [(16, some 3), (19, some 0)]) rfl (by kernel_rfl)
        · intro ρ W ⟨p1, p2, p3⟩ hG hF K hK; (try simp [FactsD] at hF); have ⟨hc, hf, hz⟩ := bcell (Gr.tr (Gr.drew _) hG); go_simp; exact hK _ (gives_call (HWY.out _))
        apply chain_eq (D := [(20, some 0)]) rfl (by kernel_rfl)
        · intro ρ W ⟨p1, p2, p3⟩ hG hF K hK; (try simp [FactsD] at hF); have ⟨hc, hf, hz⟩ := bcell (Gr.tr (Gr.drew _) hG); go_simp; exact hK _ (gives_val)
        refine chain_done ?_
        intro vs W hG hV
        obtain ⟨e5, -⟩ := hV
        simp only [Nat.reduceSub] at e5
        simp only [lay, Act.put, List.getElem?_toArray, List.getElem?_cons_succ, List.getElem?_cons_zero, Option.bind_some, List.setIfInBounds_toArray, List.set_cons_succ, List.set_cons_zero]
        generalize vs 0 = v0
        generalize vs 1 = v1
        generalize vs 2 = v2
        generalize vs 3 = v3
        generalize vs 4 = v4
        generalize vs 5 = v5 at *
        subst e5
        obtain ⟨hc, hf, hz⟩ := bcell hG
        go_wp2_with (go_at_call 88; refine (with_any _ _ _ hk12 hsm).mono ?_; rintro e w2 ⟨rfl, hb2⟩)
        refine ⟨⟨k + 1, by omega, by go_num, ret_same' HP3.out, ((HG.out.tr (Gr.alloc _ _)).tr hG).tr hb2⟩, by simp [intOf]; omega⟩
    · have hkl : k = l.length := by omega
      subst hkl
      have c0 := (HR.out.grow HG.out).two
      obtain ⟨c00, c01, f00, f01, l0⟩ := c0
      go_wp2_with (go_at_call 98; refine (many_any _ _ hsm).mono ?_; rintro e w2 ⟨rfl, hb2⟩; obtain ⟨hc2, hf2, hz2⟩ := bcell hb2)
      have hs1 := HS.out
      have hmv := HMV.out
      have hw1 := HG.out.size
      exact bodyPost_ret (v := .agg #[.int .i64 (cnt mv : Nat), .int .i64 (mv : Nat)]) (by simp [results, Try.results82, go_sem, *]) rfl ⟨by rw [hmv], (((bgr (bgr HW.out (by first | (simp; done) | (simp; omega) | omega) HG.out) (by first | (simp; done) | (simp; omega) | omega) hb2).setCell (by first | (simp; done) | (simp; omega) | omega) _).setCell (by first | (simp; done) | (simp; omega) | omega) _)⟩
end Go.Proofs.Ytofdoadpaedogaa
