import Derived.Test.YtcngaohfemdfjaaGreatK9
import Derived.Test.YtcngaohfemdfjaaGreatY33
import Derived.Test.YtcngaohfemdfjaaGreatK1
import Derived.Test.YtcngaohfemdfjaaGreatK0
import Derived.RegionTactic
import Derived.Deep.CutBlock
import Derived.Deep.DeepCutAuto
set_option linter.unusedVariables false
set_option linter.unusedSimpArgs false
namespace Go.Proofs.YtcngaohfemdfjaaGreat
open Go.RowKit
theorem sp03_any (lo hi : Int) (w : World) :
    Calls Tryz.prog 85 #[.int .i64 lo, .int .i64 hi] w fun e w' => e = .returned (.agg #[.int .i64 lo, .int .i64 hi]) ∧ Below w.heap.size w w' := by
  go_enter Tryz.func85, Tryz.ntmps85
  go_wp2
  exact bodyPost_ret (v := .agg #[.int .i64 lo, .int .i64 hi]) (by simp [results, Tryz.results85, go_sem]) rfl ⟨rfl, (Gr.alloc _ _)⟩
set_option maxRecDepth 100000 in
set_option maxHeartbeats 2000000 in
theorem th03_any (z a b c d e f g h : Int) (w : World) :
    Calls Tryz.prog 118 #[.int .i64 z, .int .i64 a, .int .i64 b, .int .i64 c, .int .i64 d, .int .i64 e, .int .i64 f, .int .i64 g, .int .i64 h] w fun e' w' => e' = .returned (.agg #[.int .i64 a, .int .i64 b, .int .i64 c, .int .i64 d, .int .i64 e, .int .i64 f, .int .i64 g, .int .i64 h, .int .i64 z]) ∧ Below w.heap.size w w' := by
  go_enter Tryz.func118, Tryz.ntmps118
  go_wp2_with fail
  refine (sp03_any _ _ _).mono ?_
  rintro e' w1 ⟨rfl, hb1⟩
  have hg1 : Gr _ _ := hb1
  go_wp2_with fail
  refine (sp03_any _ _ _).mono ?_
  rintro e' w2 ⟨rfl, hb2⟩
  have hg2 := Gr.tr hg1 hb2
  go_wp2_with fail
  refine (sp03_any _ _ _).mono ?_
  rintro e' w3 ⟨rfl, hb3⟩
  have hg3 := Gr.tr hg2 hb3
  go_wp2_with fail
  refine (sp03_any _ _ _).mono ?_
  rintro e' w4 ⟨rfl, hb4⟩
  have hg4 := Gr.tr hg3 hb4
  obtain ⟨hc4, hf4, hz4⟩ := bcell hg4
  go_wp2
  exact bodyPost_ret (v := .agg #[.int .i64 a, .int .i64 b, .int .i64 c, .int .i64 d, .int .i64 e, .int .i64 f, .int .i64 g, .int .i64 h, .int .i64 z]) (by simp [results, Tryz.results118, go_sem, hc4]) rfl ⟨rfl, ((((((((((bgr ((Below.refl _ _).alloc (by first | (simp; done) | (simp; omega) | omega) _) (by first | (simp; done) | (simp; omega) | omega) hg4).setCell (by first | (simp; done) | (simp; omega) | omega) _).setCell (by first | (simp; done) | (simp; omega) | omega) _).setCell (by first | (simp; done) | (simp; omega) | omega) _).setCell (by first | (simp; done) | (simp; omega) | omega) _).setCell (by first | (simp; done) | (simp; omega) | omega) _).setCell (by first | (simp; done) | (simp; omega) | omega) _).setCell (by first | (simp; done) | (simp; omega) | omega) _).setCell (by first | (simp; done) | (simp; omega) | omega) _).setCell (by first | (simp; done) | (simp; omega) | omega) _)⟩
def c3 : Pr := ⟨9000, 9000, 65, 66, 5, 2000, 100000, [⟨100, 101, 0, 1, -96, -95, 0, 2, 3000⟩, ⟨50, 50, 10, 12, -10, -8, 14, 15, 0⟩]⟩
def c3C (sp : Option Addr) (cap : Nat) : Cd := ⟨c3, sp, cap, 3200, 50, 20, 6000, 6500, 300, 900, 100, 200⟩
def C3P (w : World) (e : Ending) (w' : World) : Prop := (∃ sp cap, e = .returned (.agg (c3C sp cap).cs.toArray) ∧ ThingsAt c3.l (.slice sp 2 cap) w') ∧ Below w.heap.size w w'
theorem c3_trim (sp : Option Addr) (cap : Nat) : (c3C sp cap).trimA = (⟨2, 1, 0, 3⟩, 0) := by kernel_rfl
theorem c3_deep (sp : Option Addr) (cap : Nat) : (c3C sp cap).deepA ⟨2, 1, 0, 3⟩ = (2956, 11700, 0) := by kernel_rfl
theorem c3_dist : c3.distance 1 = (9591, 10241, 0) := by kernel_rfl
theorem c3_built (sp : Option Addr) : Tryz.prog.built 28 [(0, .agg #[.int .i64 9000, .int .i64 9000, .int .i64 65, .int .i64 66, .int .i64 5, .int .i64 2000, .int .i64 100000, .slice sp 2 2]), (1, .int .i64 3200), (2, .int .i64 50), (3, .int .i64 20), (4, .agg #[.int .i64 6000, .int .i64 6500]), (5, .int .i64 300), (6, .int .i64 900), (7, .int .i64 100), (8, .int .i64 200)] = some (c3C sp 2).cs.toArray := by kernel_rfl
theorem fld28_0 (k : Cd) (w : World) : (Instr.field 28 (.agg k.cs.toArray) 0).run Tryz.prog w = .ok (.agg k.pr.toArray) w := by kernel_rfl
def C3V (v : Value) (W : World) : Prop := ∃ sp cap, v = .agg (c3C sp cap).cs.toArray ∧ ThingsAt c3.l (.slice sp 2 cap) W
theorem C3V.lasts : Lasts C3V := fun _ _ _ ⟨sp, cap, h1, h2⟩ hg => ⟨sp, cap, h1, ThingsAt.lasts _ _ _ _ h2 hg⟩
set_option maxRecDepth 100000 in
set_option maxHeartbeats 2000000 in
theorem card03_any (w : World) : Calls Tryz.prog 84 #[] w (C3P w) := by
  unfold C3P
  go_enter Tryz.func84, Tryz.ntmps84
  go_wp2_with fail
  refine (sp03_any _ _ _).mono ?_
  rintro e w1 ⟨rfl, hb1⟩
  have hg1 : Gr _ _ := hb1
  go_wp2_with fail
  refine (sp03_any _ _ _).mono ?_
  rintro e w2 ⟨rfl, hb2⟩
  have hg2 := Gr.tr hg1 hb2
  clear hb1 hb2 hg1
  have hb0 := hg2.size
  simp at hb0
  have hp2 := Box.fresh w2 [.int .i64 9000, .int .i64 9000, .int .i64 65, .int .i64 66, .int .i64 5, .int .i64 2000, .int .i64 100000, (.slice none 0 0)] 26
  have HZ2 := Lib.hid ((Box.fresh w zero28 28).grow hg2)
  go_wp2_with fail
  refine (th03_any _ _ _ _ _ _ _ _ _ _).mono ?_
  rintro e w3 ⟨rfl, hb3⟩
  go_wp2_with fail
  refine (th03_any _ _ _ _ _ _ _ _ _ _).mono ?_
  rintro e w4 ⟨rfl, hb4⟩
  have hg4 := (Gr.alloc w2 (Obj.cells #[.int .i64 9000, .int .i64 9000, .int .i64 65, .int .i64 66, .int .i64 5, .int .i64 2000, .int .i64 100000, (.slice none 0 0)] 26)).tr (Gr.tr hb3 hb4)
  have hp4 := hp2.grow (Gr.tr hb3 hb4)
  have d7 := hp4.cell (i := 7) rfl
  have df := hp4.free 7
  have dl := hp4.lt
  have hne : ¬ w2.heap.size = w4.heap.size := by omega
  have HP := Lib.hid (show Box ((w4.setCell ⟨w2.heap.size, 7, none⟩ (.slice (some ⟨w4.heap.size, 0, none⟩) 2 2)).alloc (Obj.cells #[.int .i64 100, .int .i64 101, .int .i64 0, .int .i64 1, .int .i64 (-96), .int .i64 (-95), .int .i64 0, .int .i64 2, .int .i64 3000, .int .i64 50, .int .i64 50, .int .i64 10, .int .i64 12, .int .i64 (-10), .int .i64 (-8), .int .i64 14, .int .i64 15, .int .i64 0] 52)) w2.heap.size [.int .i64 9000, .int .i64 9000, .int .i64 65, .int .i64 66, .int .i64 5, .int .i64 2000, .int .i64 100000, (.slice (some ⟨w4.heap.size, 0, none⟩) 2 2)] 26 from (hp4.put 7 (.slice (some ⟨w4.heap.size, 0, none⟩) 2 2)).grow (Gr.alloc _ _))
  have HT := Lib.hid (show Box ((w4.setCell ⟨w2.heap.size, 7, none⟩ (.slice (some ⟨w4.heap.size, 0, none⟩) 2 2)).alloc (Obj.cells #[.int .i64 100, .int .i64 101, .int .i64 0, .int .i64 1, .int .i64 (-96), .int .i64 (-95), .int .i64 0, .int .i64 2, .int .i64 3000, .int .i64 50, .int .i64 50, .int .i64 10, .int .i64 12, .int .i64 (-10), .int .i64 (-8), .int .i64 14, .int .i64 15, .int .i64 0] 52)) w4.heap.size [.int .i64 100, .int .i64 101, .int .i64 0, .int .i64 1, .int .i64 (-96), .int .i64 (-95), .int .i64 0, .int .i64 2, .int .i64 3000, .int .i64 50, .int .i64 50, .int .i64 10, .int .i64 12, .int .i64 (-10), .int .i64 (-8), .int .i64 14, .int .i64 15, .int .i64 0] 52 by have := Box.fresh (w4.setCell ⟨w2.heap.size, 7, none⟩ (.slice (some ⟨w4.heap.size, 0, none⟩) 2 2)) [.int .i64 100, .int .i64 101, .int .i64 0, .int .i64 1, .int .i64 (-96), .int .i64 (-95), .int .i64 0, .int .i64 2, .int .i64 3000, .int .i64 50, .int .i64 50, .int .i64 10, .int .i64 12, .int .i64 (-10), .int .i64 (-8), .int .i64 14, .int .i64 15, .int .i64 0] 52; simpa using this)
  have hgz : Gr w2 ((w4.setCell ⟨w2.heap.size, 7, none⟩ (.slice (some ⟨w4.heap.size, 0, none⟩) 2 2)).alloc (Obj.cells #[.int .i64 100, .int .i64 101, .int .i64 0, .int .i64 1, .int .i64 (-96), .int .i64 (-95), .int .i64 0, .int .i64 2, .int .i64 3000, .int .i64 50, .int .i64 50, .int .i64 10, .int .i64 12, .int .i64 (-10), .int .i64 (-8), .int .i64 14, .int .i64 15, .int .i64 0] 52)) := Gr.tr (show Gr w2 (w4.setCell ⟨w2.heap.size, 7, none⟩ (.slice (some ⟨w4.heap.size, 0, none⟩) 2 2)) from (show Below w2.heap.size w2 w4 from hg4).setCell (Nat.le_refl _) _) (Gr.alloc _ _)
  have HZ := Lib.hid (HZ2.out.grow hgz)
  have HG := Lib.hid (show Below w.heap.size w ((w4.setCell ⟨w2.heap.size, 7, none⟩ (.slice (some ⟨w4.heap.size, 0, none⟩) 2 2)).alloc (Obj.cells #[.int .i64 100, .int .i64 101, .int .i64 0, .int .i64 1, .int .i64 (-96), .int .i64 (-95), .int .i64 0, .int .i64 2, .int .i64 3000, .int .i64 50, .int .i64 50, .int .i64 10, .int .i64 12, .int .i64 (-10), .int .i64 (-8), .int .i64 14, .int .i64 15, .int .i64 0] 52)) from Gr.tr (Gr.tr (Gr.alloc w (Obj.cells zero28.toArray 28)) hg2) hgz)
  clear hg2 hg4 hp2 hp4 hb3 hb4 HZ2 hgz
  go_wp2_with fail
  clear d7 df
  have hs4 : w4.heap.size < ((w4.setCell ⟨w2.heap.size, 7, none⟩ (.slice (some ⟨w4.heap.size, 0, none⟩) 2 2)).alloc (Obj.cells #[.int .i64 100, .int .i64 101, .int .i64 0, .int .i64 1, .int .i64 (-96), .int .i64 (-95), .int .i64 0, .int .i64 2, .int .i64 3000, .int .i64 50, .int .i64 50, .int .i64 10, .int .i64 12, .int .i64 (-10), .int .i64 (-8), .int .i64 14, .int .i64 15, .int .i64 0] 52)).heap.size := by simp
  generalize ((w4.setCell ⟨w2.heap.size, 7, none⟩ (.slice (some ⟨w4.heap.size, 0, none⟩) 2 2)).alloc (Obj.cells #[.int .i64 100, .int .i64 101, .int .i64 0, .int .i64 1, .int .i64 (-96), .int .i64 (-95), .int .i64 0, .int .i64 2, .int .i64 3000, .int .i64 50, .int .i64 50, .int .i64 10, .int .i64 12, .int .i64 (-10), .int .i64 (-8), .int .i64 14, .int .i64 15, .int .i64 0] 52)) = W5 at *
  refine region2 3 ?_ ?_ ?_
  · kernel_rfl
  · kernel_rfl
  simp only [List.take_succ_cons, List.take_zero, List.drop_succ_cons, List.drop_zero]
  apply chain_eq (D := [(2, none)]) rfl (by kernel_rfl)
  · intro ρ W ⟨p1, p2, p3⟩ hG hF K hK; (try simp [FactsD] at hF); have ⟨hc, hf, hz⟩ := bcell (Gr.tr (Gr.drew _) hG); have hq := HP.out.grow (Gr.tr (Gr.drew _) hG); have q0 := hq.cell (i := 0) rfl; have q1 := hq.cell (i := 1) rfl; have q2 := hq.cell (i := 2) rfl; have q3 := hq.cell (i := 3) rfl; have q4 := hq.cell (i := 4) rfl; have q5 := hq.cell (i := 5) rfl; have q6 := hq.cell (i := 6) rfl; have q7 := hq.cell (i := 7) rfl; go_simp; exact hK _ (gives_val)
  apply chain_eq (D := []) rfl (by kernel_rfl)
  · intro ρ W ⟨p1, p2, p3⟩ hG hF K hK; (try simp [FactsD] at hF); have ⟨hc, hf, hz⟩ := bcell (Gr.tr (Gr.drew _) hG); go_simp; exact hK _ (gives_call (sp03_any _ _ _))
  apply chain_eq (D := [(12, some 1), (13, some 0)]) rfl (by kernel_rfl)
  · intro ρ W ⟨p1, p2, p3⟩ hG hF K hK; (try simp [FactsD] at hF); rw [exec_buildRow (c3_built (some ⟨w4.heap.size, 0, none⟩)) rfl (by simp [hF, p1])]; exact hK _ gives_val
  refine chain_done ?_
  intro vs W hG hV
  obtain ⟨e2, -⟩ := hV
  simp only [Nat.reduceSub] at e2
  simp only [lay, Act.put, List.getElem?_toArray, List.getElem?_cons_succ, List.getElem?_cons_zero, Option.bind_some, List.setIfInBounds_toArray, List.set_cons_succ, List.set_cons_zero]
  generalize vs 0 = v0
  generalize vs 1 = v1
  generalize vs 2 = v2 at *
  subst e2
  obtain ⟨hc, hf, hz⟩ := bcell hG
  have HGG := Lib.hid hG
  have hzz := HZ.out.grow hG
  obtain ⟨W3, hst, hR3, hO3⟩ := store_row hzz (c3C (some ⟨w4.heap.size, 0, none⟩) 2).cs rfl rfl
  have h17 : (c3C (some ⟨w4.heap.size, 0, none⟩) 2).cs.length = 17 := rfl
  have HR3 := Lib.hid (show Box W3 w.heap.size (c3C (some ⟨w4.heap.size, 0, none⟩) 2).cs 28 from hR3)
  have HO3 := Lib.hid hO3
  clear hR3 hO3 hzz hG hc hf hz
  go_wp2
  refine bodyPost_ret (v := .agg (c3C (some ⟨w4.heap.size, 0, none⟩) 2).cs.toArray) (result_row row28 rfl HR3.out rfl rfl) rfl ⟨⟨_, _, rfl, ?_⟩, ?_⟩
  · refine ThingsAt.box (l := c3.l) (T := 52) (HO3.out.box (?_ : Box W w4.heap.size _ 52) (by omega)) (by decide) rfl 2
    exact HT.out.grow HGG.out
  · exact Only.gr HO3.out (Gr.tr HG.out HGG.out) (Nat.le_refl _)
theorem card03_rel (w : World) : Calls Tryz.prog 84 #[] w fun e w' => (∃ v, e = .returned v ∧ C3V v w') ∧ Below w.heap.size w w' := by
  refine (card03_any w).mono ?_
  rintro e w1 ⟨⟨sp, cap, rfl, hT⟩, hb⟩
  exact ⟨⟨_, rfl, sp, cap, rfl, hT⟩, hb⟩
theorem mtrim_c3 (sp : Option Addr) (cap : Nat) (w : World) (h : ThingsAt c3.l (.slice sp 2 cap) w) : Calls Tryz.prog 25 #[.agg (c3C sp cap).cs.toArray] w fun e w' => e = .returned (.tuple #[.agg #[.int .i64 2, .int .i64 1, .int .i64 0, .int .i64 3], .int .i64 0]) ∧ Below w.heap.size w w' := by
  have := Trim_any (c3C sp cap) w h
  rw [c3_trim] at this
  exact this
theorem mdeep_c3 (sp : Option Addr) (cap : Nat) (w : World) (h : ThingsAt c3.l (.slice sp 2 cap) w) : Calls Tryz.prog 22 #[.agg (c3C sp cap).cs.toArray, .agg #[.int .i64 2, .int .i64 1, .int .i64 0, .int .i64 3]] w fun e w' => e = .returned (.tuple #[.agg #[.int .i64 2956, .int .i64 11700], .int .i64 0]) ∧ Below w.heap.size w w' := by
  have := Depths_any (c3C sp cap) ⟨2, 1, 0, 3⟩ w h
  rw [c3_deep] at this
  exact this
theorem mdist_c3 (sp : Option Addr) (cap : Nat) (w : World) (h : ThingsAt c3.l (.slice sp 2 cap) w) : Calls Tryz.prog 44 #[.agg (c3C sp cap).pr.toArray, .int .i64 1] w fun e w' => e = .returned (.tuple #[.agg #[.int .i64 9591, .int .i64 10241], .int .i64 0]) ∧ Below w.heap.size w w' :=
  distance_is c3_dist h
end Go.Proofs.YtcngaohfemdfjaaGreat
namespace Go.Proofs.YtcngaohfemdfjaaGreat
open Go.RowKit
set_option maxRecDepth 100000 in
set_option maxHeartbeats 16000000 in
theorem awake03_any (w : World) : Calls Tryz.prog 43 #[] w fun e w' => e = .returned (.bool true) ∧ Below w.heap.size w w' := by
  go_enter Tryz.func43, Tryz.ntmps43
  go_wp2_with fail
  refine (card03_any _).mono ?_
  rintro e w1 ⟨⟨sp1, cap1, rfl, hT1⟩, hb1⟩
  have hg1 : Gr w w1 := hb1
  go_wp2_with fail
  refine (mtrim_c3 _ _ _ hT1).mono ?_
  rintro e w2 ⟨rfl, hb2⟩
  have hg2 := (hg1.tr hb2).tr (Gr.alloc w2 (Obj.cells #[.int .i64 2, .int .i64 1, .int .i64 0, .int .i64 3] 30))
  have hc2 := Box.fresh w2 [.int .i64 2, .int .i64 1, .int .i64 0, .int .i64 3] 30
  clear hb1 hb2 hT1 hg1
  go_upto_region 2 with fail
  generalize (w2.alloc (Obj.cells #[.int .i64 2, .int .i64 1, .int .i64 0, .int .i64 3] 30)) = V2 at *
  generalize w2.heap.size = bt at *
  have q0 := hc2.cell (i := 0) rfl
  have q1 := hc2.cell (i := 1) rfl
  have q2 := hc2.cell (i := 2) rfl
  have q3 := hc2.cell (i := 3) rfl
  have ql := hc2.lt
  have HC2 := Lib.hid hc2
  have HG2 := Lib.hid (show Gr w V2 from hg2)
  clear hc2 hg2
  go_cut [3, 4] (fun tp ev wx => ∃ b : Nat, tp = .pointer (some ⟨b, 0, none⟩) ∧ ev = .int .i64 0 ∧ V2.heap.size ≤ b ∧ Box wx b [.int .i64 2956, .int .i64 11700] 23 ∧ Gr V2 wx)
  case first =>
    refine regionL 7 5 ?_ ?_ ?_
    · kernel_rfl
    · kernel_rfl
    simp only [List.take_succ_cons, List.take_zero, List.drop_succ_cons, List.drop_zero]
    refine chainB_fact (V := C3V) (D := []) rfl (by kernel_rfl) (C3V.lasts) ?_ ?_
    · intro ρ W ⟨p1, p2, p3⟩ hG hF K hK; (try simp [FactsD, exB] at hF); have ⟨hc, hf, hz⟩ := bcell (Gr.tr (Gr.drew _) hG); go_simp; exact hK _ (gives_rel (card03_rel _))
    apply chainB_eq (D := [(1, none)]) rfl (by kernel_rfl)
    · intro ρ W ⟨p1, p2, p3⟩ hG hF K hK; (try simp [FactsD, exB] at hF); have ⟨hc, hf, hz⟩ := bcell (Gr.tr (Gr.drew _) hG); go_simp; exact hK _ (gives_val)
    apply chainB_eq (D := [(13, some 1), (14, some 0)]) rfl (by kernel_rfl)
    · intro ρ W ⟨p1, p2, p3⟩ hG hF K hK; (try simp [FactsD, exB] at hF); have ⟨hc, hf, hz⟩ := bcell (Gr.tr (Gr.drew _) hG); obtain ⟨⟨sp, cap, hv, hT⟩, hF2⟩ := hF; go_simp; exact hK _ (gives_call (mdeep_c3 _ _ _ hT))
    apply chainB_eq (D := [(15, some 0)]) rfl (by kernel_rfl)
    · intro ρ W ⟨p1, p2, p3⟩ hG hF K hK; (try simp [FactsD, exB] at hF); have ⟨hc, hf, hz⟩ := bcell (Gr.tr (Gr.drew _) hG); go_simp; exact hK _ (gives_val)
    apply chainB_eq (D := [(12, some 0)]) rfl (by kernel_rfl)
    · intro ρ W ⟨p1, p2, p3⟩ hG hF K hK; (try simp [FactsD, exB] at hF); have ⟨hc, hf, hz⟩ := bcell (Gr.tr (Gr.drew _) hG); go_simp; exact hK _ (gives_val)
    apply chainB_eq (D := [(12, some 1)]) rfl (by kernel_rfl)
    · intro ρ W ⟨p1, p2, p3⟩ hG hF K hK; (try simp [FactsD, exB] at hF); have ⟨hc, hf, hz⟩ := bcell (Gr.tr (Gr.drew _) hG); go_simp; exact hK _ (gives_val)
    refine chainB_any (V := fun p v W' => NewB [.int .i64 0, .int .i64 0] 23 p v W' ∧ V2.heap.size ≤ p.1) (D := []) rfl (by kernel_rfl) (fun p v A B h hg => ⟨NewB.lasts _ _ p v A B h.1 hg, h.2⟩) ?_ ?_
    · intro ρ W ⟨p1, p2, p3⟩ hG hF K hK; (try simp [FactsD, exB] at hF); have ⟨hc, hf, hz⟩ := bcell (Gr.tr (Gr.drew _) hG); go_simp; exact hK _ (⟨⟨NewB.new _ _ _, by have := hG.size; simpa using this⟩, Gr.alloc _ _⟩)
    refine chainB_done ⟨?_, ?_⟩
    · intro vs bs W hG hV hdj
      obtain ⟨e6, e5, e4, -⟩ := hV
      simp only [Nat.reduceSub] at e4
      simp only [Nat.reduceSub] at e5
      simp only [Nat.reduceSub] at e6
      clear hdj
      simp only [lay, Act.put, List.getElem?_toArray, List.getElem?_cons_succ, List.getElem?_cons_zero, Option.bind_some, List.setIfInBounds_toArray, List.set_cons_succ, List.set_cons_zero]
      generalize vs 0 = v0
      generalize vs 1 = v1
      generalize vs 2 = v2
      generalize vs 3 = v3
      generalize vs 4 = v4 at *
      generalize vs 5 = v5 at *
      generalize vs 6 = v6 at *
      subst e4
      subst e5
      obtain ⟨hc, hf, hz⟩ := bcell hG
      obtain ⟨⟨b6, rfl, hb6, hb6', hB6⟩, hb6n⟩ := e6
      have hl6 : bt < b6 := by omega
      obtain ⟨y0_, y1_, yf0, yf1, yl⟩ := hB6.two
      have HB6 := Lib.hid hB6
      have HGW := Lib.hid hG
      clear hB6 hb6' hG hc hf hz
      go_wp2_with fail
      go_meet
      case rel =>
        exact ⟨b6, rfl, rfl, by omega, (HB6.out.put 0 _).put 1 _, (HGW.out.setCell (by simp; omega) _).setCell (by simp; omega) _⟩
    · intro vs bs W hG hV hdj
      obtain ⟨e6, -, e4, e3, -⟩ := hV
      simp only [Nat.reduceSub, Nat.reduceEqDiff, if_false] at e3
      simp only [Nat.reduceSub, Nat.reduceEqDiff, if_false] at e4
      simp only [Nat.reduceSub, Nat.reduceEqDiff, if_false] at e6
      clear hdj
      refine wpOp_two rfl rfl ?_
      simp only [layL, Nat.reduceEqDiff, if_false, if_true, Act.put, List.getElem?_toArray, List.getElem?_cons_succ, List.getElem?_cons_zero, Option.bind_some, List.setIfInBounds_toArray, List.set_cons_succ, List.set_cons_zero, List.drop_succ_cons, List.drop_zero]
      generalize vs 0 = v0
      generalize vs 1 = v1
      generalize vs 2 = v2
      generalize vs 3 = v3 at *
      generalize vs 4 = v4 at *
      generalize vs 6 = v6 at *
      subst e3
      subst e4
      obtain ⟨hc, hf, hz⟩ := bcell hG
      obtain ⟨⟨b6, rfl, hb6, hb6', hB6⟩, hb6n⟩ := e6
      have hl6 : bt < b6 := by omega
      obtain ⟨y0_, y1_, yf0, yf1, yl⟩ := hB6.two
      have HB6 := Lib.hid hB6
      have HGW := Lib.hid hG
      clear hB6 hb6' hG hc hf hz
      go_wp2_with fail
      go_meet
      case rel =>
        exact ⟨b6, rfl, rfl, by omega, (HB6.out.put 0 _).put 1 _, (HGW.out.setCell (by simp; omega) _).setCell (by simp; omega) _⟩
  case rest =>
    obtain ⟨bd, rfl, rfl, hbd, hBd, hgd⟩ := hcut
    rename World => w3
    have HG3 := Lib.hid (HG2.out.tr hgd)
    have HC3 := Lib.hid (HC2.out.grow hgd)
    have HD3 := Lib.hid hBd
    clear hBd hgd q0 q1 q2 q3 ql HC2
    go_wp2_with fail
    refine (card03_any _).mono ?_
    rintro e w4 ⟨⟨sp4, cap4, rfl, hT4⟩, hb4⟩
    have hfd := fld28_0 (c3C sp4 cap4)
    go_wp2_with fail
    refine (mdist_c3 _ _ _ hT4).mono ?_
    rintro e w5 ⟨rfl, hb5⟩
    have hga := (Gr.tr hb4 hb5).tr (Gr.alloc w5 (Obj.cells #[.int .i64 9591, .int .i64 10241] 23))
    have HG5 := Lib.hid (HG3.out.tr hga)
    have hc5 := HC3.out.grow hga
    have hd5 := HD3.out.grow hga
    have he5 := Box.fresh w5 [.int .i64 9591, .int .i64 10241] 23
    have q0 := hc5.cell (i := 0) rfl
    have q1 := hc5.cell (i := 1) rfl
    have q2 := hc5.cell (i := 2) rfl
    have q3 := hc5.cell (i := 3) rfl
    have ql := hc5.lt
    have d0 := hd5.cell (i := 0) rfl
    have d1 := hd5.cell (i := 1) rfl
    have dl := hd5.lt
    have r0 := he5.cell (i := 0) rfl
    have r1 := he5.cell (i := 1) rfl
    have rl := he5.lt
    clear hga hb4 hb5 hT4 hfd hc5 hd5 he5
    go_wp2_with fail
    generalize (w5.alloc (Obj.cells #[.int .i64 9591, .int .i64 10241] 23)) = V5 at *
    generalize w5.heap.size = be at *
    refine region2 25 ?_ ?_ ?_
    · kernel_rfl
    · kernel_rfl
    simp only [List.take_succ_cons, List.take_zero, List.drop_succ_cons, List.drop_zero]
    apply chain_eq (D := [(1, none)]) rfl (by kernel_rfl)
    · intro ρ W ⟨p1, p2, p3⟩ hG hF K hK; (try simp [FactsD] at hF); have ⟨hc, hf, hz⟩ := bcell (Gr.tr (Gr.drew _) hG); go_simp; exact hK _ (gives_val)
    apply chain_eq (D := []) rfl (by kernel_rfl)
    · intro ρ W ⟨p1, p2, p3⟩ hG hF K hK; (try simp [FactsD] at hF); have ⟨hc, hf, hz⟩ := bcell (Gr.tr (Gr.drew _) hG); go_simp; exact hK _ (gives_val)
    apply chain_eq (D := [(24, some 1), (25, some 0)]) rfl (by kernel_rfl)
    · intro ρ W ⟨p1, p2, p3⟩ hG hF K hK; (try simp [FactsD] at hF); have ⟨hc, hf, hz⟩ := bcell (Gr.tr (Gr.drew _) hG); go_simp; exact hK _ (gives_val)
    apply chain_eq (D := [(26, some 0)]) rfl (by kernel_rfl)
    · intro ρ W ⟨p1, p2, p3⟩ hG hF K hK; (try simp [FactsD] at hF); have ⟨hc, hf, hz⟩ := bcell (Gr.tr (Gr.drew _) hG); go_simp; exact hK _ (gives_val)
    apply chain_leq (D := [(2, none), (27, some 0)]) (by kernel_rfl)
    · intro ρ W hF; (try simp [FactsD] at hF); simp [Lets, *]
    · intro ρ W ⟨p1, p2, p3⟩ hG hF K hK; (try simp [FactsD] at hF); have ⟨hc, hf, hz⟩ := bcell (Gr.tr (Gr.drew _) hG); go_simp; exact hK _ (gives_val)
    apply chain_leq (D := [(28, some 0), (27, some 1)]) (by kernel_rfl)
    · intro ρ W hF; (try simp [FactsD] at hF); simp [Lets, *]
    · intro ρ W ⟨p1, p2, p3⟩ hG hF K hK; (try simp [FactsD] at hF); have ⟨hc, hf, hz⟩ := bcell (Gr.tr (Gr.drew _) hG); go_simp; exact hK _ (gives_val)
    apply chain_eq (D := [(27, some 2), (29, some 0)]) rfl (by kernel_rfl)
    · intro ρ W ⟨p1, p2, p3⟩ hG hF K hK; (try simp [FactsD] at hF); have ⟨hc, hf, hz⟩ := bcell (Gr.tr (Gr.drew _) hG); go_simp; exact hK _ (gives_val)
    apply chain_eq (D := [(30, some 0)]) rfl (by kernel_rfl)
    · intro ρ W ⟨p1, p2, p3⟩ hG hF K hK; (try simp [FactsD] at hF); have ⟨hc, hf, hz⟩ := bcell (Gr.tr (Gr.drew _) hG); go_simp; exact hK _ (gives_val)
    apply chain_leq (D := [(3, none), (31, some 0)]) (by kernel_rfl)
    · intro ρ W hF; (try simp [FactsD] at hF); simp [Lets, *]
    · intro ρ W ⟨p1, p2, p3⟩ hG hF K hK; (try simp [FactsD] at hF); have ⟨hc, hf, hz⟩ := bcell (Gr.tr (Gr.drew _) hG); go_simp; exact hK _ (gives_val)
    apply chain_leq (D := [(31, some 1)]) (by kernel_rfl)
    · intro ρ W hF; (try simp [FactsD] at hF); simp [Lets, *]
    · intro ρ W ⟨p1, p2, p3⟩ hG hF K hK; (try simp [FactsD] at hF); have ⟨hc, hf, hz⟩ := bcell (Gr.tr (Gr.drew _) hG); go_simp; exact hK _ (gives_call (sp03_any _ _ _))
    apply chain_leq (D := [(32, some 1), (33, some 0), (31, some 2)]) (by kernel_rfl)
    · intro ρ W hF; (try simp [FactsD] at hF); simp [Lets, *]
    · intro ρ W ⟨p1, p2, p3⟩ hG hF K hK; (try simp [FactsD] at hF); have ⟨hc, hf, hz⟩ := bcell (Gr.tr (Gr.drew _) hG); go_simp; exact hK _ (gives_val)
    apply chain_eq (D := [(31, some 3), (34, some 0)]) rfl (by kernel_rfl)
    · intro ρ W ⟨p1, p2, p3⟩ hG hF K hK; (try simp [FactsD] at hF); have ⟨hc, hf, hz⟩ := bcell (Gr.tr (Gr.drew _) hG); go_simp; exact hK _ (gives_val)
    apply chain_eq (D := [(35, some 0)]) rfl (by kernel_rfl)
    · intro ρ W ⟨p1, p2, p3⟩ hG hF K hK; (try simp [FactsD] at hF); have ⟨hc, hf, hz⟩ := bcell (Gr.tr (Gr.drew _) hG); go_simp; exact hK _ (gives_val)
    apply chain_leq (D := [(4, none), (36, some 0)]) (by kernel_rfl)
    · intro ρ W hF; (try simp [FactsD] at hF); simp [Lets, *]
    · intro ρ W ⟨p1, p2, p3⟩ hG hF K hK; (try simp [FactsD] at hF); have ⟨hc, hf, hz⟩ := bcell (Gr.tr (Gr.drew _) hG); go_simp; exact hK _ (gives_val)
    apply chain_leq (D := [(37, some 0), (36, some 1)]) (by kernel_rfl)
    · intro ρ W hF; (try simp [FactsD] at hF); simp [Lets, *]
    · intro ρ W ⟨p1, p2, p3⟩ hG hF K hK; (try simp [FactsD] at hF); have ⟨hc, hf, hz⟩ := bcell (Gr.tr (Gr.drew _) hG); go_simp; exact hK _ (gives_val)
    apply chain_eq (D := [(36, some 2), (38, some 0)]) rfl (by kernel_rfl)
    · intro ρ W ⟨p1, p2, p3⟩ hG hF K hK; (try simp [FactsD] at hF); have ⟨hc, hf, hz⟩ := bcell (Gr.tr (Gr.drew _) hG); go_simp; exact hK _ (gives_val)
    apply chain_eq (D := [(39, some 0)]) rfl (by kernel_rfl)
    · intro ρ W ⟨p1, p2, p3⟩ hG hF K hK; (try simp [FactsD] at hF); have ⟨hc, hf, hz⟩ := bcell (Gr.tr (Gr.drew _) hG); go_simp; exact hK _ (gives_val)
    apply chain_leq (D := [(5, none), (40, some 0)]) (by kernel_rfl)
    · intro ρ W hF; (try simp [FactsD] at hF); simp [Lets, *]
    · intro ρ W ⟨p1, p2, p3⟩ hG hF K hK; (try simp [FactsD] at hF); have ⟨hc, hf, hz⟩ := bcell (Gr.tr (Gr.drew _) hG); go_simp; exact hK _ (gives_val)
    apply chain_leq (D := [(40, some 1)]) (by kernel_rfl)
    · intro ρ W hF; (try simp [FactsD] at hF); simp [Lets, *]
    · intro ρ W ⟨p1, p2, p3⟩ hG hF K hK; (try simp [FactsD] at hF); have ⟨hc, hf, hz⟩ := bcell (Gr.tr (Gr.drew _) hG); go_simp; exact hK _ (gives_call (sp03_any _ _ _))
    apply chain_leq (D := [(41, some 1), (42, some 0), (40, some 2)]) (by kernel_rfl)
    · intro ρ W hF; (try simp [FactsD] at hF); simp [Lets, *]
    · intro ρ W ⟨p1, p2, p3⟩ hG hF K hK; (try simp [FactsD] at hF); have ⟨hc, hf, hz⟩ := bcell (Gr.tr (Gr.drew _) hG); go_simp; exact hK _ (gives_val)
    apply chain_eq (D := [(40, some 3), (43, some 0)]) rfl (by kernel_rfl)
    · intro ρ W ⟨p1, p2, p3⟩ hG hF K hK; (try simp [FactsD] at hF); have ⟨hc, hf, hz⟩ := bcell (Gr.tr (Gr.drew _) hG); go_simp; exact hK _ (gives_val)
    apply chain_eq (D := [(44, some 0)]) rfl (by kernel_rfl)
    · intro ρ W ⟨p1, p2, p3⟩ hG hF K hK; (try simp [FactsD] at hF); have ⟨hc, hf, hz⟩ := bcell (Gr.tr (Gr.drew _) hG); go_simp; exact hK _ (gives_val)
    apply chain_leq (D := [(6, none), (45, some 0)]) (by kernel_rfl)
    · intro ρ W hF; (try simp [FactsD] at hF); simp [Lets, *]
    · intro ρ W ⟨p1, p2, p3⟩ hG hF K hK; (try simp [FactsD] at hF); have ⟨hc, hf, hz⟩ := bcell (Gr.tr (Gr.drew _) hG); go_simp; exact hK _ (gives_val)
    apply chain_leq (D := [(46, some 0), (45, some 1)]) (by kernel_rfl)
    · intro ρ W hF; (try simp [FactsD] at hF); simp [Lets, *]
    · intro ρ W ⟨p1, p2, p3⟩ hG hF K hK; (try simp [FactsD] at hF); have ⟨hc, hf, hz⟩ := bcell (Gr.tr (Gr.drew _) hG); go_simp; exact hK _ (gives_val)
    apply chain_eq (D := [(45, some 2), (47, some 0)]) rfl (by kernel_rfl)
    · intro ρ W ⟨p1, p2, p3⟩ hG hF K hK; (try simp [FactsD] at hF); have ⟨hc, hf, hz⟩ := bcell (Gr.tr (Gr.drew _) hG); go_simp; exact hK _ (gives_val)
    refine chain_done ?_
    intro vs W hG hV
    obtain ⟨e24, -⟩ := hV
    simp only [Nat.reduceSub] at e24
    have HG6 := Lib.hid (HG5.out.tr hG)
    clear hG
    refine lay_tail (i := 24) (t := 48) (d := 0) (x := .bool true) rfl rfl rfl (by decide) (by kernel_rfl) (Nat.le_of_ble_eq_true (n := 49) (by kernel_rfl)) (by kernel_rfl) e24 ?_
    intro B hBd hBs
    go_wp2_with fail
    refine bodyPost_ret (v := .bool true) (by simp [results, Tryz.results43, Act.put, hBs, go_sem]) (by simp [Act.put, hBd]) ⟨rfl, HG6.out⟩
end Go.Proofs.YtcngaohfemdfjaaGreat
