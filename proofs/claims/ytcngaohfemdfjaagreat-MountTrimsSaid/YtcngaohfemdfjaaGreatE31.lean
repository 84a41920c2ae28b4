import Derived.Test.YtcngaohfemdfjaaGreatE27
set_option linter.unusedVariables false
set_option linter.unusedSimpArgs false
set_option maxRecDepth 100000
set_option maxHeartbeats 60000000
namespace Go.Proofs.YtcngaohfemdfjaaGreat
open Go.RowKit Go.Shelf
attribute [local go_sem] Oper.semAt_some
def setTo (l : List (Int × Vw)) : Nat := l.foldl (fun m q => m ||| 2 ^ q.1.toNat) 0
theorem setTo_snoc (l : List (Int × Vw)) (q : Int × Vw) : setTo (l ++ [q]) = setTo l ||| 2 ^ q.1.toNat := by simp [setTo]
theorem setTo_lt {l : List (Int × Vw)} (h : ∀ q ∈ l, q.1.toNat < 12) : setTo l < 4096 := by
  have key : ∀ (l : List (Int × Vw)) (m : Nat), m < 2 ^ 12 → (∀ q ∈ l, q.1.toNat < 12) → l.foldl (fun m q => m ||| 2 ^ q.1.toNat) m < 2 ^ 12 := by
    intro l
    induction l with
    | nil => intro m hm _; exact hm
    | cons q l ih =>
      intro m hm hq
      refine ih _ (Nat.or_lt_two_pow hm ?_) fun r hr => hq r (List.mem_cons_of_mem _ hr)
      exact Nat.pow_lt_pow_right (by omega) (hq q (List.mem_cons_self ..))
  exact key l 0 (by decide) h
theorem sees_key {p : Pr} (h : p.ok = true) {q : Int × Vw} (hq : q ∈ p.sees) : ∃ i : Nat, i < 12 ∧ q.1 = (i : Int) := by
  obtain ⟨n, hn, h1, -⟩ := mem_seesTo hq
  have := (p.bounds h).len
  exact ⟨n, by omega, h1⟩
def SnI (k : Cd) (bs : Nat) (w : World) (pre : List (Sv k.p)) (W : World) : Prop := Box W bs [.int .i64 (setTo (valsOf pre))] 3 ∧ Below w.heap.size w W
theorem SnI.own (k : Cd) (bs : Nat) (w : World) {B : Nat} (hB : w.heap.size ≤ B) : OwnFrom B (SnI k bs w) := fun s A A' row ⟨h1, h4⟩ hg hr =>
  ⟨h1.own' hg fun r e => (hr r e).2, ownFrom_below (β := Unit) (Nat.le_refl _) hB () A A' row h4 hg hr⟩
def SnA (k : Cd) (mb b1 bs : Nat) (w : World) (g : Value) (s : Sv k.p) (a' : Act) (_ : World) : Prop :=
  a' = { tmps := #[.agg k.cs.toArray, .pointer (some ⟨w.heap.size, 0, none⟩), .int .i64 0, .int .i64 0, .pointer (some ⟨b1, 0, none⟩), .int .i64 0, .pointer (some ⟨bs, 0, none⟩), .int .i64 s.n, .tuple #[.agg (k.lk mb).toArray, .int .i64 0], .agg k.cs.toArray, .tuple #[.agg (k.lk mb).toArray, .int .i64 0], .agg (k.lk mb).toArray, .int .i64 0, .int .i64 0, .bool false, undef, .agg (k.lk mb).toArray, g, .int .i64 s.n, .agg #[.int .i64 s.x.la, .int .i64 s.x.lb, .int .i64 s.x.ra, .int .i64 s.x.rb, .int .i64 s.x.sa, .int .i64 s.x.sb], undef, undef, undef, undef, undef], defers := [] }
theorem SnA.own (k : Cd) (mb b1 bs : Nat) (w : World) (g : Value) (B' : Nat) (s : Sv k.p) (a' : Act) : OwnFrom B' (fun (_ : Unit) W => SnA k mb b1 bs w g s a' W) := fun _ _ _ _ h _ _ => h
theorem valsOf_mem {p : Pr} {l : List (Sv p)} {q : Int × Vw} (h : q ∈ valsOf l) : q ∈ p.sees := by
  obtain ⟨s, -, rfl⟩ := List.mem_map.1 h
  exact s.mem
theorem Seen_ok (k : Cd) (w : World) (hT : TsA k.p.l (.slice k.sp k.p.l.length k.cap) w) (h : k.err [] = 0) :
    Calls Tryz.prog 14 #[.agg k.cs.toArray] w fun e w' => e = .returned (.tuple #[.int .i64 (setTo k.p.sees), .int .i64 0]) ∧ Below w.heap.size w w' := by
  have HLO := Lib.hid (fun W (hb : Below w.heap.size w W) => look0_ok k W (hT.below rfl hb) h)
  have HOK := Lib.hid (Cd.err_zero h).1
  clear hT h
  have hl : k.cs.length = 17 := rfl
  have HB := Lib.hid (Box.fresh w k.cs 28)
  refine (callsIn_wide (n := 9)).1 ?_
  refine callsIn_of_wp_marks Tryz.func14 rfl trivial ?_ rfl
  simp only [Tryz.ntmps14, List.size_toArray, List.length_cons, List.length_nil, Nat.reduceAdd, Nat.reduceSub, Array.replicate_succ, Array.replicate_zero, List.push_toArray, List.append_toArray, List.nil_append, List.cons_append]
  refine wpIn_wide.2 ?_
  go_wp2_with (first | (with_reducible refine wsl (ty := 28) rfl ?_; unfold Stop; refine wlb row28 rfl (HB.out) rfl rfl rfl ?_))
  refine (HLO.out _ (Gr.alloc _ _)).mono ?_
  rintro e w1 ⟨mb, rfl, hmb, hM, hb1⟩
  have hg1 : Gr w w1 := (Gr.alloc _ _).tr hb1
  clear hb1
  obtain ⟨W2, hst, hB2, hg2⟩ := store_look w1 (k.lk mb) rfl (lk_one k mb)
  have h18 : (k.lk mb).length = 18 := rfl
  have HM := Lib.hid (hM.grow hg2)
  have HLK := Lib.hid (hB2.grow (Gr.alloc _ (Obj.cells #[.int .i64 0] 3)))
  have HG := Lib.hid (hg1.tr hg2)
  clear hM hB2 hg1 hg2
  go_wp2_with (first | (with_reducible refine wsl (ty := 71) rfl ?_; unfold Stop; refine wlb row71 rfl (HLK.out) rfl rfl rfl ?_))
  refine (things_any k mb _).mono ?_
  rintro e w3 ⟨rfl, hBx, hb3⟩
  have hbl : Box w3 (W2.heap.size + 1) (k.lk mb) 71 := by simpa using hBx
  have hbs : Box w3 W2.heap.size [.int .i64 0] 3 := (Box.fresh W2 [.int .i64 0] 3).grow hb3
  have hg3 : Gr W2 w3 := (Gr.alloc _ _).tr hb3
  have hM3 := HM.out.grow hg3
  have hml := HM.out.lt
  have hw3 := hbl.lt
  have hws := HG.out.size
  have HG3 := Lib.hid (HG.out.tr hg3)
  clear hBx hb3 hg3
  go_wp2_with fail
  refine (wpIn_wide (n := 9)).1 ?_
  refine wpIn_rangeOwn rfl (by omega) (gf := 92) (lb := #[.pointer (some ⟨W2.heap.size + 1, 0, none⟩)]) rfl trivial (enters_of Tryz.func92 (by kernel_rfl) rfl)
    (SeqStopsK.own (things_stops k mb (W2.heap.size + 1) _ w3 hbl hM3 (Pr.len_ok HOK.out))) (Gr.same _) KeepAt.trans
    (fun W o' => KeepAt.putObj W _ o' (by simp; omega)) (fun _ => rfl)
    (SnI k W2.heap.size w) (fun _ _ _ => False) (SnI.own k W2.heap.size w (by omega)) (fun _ _ _ _ _ hs _ _ => hs) ⟨hbs, HG3.out⟩
    (SnA k mb w1.heap.size W2.heap.size w (.func (.func 92) #[] #[.pointer (some ⟨W2.heap.size + 1, 0, none⟩)])) (fun x a' => SnA.own k mb _ _ w _ _ x a') ?assign ?body ?done ?stop
  case assign =>
    intro y pre x W K hi hK
    have HI := Lib.hid hi
    clear hi
    unfold encV
    gi_wp2
    exact hK _ _ (keepsOthers_of_gr (Gr.same _) |>.from _) (KeepAt.refl _ _) HI.out rfl
  case body =>
    rintro y pre x a' Wr hyl - ⟨hB, hO⟩ rfl hN
    obtain ⟨i, hi, hn⟩ := sees_key HOK.out x.mem
    replace hn : x.n = (i : Int) := hn
    have hm : setTo (valsOf pre) < 4096 := setTo_lt fun q hq => by
      obtain ⟨j, hj, he⟩ := sees_key HOK.out (valsOf_mem hq)
      omega
    have hsn : setTo (valsOf (pre ++ [x])) = setTo (valsOf pre) ||| 2 ^ i := by
      rw [show valsOf (pre ++ [x]) = valsOf pre ++ [x.q] from by simp [valsOf], setTo_snoc, show x.q.1 = (i : Int) from hn, Int.toNat_natCast]
    generalize setTo (valsOf pre) = m at *
    have HSN := Lib.hid hsn
    have HOR := Lib.hid (or_set m i hm hi)
    have HBB := Lib.hid hB
    have HO := Lib.hid hO
    have b0 := hB.cell (i := 0) rfl
    have bf := hB.free
    have bl := hB.lt
    rw [hn]
    clear hsn hm hB hO hn
    gi_wp2_with fail
    refine region2_in 4 ?_ ?_ ?_ ?_ ?_
    · kernel_rfl
    · kernel_rfl
    · kernel_rfl
    · rintro ⟨_, _, h⟩; exact h
    simp only [List.take_succ_cons, List.take_zero, List.drop_succ_cons, List.drop_zero]
    apply ceq (D := [(6, none)]) rfl (by kernel_rfl)
    · intro ρ W ⟨p1,p2,p3⟩ hG hF K hK; (try simp [FD] at hF); have ⟨hc, hf, hz⟩ := bdr hG; go_simp; exact hK _ gv
    apply ceq (D := [(7, none)]) rfl (by kernel_rfl)
    · intro ρ W ⟨p1,p2,p3⟩ hG hF K hK; (try simp [FD] at hF); have ⟨hc, hf, hz⟩ := bdr hG; go_simp; exact hK _ gv
    apply ceq (D := [(21, some 0)]) rfl (by kernel_rfl)
    · intro ρ W ⟨p1,p2,p3⟩ hG hF K hK; (try simp [FD] at hF); have ⟨hc, hf, hz⟩ := bdr hG; go_simp; exact hK _ gv
    apply ceq (D := [(20, some 2), (22, some 0)]) rfl (by kernel_rfl)
    · intro ρ W ⟨p1,p2,p3⟩ hG hF K hK; (try simp [FD] at hF); have ⟨hc, hf, hz⟩ := bdr hG; go_simp; exact hK _ gv
    refine cdn ?_
    intro vs W hG hV
    obtain ⟨e3, -⟩ := hV
    simp only [Nat.reduceSub] at e3
    simp only [lay, Act.put, List.getElem?_toArray, List.getElem?_cons_succ, List.getElem?_cons_zero, Option.bind_some, List.setIfInBounds_toArray, List.set_cons_succ, List.set_cons_zero]
    generalize vs 0 = v0, vs 1 = v1, vs 2 = v2
    generalize vs 3 = v3 at *
    subst e3
    obtain ⟨hc, hf, hz⟩ := bcell hG
    have hB2 := HBB.out.grow hG
    have b0 := hB2.cell (i := 0) rfl
    have bf := hB2.free
    have bl := hB2.lt
    have HB2 := Lib.hid hB2
    have HG := Lib.hid hG
    clear hB2 hG hc hf hz
    go_wp2
    refine ⟨((keepsOthers_of_gr HG.out).from _).trans ((Only.set (b := W2.heap.size) _ 0 _).from (by omega)), (KeepAt.of HG.out).trans (KeepAt.set _ _ _ _ (by simp; omega)), ?_, (Gr.tr HO.out HG.out).setCell (by simp; omega) _⟩
    rw [HSN.out, ← HOR.out]
    exact HB2.out.put 0 _
  case done =>
    rintro D ys W hD hys ⟨hB, hO⟩ hK
    rw [hys] at hB
    have HBB := Lib.hid hB
    have HO := Lib.hid hO
    have HK := Lib.hid hK
    have b0 := hB.cell (i := 0) rfl
    have bl := hB.lt
    have hys' := hys
    clear hB hO hK hys
    go_wp2
    refine ⟨by simp, .inl ⟨_, _, rfl, run_takeDeferred HK.out, ?_⟩⟩
    have hO5 := (SnI.own k W2.heap.size w (Nat.le_refl _)) ys W _ (some D) ⟨by rw [hys']; exact HBB.out, HO.out⟩ (grownBy_putObj' _ D (.deferred none)) (fun r e => by cases e; exact ⟨by omega, _, HK.out, rfl⟩)
    exact ⟨.tuple #[.int .i64 (setTo k.p.sees), .int .i64 0], by simp [results, Tryz.f14, go_sem], rfl, hO5.2⟩
  case stop =>
    rintro D c pre W _ _ h _
    exact h.elim
end Go.Proofs.YtcngaohfemdfjaaGreat
