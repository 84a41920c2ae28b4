import Derived.Test.YtjlaoiimbhlafaaP7
set_option linter.unusedVariables false
set_option linter.unusedSimpArgs false
section
namespace Go.Proofs.Ytjlaoiimbhlafaa
open Go.RowKit Go.Shelf

open MW
attribute [local go_sem] Oper.semAt_some run_store_func
theorem Gr.row_new (w : World) (z : Array Value) (T : TypeId) (cs : Array Value) : Gr w ((w.alloc (.cells z T)).setRow w.heap.size cs) := below_setRow (show Below w.heap.size w (w.alloc (.cells z T)) from Gr.alloc w _) (Nat.le_refl _) cs
def ff : Nat → Nat → Bool := fun _ _ => false
def mz : Nat → Nat := fun _ => 0
theorem cells5 {W : World} {b : Nat} {x y z u v : Value} {T : TypeId} (h : Box W b [x, y, z, u, v] T) : W.cell? ⟨b, 0, none⟩ = some x ∧ W.cell? ⟨b, 1, none⟩ = some y ∧ W.cell? ⟨b, 2, none⟩ = some z ∧ W.cell? ⟨b, 3, none⟩ = some u ∧ W.cell? ⟨b, 4, none⟩ = some v := ⟨h.cell (i := 0) rfl, h.cell (i := 1) rfl, h.cell (i := 2) rfl, h.cell (i := 3) rfl, h.cell (i := 4) rfl⟩
theorem pairs_stops2 (k : Lk) (bl n : Nat) (vs : List Value) (w : World) (hb : Box w bl vs 85) (hv0 : vs[0]? = some (.slice k.lp k.nL k.lc)) (hv1 : vs[1]? = some (.slice k.rp k.nR k.rc)) (hL : k.nL ≤ 10) (hR : k.nR ≤ 10) :
    SeqStopsK Fence.wide n Try.prog 121 #[.pointer (some ⟨bl, 0, none⟩)] (encG (nL := k.nL) (nR := k.nR)) (KeepAt [bl]) (fun ys => ys.map Gp.p = grid k.nL k.nR) (fun pre => ∃ rest, grid k.nL k.nR = pre.map Gp.p ++ rest) 1000 w :=
  SeqStopsK.depth (n := 8) rfl fun y J Jx W hW hAJ _hAX hY h0 =>
    (pairs1_any k bl y (fun s A => J s A ∧ Box A bl vs 85) Jx W hL hR (fun s A B h hg => ⟨hAJ s A B none h.1 (Gr.gro hg) (fun r e => by cases e), h.2.grow hg⟩)
      (fun pre x A h hl => YieldAt.and (hY pre x A h.1 hl) (by
        rintro e B (⟨h1, h2, h3⟩ | h1)
        · exact .inl ⟨h1, h2, h3.box h.2 (by simp)⟩
        · exact .inr h1))
      (fun s A h => .inr ⟨vs, hv0, hv1, h.2⟩) ⟨h0, hb.grow hW⟩).mono (by
        rintro e B ⟨h1, (⟨ys, h2, h3, -⟩ | h2)⟩
        · exact ⟨h1, .inl ⟨ys, h2, h3⟩⟩
        · exact ⟨h1, .inr h2⟩)
theorem pairs_stops3 (r : Rr) (f : Nat → Nat → Bool) (m : Nat → Nat) (bl n : Nat) (w : World) (hb : Box w bl (r.lk f m).cs 85) (hL : r.L.length ≤ 10) (hR : r.R.length ≤ 10) :
    SeqStopsK Fence.wide n Try.prog 121 #[.pointer (some ⟨bl, 0, none⟩)] (encG (nL := r.L.length) (nR := r.R.length)) (KeepAt [bl]) (fun ys => ys.map Gp.p = grid r.L.length r.R.length) (fun pre => ∃ rest, grid r.L.length r.R.length = pre.map Gp.p ++ rest) 1000 w :=
  pairs_stops2 (r.lk f m) bl n _ w hb (Lk.c0 _) (Lk.c1 _) hL hR
def Rr.fit2 (r : Rr) (x y : Mrk) : Bool := !decide (mnI x.d y.d < mxI x.c y.c) && !decide (mnI (x.b - y.a) r.t < mxI (x.a - y.b) r.s)
def Rr.fitm (r : Rr) (i j : Nat) : Bool := match r.L[i]?, r.R[j]? with
  | some x, some y => r.fit2 x y
  | _, _ => false
theorem Rr.fitm_at {r : Rr} {i j : Nat} {x y : Mrk} (hx : r.L[i]? = some x) (hy : r.R[j]? = some y) : r.fitm i j = r.fit2 x y := by unfold Rr.fitm; rw [hx, hy]
theorem Rr.fitm_lt {r : Rr} {i j : Nat} (h : r.fitm i j = true) : i < r.L.length ∧ j < r.R.length := by
  unfold Rr.fitm at h
  split at h
  · next x y hx hy => exact ⟨(List.getElem?_eq_some_iff.1 hx).1, (List.getElem?_eq_some_iff.1 hy).1⟩
  · cases h
/-- What fits among the pairs that were looked at. -/
def Rr.fitTo (r : Rr) (l : List (Nat × Nat)) : Nat → Nat → Bool := fun i j => decide ((i, j) ∈ l) && r.fitm i j
theorem Rr.fitTo_no {r : Rr} {l : List (Nat × Nat)} {i j : Nat} (h : r.fitm i j = false) : r.fitTo (l ++ [(i, j)]) = r.fitTo l := by
  funext a b
  unfold Rr.fitTo
  by_cases hab : a = i ∧ b = j
  · rw [hab.1, hab.2, h]; simp
  · congr 1
    rw [decide_eq_decide]
    simp
    intro h1 h2
    exact absurd ⟨h1, h2⟩ hab
theorem Rr.fitTo_yes {r : Rr} {l : List (Nat × Nat)} {i j : Nat} (h : r.fitm i j = true) : (fun a b => (a == i && b == j) || r.fitTo l a b) = r.fitTo (l ++ [(i, j)]) := by
  funext a b
  unfold Rr.fitTo
  by_cases hab : a = i ∧ b = j
  · rw [hab.1, hab.2, h]; simp
  · have e : (a == i && b == j) = false := by
      rw [Bool.and_eq_false_iff]
      by_cases h1 : a = i
      · right
        simp
        exact fun h2 => hab ⟨h1, h2⟩
      · left; simpa using h1
    rw [e, Bool.false_or]
    congr 1
    rw [decide_eq_decide]
    simp
    intro h1 h2
    exact absurd ⟨h1, h2⟩ hab
theorem Rr.fitTo_all (r : Rr) : r.fitTo (grid r.L.length r.R.length) = r.fitm := by
  funext a b
  unfold Rr.fitTo
  cases h : r.fitm a b with
  | false => simp
  | true =>
    have := Rr.fitm_lt h
    simp [mem_grid, this]
theorem Mrk.in_of_ok {m : Mrk} (h : m.ok = true) : m.In := by
  unfold Mrk.ok okS at h
  simp only [Bool.and_eq_true, decide_eq_true_eq] at h
  exact ⟨by omega, by omega⟩
def Rr.lk0 (r : Rr) : Lk := r.lk (fun _ _ => false) (fun _ => 0)
def LoI (r : Rr) (w : World) (b4 b5 ba bl0 : Nat) (T0 : TypeId) (pre : List (Gp r.L.length r.R.length)) (W : World) : Prop :=
  Box W w.heap.size r.cs 26 ∧ Box W (w.heap.size + 1) Lk.zero.cs 85 ∧ Box W b4 (r.lk (r.fitTo (pre.map Gp.p)) (fun _ => 0)).cs 85 ∧ Box W b5 [.slice (some ⟨ba, 0, none⟩) 2 2] 134 ∧ Box W ba (agrC bl0) T0 ∧ Box W bl0 (r.lk (fun _ _ => false) (fun _ => 0)).cs 85 ∧ Below w.heap.size w W
theorem LoI.own (r : Rr) (w : World) (b4 b5 ba bl0 : Nat) (T0 : TypeId) {B : Nat} (hB : w.heap.size ≤ B) : OwnFrom B (LoI r w b4 b5 ba bl0 T0) := fun s A A' row ⟨h1, h2, h3, h4, h5, h6, h7⟩ hg hr =>
  ⟨h1.own' hg fun r e => (hr r e).2, h2.own' hg fun r e => (hr r e).2, h3.own' hg fun r e => (hr r e).2, h4.own' hg fun r e => (hr r e).2, h5.own' hg fun r e => (hr r e).2, h6.own' hg fun r e => (hr r e).2, ownFrom_below (β := Unit) (Nat.le_refl _) hB () A A' row h7 hg hr⟩
def LookOk (r : Rr) (w : World) (e : Ending) (w' : World) : Prop := e = .returned (.tuple #[.agg (r.lk r.fitm (allM r.fitm r.L.length r.R.length)).cs.toArray, .int .i64 0]) ∧ Below w.heap.size w w'
set_option maxRecDepth 100000 in
set_option maxHeartbeats 8000000 in
theorem look_ok (r : Rr) (w : World) (hl : MksAt r.L r.lp w) (hr : MksAt r.R r.rp w) (hok : r.ok = true) (hlL : r.L.length ≤ 10) (hlR : r.R.length ≤ 10) (hLo : ∀ m ∈ r.L, m.In) (hRo : ∀ m ∈ r.R, m.In) :
    Calls Try.prog 48 #[r.val] w (LookOk r w) := by
  have HV := Lib.hid (fun W (hg : Gr w W) => valid_any r W (hl.grow hg) (hr.grow hg))
  rw [hok] at HV
  have HML := Lib.hid hl
  have HMR := Lib.hid hr
  have hz := Lk.zero.cs_len
  have hk0 : (r.lk ff mz).cs.length = 115 := (r.lk ff mz).cs_len
  have HBU := Lib.hid (built85 r)
  have HR0 := Lib.hid ((Box.fresh w r.cs 26).grow (Gr.alloc _ (Obj.cells Lk.zero.cs.toArray 85)))
  have HZ0 := Lib.hid (show Box ((w.alloc (Obj.cells r.cs.toArray 26)).alloc (Obj.cells Lk.zero.cs.toArray 85)) (w.heap.size + 1) Lk.zero.cs 85 by
    have := Box.fresh (w.alloc (Obj.cells r.cs.toArray 26)) Lk.zero.cs 85
    simpa using this)
  have hone := lk_one (r.lk ff mz)
  have HAG := Lib.hid (fun W => agreements_any (r.lk ff mz) W)
  have HPA := Lib.hid (fun W => pairsOf_any (r.lk ff mz) W)
  unfold ff mz agrV at *
  unfold Rr.cs at HZ0 HR0
  unfold Rr.val at *
  clear hl hr
  have HLO := Lib.hid hLo
  have HRO := Lib.hid hRo
  clear hLo hRo
  refine (callsIn_wide (n := 9)).1 ?_
  refine callsIn_of_wp_marks Try.func48 rfl trivial ?_ rfl
  simp only [Try.ntmps48, List.size_toArray, List.length_cons, List.length_nil, Nat.reduceAdd, Nat.reduceSub, Array.replicate_succ, Array.replicate_zero, List.push_toArray, List.append_toArray, List.nil_append, List.cons_append]
  refine wpIn_wide.2 ?_
  go_wp2_with (first
    | (with_reducible refine wpList_stopAlloc (ty := 85) rfl ?_; unfold Stop; refine wpList_alloc85 rfl rfl ?_)
    | (go_at_call 90; refine (HV.out _ ((Gr.alloc _ _).tr (Gr.alloc _ _))).mono ?_; rintro e w1 ⟨rfl, hb1⟩; have HG1 := Lib.hid (Gr.tr ((Gr.alloc _ _).tr (Gr.alloc _ _)) hb1); have HR1 := Lib.hid (HR0.out.grow hb1); have HZ1 := Lib.hid (HZ0.out.grow hb1); have hz1l := HZ1.out.lt; have HT := Lib.hid (Box.fresh w1 Lk.zero.cs 85); obtain ⟨r0, r1, r2, r3, r4⟩ := cells5 HR1.out; have rl := HR1.out.lt; clear hb1 HR0 HZ0)
    | (with_reducible refine wpList_stopBuild (ty := 85) rfl ?_; unfold Stop; refine wpList_buildRow HBU.out rfl rfl (by simp [Act.eval]) ?_)
    | (with_reducible refine wpList_stopStore (ty := 85) rfl ?_; unfold Stop; refine wpList_storeBox row85 hk0 hz hone HT.out rfl rfl rfl rfl ?_; have HT2 := Lib.hid (show Box ((w1.alloc (Obj.cells Lk.zero.cs.toArray 85)).setRow w1.heap.size (r.lk (fun _ _ => false) (fun _ => 0)).cs.toArray) w1.heap.size (r.lk (fun _ _ => false) (fun _ => 0)).cs 85 from HT.out.row (vs := (r.lk (fun _ _ => false) (fun _ => 0)).cs)); have HG2 := Lib.hid (show Gr w1 ((w1.alloc (Obj.cells Lk.zero.cs.toArray 85)).setRow w1.heap.size (r.lk (fun _ _ => false) (fun _ => 0)).cs.toArray) from Gr.row_new w1 _ _ _); generalize (w1.alloc (Obj.cells Lk.zero.cs.toArray 85)).setRow w1.heap.size (r.lk (fun _ _ => false) (fun _ => 0)).cs.toArray = w2 at *; have HR2 := Lib.hid (HR1.out.grow HG2.out); have HZ2 := Lib.hid (HZ1.out.grow HG2.out); clear HR1 HZ1 HT r0 r1 r2 r3 r4)
    | (with_reducible refine wpList_stopLoad (ty := 85) rfl ?_; unfold Stop; refine wpList_loadBox row85 hk0 HT2.out rfl rfl rfl ?_)
    | (go_at_call 91; refine (HAG.out _).mono ?_; rintro e w3 ⟨bl0, ba, T0, rfl, hbl0, hba, hL0, hA0, hb3⟩; have HG3 := Lib.hid hb3; have HT3 := Lib.hid (HT2.out.grow hb3); have HL0 := Lib.hid hL0; have HA0 := Lib.hid hA0; have hw3 := hA0.lt; have hw3' := hL0.lt; clear hb3 hL0 hA0)
    | (with_reducible refine wpList_stopLoad (ty := 85) rfl ?_; unfold Stop; refine wpList_loadBox row85 hk0 (HT3.out.grow (Gr.alloc _ _)) rfl rfl rfl ?_)
    | (go_at_call 92; refine (HPA.out _).mono ?_; rintro e w4 ⟨rfl, hP4, hb4⟩)
    | go_step3)
  have HG13 : Gr w w3 := (HG1.out.tr HG2.out).tr HG3.out
  have hw1s := HG1.out.size
  have hw2s := HG2.out.size
  have hw3s := HG3.out.size
  have h4l := HT2.out.lt
  have hz2 := HZ2.out.lt
  have H5w := (Box.fresh w3 [.slice (some ⟨ba, 0, none⟩) 2 2] 134).grow hb4
  have hG34 : Gr w3 w4 := (Gr.alloc _ _).tr hb4
  replace hP4 : Box w4 (w3.heap.size + 1) (r.lk (fun _ _ => false) (fun _ => 0)).cs 85 := by simpa using hP4
  have hpl := hP4.lt
  have HI0 := Lib.hid (show LoI r w w1.heap.size w3.heap.size ba bl0 T0 [] w4 from ⟨HR2.out.grow (Gr.tr HG3.out hG34), HZ2.out.grow (Gr.tr HG3.out hG34), HT3.out.grow hG34, H5w, HA0.out.grow hG34, HL0.out.grow hG34, HG13.tr hG34⟩)
  have HP4 := Lib.hid hP4
  have hz1 := hz1l
  generalize hq4 : w1.heap.size = b4 at *
  generalize hq5 : w3.heap.size = b5 at *
  generalize hqp : b5 + 1 = bp at *
  have hne : b4 ≠ b5 ∧ b4 ≠ ba ∧ b4 ≠ bl0 ∧ b4 ≠ bp ∧ w.heap.size + 1 < b4 := by
    refine ⟨?_, ?_, ?_, ?_, ?_⟩ <;> omega
  obtain ⟨n1, n2, n3, n4, n5⟩ := hne
  have hwl : w.heap.size ≤ w4.heap.size := by omega
  have hb4l : b4 < w4.heap.size := by omega
  clear HBU hone HAG HPA hk0 HV HT2 HR2 HZ2 HT3 HL0 HA0 hP4 hG34 H5w HG1 HG2 HG3 HG13 hb4 hz2 hz1 hz1l
  refine (wpIn_wide (n := 9)).1 ?_
  refine wpIn_rangeOwn rfl (by omega) (gf := 121) (lb := #[.pointer (some ⟨bp, 0, none⟩)]) rfl trivial (enters_of Try.func121 (by kernel_rfl) rfl)
    (SeqStopsK.own (pairs_stops3 r (fun _ _ => false) (fun _ => 0) bp _ w4 HP4.out hlL hlR)) (Gr.same _) KeepAt.trans
    (fun W o' => KeepAt.putObj W _ o' (by simp; omega)) (fun _ => rfl)
    (LoI r w b4 b5 ba bl0 T0) (fun _ _ _ => False) (LoI.own r w b4 b5 ba bl0 T0 (by omega)) (fun _ _ _ _ _ hs _ _ => hs) HI0.out
    (fun x a' W => a' = { tmps := #[.agg #[.slice r.lp r.L.length r.lc, .slice r.rp r.R.length r.rc, .int .i64 r.s, .int .i64 r.t, .int .i64 r.h], .pointer (some ⟨w.heap.size, 0, none⟩), .pointer (some ⟨w.heap.size + 1, 0, none⟩), .int .i64 0, .pointer (some ⟨b4, 0, none⟩), .pointer (some ⟨b5, 0, none⟩), .int .i64 x.i, .int .i64 x.j, undef, undef, .agg #[.slice r.lp r.L.length r.lc, .slice r.rp r.R.length r.rc, .int .i64 r.s, .int .i64 r.t, .int .i64 r.h], .bool true, .bool false, undef, .agg #[.slice r.lp r.L.length r.lc, .slice r.rp r.R.length r.rc, .int .i64 r.s, .int .i64 r.t, .int .i64 r.h], .agg (r.lk (fun _ _ => false) (fun _ => 0)).cs.toArray, .agg (r.lk (fun _ _ => false) (fun _ => 0)).cs.toArray, .slice (some ⟨ba, 0, none⟩) 2 2, .agg (r.lk (fun _ _ => false) (fun _ => 0)).cs.toArray, .func (.func 121) #[] #[.pointer (some ⟨bp, 0, none⟩)], .int .i64 x.i, .int .i64 x.j, undef, undef, undef, undef, undef, undef, undef, undef, undef, undef, undef, undef, undef, undef, undef, undef, undef, undef, undef, undef, undef, undef, undef, undef, undef, undef, undef, undef, undef, undef, undef, undef, undef], defers := [] }) (fun x a' => fun _ _ _ _ h _ _ => h) ?assign ?body ?done ?stop
  case assign =>
    intro y pre x W K hi hK
    have HI := Lib.hid hi
    clear hi
    unfold encG
    gi_wp2
    exact hK _ _ (KeepsOthers.refl _ |>.from _) (KeepAt.refl _ _) HI.out rfl
  case body =>
    rintro y pre x a' W hyl - ⟨hR, hZ, h4, h5, hA, hL, hBW⟩ rfl hN
    have HR := Lib.hid hR
    have HZ := Lib.hid hZ
    have H4 := Lib.hid h4
    have H5 := Lib.hid h5
    have HA := Lib.hid hA
    have HL := Lib.hid hL
    have HBW := Lib.hid hBW
    have hxi : x.i < r.L.length := x.hi
    have hxj : x.j < r.R.length := x.hj
    obtain ⟨m1, hm1⟩ : ∃ m, r.L[x.i]? = some m := ⟨r.L[x.i], List.getElem?_eq_getElem hxi⟩
    obtain ⟨m2, hm2⟩ : ∃ m, r.R[x.j]? = some m := ⟨r.R[x.j], List.getElem?_eq_getElem hxj⟩
    have hin1 := HLO.out m1 (List.mem_of_getElem? hm1)
    have hin2 := HRO.out m2 (List.mem_of_getElem? hm2)
    have hfm := Rr.fitm_at hm1 hm2
    have HFM := Lib.hid hfm
    have HGW := Lib.hid (show Gr w W from hBW)
    have HM1 := Lib.hid hm1
    have HM2 := Lib.hid hm2
    have hmp : (pre ++ [x]).map Gp.p = pre.map Gp.p ++ [(x.i, x.j)] := by simp [Gp.p]
    have HMP := Lib.hid hmp
    unfold Rr.cs agrC at *
    clear hR hZ h4 h5 hA hL hBW hm1 hm2 hfm hmp
    obtain ⟨bL, oL, hlp, hbL, p0, p1, p2, p3⟩ := (HML.out.grow HGW.out).2 x.i m1 HM1.out
    obtain ⟨bR, oR, hrp, hbR, q0, q1, q2, q3⟩ := (HMR.out.grow HGW.out).2 x.j m2 HM2.out
    have u0 := HR.out.cell (i := 0) rfl
    have u1 := HR.out.cell (i := 1) rfl
    have ul := HR.out.lt
    have y5 := H5.out.cell (i := 0) rfl
    have yl := H5.out.lt
    have a0 := HA.out.cell (i := 0) rfl
    have a1 := HA.out.cell (i := 1) rfl
    have al := HA.out.lt
    have HPQ := Lib.hid (And.intro p0 (And.intro p1 (And.intro p2 (And.intro p3 (And.intro q0 (And.intro q1 (And.intro q2 q3)))))))
    have g1 : (x.i : Int) < r.L.length := by omega
    have g1' : decide ((x.i : Int) < r.L.length) = true := by simp; omega
    have g1'' : decide (x.i < r.L.length) = true := by simp; omega
    have g2 : (x.j : Int) < r.R.length := by omega
    have g2' : decide ((x.j : Int) < r.R.length) = true := by simp; omega
    have g2'' : decide (x.j < r.R.length) = true := by simp; omega
    have HT1 := Lib.hid (fun W => tones_any m1 m2 W)
    have HT2 := Lib.hid (fun W' (hg : Gr W W') => shifts_any (r.lk (fun _ _ => false) (fun _ => 0)) m1 m2 bl0 W' _ (HL.out.grow hg) (Lk.c2 _) (Lk.c3 _) hin1 hin2)
    have HOV1 := Lib.hid (fun W => overlap_any m1.c m1.d m2.c m2.d W)
    have HEM1 := Lib.hid (fun W => empty_any (mxI m1.c m2.c) (mnI m1.d m2.d) W)
    have HOV2 := Lib.hid (fun W => overlap_any (m1.a - m2.b) (m1.b - m2.a) r.s r.t W)
    have HEM2 := Lib.hid (fun W => empty_any (mxI (m1.a - m2.b) r.s) (mnI (m1.b - m2.a) r.t) W)
    have HFT := Lib.hid (show r.fit2 m1 m2 = (!decide (mnI m1.d m2.d < mxI m1.c m2.c) && !decide (mnI (m1.b - m2.a) r.t < mxI (m1.a - m2.b) r.s)) from rfl)
    have hks : (r.lk (fun _ _ => false) (fun _ => 0)).s = r.s := rfl
    have hkt : (r.lk (fun _ _ => false) (fun _ => 0)).t = r.t := rfl
    rw [hks, hkt] at HT2
    unfold spV at HT1 HT2 HOV1 HOV2 HEM1 HEM2
    unfold Mrk.val at HT1 HT2
    generalize mxI m1.c m2.c = mx1 at *
    generalize mnI m1.d m2.d = mn1 at *
    generalize mxI (m1.a - m2.b) r.s = mx2 at *
    generalize mnI (m1.b - m2.a) r.t = mn2 at *
    generalize m1.a - m2.b = ap1 at *
    generalize m1.b - m2.a = ap2 at *
    gi_wp2_with fail
    refine wpIn_loop_rounds 3 ?_
    rw [roundsIn_succ]
    gi_wp2_with fail
    have HGQ := Lib.hid (show Gr W (W.alloc (Obj.cells #[.func (.func 119) #[] #[]] 141)) from Gr.alloc _ _)
    have HF9 := Lib.hid (Box.fresh W [.func (.func 119) #[] #[]] 141)
    have hw9 := HF9.out.lt
    generalize hwq : W.alloc (Obj.cells #[.func (.func 119) #[] #[]] 141) = wq at *
    have t0 := HF9.out.cell (i := 0) rfl
    clear u0 u1 ul y5 yl a0 a1 al hwq
    have u0 := (HR.out.grow HGQ.out).cell (i := 0) rfl
    have u1 := (HR.out.grow HGQ.out).cell (i := 1) rfl
    have ul := (HR.out.grow HGQ.out).lt
    obtain ⟨hcq, -, hzq⟩ := bcell HGQ.out
    rw [← hcq _ _ hbL] at p0 p1 p2 p3
    rw [← hcq _ _ hbR] at q0 q1 q2 q3
    have hbLq := hzq _ hbL
    have hbRq := hzq _ hbR
    clear hcq hzq
    cases hd1 : decide (mn1 < mx1) with
    | true =>
      rw [hd1] at HEM1 HFT
      clear hd1
      refine region2_in 17 ?_ ?_ ?_ ?_ ?_
      · kernel_rfl
      · kernel_rfl
      · kernel_rfl
      · rintro ⟨_, _, h⟩; exact h
      simp only [List.take_succ_cons, List.take_zero, List.drop_succ_cons, List.drop_zero]
      apply chain_eq (D := [(9, none)]) rfl (by kernel_rfl)
      · intro ρ W ⟨p1, p2, p3⟩ hG hF K hK; (try simp [FactsD] at hF); have ⟨hc, hf, hz⟩ := bcell (Gr.tr (Gr.drew _) hG); go_simp; exact hK _ (gives_val)
      apply chain_eq (D := [(28, some 0)]) rfl (by kernel_rfl)
      · intro ρ W ⟨p1, p2, p3⟩ hG hF K hK; (try simp [FactsD] at hF); have ⟨hc, hf, hz⟩ := bcell (Gr.tr (Gr.drew _) hG); go_simp; exact hK _ (gives_val)
      apply chain_eq (D := [(1, none)]) rfl (by kernel_rfl)
      · intro ρ W ⟨p1, p2, p3⟩ hG hF K hK; (try simp [FactsD] at hF); have ⟨hc, hf, hz⟩ := bcell (Gr.tr (Gr.drew _) hG); go_simp; exact hK _ (gives_val)
      apply chain_eq (D := [(30, some 0)]) rfl (by kernel_rfl)
      · intro ρ W ⟨p1, p2, p3⟩ hG hF K hK; (try simp [FactsD] at hF); have ⟨hc, hf, hz⟩ := bcell (Gr.tr (Gr.drew _) hG); go_simp; exact hK _ (gives_val)
      apply chain_eq (D := [(6, none)]) rfl (by kernel_rfl)
      · intro ρ W ⟨p1, p2, p3⟩ hG hF K hK; (try simp [FactsD] at hF); have ⟨hc, hf, hz⟩ := bcell (Gr.tr (Gr.drew _) hG); go_simp; exact hK _ (gives_val)
      apply chain_eq (D := [(31, some 1), (32, some 0)]) rfl (by kernel_rfl)
      · intro ρ W ⟨p1, p2, p3⟩ hG hF K hK; (try simp [FactsD] at hF); have ⟨hc, hf, hz⟩ := bcell (Gr.tr (Gr.drew _) hG); go_simp; exact hK _ (gives_val)
      apply chain_eq (D := [(33, some 0)]) rfl (by kernel_rfl)
      · intro ρ W ⟨p1, p2, p3⟩ hG hF K hK; (try simp [FactsD] at hF); have ⟨hc, hf, hz⟩ := bcell (Gr.tr (Gr.drew _) hG); go_simp; exact hK _ (gives_val)
      apply chain_eq (D := [(1, none)]) rfl (by kernel_rfl)
      · intro ρ W ⟨p1, p2, p3⟩ hG hF K hK; (try simp [FactsD] at hF); have ⟨hc, hf, hz⟩ := bcell (Gr.tr (Gr.drew _) hG); go_simp; exact hK _ (gives_val)
      apply chain_eq (D := [(35, some 0)]) rfl (by kernel_rfl)
      · intro ρ W ⟨p1, p2, p3⟩ hG hF K hK; (try simp [FactsD] at hF); have ⟨hc, hf, hz⟩ := bcell (Gr.tr (Gr.drew _) hG); go_simp; exact hK _ (gives_val)
      apply chain_eq (D := [(7, none)]) rfl (by kernel_rfl)
      · intro ρ W ⟨p1, p2, p3⟩ hG hF K hK; (try simp [FactsD] at hF); have ⟨hc, hf, hz⟩ := bcell (Gr.tr (Gr.drew _) hG); go_simp; exact hK _ (gives_val)
      apply chain_eq (D := [(36, some 1), (37, some 0)]) rfl (by kernel_rfl)
      · intro ρ W ⟨p1, p2, p3⟩ hG hF K hK; (try simp [FactsD] at hF); have ⟨hc, hf, hz⟩ := bcell (Gr.tr (Gr.drew _) hG); go_simp; exact hK _ (gives_val)
      apply chain_eq (D := [(38, some 0)]) rfl (by kernel_rfl)
      · intro ρ W ⟨p1, p2, p3⟩ hG hF K hK; (try simp [FactsD] at hF); have ⟨hc, hf, hz⟩ := bcell (Gr.tr (Gr.drew _) hG); go_simp; exact hK _ (gives_val)
      apply chain_eq (D := [(29, some 10), (34, some 5), (39, some 0)]) rfl (by kernel_rfl)
      · intro ρ W ⟨p1, p2, p3⟩ hG hF K hK; (try simp [FactsD] at hF); have ⟨hc, hf, hz⟩ := bcell (Gr.tr (Gr.drew _) hG); go_simp; exact hK _ (gives_call (HT1.out _))
      apply chain_eq (D := [(40, some 0)]) rfl (by kernel_rfl)
      · intro ρ W ⟨p1, p2, p3⟩ hG hF K hK; (try simp [FactsD] at hF); have ⟨hc, hf, hz⟩ := bcell (Gr.tr (Gr.drew _) hG); go_simp; exact hK _ (gives_val)
      apply chain_eq (D := [(40, some 1)]) rfl (by kernel_rfl)
      · intro ρ W ⟨p1, p2, p3⟩ hG hF K hK; (try simp [FactsD] at hF); have ⟨hc, hf, hz⟩ := bcell (Gr.tr (Gr.drew _) hG); go_simp; exact hK _ (gives_val)
      apply chain_eq (D := [(41, some 1), (42, some 0)]) rfl (by kernel_rfl)
      · intro ρ W ⟨p1, p2, p3⟩ hG hF K hK; (try simp [FactsD] at hF); have ⟨hc, hf, hz⟩ := bcell (Gr.tr (Gr.drew _) hG); go_simp; exact hK _ (gives_call (HOV1.out _))
      apply chain_eq (D := [(43, some 0)]) rfl (by kernel_rfl)
      · intro ρ W ⟨p1, p2, p3⟩ hG hF K hK; (try simp [FactsD] at hF); have ⟨hc, hf, hz⟩ := bcell (Gr.tr (Gr.drew _) hG); go_simp; exact hK _ (gives_call (HEM1.out _))
      refine chain_done ?_
      intro vs W hG hV
      obtain ⟨e16, -⟩ := hV
      simp only [Nat.reduceSub] at e16
      simp only [lay, Act.put, List.getElem?_toArray, List.getElem?_cons_succ, List.getElem?_cons_zero, Option.bind_some, List.setIfInBounds_toArray, List.set_cons_succ, List.set_cons_zero]
      generalize vs 0 = v0
      generalize vs 1 = v1
      generalize vs 2 = v2
      generalize vs 3 = v3
      generalize vs 4 = v4
      generalize vs 5 = v5
      generalize vs 6 = v6
      generalize vs 7 = v7
      generalize vs 8 = v8
      generalize vs 9 = v9
      generalize vs 10 = v10
      generalize vs 11 = v11
      generalize vs 12 = v12
      generalize vs 13 = v13
      generalize vs 14 = v14
      generalize vs 15 = v15
      generalize vs 16 = v16 at *
      subst e16
      obtain ⟨hc, hf, hz⟩ := bcell hG
      have HG4 := Lib.hid (HGQ.out.tr hG)
      clear hG
      go_wp2_with fail
      gi_wp2_with fail
      have hno : r.fitm x.i x.j = false := by rw [HFM.out, HFT.out]; rfl
      refine ⟨(keepsO HG4.out).from _, KeepAt.of HG4.out, ⟨HR.out.grow HG4.out, HZ.out.grow HG4.out, ?_, H5.out.grow HG4.out, HA.out.grow HG4.out, HL.out.grow HG4.out, bgr HBW.out HBW.out.size HG4.out⟩⟩
      rw [HMP.out, Rr.fitTo_no hno]
      exact H4.out.grow HG4.out
    | false =>
      rw [hd1] at HEM1 HFT
      clear hd1
      refine region2_in 17 ?_ ?_ ?_ ?_ ?_
      · kernel_rfl
      · kernel_rfl
      · kernel_rfl
      · rintro ⟨_, _, h⟩; exact h
      simp only [List.take_succ_cons, List.take_zero, List.drop_succ_cons, List.drop_zero]
      apply chain_eq (D := [(9, none)]) rfl (by kernel_rfl)
      · intro ρ W ⟨p1, p2, p3⟩ hG hF K hK; (try simp [FactsD] at hF); have ⟨hc, hf, hz⟩ := bcell (Gr.tr (Gr.drew _) hG); go_simp; exact hK _ (gives_val)
      apply chain_eq (D := [(28, some 0)]) rfl (by kernel_rfl)
      · intro ρ W ⟨p1, p2, p3⟩ hG hF K hK; (try simp [FactsD] at hF); have ⟨hc, hf, hz⟩ := bcell (Gr.tr (Gr.drew _) hG); go_simp; exact hK _ (gives_val)
      apply chain_eq (D := [(1, none)]) rfl (by kernel_rfl)
      · intro ρ W ⟨p1, p2, p3⟩ hG hF K hK; (try simp [FactsD] at hF); have ⟨hc, hf, hz⟩ := bcell (Gr.tr (Gr.drew _) hG); go_simp; exact hK _ (gives_val)
      apply chain_eq (D := [(30, some 0)]) rfl (by kernel_rfl)
      · intro ρ W ⟨p1, p2, p3⟩ hG hF K hK; (try simp [FactsD] at hF); have ⟨hc, hf, hz⟩ := bcell (Gr.tr (Gr.drew _) hG); go_simp; exact hK _ (gives_val)
      apply chain_eq (D := [(6, none)]) rfl (by kernel_rfl)
      · intro ρ W ⟨p1, p2, p3⟩ hG hF K hK; (try simp [FactsD] at hF); have ⟨hc, hf, hz⟩ := bcell (Gr.tr (Gr.drew _) hG); go_simp; exact hK _ (gives_val)
      apply chain_eq (D := [(31, some 1), (32, some 0)]) rfl (by kernel_rfl)
      · intro ρ W ⟨p1, p2, p3⟩ hG hF K hK; (try simp [FactsD] at hF); have ⟨hc, hf, hz⟩ := bcell (Gr.tr (Gr.drew _) hG); go_simp; exact hK _ (gives_val)
      apply chain_eq (D := [(33, some 0)]) rfl (by kernel_rfl)
      · intro ρ W ⟨p1, p2, p3⟩ hG hF K hK; (try simp [FactsD] at hF); have ⟨hc, hf, hz⟩ := bcell (Gr.tr (Gr.drew _) hG); go_simp; exact hK _ (gives_val)
      apply chain_eq (D := [(1, none)]) rfl (by kernel_rfl)
      · intro ρ W ⟨p1, p2, p3⟩ hG hF K hK; (try simp [FactsD] at hF); have ⟨hc, hf, hz⟩ := bcell (Gr.tr (Gr.drew _) hG); go_simp; exact hK _ (gives_val)
      apply chain_eq (D := [(35, some 0)]) rfl (by kernel_rfl)
      · intro ρ W ⟨p1, p2, p3⟩ hG hF K hK; (try simp [FactsD] at hF); have ⟨hc, hf, hz⟩ := bcell (Gr.tr (Gr.drew _) hG); go_simp; exact hK _ (gives_val)
      apply chain_eq (D := [(7, none)]) rfl (by kernel_rfl)
      · intro ρ W ⟨p1, p2, p3⟩ hG hF K hK; (try simp [FactsD] at hF); have ⟨hc, hf, hz⟩ := bcell (Gr.tr (Gr.drew _) hG); go_simp; exact hK _ (gives_val)
      apply chain_eq (D := [(36, some 1), (37, some 0)]) rfl (by kernel_rfl)
      · intro ρ W ⟨p1, p2, p3⟩ hG hF K hK; (try simp [FactsD] at hF); have ⟨hc, hf, hz⟩ := bcell (Gr.tr (Gr.drew _) hG); go_simp; exact hK _ (gives_val)
      apply chain_eq (D := [(38, some 0)]) rfl (by kernel_rfl)
      · intro ρ W ⟨p1, p2, p3⟩ hG hF K hK; (try simp [FactsD] at hF); have ⟨hc, hf, hz⟩ := bcell (Gr.tr (Gr.drew _) hG); go_simp; exact hK _ (gives_val)
      apply chain_eq (D := [(29, some 10), (34, some 5), (39, some 0)]) rfl (by kernel_rfl)
      · intro ρ W ⟨p1, p2, p3⟩ hG hF K hK; (try simp [FactsD] at hF); have ⟨hc, hf, hz⟩ := bcell (Gr.tr (Gr.drew _) hG); go_simp; exact hK _ (gives_call (HT1.out _))
      apply chain_eq (D := [(40, some 0)]) rfl (by kernel_rfl)
      · intro ρ W ⟨p1, p2, p3⟩ hG hF K hK; (try simp [FactsD] at hF); have ⟨hc, hf, hz⟩ := bcell (Gr.tr (Gr.drew _) hG); go_simp; exact hK _ (gives_val)
      apply chain_eq (D := [(40, some 1)]) rfl (by kernel_rfl)
      · intro ρ W ⟨p1, p2, p3⟩ hG hF K hK; (try simp [FactsD] at hF); have ⟨hc, hf, hz⟩ := bcell (Gr.tr (Gr.drew _) hG); go_simp; exact hK _ (gives_val)
      apply chain_eq (D := [(41, some 1), (42, some 0)]) rfl (by kernel_rfl)
      · intro ρ W ⟨p1, p2, p3⟩ hG hF K hK; (try simp [FactsD] at hF); have ⟨hc, hf, hz⟩ := bcell (Gr.tr (Gr.drew _) hG); go_simp; exact hK _ (gives_call (HOV1.out _))
      apply chain_eq (D := [(43, some 0)]) rfl (by kernel_rfl)
      · intro ρ W ⟨p1, p2, p3⟩ hG hF K hK; (try simp [FactsD] at hF); have ⟨hc, hf, hz⟩ := bcell (Gr.tr (Gr.drew _) hG); go_simp; exact hK _ (gives_call (HEM1.out _))
      refine chain_done ?_
      intro vs W hG hV
      obtain ⟨e16, -⟩ := hV
      simp only [Nat.reduceSub] at e16
      simp only [lay, Act.put, List.getElem?_toArray, List.getElem?_cons_succ, List.getElem?_cons_zero, Option.bind_some, List.setIfInBounds_toArray, List.set_cons_succ, List.set_cons_zero]
      generalize vs 0 = v0
      generalize vs 1 = v1
      generalize vs 2 = v2
      generalize vs 3 = v3
      generalize vs 4 = v4
      generalize vs 5 = v5
      generalize vs 6 = v6
      generalize vs 7 = v7
      generalize vs 8 = v8
      generalize vs 9 = v9
      generalize vs 10 = v10
      generalize vs 11 = v11
      generalize vs 12 = v12
      generalize vs 13 = v13
      generalize vs 14 = v14
      generalize vs 15 = v15
      generalize vs 16 = v16 at *
      subst e16
      obtain ⟨hc, hf, hz⟩ := bcell hG
      have HG4 := Lib.hid (HGQ.out.tr hG)
      clear hG u0 u1 ul t0 p0 p1 p2 p3 q0 q1 q2 q3 hbLq hbRq hc hf hz hw9
      have a1 := (HA.out.grow HG4.out).cell (i := 1) rfl
      have al := (HA.out.grow HG4.out).lt
      go_wp2_with fail
      gi_wp2_with fail
      rw [roundsIn_succ]
      gi_wp2_with fail
      have HGR := Lib.hid (show Gr W (W.alloc (Obj.cells #[.func (.func 120) #[] #[.pointer (some ⟨bl0, 0, none⟩)]] 141)) from Gr.alloc _ _)
      have HG5 := Lib.hid (HG4.out.tr HGR.out)
      have HF9b := Lib.hid (Box.fresh W [.func (.func 120) #[] #[.pointer (some ⟨bl0, 0, none⟩)]] 141)
      have hw9 := HF9b.out.lt
      generalize hwq : W.alloc (Obj.cells #[.func (.func 120) #[] #[.pointer (some ⟨bl0, 0, none⟩)]] 141) = wq2 at *
      have t0 := HF9b.out.cell (i := 0) rfl
      clear a1 al hwq
      have u0 := (HR.out.grow HG5.out).cell (i := 0) rfl
      have u1 := (HR.out.grow HG5.out).cell (i := 1) rfl
      have ul := (HR.out.grow HG5.out).lt
      obtain ⟨hcq, -, hzq⟩ := bcell HG5.out
      obtain ⟨p0, p1, p2, p3, q0, q1, q2, q3⟩ := HPQ.out
      rw [← hcq _ _ hbL] at p0 p1 p2 p3
      rw [← hcq _ _ hbR] at q0 q1 q2 q3
      have hbLq := hzq _ hbL
      have hbRq := hzq _ hbR
      clear hcq hzq
      cases hd2 : decide (mn2 < mx2) with
      | true =>
        rw [hd2] at HEM2 HFT
        clear hd2
        refine region2_in 17 ?_ ?_ ?_ ?_ ?_
        · kernel_rfl
        · kernel_rfl
        · kernel_rfl
        · rintro ⟨_, _, h⟩; exact h
        simp only [List.take_succ_cons, List.take_zero, List.drop_succ_cons, List.drop_zero]
        apply chain_eq (D := [(9, none)]) rfl (by kernel_rfl)
        · intro ρ W ⟨p1, p2, p3⟩ hG hF K hK; (try simp [FactsD] at hF); have ⟨hc, hf, hz⟩ := bcell (Gr.tr (Gr.drew _) hG); go_simp; exact hK _ (gives_val)
        apply chain_eq (D := [(28, some 0)]) rfl (by kernel_rfl)
        · intro ρ W ⟨p1, p2, p3⟩ hG hF K hK; (try simp [FactsD] at hF); have ⟨hc, hf, hz⟩ := bcell (Gr.tr (Gr.drew _) hG); go_simp; exact hK _ (gives_val)
        apply chain_eq (D := [(1, none)]) rfl (by kernel_rfl)
        · intro ρ W ⟨p1, p2, p3⟩ hG hF K hK; (try simp [FactsD] at hF); have ⟨hc, hf, hz⟩ := bcell (Gr.tr (Gr.drew _) hG); go_simp; exact hK _ (gives_val)
        apply chain_eq (D := [(30, some 0)]) rfl (by kernel_rfl)
        · intro ρ W ⟨p1, p2, p3⟩ hG hF K hK; (try simp [FactsD] at hF); have ⟨hc, hf, hz⟩ := bcell (Gr.tr (Gr.drew _) hG); go_simp; exact hK _ (gives_val)
        apply chain_eq (D := [(6, none)]) rfl (by kernel_rfl)
        · intro ρ W ⟨p1, p2, p3⟩ hG hF K hK; (try simp [FactsD] at hF); have ⟨hc, hf, hz⟩ := bcell (Gr.tr (Gr.drew _) hG); go_simp; exact hK _ (gives_val)
        apply chain_eq (D := [(31, some 1), (32, some 0)]) rfl (by kernel_rfl)
        · intro ρ W ⟨p1, p2, p3⟩ hG hF K hK; (try simp [FactsD] at hF); have ⟨hc, hf, hz⟩ := bcell (Gr.tr (Gr.drew _) hG); go_simp; exact hK _ (gives_val)
        apply chain_eq (D := [(33, some 0)]) rfl (by kernel_rfl)
        · intro ρ W ⟨p1, p2, p3⟩ hG hF K hK; (try simp [FactsD] at hF); have ⟨hc, hf, hz⟩ := bcell (Gr.tr (Gr.drew _) hG); go_simp; exact hK _ (gives_val)
        apply chain_eq (D := [(1, none)]) rfl (by kernel_rfl)
        · intro ρ W ⟨p1, p2, p3⟩ hG hF K hK; (try simp [FactsD] at hF); have ⟨hc, hf, hz⟩ := bcell (Gr.tr (Gr.drew _) hG); go_simp; exact hK _ (gives_val)
        apply chain_eq (D := [(35, some 0)]) rfl (by kernel_rfl)
        · intro ρ W ⟨p1, p2, p3⟩ hG hF K hK; (try simp [FactsD] at hF); have ⟨hc, hf, hz⟩ := bcell (Gr.tr (Gr.drew _) hG); go_simp; exact hK _ (gives_val)
        apply chain_eq (D := [(7, none)]) rfl (by kernel_rfl)
        · intro ρ W ⟨p1, p2, p3⟩ hG hF K hK; (try simp [FactsD] at hF); have ⟨hc, hf, hz⟩ := bcell (Gr.tr (Gr.drew _) hG); go_simp; exact hK _ (gives_val)
        apply chain_eq (D := [(36, some 1), (37, some 0)]) rfl (by kernel_rfl)
        · intro ρ W ⟨p1, p2, p3⟩ hG hF K hK; (try simp [FactsD] at hF); have ⟨hc, hf, hz⟩ := bcell (Gr.tr (Gr.drew _) hG); go_simp; exact hK _ (gives_val)
        apply chain_eq (D := [(38, some 0)]) rfl (by kernel_rfl)
        · intro ρ W ⟨p1, p2, p3⟩ hG hF K hK; (try simp [FactsD] at hF); have ⟨hc, hf, hz⟩ := bcell (Gr.tr (Gr.drew _) hG); go_simp; exact hK _ (gives_val)
        apply chain_eq (D := [(29, some 10), (34, some 5), (39, some 0)]) rfl (by kernel_rfl)
        · intro ρ W ⟨p1, p2, p3⟩ hG hF K hK; (try simp [FactsD] at hF); have ⟨hc, hf, hz⟩ := bcell (Gr.tr (Gr.drew _) hG); go_simp; exact hK _ (gives_call (HT2.out _ (HG5.out.tr (Gr.tr (Gr.drew _) hG))))
        apply chain_eq (D := [(40, some 0)]) rfl (by kernel_rfl)
        · intro ρ W ⟨p1, p2, p3⟩ hG hF K hK; (try simp [FactsD] at hF); have ⟨hc, hf, hz⟩ := bcell (Gr.tr (Gr.drew _) hG); go_simp; exact hK _ (gives_val)
        apply chain_eq (D := [(40, some 1)]) rfl (by kernel_rfl)
        · intro ρ W ⟨p1, p2, p3⟩ hG hF K hK; (try simp [FactsD] at hF); have ⟨hc, hf, hz⟩ := bcell (Gr.tr (Gr.drew _) hG); go_simp; exact hK _ (gives_val)
        apply chain_eq (D := [(41, some 1), (42, some 0)]) rfl (by kernel_rfl)
        · intro ρ W ⟨p1, p2, p3⟩ hG hF K hK; (try simp [FactsD] at hF); have ⟨hc, hf, hz⟩ := bcell (Gr.tr (Gr.drew _) hG); go_simp; exact hK _ (gives_call (HOV2.out _))
        apply chain_eq (D := [(43, some 0)]) rfl (by kernel_rfl)
        · intro ρ W ⟨p1, p2, p3⟩ hG hF K hK; (try simp [FactsD] at hF); have ⟨hc, hf, hz⟩ := bcell (Gr.tr (Gr.drew _) hG); go_simp; exact hK _ (gives_call (HEM2.out _))
        refine chain_done ?_
        intro vs W hG hV
        obtain ⟨e16, -⟩ := hV
        simp only [Nat.reduceSub] at e16
        simp only [lay, Act.put, List.getElem?_toArray, List.getElem?_cons_succ, List.getElem?_cons_zero, Option.bind_some, List.setIfInBounds_toArray, List.set_cons_succ, List.set_cons_zero]
        generalize vs 0 = v0
        generalize vs 1 = v1
        generalize vs 2 = v2
        generalize vs 3 = v3
        generalize vs 4 = v4
        generalize vs 5 = v5
        generalize vs 6 = v6
        generalize vs 7 = v7
        generalize vs 8 = v8
        generalize vs 9 = v9
        generalize vs 10 = v10
        generalize vs 11 = v11
        generalize vs 12 = v12
        generalize vs 13 = v13
        generalize vs 14 = v14
        generalize vs 15 = v15
        generalize vs 16 = v16 at *
        subst e16
        obtain ⟨hc, hf, hz⟩ := bcell hG
        have HG6 := Lib.hid (HG5.out.tr hG)
        clear hG
        go_wp2_with fail
        gi_wp2_with fail
        have hno : r.fitm x.i x.j = false := by rw [HFM.out, HFT.out]; rfl
        refine ⟨(keepsO HG6.out).from _, KeepAt.of HG6.out, ⟨HR.out.grow HG6.out, HZ.out.grow HG6.out, ?_, H5.out.grow HG6.out, HA.out.grow HG6.out, HL.out.grow HG6.out, bgr HBW.out HBW.out.size HG6.out⟩⟩
        rw [HMP.out, Rr.fitTo_no hno]
        exact H4.out.grow HG6.out
      | false =>
        rw [hd2] at HEM2 HFT
        clear hd2
        refine region2_in 17 ?_ ?_ ?_ ?_ ?_
        · kernel_rfl
        · kernel_rfl
        · kernel_rfl
        · rintro ⟨_, _, h⟩; exact h
        simp only [List.take_succ_cons, List.take_zero, List.drop_succ_cons, List.drop_zero]
        apply chain_eq (D := [(9, none)]) rfl (by kernel_rfl)
        · intro ρ W ⟨p1, p2, p3⟩ hG hF K hK; (try simp [FactsD] at hF); have ⟨hc, hf, hz⟩ := bcell (Gr.tr (Gr.drew _) hG); go_simp; exact hK _ (gives_val)
        apply chain_eq (D := [(28, some 0)]) rfl (by kernel_rfl)
        · intro ρ W ⟨p1, p2, p3⟩ hG hF K hK; (try simp [FactsD] at hF); have ⟨hc, hf, hz⟩ := bcell (Gr.tr (Gr.drew _) hG); go_simp; exact hK _ (gives_val)
        apply chain_eq (D := [(1, none)]) rfl (by kernel_rfl)
        · intro ρ W ⟨p1, p2, p3⟩ hG hF K hK; (try simp [FactsD] at hF); have ⟨hc, hf, hz⟩ := bcell (Gr.tr (Gr.drew _) hG); go_simp; exact hK _ (gives_val)
        apply chain_eq (D := [(30, some 0)]) rfl (by kernel_rfl)
        · intro ρ W ⟨p1, p2, p3⟩ hG hF K hK; (try simp [FactsD] at hF); have ⟨hc, hf, hz⟩ := bcell (Gr.tr (Gr.drew _) hG); go_simp; exact hK _ (gives_val)
        apply chain_eq (D := [(6, none)]) rfl (by kernel_rfl)
        · intro ρ W ⟨p1, p2, p3⟩ hG hF K hK; (try simp [FactsD] at hF); have ⟨hc, hf, hz⟩ := bcell (Gr.tr (Gr.drew _) hG); go_simp; exact hK _ (gives_val)
        apply chain_eq (D := [(31, some 1), (32, some 0)]) rfl (by kernel_rfl)
        · intro ρ W ⟨p1, p2, p3⟩ hG hF K hK; (try simp [FactsD] at hF); have ⟨hc, hf, hz⟩ := bcell (Gr.tr (Gr.drew _) hG); go_simp; exact hK _ (gives_val)
        apply chain_eq (D := [(33, some 0)]) rfl (by kernel_rfl)
        · intro ρ W ⟨p1, p2, p3⟩ hG hF K hK; (try simp [FactsD] at hF); have ⟨hc, hf, hz⟩ := bcell (Gr.tr (Gr.drew _) hG); go_simp; exact hK _ (gives_val)
        apply chain_eq (D := [(1, none)]) rfl (by kernel_rfl)
        · intro ρ W ⟨p1, p2, p3⟩ hG hF K hK; (try simp [FactsD] at hF); have ⟨hc, hf, hz⟩ := bcell (Gr.tr (Gr.drew _) hG); go_simp; exact hK _ (gives_val)
        apply chain_eq (D := [(35, some 0)]) rfl (by kernel_rfl)
        · intro ρ W ⟨p1, p2, p3⟩ hG hF K hK; (try simp [FactsD] at hF); have ⟨hc, hf, hz⟩ := bcell (Gr.tr (Gr.drew _) hG); go_simp; exact hK _ (gives_val)
        apply chain_eq (D := [(7, none)]) rfl (by kernel_rfl)
        · intro ρ W ⟨p1, p2, p3⟩ hG hF K hK; (try simp [FactsD] at hF); have ⟨hc, hf, hz⟩ := bcell (Gr.tr (Gr.drew _) hG); go_simp; exact hK _ (gives_val)
        apply chain_eq (D := [(36, some 1), (37, some 0)]) rfl (by kernel_rfl)
        · intro ρ W ⟨p1, p2, p3⟩ hG hF K hK; (try simp [FactsD] at hF); have ⟨hc, hf, hz⟩ := bcell (Gr.tr (Gr.drew _) hG); go_simp; exact hK _ (gives_val)
        apply chain_eq (D := [(38, some 0)]) rfl (by kernel_rfl)
        · intro ρ W ⟨p1, p2, p3⟩ hG hF K hK; (try simp [FactsD] at hF); have ⟨hc, hf, hz⟩ := bcell (Gr.tr (Gr.drew _) hG); go_simp; exact hK _ (gives_val)
        apply chain_eq (D := [(29, some 10), (34, some 5), (39, some 0)]) rfl (by kernel_rfl)
        · intro ρ W ⟨p1, p2, p3⟩ hG hF K hK; (try simp [FactsD] at hF); have ⟨hc, hf, hz⟩ := bcell (Gr.tr (Gr.drew _) hG); go_simp; exact hK _ (gives_call (HT2.out _ (HG5.out.tr (Gr.tr (Gr.drew _) hG))))
        apply chain_eq (D := [(40, some 0)]) rfl (by kernel_rfl)
        · intro ρ W ⟨p1, p2, p3⟩ hG hF K hK; (try simp [FactsD] at hF); have ⟨hc, hf, hz⟩ := bcell (Gr.tr (Gr.drew _) hG); go_simp; exact hK _ (gives_val)
        apply chain_eq (D := [(40, some 1)]) rfl (by kernel_rfl)
        · intro ρ W ⟨p1, p2, p3⟩ hG hF K hK; (try simp [FactsD] at hF); have ⟨hc, hf, hz⟩ := bcell (Gr.tr (Gr.drew _) hG); go_simp; exact hK _ (gives_val)
        apply chain_eq (D := [(41, some 1), (42, some 0)]) rfl (by kernel_rfl)
        · intro ρ W ⟨p1, p2, p3⟩ hG hF K hK; (try simp [FactsD] at hF); have ⟨hc, hf, hz⟩ := bcell (Gr.tr (Gr.drew _) hG); go_simp; exact hK _ (gives_call (HOV2.out _))
        apply chain_eq (D := [(43, some 0)]) rfl (by kernel_rfl)
        · intro ρ W ⟨p1, p2, p3⟩ hG hF K hK; (try simp [FactsD] at hF); have ⟨hc, hf, hz⟩ := bcell (Gr.tr (Gr.drew _) hG); go_simp; exact hK _ (gives_call (HEM2.out _))
        refine chain_done ?_
        intro vs W hG hV
        obtain ⟨e16, -⟩ := hV
        simp only [Nat.reduceSub] at e16
        simp only [lay, Act.put, List.getElem?_toArray, List.getElem?_cons_succ, List.getElem?_cons_zero, Option.bind_some, List.setIfInBounds_toArray, List.set_cons_succ, List.set_cons_zero]
        generalize vs 0 = v0
        generalize vs 1 = v1
        generalize vs 2 = v2
        generalize vs 3 = v3
        generalize vs 4 = v4
        generalize vs 5 = v5
        generalize vs 6 = v6
        generalize vs 7 = v7
        generalize vs 8 = v8
        generalize vs 9 = v9
        generalize vs 10 = v10
        generalize vs 11 = v11
        generalize vs 12 = v12
        generalize vs 13 = v13
        generalize vs 14 = v14
        generalize vs 15 = v15
        generalize vs 16 = v16 at *
        subst e16
        obtain ⟨hc, hf, hz⟩ := bcell hG
        have HG6 := Lib.hid (HG5.out.tr hG)
        clear hG u0 u1 ul t0 p0 p1 p2 p3 q0 q1 q2 q3 hbLq hbRq hc hf hz hw9
        have H4g := Lib.hid (H4.out.grow HG6.out)
        have hx10 : x.i < 10 := by omega
        have hy10 : x.j < 10 := by omega
        have k1 : (x.i : Int) < 10 := by omega
        have k1' : decide ((x.i : Int) < 10) = true := by simp; omega
        have k1'' : decide (x.i < 10) = true := by simp; omega
        have k2 : (x.j : Int) < 10 := by omega
        have k2' : decide ((x.j : Int) < 10) = true := by simp; omega
        have k2'' : decide (x.j < 10) = true := by simp; omega
        have e6 : 5 + x.i * 10 + x.j = 5 + (10 * x.i + x.j) := by omega
        have c4 := H4g.out.cell (Lk.fit_at _ hx10 hy10)
        have f4 := H4g.out.free (i := 5 + (10 * x.i + x.j))
        have l4 := H4g.out.lt
        go_wp2_with fail
        gi_wp2_with fail
        rw [roundsIn_succ]
        gi_wp2_with fail
        have hyes : r.fitm x.i x.j = true := by rw [HFM.out, HFT.out]; rfl
        have ho := Only.set W (b := b4) (5 + (10 * x.i + x.j)) (.bool true)
        have hset := (r.lk_fit (r.fitTo (pre.map Gp.p)) (fun _ => 0) x.i x.j hx10 hy10)
        rw [Rr.fitTo_yes hyes, ← HMP.out] at hset
        refine ⟨((keepsO HG6.out).trans (KeepsOthers.setCell _ _ _)).from _, (KeepAt.of HG6.out).trans (KeepAt.set _ _ _ _ (by simp; omega)), ⟨ho.box (HR.out.grow HG6.out) (by omega), ho.box (HZ.out.grow HG6.out) (by omega), ?_, ho.box (H5.out.grow HG6.out) (Ne.symm n1), ho.box (HA.out.grow HG6.out) (Ne.symm n2), ho.box (HL.out.grow HG6.out) (Ne.symm n3), (bgr HBW.out HBW.out.size HG6.out).setCell (by show w.heap.size ≤ b4; omega) _⟩⟩
        rw [← hset]
        exact H4g.out.put _ _
  case done =>
    rintro D ys W hD hys ⟨hR, hZ, h4, h5, hA, hL, hBW⟩ hK
    rw [hys, r.fitTo_all] at h4
    have HZ := Lib.hid hZ
    have H4 := Lib.hid h4
    have HBW := Lib.hid hBW
    have HKD := Lib.hid hK
    have hlk := (r.lk r.fitm (fun _ => 0)).cs_len
    have hlk2 := (r.lk r.fitm (allM r.fitm r.L.length r.R.length)).cs_len
    have hzl := Lk.zero.cs_len
    have HCH := Lib.hid (fun W => show Calls Try.prog 95 #[.agg (r.lk r.fitm (fun _ => 0)).cs.toArray] W (fun e w' => e = .returned (.agg (opts (allM r.fitm r.L.length r.R.length)).toArray) ∧ Below W.heap.size W w') from choose_any (r.lk r.fitm (fun _ => 0)) W hlL hlR)
    have h4s := h4.lt
    have hDs : D < W.heap.size := (Array.getElem?_eq_some_iff.1 hK).1
    have hDb : D ≠ b4 := by omega
    have hDz : D ≠ w.heap.size + 1 := by omega
    have HAL := Lib.hid (r.lk_all r.fitm (fun _ => 0) (allM r.fitm r.L.length r.R.length))
    have hal : (opts (allM r.fitm r.L.length r.R.length)).length = 10 := opts_len _
    clear hR hZ h4 h5 hA hL hBW hK hys
    go_wp2_with (first
      | (with_reducible refine wpList_stopLoad (ty := 85) rfl ?_; unfold Stop; refine wpList_loadBox row85 hlk H4.out rfl rfl rfl ?_)
      | (go_at_call 95; refine (HCH.out _).mono ?_; rintro e w5 ⟨rfl, hb5⟩; have HG5 := Lib.hid (show Gr W w5 from hb5); have H45 := Lib.hid (H4.out.grow hb5); clear hb5)
      | (with_reducible refine wpList_stopStore (ty := 83) rfl ?_; unfold Stop; refine wpList_storePart (us := opts (allM r.fitm r.L.length r.R.length)) (o := 105) row83 hal (by rw [hlk]; omega) (opts_one _) H45.out rfl rfl rfl rfl ?_; intro w6 hb6 ho6; have HO6 := Lib.hid ho6; have H46 := Lib.hid (show Box w6 b4 (r.lk r.fitm (allM r.fitm r.L.length r.R.length)).cs 85 by rw [← HAL.out, hal]; exact hb6); have HZ6 := Lib.hid (ho6.box (HZ.out.grow HG5.out) (by omega)); clear hb6 ho6)
      | (with_reducible refine wpList_stopLoad (ty := 85) rfl ?_; unfold Stop; refine wpList_loadBox row85 hlk2 H46.out rfl rfl rfl ?_)
      | (with_reducible refine wpList_stopStore (ty := 85) rfl ?_; unfold Stop; refine wpList_storeBox row85 hlk2 hzl (lk_one _) HZ6.out rfl rfl rfl rfl ?_)
      | go_step3)
    have hO7 := Only.row w6 (w.heap.size + 1) (r.lk r.fitm (allM r.fitm r.L.length r.R.length)).cs.toArray
    have hK6 := (HO6.out.keep D hDb (by have := HG5.out.size; omega)).trans ((HG5.out.block D hDs).trans HKD.out)
    have hK7 := (hO7.keep D hDz (Array.getElem?_eq_some_iff.1 hK6).1).trans hK6
    have hR7 := (HZ6.out.row (vs := (r.lk r.fitm (allM r.fitm r.L.length r.R.length)).cs)).own' (grownBy_putObj' _ D (.deferred none)) (fun r e => by cases e; exact ⟨_, hK7, rfl⟩)
    rw [Exit.noGoto_ret]
    refine ⟨by simp, .inl ⟨_, _, rfl, run_takeDeferred hK7, ?_⟩⟩
    refine ⟨.tuple #[.agg (r.lk r.fitm (allM r.fitm r.L.length r.R.length)).cs.toArray, .int .i64 0], results_pair85 hR7 rfl rfl hlk2 rfl, rfl, ?_⟩
    exact (below_setRow ((bgr HBW.out HBW.out.size HG5.out).trans (Below.mono HO6.out.low (by omega))) (by omega) _).trans (belowK_b (w := w) (Nat.le_refl _) _ D _ _ (by omega) hK7 rfl rfl)
  case stop =>
    rintro D c pre W _ _ h _
    exact h.elim

end Go.Proofs.Ytjlaoiimbhlafaa
end
section
namespace Go.Proofs.Ytjlaoiimbhlafaa
open Go.RowKit Go.Shelf

open MW
attribute [local go_sem] Oper.semAt_some run_store_func
/-- Valid rows that are looked at. -/
def Rr.lkd (r : Rr) : Lk := r.lk r.fitm (allM r.fitm r.L.length r.R.length)
theorem Rr.ok_parts {r : Rr} (h : r.ok = true) : r.L.length ≤ 10 ∧ r.R.length ≤ 10 ∧ (∀ m ∈ r.L, m.ok = true) ∧ (∀ m ∈ r.R, m.ok = true) ∧ (r.s ≤ r.t ∧ -65536 ≤ r.s ∧ r.t ≤ 65536) ∧ 0 ≤ r.h ∧ r.h ≤ 20 := by
  unfold Rr.ok okRow okS at h
  simp only [Bool.and_eq_true, decide_eq_true_eq, List.all_eq_true] at h
  obtain ⟨⟨⟨⟨⟨h1, h2⟩, h3, h4⟩, h5, h6, h7⟩, h8⟩, h9⟩ := h
  exact ⟨h1, h3, h2, h4, ⟨h5, h6, h7⟩, h8, h9⟩
theorem allM_lt (f : Nat → Nat → Bool) {nL nR : Nat} (hR : nR ≤ 10) (i : Nat) : allM f nL nR i < 2048 := by
  unfold allM
  split
  · refine Nat.or_lt_two_pow (n := 11) (by decide) (Nat.lt_of_lt_of_le (gat_lt _ _) (Nat.pow_le_pow_right (by omega) (by omega)))
  · omega
theorem allM_bit (f : Nat → Nat → Bool) {nL nR i : Nat} (hi : i < nL) (j : Nat) : (allM f nL nR i).testBit j = (decide (j = 10) || (decide (j < nR) && f i j)) := by
  unfold allM
  rw [if_pos hi, Nat.testBit_or, Nat.testBit_two_pow, gat_bit]
  congr 1
  rw [decide_eq_decide]
  exact ⟨fun e => e.symm, fun e => e.symm⟩
theorem Rr.lkd_ok {r : Rr} (h : r.ok = true) : r.lkd.Ok := by
  obtain ⟨h1, h2, -, -, -, h3, h4⟩ := Rr.ok_parts h
  refine ⟨h1, h2, ⟨h3, h4⟩, fun i => allM_lt _ h2 i, fun i hi j hj hj' => ?_⟩
  show (allM r.fitm r.L.length r.R.length i).testBit j = false
  rw [allM_bit (nL := r.L.length) (nR := r.R.length) r.fitm (show i < r.L.length from hi)]
  have hj2 : r.R.length ≤ j := hj
  have e1 : decide (j = 10) = false := by simp; omega
  have e2 : decide (j < r.R.length) = false := by simp; omega
  rw [e1, e2]
  rfl
/-- What is told of rows that are looked at. -/
def Rr.looked (r : Rr) : Lk × Int := if r.ok then (r.lkd, 0) else (Lk.zero, 1)
theorem look_any (r : Rr) (w : World) (hl : MksAt r.L r.lp w) (hr : MksAt r.R r.rp w) :
    Calls Try.prog 48 #[r.val] w fun e w' => e = .returned (.tuple #[.agg r.looked.1.cs.toArray, .int .i64 r.looked.2]) ∧ Below w.heap.size w w' := by
  unfold Rr.looked
  cases h : r.ok with
  | true =>
    obtain ⟨h1, h2, h3, h4, -⟩ := Rr.ok_parts h
    exact look_ok r w hl hr h h1 h2 (fun m hm => Mrk.in_of_ok (h3 m hm)) (fun m hm => Mrk.in_of_ok (h4 m hm))
  | false => exact look_no r w hl hr h
/-- What is told of rows whose ways are asked about, and some left mark. -/
def Rr.asked (r : Rr) (marks : Bool) : Lk × Int := if r.ok then (if marks then (if r.lkd.all0 = 0 then (Lk.zero, 4) else (r.lkd, 0)) else (Lk.zero, 2)) else (Lk.zero, 1)
set_option maxRecDepth 100000 in
set_option maxHeartbeats 1000000 in
theorem asks_no (r : Rr) (w : World) (hl : MksAt r.L r.lp w) (hr : MksAt r.R r.rp w) (hok : r.ok = false) :
    Calls Try.prog 54 #[r.val, .slice none 0 0] w fun e w' => e = .returned (.tuple #[.agg Lk.zero.cs.toArray, .int .i64 1]) ∧ Below w.heap.size w w' := by
  have hzl := Lk.zero.cs_len
  have HBZ := Lib.hid built85z
  have HR0 := Lib.hid ((Box.fresh w r.cs 26).grow (Gr.alloc _ (Obj.cells Lk.zero.cs.toArray 85)))
  have HZ0 := Lib.hid (show Box ((w.alloc (Obj.cells r.cs.toArray 26)).alloc (Obj.cells Lk.zero.cs.toArray 85)) (w.heap.size + 1) Lk.zero.cs 85 by
    have := Box.fresh (w.alloc (Obj.cells r.cs.toArray 26)) Lk.zero.cs 85
    simpa using this)
  have HLK := Lib.hid (fun W (hg : Gr w W) => look_any r W (hl.grow hg) (hr.grow hg))
  unfold Rr.cs at HR0 HZ0
  unfold Rr.val at *
  have e0 : r.looked = (Lk.zero, 1) := by unfold Rr.looked; rw [hok]; rfl
  rw [e0] at HLK
  clear hl hr e0
  dsimp only at HLK
  go_enter Try.func54, Try.ntmps54
  go_wp2_with (first | (with_reducible refine wpList_stopAlloc (ty := 85) rfl ?_; unfold Stop; refine wpList_alloc85 rfl rfl ?_) | (go_at_call 48; refine (HLK.out _ ((Gr.alloc _ _).tr (Gr.alloc _ _))).mono ?_; rintro e w1 ⟨rfl, hb1⟩; have HG1 := Lib.hid (show Gr _ w1 from hb1); have HR1 := Lib.hid (HR0.out.grow hb1); have HZ1 := Lib.hid (HZ0.out.grow hb1); have HT := Lib.hid (Box.fresh w1 Lk.zero.cs 85); have zl1 := HZ1.out.lt; clear hb1 HR0 HZ0) | (with_reducible refine wpList_stopStore (ty := 85) rfl ?_; unfold Stop; refine wpList_storeBox row85 hzl hzl (lk_one _) HT.out rfl rfl rfl rfl ?_; have HT2 := Lib.hid (show Box ((w1.alloc (Obj.cells Lk.zero.cs.toArray 85)).setRow w1.heap.size Lk.zero.cs.toArray) w1.heap.size Lk.zero.cs 85 from HT.out.row (vs := Lk.zero.cs)); have HG2 := Lib.hid (show Gr w1 ((w1.alloc (Obj.cells Lk.zero.cs.toArray 85)).setRow w1.heap.size Lk.zero.cs.toArray) from Gr.row_new w1 _ _ _); generalize (w1.alloc (Obj.cells Lk.zero.cs.toArray 85)).setRow w1.heap.size Lk.zero.cs.toArray = w2 at *; have HR2 := Lib.hid (HR1.out.grow HG2.out); have HZ2 := Lib.hid (HZ1.out.grow HG2.out); obtain ⟨r0, r1, r2, r3, r4⟩ := cells5 HR2.out; have rl := HR2.out.lt; clear HR1 HZ1 HT) | (with_reducible refine wpList_stopBuild (ty := 85) rfl ?_; unfold Stop; refine wpList_buildRow HBZ.out rfl rfl (by simp [Act.eval]) ?_) | (with_reducible refine wpList_stopStore (ty := 85) rfl ?_; unfold Stop; refine wpList_storeBox row85 hzl hzl (lk_one _) HZ2.out rfl rfl rfl rfl ?_))
  exact bodyPost_ret (v := .tuple #[.agg Lk.zero.cs.toArray, .int .i64 1]) (results_pair85 (HZ2.out.row (vs := Lk.zero.cs)) rfl rfl hzl rfl) rfl ⟨rfl, below_setRow (bgr (bgr (((Below.refl _ _).alloc (by first | (simp; done) | (simp; omega) | omega) _).alloc (by first | (simp; done) | (simp; omega) | omega) _) (by first | (simp; done) | (simp; omega) | omega) HG1.out) (by first | (simp; done) | (simp; omega) | omega) HG2.out) (by first | (simp; done) | (simp; omega) | omega) _⟩
set_option maxRecDepth 100000 in
set_option maxHeartbeats 1000000 in
theorem asks_noL (r : Rr) (bs : Nat) (w : World) (hl : MksAt r.L r.lp w) (hr : MksAt r.R r.rp w) (hok : r.ok = false) :
    Calls Try.prog 54 #[r.val, .slice (some ⟨bs, 0, none⟩) 1 1] w fun e w' => e = .returned (.tuple #[.agg Lk.zero.cs.toArray, .int .i64 1]) ∧ Below w.heap.size w w' := by
  have hzl := Lk.zero.cs_len
  have HBZ := Lib.hid built85z
  have HR0 := Lib.hid ((Box.fresh w r.cs 26).grow (Gr.alloc _ (Obj.cells Lk.zero.cs.toArray 85)))
  have HZ0 := Lib.hid (show Box ((w.alloc (Obj.cells r.cs.toArray 26)).alloc (Obj.cells Lk.zero.cs.toArray 85)) (w.heap.size + 1) Lk.zero.cs 85 by
    have := Box.fresh (w.alloc (Obj.cells r.cs.toArray 26)) Lk.zero.cs 85
    simpa using this)
  have HLK := Lib.hid (fun W (hg : Gr w W) => look_any r W (hl.grow hg) (hr.grow hg))
  unfold Rr.cs at HR0 HZ0
  unfold Rr.val at *
  have e0 : r.looked = (Lk.zero, 1) := by unfold Rr.looked; rw [hok]; rfl
  rw [e0] at HLK
  clear hl hr e0
  dsimp only at HLK
  go_enter Try.func54, Try.ntmps54
  go_wp2_with (first | (with_reducible refine wpList_stopAlloc (ty := 85) rfl ?_; unfold Stop; refine wpList_alloc85 rfl rfl ?_) | (go_at_call 48; refine (HLK.out _ ((Gr.alloc _ _).tr (Gr.alloc _ _))).mono ?_; rintro e w1 ⟨rfl, hb1⟩; have HG1 := Lib.hid (show Gr _ w1 from hb1); have HR1 := Lib.hid (HR0.out.grow hb1); have HZ1 := Lib.hid (HZ0.out.grow hb1); have HT := Lib.hid (Box.fresh w1 Lk.zero.cs 85); have zl1 := HZ1.out.lt; clear hb1 HR0 HZ0) | (with_reducible refine wpList_stopStore (ty := 85) rfl ?_; unfold Stop; refine wpList_storeBox row85 hzl hzl (lk_one _) HT.out rfl rfl rfl rfl ?_; have HT2 := Lib.hid (show Box ((w1.alloc (Obj.cells Lk.zero.cs.toArray 85)).setRow w1.heap.size Lk.zero.cs.toArray) w1.heap.size Lk.zero.cs 85 from HT.out.row (vs := Lk.zero.cs)); have HG2 := Lib.hid (show Gr w1 ((w1.alloc (Obj.cells Lk.zero.cs.toArray 85)).setRow w1.heap.size Lk.zero.cs.toArray) from Gr.row_new w1 _ _ _); generalize (w1.alloc (Obj.cells Lk.zero.cs.toArray 85)).setRow w1.heap.size Lk.zero.cs.toArray = w2 at *; have HR2 := Lib.hid (HR1.out.grow HG2.out); have HZ2 := Lib.hid (HZ1.out.grow HG2.out); obtain ⟨r0, r1, r2, r3, r4⟩ := cells5 HR2.out; have rl := HR2.out.lt; clear HR1 HZ1 HT) | (with_reducible refine wpList_stopBuild (ty := 85) rfl ?_; unfold Stop; refine wpList_buildRow HBZ.out rfl rfl (by simp [Act.eval]) ?_) | (with_reducible refine wpList_stopStore (ty := 85) rfl ?_; unfold Stop; refine wpList_storeBox row85 hzl hzl (lk_one _) HZ2.out rfl rfl rfl rfl ?_))
  exact bodyPost_ret (v := .tuple #[.agg Lk.zero.cs.toArray, .int .i64 1]) (results_pair85 (HZ2.out.row (vs := Lk.zero.cs)) rfl rfl hzl rfl) rfl ⟨rfl, below_setRow (bgr (bgr (((Below.refl _ _).alloc (by first | (simp; done) | (simp; omega) | omega) _).alloc (by first | (simp; done) | (simp; omega) | omega) _) (by first | (simp; done) | (simp; omega) | omega) HG1.out) (by first | (simp; done) | (simp; omega) | omega) HG2.out) (by first | (simp; done) | (simp; omega) | omega) _⟩
set_option maxRecDepth 100000 in
set_option maxHeartbeats 1000000 in
theorem asks_rangeL (r : Rr) (bs : Nat) (i : Int) (T0 : TypeId) (w : World) (hl : MksAt r.L r.lp w) (hr : MksAt r.R r.rp w) (hok : r.ok = true) (hbs : Box w bs [.int .i64 i] T0) (hm : (decide (0 ≤ i) && decide (i < r.L.length)) = false) :
    Calls Try.prog 54 #[r.val, .slice (some ⟨bs, 0, none⟩) 1 1] w fun e w' => e = .returned (.tuple #[.agg Lk.zero.cs.toArray, .int .i64 2]) ∧ Below w.heap.size w w' := by
  have hzl := Lk.zero.cs_len
  have HBZ := Lib.hid built85z
  have HR0 := Lib.hid ((Box.fresh w r.cs 26).grow (Gr.alloc _ (Obj.cells Lk.zero.cs.toArray 85)))
  have HZ0 := Lib.hid (show Box ((w.alloc (Obj.cells r.cs.toArray 26)).alloc (Obj.cells Lk.zero.cs.toArray 85)) (w.heap.size + 1) Lk.zero.cs 85 by
    have := Box.fresh (w.alloc (Obj.cells r.cs.toArray 26)) Lk.zero.cs 85
    simpa using this)
  have HLK := Lib.hid (fun W (hg : Gr w W) => look_any r W (hl.grow hg) (hr.grow hg))
  unfold Rr.cs at HR0 HZ0
  unfold Rr.val at *
  have e0 : r.looked = (r.lkd, 0) := by unfold Rr.looked; rw [hok]; rfl
  rw [e0] at HLK
  have HOK := Lib.hid (Rr.lkd_ok hok)
  have hkl := r.lkd.cs_len
  have HC := Lib.hid (fun W => count_any r.lkd r.lkd.all HOK.out.m HOK.out.r HOK.out.nL HOK.out.nR HOK.out.h W)
  have hc0 : r.lkd.wy r.lkd.all 0 0 r.lkd.h = r.lkd.all0 := rfl
  rw [hc0] at HC
  have HBS := Lib.hid hbs
  have HIM := Lib.hid (fun p c W => isMark_any i p r.L.length c W)
  rw [hm] at HIM
  clear hl hr e0 hc0 hbs
  dsimp only at HLK
  go_enter Try.func54, Try.ntmps54
  go_wp2_with (first | (with_reducible refine wpList_stopAlloc (ty := 85) rfl ?_; unfold Stop; refine wpList_alloc85 rfl rfl ?_) | (go_at_call 48; refine (HLK.out _ ((Gr.alloc _ _).tr (Gr.alloc _ _))).mono ?_; rintro e w1 ⟨rfl, hb1⟩; have HG1 := Lib.hid (show Gr _ w1 from hb1); have HR1 := Lib.hid (HR0.out.grow hb1); have HZ1 := Lib.hid (HZ0.out.grow hb1); have HT := Lib.hid (Box.fresh w1 Lk.zero.cs 85); have zl1 := HZ1.out.lt; clear hb1 HR0 HZ0) | (with_reducible refine wpList_stopStore (ty := 85) rfl ?_; unfold Stop; refine wpList_storeBox row85 hkl hzl (lk_one _) HT.out rfl rfl rfl rfl ?_; have HT2 := Lib.hid (show Box ((w1.alloc (Obj.cells Lk.zero.cs.toArray 85)).setRow w1.heap.size r.lkd.cs.toArray) w1.heap.size r.lkd.cs 85 from HT.out.row (vs := r.lkd.cs)); have HG2 := Lib.hid (show Gr w1 ((w1.alloc (Obj.cells Lk.zero.cs.toArray 85)).setRow w1.heap.size r.lkd.cs.toArray) from Gr.row_new w1 _ _ _); generalize (w1.alloc (Obj.cells Lk.zero.cs.toArray 85)).setRow w1.heap.size r.lkd.cs.toArray = w2 at *; have HR2 := Lib.hid (HR1.out.grow HG2.out); have HZ2 := Lib.hid (HZ1.out.grow HG2.out); obtain ⟨r0, r1, r2, r3, r4⟩ := cells5 HR2.out; have rl := HR2.out.lt; clear HR1 HZ1 HT; have bs0 := (HBS.out.grow ((Gr.alloc _ _).tr ((Gr.alloc _ _).tr (Gr.tr HG1.out HG2.out)))).cell (i := 0) rfl; have bsl := (HBS.out.grow ((Gr.alloc _ _).tr ((Gr.alloc _ _).tr (Gr.tr HG1.out HG2.out)))).lt) | (with_reducible refine wpList_stopBuild (ty := 85) rfl ?_; unfold Stop; refine wpList_buildRow HBZ.out rfl rfl (by simp [Act.eval]) ?_))
  go_loopw [21] (fun t wr => t = .int .i64 0 ∧ wr = w2) (fun t _ => 0)
  case atStart => exact ⟨rfl, rfl⟩
  case round =>
    obtain ⟨rfl, rfl⟩ := hrel
    go_wp2_with (first | (with_reducible refine wpList_stopAlloc (ty := 85) rfl ?_; unfold Stop; refine wpList_alloc85 rfl rfl ?_) | (go_at_call 48; refine (HLK.out _ ((Gr.alloc _ _).tr (Gr.alloc _ _))).mono ?_; rintro e w1 ⟨rfl, hb1⟩; have HG1 := Lib.hid (show Gr _ w1 from hb1); have HR1 := Lib.hid (HR0.out.grow hb1); have HZ1 := Lib.hid (HZ0.out.grow hb1); have HT := Lib.hid (Box.fresh w1 Lk.zero.cs 85); have zl1 := HZ1.out.lt; clear hb1 HR0 HZ0) | (with_reducible refine wpList_stopStore (ty := 85) rfl ?_; unfold Stop; refine wpList_storeBox row85 hkl hzl (lk_one _) HT.out rfl rfl rfl rfl ?_; have HT2 := Lib.hid (show Box ((w1.alloc (Obj.cells Lk.zero.cs.toArray 85)).setRow w1.heap.size r.lkd.cs.toArray) w1.heap.size r.lkd.cs 85 from HT.out.row (vs := r.lkd.cs)); have HG2 := Lib.hid (show Gr w1 ((w1.alloc (Obj.cells Lk.zero.cs.toArray 85)).setRow w1.heap.size r.lkd.cs.toArray) from Gr.row_new w1 _ _ _); generalize (w1.alloc (Obj.cells Lk.zero.cs.toArray 85)).setRow w1.heap.size r.lkd.cs.toArray = w2 at *; have HR2 := Lib.hid (HR1.out.grow HG2.out); have HZ2 := Lib.hid (HZ1.out.grow HG2.out); obtain ⟨r0, r1, r2, r3, r4⟩ := cells5 HR2.out; have rl := HR2.out.lt; clear HR1 HZ1 HT; have bs0 := (HBS.out.grow ((Gr.alloc _ _).tr ((Gr.alloc _ _).tr (Gr.tr HG1.out HG2.out)))).cell (i := 0) rfl; have bsl := (HBS.out.grow ((Gr.alloc _ _).tr ((Gr.alloc _ _).tr (Gr.tr HG1.out HG2.out)))).lt) | (with_reducible refine wpList_stopBuild (ty := 85) rfl ?_; unfold Stop; refine wpList_buildRow HBZ.out rfl rfl (by simp [Act.eval]) ?_) | (go_at_call 49; refine (HIM.out _ _ _).mono ?_; rintro e w3 ⟨rfl, hb3⟩; have HG3 := Lib.hid (show Gr _ w3 from hb3); have HT3 := Lib.hid (HT2.out.grow hb3); have HZ3 := Lib.hid (HZ2.out.grow hb3); clear hb3) | (with_reducible refine wpList_stopStore (ty := 85) rfl ?_; unfold Stop; refine wpList_storeBox row85 hzl hzl (lk_one _) HZ3.out rfl rfl rfl rfl ?_))
    exact bodyPost_ret (v := .tuple #[.agg Lk.zero.cs.toArray, .int .i64 2]) (results_pair85 (HZ3.out.row (vs := Lk.zero.cs)) rfl rfl hzl rfl) rfl ⟨rfl, below_setRow (bgr (((Below.refl _ _).alloc (by first | (simp; done) | (simp; omega) | omega) _).alloc (by first | (simp; done) | (simp; omega) | omega) _) (by first | (simp; done) | (simp; omega) | omega) (Gr.tr (Gr.tr HG1.out HG2.out) HG3.out)) (by first | (simp; done) | (simp; omega) | omega) _⟩
set_option maxRecDepth 100000 in
set_option maxHeartbeats 1000000 in
theorem asks_zero (r : Rr) (w : World) (hl : MksAt r.L r.lp w) (hr : MksAt r.R r.rp w) (hok : r.ok = true) (hz : (r.lkd.all0 == 0) = true) :
    Calls Try.prog 54 #[r.val, .slice none 0 0] w fun e w' => e = .returned (.tuple #[.agg Lk.zero.cs.toArray, .int .i64 4]) ∧ Below w.heap.size w w' := by
  have hzl := Lk.zero.cs_len
  have HBZ := Lib.hid built85z
  have HR0 := Lib.hid ((Box.fresh w r.cs 26).grow (Gr.alloc _ (Obj.cells Lk.zero.cs.toArray 85)))
  have HZ0 := Lib.hid (show Box ((w.alloc (Obj.cells r.cs.toArray 26)).alloc (Obj.cells Lk.zero.cs.toArray 85)) (w.heap.size + 1) Lk.zero.cs 85 by
    have := Box.fresh (w.alloc (Obj.cells r.cs.toArray 26)) Lk.zero.cs 85
    simpa using this)
  have HLK := Lib.hid (fun W (hg : Gr w W) => look_any r W (hl.grow hg) (hr.grow hg))
  unfold Rr.cs at HR0 HZ0
  unfold Rr.val at *
  have e0 : r.looked = (r.lkd, 0) := by unfold Rr.looked; rw [hok]; rfl
  rw [e0] at HLK
  have HOK := Lib.hid (Rr.lkd_ok hok)
  have hkl := r.lkd.cs_len
  have HC := Lib.hid (fun W => count_any r.lkd r.lkd.all HOK.out.m HOK.out.r HOK.out.nL HOK.out.nR HOK.out.h W)
  have hc0 : r.lkd.wy r.lkd.all 0 0 r.lkd.h = r.lkd.all0 := rfl
  rw [hc0] at HC
  have hz2 : ((r.lkd.all0 : Int) == 0) = true := by rw [← hz, Bool.eq_iff_iff, beq_iff_eq, beq_iff_eq]; omega
  clear hl hr e0 hc0
  dsimp only at HLK
  go_enter Try.func54, Try.ntmps54
  go_wp2_with (first | (with_reducible refine wpList_stopAlloc (ty := 85) rfl ?_; unfold Stop; refine wpList_alloc85 rfl rfl ?_) | (go_at_call 48; refine (HLK.out _ ((Gr.alloc _ _).tr (Gr.alloc _ _))).mono ?_; rintro e w1 ⟨rfl, hb1⟩; have HG1 := Lib.hid (show Gr _ w1 from hb1); have HR1 := Lib.hid (HR0.out.grow hb1); have HZ1 := Lib.hid (HZ0.out.grow hb1); have HT := Lib.hid (Box.fresh w1 Lk.zero.cs 85); have zl1 := HZ1.out.lt; clear hb1 HR0 HZ0) | (with_reducible refine wpList_stopStore (ty := 85) rfl ?_; unfold Stop; refine wpList_storeBox row85 hkl hzl (lk_one _) HT.out rfl rfl rfl rfl ?_; have HT2 := Lib.hid (show Box ((w1.alloc (Obj.cells Lk.zero.cs.toArray 85)).setRow w1.heap.size r.lkd.cs.toArray) w1.heap.size r.lkd.cs 85 from HT.out.row (vs := r.lkd.cs)); have HG2 := Lib.hid (show Gr w1 ((w1.alloc (Obj.cells Lk.zero.cs.toArray 85)).setRow w1.heap.size r.lkd.cs.toArray) from Gr.row_new w1 _ _ _); generalize (w1.alloc (Obj.cells Lk.zero.cs.toArray 85)).setRow w1.heap.size r.lkd.cs.toArray = w2 at *; have HR2 := Lib.hid (HR1.out.grow HG2.out); have HZ2 := Lib.hid (HZ1.out.grow HG2.out); obtain ⟨r0, r1, r2, r3, r4⟩ := cells5 HR2.out; have rl := HR2.out.lt; clear HR1 HZ1 HT) | (with_reducible refine wpList_stopBuild (ty := 85) rfl ?_; unfold Stop; refine wpList_buildRow HBZ.out rfl rfl (by simp [Act.eval]) ?_))
  go_loopw [21] (fun t wr => t = .int .i64 0 ∧ wr = w2) (fun t _ => 0)
  case atStart => exact ⟨rfl, rfl⟩
  case round =>
    obtain ⟨rfl, rfl⟩ := hrel
    clear r0 r1 r2 r3 r4
    go_wp2_with (first | (with_reducible refine wpList_stopLoad (ty := 85) rfl ?_; unfold Stop; refine wpList_loadBox row85 (r.lkd.cs_len) (HT2.out) rfl rfl rfl ?_) | (with_reducible refine wpList_stopLoad (ty := 83) rfl ?_; unfold Stop; refine wpList_loadPart row83 (opts_len r.lkd.all) (HT2.out) r.lkd.part rfl rfl rfl ?_) | (go_at_call 52; refine (HC.out _).mono ?_; rintro e w4 ⟨rfl, hb4⟩; have HG4 := Lib.hid (show Gr _ w4 from hb4); have HT4 := Lib.hid (HT2.out.grow hb4); have HZ4 := Lib.hid (HZ2.out.grow hb4); clear hb4) | (with_reducible refine wpList_stopStore (ty := 85) rfl ?_; unfold Stop; refine wpList_storeBox row85 hzl hzl (lk_one _) HZ4.out rfl rfl rfl rfl ?_))
    exact bodyPost_ret (v := .tuple #[.agg Lk.zero.cs.toArray, .int .i64 4]) (results_pair85 (HZ4.out.row (vs := Lk.zero.cs)) rfl rfl hzl rfl) rfl ⟨rfl, below_setRow (bgr (((Below.refl _ _).alloc (by first | (simp; done) | (simp; omega) | omega) _).alloc (by first | (simp; done) | (simp; omega) | omega) _) (by first | (simp; done) | (simp; omega) | omega) (Gr.tr (Gr.tr HG1.out HG2.out) HG4.out)) (by first | (simp; done) | (simp; omega) | omega) _⟩
set_option maxRecDepth 100000 in
set_option maxHeartbeats 1000000 in
theorem asks_yes (r : Rr) (w : World) (hl : MksAt r.L r.lp w) (hr : MksAt r.R r.rp w) (hok : r.ok = true) (hz : (r.lkd.all0 == 0) = false) :
    Calls Try.prog 54 #[r.val, .slice none 0 0] w fun e w' => e = .returned (.tuple #[.agg r.lkd.cs.toArray, .int .i64 0]) ∧ Below w.heap.size w w' := by
  have hzl := Lk.zero.cs_len
  have HBZ := Lib.hid built85z
  have HR0 := Lib.hid ((Box.fresh w r.cs 26).grow (Gr.alloc _ (Obj.cells Lk.zero.cs.toArray 85)))
  have HZ0 := Lib.hid (show Box ((w.alloc (Obj.cells r.cs.toArray 26)).alloc (Obj.cells Lk.zero.cs.toArray 85)) (w.heap.size + 1) Lk.zero.cs 85 by
    have := Box.fresh (w.alloc (Obj.cells r.cs.toArray 26)) Lk.zero.cs 85
    simpa using this)
  have HLK := Lib.hid (fun W (hg : Gr w W) => look_any r W (hl.grow hg) (hr.grow hg))
  unfold Rr.cs at HR0 HZ0
  unfold Rr.val at *
  have e0 : r.looked = (r.lkd, 0) := by unfold Rr.looked; rw [hok]; rfl
  rw [e0] at HLK
  have HOK := Lib.hid (Rr.lkd_ok hok)
  have hkl := r.lkd.cs_len
  have HC := Lib.hid (fun W => count_any r.lkd r.lkd.all HOK.out.m HOK.out.r HOK.out.nL HOK.out.nR HOK.out.h W)
  have hc0 : r.lkd.wy r.lkd.all 0 0 r.lkd.h = r.lkd.all0 := rfl
  rw [hc0] at HC
  have hz2 : ((r.lkd.all0 : Int) == 0) = false := by rw [← hz, Bool.eq_iff_iff, beq_iff_eq, beq_iff_eq]; omega
  clear hl hr e0 hc0
  dsimp only at HLK
  go_enter Try.func54, Try.ntmps54
  go_wp2_with (first | (with_reducible refine wpList_stopAlloc (ty := 85) rfl ?_; unfold Stop; refine wpList_alloc85 rfl rfl ?_) | (go_at_call 48; refine (HLK.out _ ((Gr.alloc _ _).tr (Gr.alloc _ _))).mono ?_; rintro e w1 ⟨rfl, hb1⟩; have HG1 := Lib.hid (show Gr _ w1 from hb1); have HR1 := Lib.hid (HR0.out.grow hb1); have HZ1 := Lib.hid (HZ0.out.grow hb1); have HT := Lib.hid (Box.fresh w1 Lk.zero.cs 85); have zl1 := HZ1.out.lt; clear hb1 HR0 HZ0) | (with_reducible refine wpList_stopStore (ty := 85) rfl ?_; unfold Stop; refine wpList_storeBox row85 hkl hzl (lk_one _) HT.out rfl rfl rfl rfl ?_; have HT2 := Lib.hid (show Box ((w1.alloc (Obj.cells Lk.zero.cs.toArray 85)).setRow w1.heap.size r.lkd.cs.toArray) w1.heap.size r.lkd.cs 85 from HT.out.row (vs := r.lkd.cs)); have HG2 := Lib.hid (show Gr w1 ((w1.alloc (Obj.cells Lk.zero.cs.toArray 85)).setRow w1.heap.size r.lkd.cs.toArray) from Gr.row_new w1 _ _ _); generalize (w1.alloc (Obj.cells Lk.zero.cs.toArray 85)).setRow w1.heap.size r.lkd.cs.toArray = w2 at *; have HR2 := Lib.hid (HR1.out.grow HG2.out); have HZ2 := Lib.hid (HZ1.out.grow HG2.out); obtain ⟨r0, r1, r2, r3, r4⟩ := cells5 HR2.out; have rl := HR2.out.lt; clear HR1 HZ1 HT) | (with_reducible refine wpList_stopBuild (ty := 85) rfl ?_; unfold Stop; refine wpList_buildRow HBZ.out rfl rfl (by simp [Act.eval]) ?_))
  go_loopw [21] (fun t wr => t = .int .i64 0 ∧ wr = w2) (fun t _ => 0)
  case atStart => exact ⟨rfl, rfl⟩
  case round =>
    obtain ⟨rfl, rfl⟩ := hrel
    clear r0 r1 r2 r3 r4
    go_wp2_with (first | (with_reducible refine wpList_stopLoad (ty := 85) rfl ?_; unfold Stop; refine wpList_loadBox row85 (r.lkd.cs_len) (HT2.out) rfl rfl rfl ?_) | (with_reducible refine wpList_stopLoad (ty := 83) rfl ?_; unfold Stop; refine wpList_loadPart row83 (opts_len r.lkd.all) (HT2.out) r.lkd.part rfl rfl rfl ?_) | (go_at_call 52; refine (HC.out _).mono ?_; rintro e w4 ⟨rfl, hb4⟩; have HG4 := Lib.hid (show Gr _ w4 from hb4); have HT4 := Lib.hid (HT2.out.grow hb4); have HZ4 := Lib.hid (HZ2.out.grow hb4); clear hb4) | (with_reducible refine wpList_stopLoad (ty := 85) rfl ?_; unfold Stop; refine wpList_loadBox row85 (r.lkd.cs_len) (HT4.out) rfl rfl rfl ?_) | (with_reducible refine wpList_stopStore (ty := 85) rfl ?_; unfold Stop; refine wpList_storeBox row85 hkl hzl (lk_one _) HZ4.out rfl rfl rfl rfl ?_))
    exact bodyPost_ret (v := .tuple #[.agg r.lkd.cs.toArray, .int .i64 0]) (results_pair85 (HZ4.out.row (vs := r.lkd.cs)) rfl rfl hkl rfl) rfl ⟨rfl, below_setRow (bgr (((Below.refl _ _).alloc (by first | (simp; done) | (simp; omega) | omega) _).alloc (by first | (simp; done) | (simp; omega) | omega) _) (by first | (simp; done) | (simp; omega) | omega) (Gr.tr (Gr.tr HG1.out HG2.out) HG4.out)) (by first | (simp; done) | (simp; omega) | omega) _⟩
set_option maxRecDepth 100000 in
set_option maxHeartbeats 1000000 in
theorem asks_zeroL (r : Rr) (bs : Nat) (i : Int) (T0 : TypeId) (w : World) (hl : MksAt r.L r.lp w) (hr : MksAt r.R r.rp w) (hok : r.ok = true) (hbs : Box w bs [.int .i64 i] T0) (hm : (decide (0 ≤ i) && decide (i < r.L.length)) = true) (hz : (r.lkd.all0 == 0) = true) :
    Calls Try.prog 54 #[r.val, .slice (some ⟨bs, 0, none⟩) 1 1] w fun e w' => e = .returned (.tuple #[.agg Lk.zero.cs.toArray, .int .i64 4]) ∧ Below w.heap.size w w' := by
  have hzl := Lk.zero.cs_len
  have HBZ := Lib.hid built85z
  have HR0 := Lib.hid ((Box.fresh w r.cs 26).grow (Gr.alloc _ (Obj.cells Lk.zero.cs.toArray 85)))
  have HZ0 := Lib.hid (show Box ((w.alloc (Obj.cells r.cs.toArray 26)).alloc (Obj.cells Lk.zero.cs.toArray 85)) (w.heap.size + 1) Lk.zero.cs 85 by
    have := Box.fresh (w.alloc (Obj.cells r.cs.toArray 26)) Lk.zero.cs 85
    simpa using this)
  have HLK := Lib.hid (fun W (hg : Gr w W) => look_any r W (hl.grow hg) (hr.grow hg))
  unfold Rr.cs at HR0 HZ0
  unfold Rr.val at *
  have e0 : r.looked = (r.lkd, 0) := by unfold Rr.looked; rw [hok]; rfl
  rw [e0] at HLK
  have HOK := Lib.hid (Rr.lkd_ok hok)
  have hkl := r.lkd.cs_len
  have HC := Lib.hid (fun W => count_any r.lkd r.lkd.all HOK.out.m HOK.out.r HOK.out.nL HOK.out.nR HOK.out.h W)
  have hc0 : r.lkd.wy r.lkd.all 0 0 r.lkd.h = r.lkd.all0 := rfl
  rw [hc0] at HC
  have HBS := Lib.hid hbs
  have HIM := Lib.hid (fun p c W => isMark_any i p r.L.length c W)
  rw [hm] at HIM
  have hz2 : ((r.lkd.all0 : Int) == 0) = true := by rw [← hz, Bool.eq_iff_iff, beq_iff_eq, beq_iff_eq]; omega
  clear hl hr e0 hc0 hbs
  dsimp only at HLK
  go_enter Try.func54, Try.ntmps54
  go_wp2_with (first | (with_reducible refine wpList_stopAlloc (ty := 85) rfl ?_; unfold Stop; refine wpList_alloc85 rfl rfl ?_) | (go_at_call 48; refine (HLK.out _ ((Gr.alloc _ _).tr (Gr.alloc _ _))).mono ?_; rintro e w1 ⟨rfl, hb1⟩; have HG1 := Lib.hid (show Gr _ w1 from hb1); have HR1 := Lib.hid (HR0.out.grow hb1); have HZ1 := Lib.hid (HZ0.out.grow hb1); have HT := Lib.hid (Box.fresh w1 Lk.zero.cs 85); have zl1 := HZ1.out.lt; clear hb1 HR0 HZ0) | (with_reducible refine wpList_stopStore (ty := 85) rfl ?_; unfold Stop; refine wpList_storeBox row85 hkl hzl (lk_one _) HT.out rfl rfl rfl rfl ?_; have HT2 := Lib.hid (show Box ((w1.alloc (Obj.cells Lk.zero.cs.toArray 85)).setRow w1.heap.size r.lkd.cs.toArray) w1.heap.size r.lkd.cs 85 from HT.out.row (vs := r.lkd.cs)); have HG2 := Lib.hid (show Gr w1 ((w1.alloc (Obj.cells Lk.zero.cs.toArray 85)).setRow w1.heap.size r.lkd.cs.toArray) from Gr.row_new w1 _ _ _); generalize (w1.alloc (Obj.cells Lk.zero.cs.toArray 85)).setRow w1.heap.size r.lkd.cs.toArray = w2 at *; have HR2 := Lib.hid (HR1.out.grow HG2.out); have HZ2 := Lib.hid (HZ1.out.grow HG2.out); obtain ⟨r0, r1, r2, r3, r4⟩ := cells5 HR2.out; have rl := HR2.out.lt; clear HR1 HZ1 HT; have bs0 := (HBS.out.grow ((Gr.alloc _ _).tr ((Gr.alloc _ _).tr (Gr.tr HG1.out HG2.out)))).cell (i := 0) rfl; have bsl := (HBS.out.grow ((Gr.alloc _ _).tr ((Gr.alloc _ _).tr (Gr.tr HG1.out HG2.out)))).lt) | (with_reducible refine wpList_stopBuild (ty := 85) rfl ?_; unfold Stop; refine wpList_buildRow HBZ.out rfl rfl (by simp [Act.eval]) ?_))
  go_loopw [21] (fun t wr => (t = .int .i64 0 ∧ wr = w2) ∨ (t = .int .i64 1 ∧ Hid (Gr w2 wr))) (fun t _ => (5 - intOf t).toNat)
  case atStart => exact .inl ⟨rfl, rfl⟩
  case round =>
    rcases hrel with ⟨rfl, rfl⟩ | ⟨rfl, HG3⟩
    · go_wp2_with (go_at_call 49; refine (HIM.out _ _ _).mono ?_; rintro e w3 ⟨rfl, hb3⟩)
      exact ⟨.inr ⟨by go_num, Lib.hid hb3⟩, by simp [intOf]⟩
    · have HT3 := Lib.hid (HT2.out.grow HG3.out)
      have HZ3 := Lib.hid (HZ2.out.grow HG3.out)
      clear r0 r1 r2 r3 r4 bs0
      go_wp2_with (first | (with_reducible refine wpList_stopLoad (ty := 85) rfl ?_; unfold Stop; refine wpList_loadBox row85 (r.lkd.cs_len) (HT3.out) rfl rfl rfl ?_) | (with_reducible refine wpList_stopLoad (ty := 83) rfl ?_; unfold Stop; refine wpList_loadPart row83 (opts_len r.lkd.all) (HT3.out) r.lkd.part rfl rfl rfl ?_) | (go_at_call 52; refine (HC.out _).mono ?_; rintro e w4 ⟨rfl, hb4⟩; have HG4 := Lib.hid (show Gr _ w4 from hb4); have HT4 := Lib.hid (HT3.out.grow hb4); have HZ4 := Lib.hid (HZ3.out.grow hb4); clear hb4) | (with_reducible refine wpList_stopStore (ty := 85) rfl ?_; unfold Stop; refine wpList_storeBox row85 hzl hzl (lk_one _) HZ4.out rfl rfl rfl rfl ?_))
      exact bodyPost_ret (v := .tuple #[.agg Lk.zero.cs.toArray, .int .i64 4]) (results_pair85 (HZ4.out.row (vs := Lk.zero.cs)) rfl rfl hzl rfl) rfl ⟨rfl, below_setRow (bgr (((Below.refl _ _).alloc (by first | (simp; done) | (simp; omega) | omega) _).alloc (by first | (simp; done) | (simp; omega) | omega) _) (by first | (simp; done) | (simp; omega) | omega) (Gr.tr (Gr.tr (Gr.tr HG1.out HG2.out) HG3.out) HG4.out)) (by first | (simp; done) | (simp; omega) | omega) _⟩
set_option maxRecDepth 100000 in
set_option maxHeartbeats 1000000 in
theorem asks_yesL (r : Rr) (bs : Nat) (i : Int) (T0 : TypeId) (w : World) (hl : MksAt r.L r.lp w) (hr : MksAt r.R r.rp w) (hok : r.ok = true) (hbs : Box w bs [.int .i64 i] T0) (hm : (decide (0 ≤ i) && decide (i < r.L.length)) = true) (hz : (r.lkd.all0 == 0) = false) :
    Calls Try.prog 54 #[r.val, .slice (some ⟨bs, 0, none⟩) 1 1] w fun e w' => e = .returned (.tuple #[.agg r.lkd.cs.toArray, .int .i64 0]) ∧ Below w.heap.size w w' := by
  have hzl := Lk.zero.cs_len
  have HBZ := Lib.hid built85z
  have HR0 := Lib.hid ((Box.fresh w r.cs 26).grow (Gr.alloc _ (Obj.cells Lk.zero.cs.toArray 85)))
  have HZ0 := Lib.hid (show Box ((w.alloc (Obj.cells r.cs.toArray 26)).alloc (Obj.cells Lk.zero.cs.toArray 85)) (w.heap.size + 1) Lk.zero.cs 85 by
    have := Box.fresh (w.alloc (Obj.cells r.cs.toArray 26)) Lk.zero.cs 85
    simpa using this)
  have HLK := Lib.hid (fun W (hg : Gr w W) => look_any r W (hl.grow hg) (hr.grow hg))
  unfold Rr.cs at HR0 HZ0
  unfold Rr.val at *
  have e0 : r.looked = (r.lkd, 0) := by unfold Rr.looked; rw [hok]; rfl
  rw [e0] at HLK
  have HOK := Lib.hid (Rr.lkd_ok hok)
  have hkl := r.lkd.cs_len
  have HC := Lib.hid (fun W => count_any r.lkd r.lkd.all HOK.out.m HOK.out.r HOK.out.nL HOK.out.nR HOK.out.h W)
  have hc0 : r.lkd.wy r.lkd.all 0 0 r.lkd.h = r.lkd.all0 := rfl
  rw [hc0] at HC
  have HBS := Lib.hid hbs
  have HIM := Lib.hid (fun p c W => isMark_any i p r.L.length c W)
  rw [hm] at HIM
  have hz2 : ((r.lkd.all0 : Int) == 0) = false := by rw [← hz, Bool.eq_iff_iff, beq_iff_eq, beq_iff_eq]; omega
  clear hl hr e0 hc0 hbs
  dsimp only at HLK
  go_enter Try.func54, Try.ntmps54
  go_wp2_with (first | (with_reducible refine wpList_stopAlloc (ty := 85) rfl ?_; unfold Stop; refine wpList_alloc85 rfl rfl ?_) | (go_at_call 48; refine (HLK.out _ ((Gr.alloc _ _).tr (Gr.alloc _ _))).mono ?_; rintro e w1 ⟨rfl, hb1⟩; have HG1 := Lib.hid (show Gr _ w1 from hb1); have HR1 := Lib.hid (HR0.out.grow hb1); have HZ1 := Lib.hid (HZ0.out.grow hb1); have HT := Lib.hid (Box.fresh w1 Lk.zero.cs 85); have zl1 := HZ1.out.lt; clear hb1 HR0 HZ0) | (with_reducible refine wpList_stopStore (ty := 85) rfl ?_; unfold Stop; refine wpList_storeBox row85 hkl hzl (lk_one _) HT.out rfl rfl rfl rfl ?_; have HT2 := Lib.hid (show Box ((w1.alloc (Obj.cells Lk.zero.cs.toArray 85)).setRow w1.heap.size r.lkd.cs.toArray) w1.heap.size r.lkd.cs 85 from HT.out.row (vs := r.lkd.cs)); have HG2 := Lib.hid (show Gr w1 ((w1.alloc (Obj.cells Lk.zero.cs.toArray 85)).setRow w1.heap.size r.lkd.cs.toArray) from Gr.row_new w1 _ _ _); generalize (w1.alloc (Obj.cells Lk.zero.cs.toArray 85)).setRow w1.heap.size r.lkd.cs.toArray = w2 at *; have HR2 := Lib.hid (HR1.out.grow HG2.out); have HZ2 := Lib.hid (HZ1.out.grow HG2.out); obtain ⟨r0, r1, r2, r3, r4⟩ := cells5 HR2.out; have rl := HR2.out.lt; clear HR1 HZ1 HT; have bs0 := (HBS.out.grow ((Gr.alloc _ _).tr ((Gr.alloc _ _).tr (Gr.tr HG1.out HG2.out)))).cell (i := 0) rfl; have bsl := (HBS.out.grow ((Gr.alloc _ _).tr ((Gr.alloc _ _).tr (Gr.tr HG1.out HG2.out)))).lt) | (with_reducible refine wpList_stopBuild (ty := 85) rfl ?_; unfold Stop; refine wpList_buildRow HBZ.out rfl rfl (by simp [Act.eval]) ?_))
  go_loopw [21] (fun t wr => (t = .int .i64 0 ∧ wr = w2) ∨ (t = .int .i64 1 ∧ Hid (Gr w2 wr))) (fun t _ => (5 - intOf t).toNat)
  case atStart => exact .inl ⟨rfl, rfl⟩
  case round =>
    rcases hrel with ⟨rfl, rfl⟩ | ⟨rfl, HG3⟩
    · go_wp2_with (go_at_call 49; refine (HIM.out _ _ _).mono ?_; rintro e w3 ⟨rfl, hb3⟩)
      exact ⟨.inr ⟨by go_num, Lib.hid hb3⟩, by simp [intOf]⟩
    · have HT3 := Lib.hid (HT2.out.grow HG3.out)
      have HZ3 := Lib.hid (HZ2.out.grow HG3.out)
      clear r0 r1 r2 r3 r4 bs0
      go_wp2_with (first | (with_reducible refine wpList_stopLoad (ty := 85) rfl ?_; unfold Stop; refine wpList_loadBox row85 (r.lkd.cs_len) (HT3.out) rfl rfl rfl ?_) | (with_reducible refine wpList_stopLoad (ty := 83) rfl ?_; unfold Stop; refine wpList_loadPart row83 (opts_len r.lkd.all) (HT3.out) r.lkd.part rfl rfl rfl ?_) | (go_at_call 52; refine (HC.out _).mono ?_; rintro e w4 ⟨rfl, hb4⟩; have HG4 := Lib.hid (show Gr _ w4 from hb4); have HT4 := Lib.hid (HT3.out.grow hb4); have HZ4 := Lib.hid (HZ3.out.grow hb4); clear hb4) | (with_reducible refine wpList_stopLoad (ty := 85) rfl ?_; unfold Stop; refine wpList_loadBox row85 (r.lkd.cs_len) (HT4.out) rfl rfl rfl ?_) | (with_reducible refine wpList_stopStore (ty := 85) rfl ?_; unfold Stop; refine wpList_storeBox row85 hkl hzl (lk_one _) HZ4.out rfl rfl rfl rfl ?_))
      exact bodyPost_ret (v := .tuple #[.agg r.lkd.cs.toArray, .int .i64 0]) (results_pair85 (HZ4.out.row (vs := r.lkd.cs)) rfl rfl hkl rfl) rfl ⟨rfl, below_setRow (bgr (((Below.refl _ _).alloc (by first | (simp; done) | (simp; omega) | omega) _).alloc (by first | (simp; done) | (simp; omega) | omega) _) (by first | (simp; done) | (simp; omega) | omega) (Gr.tr (Gr.tr (Gr.tr HG1.out HG2.out) HG3.out) HG4.out)) (by first | (simp; done) | (simp; omega) | omega) _⟩

theorem asks_any (r : Rr) (w : World) (hl : MksAt r.L r.lp w) (hr : MksAt r.R r.rp w) :
    Calls Try.prog 54 #[r.val, .slice none 0 0] w fun e w' => e = .returned (.tuple #[.agg (r.asked true).1.cs.toArray, .int .i64 (r.asked true).2]) ∧ Below w.heap.size w w' := by
  unfold Rr.asked
  cases h : r.ok with
  | false => exact asks_no r w hl hr h
  | true =>
    cases h2 : r.lkd.all0 == 0 with
    | true =>
      have : r.lkd.all0 = 0 := by simpa using h2
      simp only [this, if_true]
      exact asks_zero r w hl hr h h2
    | false =>
      have : ¬ r.lkd.all0 = 0 := by simpa using h2
      simp only [this, if_true, if_false]
      exact asks_yes r w hl hr h h2
theorem asksL_any (r : Rr) (bs : Nat) (i : Int) (T0 : TypeId) (w : World) (hl : MksAt r.L r.lp w) (hr : MksAt r.R r.rp w) (hbs : Box w bs [.int .i64 i] T0) :
    Calls Try.prog 54 #[r.val, .slice (some ⟨bs, 0, none⟩) 1 1] w fun e w' => e = .returned (.tuple #[.agg (r.asked (decide (0 ≤ i) && decide (i < r.L.length))).1.cs.toArray, .int .i64 (r.asked (decide (0 ≤ i) && decide (i < r.L.length))).2]) ∧ Below w.heap.size w w' := by
  unfold Rr.asked
  cases h : r.ok with
  | false => exact asks_noL r bs w hl hr h
  | true =>
    cases hm : decide (0 ≤ i) && decide (i < r.L.length) with
    | false => exact asks_rangeL r bs i T0 w hl hr h hbs hm
    | true =>
      cases h2 : r.lkd.all0 == 0 with
      | true =>
        have : r.lkd.all0 = 0 := by simpa using h2
        simp only [this, if_true]
        exact asks_zeroL r bs i T0 w hl hr h hbs hm h2
      | false =>
        have : ¬ r.lkd.all0 = 0 := by simpa using h2
        simp only [this, if_true, if_false]
        exact asks_yesL r bs i T0 w hl hr h hbs hm h2

end Go.Proofs.Ytjlaoiimbhlafaa
end
