import Derived.Test.YtjlaoiimbhlafaaC24
set_option linter.unusedVariables false
set_option linter.unusedSimpArgs false
namespace Go.Proofs.Ytjlaoiimbhlafaa
open Go.RowKit Go.Shelf

open MW
theorem YieldAt.and {F : Fence} {n : Nat} {P : Program} {l : Nat} {args : Array Value} {W : World} {R R' : Ending → World → Prop} (h : YieldAt F n P l args W R) (hi : ∀ e w, R e w → R' e w) : YieldAt F n P l args W R' := by
  obtain ⟨fn, t, a, b, h1, h2⟩ := h
  exact ⟨fn, t, a, b, h1, h2.mono hi⟩
theorem pairs_stops (k : Lk) (bl n : Nat) (vs : List Value) (w : World) (hb : Box w bl vs 85) (hv0 : vs[0]? = some (.slice k.lp k.nL k.lc)) (hv1 : vs[1]? = some (.slice k.rp k.nR k.rc)) (hL : k.nL ≤ 10) (hR : k.nR ≤ 10) :
    SeqStopsK Fence.wide n Try.prog 121 #[.pointer (some ⟨bl, 0, none⟩)] (encG (nL := k.nL) (nR := k.nR)) (fun A B => ∀ vs, vs[0]? = some (.slice k.lp k.nL k.lc) → vs[1]? = some (.slice k.rp k.nR k.rc) → Box A bl vs 85 → ∃ us, us[0]? = some (.slice k.lp k.nL k.lc) ∧ us[1]? = some (.slice k.rp k.nR k.rc) ∧ Box B bl us 85) (fun ys => ys.map Gp.p = grid k.nL k.nR) (fun pre => ∃ rest, grid k.nL k.nR = pre.map Gp.p ++ rest) 1000 w :=
  SeqStopsK.depth (n := 8) rfl fun y J Jx W hW hAJ _hAX hY h0 =>
    (pairs1_any k bl y (fun s A => J s A ∧ ∃ us, us[0]? = some (.slice k.lp k.nL k.lc) ∧ us[1]? = some (.slice k.rp k.nR k.rc) ∧ Box A bl us 85) Jx W hL hR (fun s A B h hg => ⟨hAJ s A B none h.1 (Gr.gro hg) (fun r e => by cases e), by
        obtain ⟨us, h1, h2, h3⟩ := h.2
        exact ⟨us, h1, h2, h3.grow hg⟩⟩)
      (fun pre x A h hl => YieldAt.and (hY pre x A h.1 hl) (by
        rintro e B (⟨h1, h2, h3⟩ | h1)
        · obtain ⟨us, h4, h5, h6⟩ := h.2
          exact .inl ⟨h1, h2, h3 us h4 h5 h6⟩
        · exact .inr h1))
      (fun s A h => .inr h.2) ⟨h0, vs, hv0, hv1, hb.grow hW⟩).mono (by
        rintro e B ⟨h1, (⟨ys, h2, h3, -⟩ | h2)⟩
        · exact ⟨h1, .inl ⟨ys, h2, h3⟩⟩
        · exact ⟨h1, .inr h2⟩)
set_option maxHeartbeats 1000000 in
theorem tones_any (x y : Mrk) (w : World) :
    Calls Try.prog 119 #[x.val, y.val] w fun e w' => e = .returned (.tuple #[spV x.c x.d, spV y.c y.d]) ∧ Below w.heap.size w w' := by
  unfold spV Mrk.val
  have HX := Lib.hid (show Box ((((w.alloc (Obj.cells [.int .i64 x.a, .int .i64 x.b, .int .i64 x.c, .int .i64 x.d].toArray 65)).alloc (Obj.cells [.int .i64 y.a, .int .i64 y.b, .int .i64 y.c, .int .i64 y.d].toArray 65)).alloc (Obj.cells [.int .i64 0, .int .i64 0].toArray 24)).alloc (Obj.cells [.int .i64 0, .int .i64 0].toArray 24)) (w.heap.size) [.int .i64 x.a, .int .i64 x.b, .int .i64 x.c, .int .i64 x.d] 65 by
    have := ((((Box.fresh w [.int .i64 x.a, .int .i64 x.b, .int .i64 x.c, .int .i64 x.d] 65).grow (Gr.alloc _ (Obj.cells [.int .i64 y.a, .int .i64 y.b, .int .i64 y.c, .int .i64 y.d].toArray 65))).grow (Gr.alloc _ (Obj.cells [.int .i64 0, .int .i64 0].toArray 24))).grow (Gr.alloc _ (Obj.cells [.int .i64 0, .int .i64 0].toArray 24)))
    simpa using this)
  have HY := Lib.hid (show Box ((((w.alloc (Obj.cells [.int .i64 x.a, .int .i64 x.b, .int .i64 x.c, .int .i64 x.d].toArray 65)).alloc (Obj.cells [.int .i64 y.a, .int .i64 y.b, .int .i64 y.c, .int .i64 y.d].toArray 65)).alloc (Obj.cells [.int .i64 0, .int .i64 0].toArray 24)).alloc (Obj.cells [.int .i64 0, .int .i64 0].toArray 24)) (w.heap.size + 1) [.int .i64 y.a, .int .i64 y.b, .int .i64 y.c, .int .i64 y.d] 65 by
    have := (((Box.fresh (w.alloc (Obj.cells [.int .i64 x.a, .int .i64 x.b, .int .i64 x.c, .int .i64 x.d].toArray 65)) [.int .i64 y.a, .int .i64 y.b, .int .i64 y.c, .int .i64 y.d] 65).grow (Gr.alloc _ (Obj.cells [.int .i64 0, .int .i64 0].toArray 24))).grow (Gr.alloc _ (Obj.cells [.int .i64 0, .int .i64 0].toArray 24)))
    simpa using this)
  have HZ := Lib.hid (show Box ((((w.alloc (Obj.cells [.int .i64 x.a, .int .i64 x.b, .int .i64 x.c, .int .i64 x.d].toArray 65)).alloc (Obj.cells [.int .i64 y.a, .int .i64 y.b, .int .i64 y.c, .int .i64 y.d].toArray 65)).alloc (Obj.cells [.int .i64 0, .int .i64 0].toArray 24)).alloc (Obj.cells [.int .i64 0, .int .i64 0].toArray 24)) (w.heap.size + 1 + 1) [.int .i64 0, .int .i64 0] 24 by
    have := ((Box.fresh ((w.alloc (Obj.cells [.int .i64 x.a, .int .i64 x.b, .int .i64 x.c, .int .i64 x.d].toArray 65)).alloc (Obj.cells [.int .i64 y.a, .int .i64 y.b, .int .i64 y.c, .int .i64 y.d].toArray 65)) [.int .i64 0, .int .i64 0] 24).grow (Gr.alloc _ (Obj.cells [.int .i64 0, .int .i64 0].toArray 24)))
    simpa using this)
  have HU := Lib.hid (show Box ((((w.alloc (Obj.cells [.int .i64 x.a, .int .i64 x.b, .int .i64 x.c, .int .i64 x.d].toArray 65)).alloc (Obj.cells [.int .i64 y.a, .int .i64 y.b, .int .i64 y.c, .int .i64 y.d].toArray 65)).alloc (Obj.cells [.int .i64 0, .int .i64 0].toArray 24)).alloc (Obj.cells [.int .i64 0, .int .i64 0].toArray 24)) (w.heap.size + 1 + 1 + 1) [.int .i64 0, .int .i64 0] 24 by
    have := (Box.fresh (((w.alloc (Obj.cells [.int .i64 x.a, .int .i64 x.b, .int .i64 x.c, .int .i64 x.d].toArray 65)).alloc (Obj.cells [.int .i64 y.a, .int .i64 y.b, .int .i64 y.c, .int .i64 y.d].toArray 65)).alloc (Obj.cells [.int .i64 0, .int .i64 0].toArray 24)) [.int .i64 0, .int .i64 0] 24)
    simpa using this)
  go_enter Try.func119, Try.ntmps119
  go_wp2_with fail
  have HG := Lib.hid (show Gr w ((((w.alloc (Obj.cells [.int .i64 x.a, .int .i64 x.b, .int .i64 x.c, .int .i64 x.d].toArray 65)).alloc (Obj.cells [.int .i64 y.a, .int .i64 y.b, .int .i64 y.c, .int .i64 y.d].toArray 65)).alloc (Obj.cells [.int .i64 0, .int .i64 0].toArray 24)).alloc (Obj.cells [.int .i64 0, .int .i64 0].toArray 24)) from (((Gr.alloc _ _).tr (Gr.alloc _ _)).tr (Gr.alloc _ _)).tr (Gr.alloc _ _))
  generalize ((((w.alloc (Obj.cells [.int .i64 x.a, .int .i64 x.b, .int .i64 x.c, .int .i64 x.d].toArray 65)).alloc (Obj.cells [.int .i64 y.a, .int .i64 y.b, .int .i64 y.c, .int .i64 y.d].toArray 65)).alloc (Obj.cells [.int .i64 0, .int .i64 0].toArray 24)).alloc (Obj.cells [.int .i64 0, .int .i64 0].toArray 24)) = wq at *
  obtain ⟨x0, x1, x2, x3⟩ := cells4 HX.out
  obtain ⟨y0, y1, y2, y3⟩ := cells4 HY.out
  obtain ⟨z0, z1, z2, z3, -⟩ := Box.two HZ.out
  obtain ⟨u0, u1, u2, u3, -⟩ := Box.two HU.out
  have l1 := HX.out.lt
  have l2 := HY.out.lt
  have l3 := HZ.out.lt
  have l4 := HU.out.lt
  go_region
  go_wp2_with fail
  obtain ⟨z0, z1, -, -, -⟩ := Box.two (((Only.set ((wq.setCell ⟨w.heap.size + 1 + 1, 0, none⟩ (.int .i64 x.c)).setCell ⟨w.heap.size + 1 + 1, 1, none⟩ (.int .i64 x.d)) (b := w.heap.size + 1 + 1 + 1) 0 (.int .i64 y.c)).tr (Only.set _ 1 (.int .i64 y.d))).box ((HZ.out.put 0 (.int .i64 x.c)).put 1 (.int .i64 x.d)) (by omega))
  obtain ⟨u0, u1, -, -, -⟩ := Box.two ((((Only.set wq (b := w.heap.size + 1 + 1) 0 (.int .i64 x.c)).tr (Only.set _ 1 (.int .i64 x.d))).box HU.out (by omega)).put 0 (.int .i64 y.c) |>.put 1 (.int .i64 y.d))
  refine bodyPost_ret (v := .tuple #[.agg #[.int .i64 x.c, .int .i64 x.d], .agg #[.int .i64 y.c, .int .i64 y.d]]) ?_ rfl ⟨rfl, ((((HG.out.setCell (by first | (simp; done) | (simp; omega) | omega) _).setCell (by first | (simp; done) | (simp; omega) | omega) _).setCell (by first | (simp; done) | (simp; omega) | omega) _).setCell (by first | (simp; done) | (simp; omega) | omega) _).drew⟩
  simp [results, Try.f119, go_sem, z0, z1, u0, u1]
set_option maxHeartbeats 2000000 in
theorem shifts_any (k : Lk) (x y : Mrk) (bl : Nat) (w : World) (vs : List Value) (hb : Box w bl vs 85) (hs : vs[2]? = some (.int .i64 k.s)) (ht : vs[3]? = some (.int .i64 k.t)) (hx : x.In) (hy : y.In) :
    Calls Try.prog 120 #[x.val, y.val, .pointer (some ⟨bl, 0, none⟩)] w fun e w' => e = .returned (.tuple #[spV (x.a - y.b) (x.b - y.a), spV k.s k.t]) ∧ Below w.heap.size w w' := by
  have HA := Lib.hid (fun W => apart_any x y W hx hy)
  have HB0 := Lib.hid hb
  have hbl := hb.lt
  clear hb
  generalize x.a - y.b = p at *
  generalize x.b - y.a = q at *
  unfold spV Mrk.val at *
  have HX := Lib.hid (show Box ((((w.alloc (Obj.cells [.int .i64 x.a, .int .i64 x.b, .int .i64 x.c, .int .i64 x.d].toArray 65)).alloc (Obj.cells [.int .i64 y.a, .int .i64 y.b, .int .i64 y.c, .int .i64 y.d].toArray 65)).alloc (Obj.cells [.int .i64 0, .int .i64 0].toArray 24)).alloc (Obj.cells [.int .i64 0, .int .i64 0].toArray 24)) (w.heap.size) [.int .i64 x.a, .int .i64 x.b, .int .i64 x.c, .int .i64 x.d] 65 by
    have := ((((Box.fresh w [.int .i64 x.a, .int .i64 x.b, .int .i64 x.c, .int .i64 x.d] 65).grow (Gr.alloc _ (Obj.cells [.int .i64 y.a, .int .i64 y.b, .int .i64 y.c, .int .i64 y.d].toArray 65))).grow (Gr.alloc _ (Obj.cells [.int .i64 0, .int .i64 0].toArray 24))).grow (Gr.alloc _ (Obj.cells [.int .i64 0, .int .i64 0].toArray 24)))
    simpa using this)
  have HY := Lib.hid (show Box ((((w.alloc (Obj.cells [.int .i64 x.a, .int .i64 x.b, .int .i64 x.c, .int .i64 x.d].toArray 65)).alloc (Obj.cells [.int .i64 y.a, .int .i64 y.b, .int .i64 y.c, .int .i64 y.d].toArray 65)).alloc (Obj.cells [.int .i64 0, .int .i64 0].toArray 24)).alloc (Obj.cells [.int .i64 0, .int .i64 0].toArray 24)) (w.heap.size + 1) [.int .i64 y.a, .int .i64 y.b, .int .i64 y.c, .int .i64 y.d] 65 by
    have := (((Box.fresh (w.alloc (Obj.cells [.int .i64 x.a, .int .i64 x.b, .int .i64 x.c, .int .i64 x.d].toArray 65)) [.int .i64 y.a, .int .i64 y.b, .int .i64 y.c, .int .i64 y.d] 65).grow (Gr.alloc _ (Obj.cells [.int .i64 0, .int .i64 0].toArray 24))).grow (Gr.alloc _ (Obj.cells [.int .i64 0, .int .i64 0].toArray 24)))
    simpa using this)
  have HZ := Lib.hid (show Box ((((w.alloc (Obj.cells [.int .i64 x.a, .int .i64 x.b, .int .i64 x.c, .int .i64 x.d].toArray 65)).alloc (Obj.cells [.int .i64 y.a, .int .i64 y.b, .int .i64 y.c, .int .i64 y.d].toArray 65)).alloc (Obj.cells [.int .i64 0, .int .i64 0].toArray 24)).alloc (Obj.cells [.int .i64 0, .int .i64 0].toArray 24)) (w.heap.size + 1 + 1) [.int .i64 0, .int .i64 0] 24 by
    have := ((Box.fresh ((w.alloc (Obj.cells [.int .i64 x.a, .int .i64 x.b, .int .i64 x.c, .int .i64 x.d].toArray 65)).alloc (Obj.cells [.int .i64 y.a, .int .i64 y.b, .int .i64 y.c, .int .i64 y.d].toArray 65)) [.int .i64 0, .int .i64 0] 24).grow (Gr.alloc _ (Obj.cells [.int .i64 0, .int .i64 0].toArray 24)))
    simpa using this)
  have HU := Lib.hid (show Box ((((w.alloc (Obj.cells [.int .i64 x.a, .int .i64 x.b, .int .i64 x.c, .int .i64 x.d].toArray 65)).alloc (Obj.cells [.int .i64 y.a, .int .i64 y.b, .int .i64 y.c, .int .i64 y.d].toArray 65)).alloc (Obj.cells [.int .i64 0, .int .i64 0].toArray 24)).alloc (Obj.cells [.int .i64 0, .int .i64 0].toArray 24)) (w.heap.size + 1 + 1 + 1) [.int .i64 0, .int .i64 0] 24 by
    have := (Box.fresh (((w.alloc (Obj.cells [.int .i64 x.a, .int .i64 x.b, .int .i64 x.c, .int .i64 x.d].toArray 65)).alloc (Obj.cells [.int .i64 y.a, .int .i64 y.b, .int .i64 y.c, .int .i64 y.d].toArray 65)).alloc (Obj.cells [.int .i64 0, .int .i64 0].toArray 24)) [.int .i64 0, .int .i64 0] 24)
    simpa using this)
  go_enter Try.func120, Try.ntmps120
  go_wp2_with fail
  have HG := Lib.hid (show Gr w ((((w.alloc (Obj.cells [.int .i64 x.a, .int .i64 x.b, .int .i64 x.c, .int .i64 x.d].toArray 65)).alloc (Obj.cells [.int .i64 y.a, .int .i64 y.b, .int .i64 y.c, .int .i64 y.d].toArray 65)).alloc (Obj.cells [.int .i64 0, .int .i64 0].toArray 24)).alloc (Obj.cells [.int .i64 0, .int .i64 0].toArray 24)) from (((Gr.alloc _ _).tr (Gr.alloc _ _)).tr (Gr.alloc _ _)).tr (Gr.alloc _ _))
  have HB := Lib.hid (HB0.out.grow HG.out)
  generalize ((((w.alloc (Obj.cells [.int .i64 x.a, .int .i64 x.b, .int .i64 x.c, .int .i64 x.d].toArray 65)).alloc (Obj.cells [.int .i64 y.a, .int .i64 y.b, .int .i64 y.c, .int .i64 y.d].toArray 65)).alloc (Obj.cells [.int .i64 0, .int .i64 0].toArray 24)).alloc (Obj.cells [.int .i64 0, .int .i64 0].toArray 24)) = wq at *
  obtain ⟨x0, x1, x2, x3⟩ := cells4 HX.out
  obtain ⟨y0, y1, y2, y3⟩ := cells4 HY.out
  obtain ⟨z0, z1, z2, z3, -⟩ := Box.two HZ.out
  obtain ⟨u0, u1, u2, u3, -⟩ := Box.two HU.out
  have b2 := HB.out.cell hs
  have b3 := HB.out.cell ht
  have l1 := HX.out.lt
  have l2 := HY.out.lt
  have l3 := HZ.out.lt
  have l4 := HU.out.lt
  have l5 := HB.out.lt
  go_region_with (go_at_call 108; refine (HA.out _).mono ?_; rintro e w1 ⟨rfl, hb1⟩; have HGW := Lib.hid (show Gr wq w1 from Gr.tr (Gr.drew _) hb1); clear hb1 x0 x1 x2 x3 y0 y1 y2 y3 z0 z1 z2 z3 u0 u1 u2 u3 b2 b3; have b2 := (HB.out.grow HGW.out).cell hs; have b3 := (HB.out.grow HGW.out).cell ht; have l5 := (HB.out.grow HGW.out).lt; obtain ⟨z0, z1, z2, z3, l6⟩ := Box.two (HZ.out.grow HGW.out); obtain ⟨u0, u1, u2, u3, l7⟩ := Box.two (HU.out.grow HGW.out))
  all_goals
    go_wp2_with fail
    obtain ⟨z0, z1, -, -, -⟩ := Box.two (((Only.set ((w1.setCell ⟨w.heap.size + 1 + 1, 0, none⟩ (.int .i64 p)).setCell ⟨w.heap.size + 1 + 1, 1, none⟩ (.int .i64 q)) (b := w.heap.size + 1 + 1 + 1) 0 (.int .i64 k.s)).tr (Only.set _ 1 (.int .i64 k.t))).box (((HZ.out.grow HGW.out).put 0 (.int .i64 p)).put 1 (.int .i64 q)) (by omega))
    obtain ⟨u0, u1, -, -, -⟩ := Box.two ((((Only.set w1 (b := w.heap.size + 1 + 1) 0 (.int .i64 p)).tr (Only.set _ 1 (.int .i64 q))).box (HU.out.grow HGW.out) (by omega)).put 0 (.int .i64 k.s) |>.put 1 (.int .i64 k.t))
    refine bodyPost_ret (v := .tuple #[.agg #[.int .i64 p, .int .i64 q], .agg #[.int .i64 k.s, .int .i64 k.t]]) ?_ rfl ⟨rfl, ((((HG.out.tr HGW.out).setCell (by first | (simp; done) | (simp; omega) | omega) _).setCell (by first | (simp; done) | (simp; omega) | omega) _).setCell (by first | (simp; done) | (simp; omega) | omega) _).setCell (by first | (simp; done) | (simp; omega) | omega) _⟩
    simp [results, Try.f120, go_sem, z0, z1, u0, u1]
def agrV (b : Nat) : Value := .slice (some ⟨b, 0, none⟩) 2 2
def agrC (bl : Nat) : List Value := [.func (.func 119) #[] #[], .func (.func 120) #[] #[.pointer (some ⟨bl, 0, none⟩)]]
set_option maxHeartbeats 400000 in
theorem agreements_any (k : Lk) (w : World) :
    Calls Try.prog 91 #[.agg k.cs.toArray] w fun e w' => ∃ bl ba T, e = .returned (agrV ba) ∧ w.heap.size ≤ bl ∧ w.heap.size ≤ ba ∧ Box w' bl k.cs 85 ∧ Box w' ba (agrC bl) T ∧ Below w.heap.size w w' := by
  have HB := Lib.hid (Box.fresh w k.cs 85)
  unfold agrV agrC
  go_enter Try.func91, Try.ntmps91
  go_wp2
  go_ret
  exact ⟨w.heap.size, _, _, rfl, Nat.le_refl _, (by first | (simp; done) | (simp; omega) | omega), HB.out.grow (Gr.alloc _ _), by
    have := Box.fresh (w.alloc (Obj.cells k.cs.toArray 85)) (agrC w.heap.size) 141
    simpa [agrC] using this, ((Below.refl _ _).alloc (by first | (simp; done) | (simp; omega) | omega) _).alloc (by first | (simp; done) | (simp; omega) | omega) _⟩
set_option maxHeartbeats 400000 in
theorem pairsOf_any (k : Lk) (w : World) :
    Calls Try.prog 92 #[.agg k.cs.toArray] w fun e w' => e = .returned (.func (.func 121) #[] #[.pointer (some ⟨w.heap.size, 0, none⟩)]) ∧ Box w' w.heap.size k.cs 85 ∧ Below w.heap.size w w' := by
  have HB := Lib.hid (Box.fresh w k.cs 85)
  go_enter Try.func92, Try.ntmps92
  go_wp2
  go_ret
  exact ⟨rfl, HB.out, (Below.refl _ _).alloc (by first | (simp; done) | (simp; omega) | omega) _⟩

end Go.Proofs.Ytjlaoiimbhlafaa
