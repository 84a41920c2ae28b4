import Derived.Test.YtcngaohfemdfjaaGreatE04
import Derived.Test.YtcngaohfemdfjaaGreatE15
set_option linter.unusedVariables false
set_option linter.unusedSimpArgs false
set_option maxRecDepth 100000
set_option maxHeartbeats 60000000
namespace Go.Proofs.YtcngaohfemdfjaaGreat
open Go.RowKit Go.Shelf
attribute [local go_sem] Oper.semAt_some
theorem lk_append (es : List (Int × Vw)) (j : Int) (x : Vw) (n : Int) : lk (es ++ [(j, x)]) n = (lk es n).or (if n = j then some x else none) := by
  induction es with
  | nil => simp [lk]
  | cons q es ih =>
    obtain ⟨k, y⟩ := q
    simp only [List.cons_append, lk]
    split
    · rfl
    · exact ih
theorem mem_seesTo {p : Pr} {m : Nat} {q : Int × Vw} (h : q ∈ p.seesTo m) : ∃ n : Nat, n < m ∧ q.1 = (n : Int) ∧ p.view n = some q.2 := by
  unfold Pr.seesTo at h
  obtain ⟨i, hi, he⟩ := List.mem_filterMap.1 h
  cases hv : p.view i with
  | none => rw [hv] at he; cases he
  | some x => rw [hv] at he; cases he; exact ⟨i, List.mem_range.1 hi, rfl, hv⟩
theorem seesTo_mem {p : Pr} {m n : Nat} {x : Vw} (h : n < m) (hv : p.view n = some x) : ((n : Int), x) ∈ p.seesTo m := by
  unfold Pr.seesTo
  exact List.mem_filterMap.2 ⟨n, List.mem_range.2 h, by rw [hv]; rfl⟩
theorem lk_sees (p : Pr) (n : Nat) : ∀ m, n < m → lk (p.seesTo m) n = p.view n
  | 0, h => absurd h (by omega)
  | m + 1, h => by
    rw [Pr.seesTo_succ]
    by_cases hn : n < m
    · cases hv : p.view m with
      | none => simpa [hv] using lk_sees p n m hn
      | some x =>
        simp only [Option.map_some, Option.toList_some]
        rw [lk_append, lk_sees p n m hn, if_neg (by omega)]
        simp
    · have : n = m := by omega
      subst this
      have h0 : lk (p.seesTo n) n = none := lk_none fun q hq => by have := Pr.seesTo_lt p n q hq; omega
      cases hv : p.view n with
      | none => simpa [hv] using h0
      | some x =>
        simp only [Option.map_some, Option.toList_some]
        rw [lk_append, h0, if_pos rfl]
        simp
theorem seesTo_le (p : Pr) (n : Nat) : ∀ m, n ≤ m → ∃ rest, p.seesTo m = p.seesTo n ++ rest
  | 0, h => ⟨[], by have : n = 0 := by omega
                    subst this; simp⟩
  | m + 1, h => by
    by_cases hn : n = m + 1
    · exact ⟨[], by rw [hn]; simp⟩
    · obtain ⟨r, hr⟩ := seesTo_le p n m (by omega)
      exact ⟨r ++ _, by rw [Pr.seesTo_succ, hr, List.append_assoc]⟩
structure Sv (p : Pr) where
  n : Int
  x : Vw
  mem : (n, x) ∈ p.sees
def Sv.q {p : Pr} (s : Sv p) : Int × Vw := (s.n, s.x)
def encV {p : Pr} (s : Sv p) : Array Value := #[.int .i64 s.n, .agg #[.int .i64 s.x.la, .int .i64 s.x.lb, .int .i64 s.x.ra, .int .i64 s.x.rb, .int .i64 s.x.sa, .int .i64 s.x.sb]]
def valsOf {p : Pr} (l : List (Sv p)) : List (Int × Vw) := l.map Sv.q
theorem things1_any (k : Cd) (mb bl y : Nat) (J Jx : List (Sv k.p) → World → Prop) (W : World)
    (hAJ : ∀ s A B, J s A → Gr A B → J s B)
    (hY : ∀ pre x W, J pre W → pre.length < 1000 → YieldAt Fence.wide 7 Tryz.prog y (encV x) W fun e W' =>
      (e = .returned (.bool true) ∧ J (pre ++ [x]) W' ∧ KeepAt [bl, mb] W W') ∨ (e = .returned (.bool false) ∧ Jx (pre ++ [x]) W'))
    (hbl : Box W bl (k.lk mb) 71) (hM : MapAt k.p.sees mb W) (hlen : k.p.l.length ≤ 900) (h0 : J [] W) :
    CallsIn Fence.wide 8 Tryz.prog 92 #[.func (.yield y) #[] #[], .pointer (some ⟨bl, 0, none⟩)] W fun e W' => (∃ v, e = .returned v) ∧
      ((∃ ys, valsOf ys = k.p.sees ∧ J ys W') ∨ (∃ pre, (∃ rest, k.p.sees = valsOf pre ++ rest) ∧ Jx pre W')) := by
  have HAJ := Lib.hid hAJ
  have HY := Lib.hid hY
  have HBL := Lib.hid hbl
  have HM := Lib.hid hM
  have H0 := Lib.hid h0
  have c7 := hbl.cell (i := 7) rfl
  clear hAJ hY hbl hM h0
  refine callsIn_of_wp Tryz.func92 rfl trivial ?_ rfl
  simp only [Tryz.ntmps92, List.size_toArray, List.length_cons, List.length_nil, Nat.reduceAdd, Nat.reduceSub, Array.replicate_succ, Array.replicate_zero, List.push_toArray, List.append_toArray, List.nil_append, List.cons_append]
  gi_wp2
  gi_loopw [11] (fun i wr => ∃ n : Nat, n ≤ k.p.l.length ∧ i = .int .i64 n ∧ Hid (∃ ys : List (Sv k.p), valsOf ys = k.p.seesTo n ∧ J ys wr) ∧ KeepAt [bl, mb] W wr) (fun i _ => k.p.l.length - (intOf i).toNat)
  case atStart => exact ⟨0, Nat.zero_le _, rfl, Lib.hid ⟨[], rfl, H0.out⟩, KeepAt.refl _ _⟩
  case round =>
    obtain ⟨n, hn, rfl, HJ, hK⟩ := hrel
    have HK := Lib.hid hK
    clear hK c7
    by_cases hlt : n < k.p.l.length
    · have hb := HK.out.box HBL.out (by simp)
      have c17 := hb.cell (i := 17) rfl
      have hbs := hb.lt
      have hlk := run_lookup (HK.out.map HM.out (by simp)) n
      have hvw : lk k.p.sees n = k.p.view n := lk_sees k.p n _ hlt
      rw [hvw] at hlk
      have hsc := Pr.seesTo_succ k.p n
      clear hb hvw
      cases hv : k.p.view n with
      | none =>
        rw [hv] at hlk hsc
        simp only [Option.getD_none, Vw.none, Vw.vals, Option.isSome_none, Option.map_none, Option.toList_none, List.append_nil] at hlk hsc
        have HSC := Lib.hid hsc
        clear hsc hv
        gi_wp2
        refine ⟨fun _ h => (by cases h), ?_⟩
        gi_wp2
        refine ⟨⟨n + 1, by omega, by go_num, Lib.hid ?_, HK.out.trans (KeepAt.of (Gr.alloc _ _))⟩, by simp [intOf]; omega⟩
        obtain ⟨ys, hys, hJ⟩ := HJ.out
        exact ⟨ys, by rw [HSC.out]; exact hys, HAJ.out _ _ _ hJ (Gr.alloc _ _)⟩
      | some x =>
        rw [hv] at hlk hsc
        simp only [Option.getD_some, Vw.vals, Option.isSome_some, Option.map_some, Option.toList_some] at hlk hsc
        have hmem : ((n : Int), x) ∈ k.p.sees := seesTo_mem hlt hv
        have HSC := Lib.hid hsc
        obtain ⟨ys, hys, hJ⟩ := HJ.out
        have hyl : ys.length < 1000 := by
          have h1 := congrArg List.length hys
          have h2 : (k.p.seesTo n).length ≤ n := by
            unfold Pr.seesTo
            have := List.length_filterMap_le (fun (i : Nat) => (k.p.view i).map fun x => ((i : Int), x)) (List.range n)
            simpa using this
          unfold valsOf at h1
          rw [List.length_map] at h1
          omega
        have HYS := Lib.hid hys
        obtain ⟨fn1, t1, a1, b1, hy1, hR1⟩ := HY.out ys ⟨n, x, hmem⟩ _ (HAJ.out _ _ _ hJ (Gr.alloc wr (.cells #[.int .i64 x.la, .int .i64 x.lb, .int .i64 x.ra, .int .i64 x.rb, .int .i64 x.sa, .int .i64 x.sb] 127))) hyl
        dsimp only [encV] at hy1
        clear hsc hv hys hJ
        gi_wp2
        refine hR1.mono ?_
        rintro e W1 (⟨rfl, hJ1, hk1⟩ | ⟨rfl, hx1⟩)
        · have HJ1 := Lib.hid hJ1
          have HK1 := Lib.hid (HK.out.trans ((KeepAt.of (Gr.alloc _ _)).trans hk1))
          clear hJ1 hk1 hy1 hR1 hlk c17 hbs
          gi_wp2
          refine ⟨⟨n + 1, by omega, by go_num, Lib.hid ⟨_, ?_, HJ1.out⟩, HK1.out⟩, by simp [intOf]; omega⟩
          unfold valsOf at *
          rw [List.map_append, HYS.out, HSC.out]
          rfl
        · gi_wp2
          refine bodyPost_ret (results_none rfl _ _ _) rfl ?_
          obtain ⟨rest, hrest⟩ := seesTo_le k.p (n + 1) k.p.l.length (by omega)
          refine ⟨⟨_, rfl⟩, .inr ⟨_, ⟨rest, ?_⟩, hx1⟩⟩
          unfold valsOf at *
          rw [List.map_append, HYS.out]
          show k.p.seesTo k.p.l.length = _
          rw [hrest, HSC.out]
          rfl
    · have hnl : n = k.p.l.length := by omega
      have HNL := Lib.hid hnl
      clear hnl
      gi_wp2
      go_end0
      obtain ⟨ys, hys, hJ⟩ := HJ.out
      refine ⟨⟨_, rfl⟩, .inl ⟨ys, ?_, hJ⟩⟩
      rw [hys, HNL.out]
      rfl
theorem things_stops (k : Cd) (mb bl n : Nat) (w : World) (hbl : Box w bl (k.lk mb) 71) (hM : MapAt k.p.sees mb w) (hlen : k.p.l.length ≤ 900) :
    SeqStopsK Fence.wide n Tryz.prog 92 #[.pointer (some ⟨bl, 0, none⟩)] (encV (p := k.p)) (KeepAt [bl, mb]) (fun ys => valsOf ys = k.p.sees) (fun pre => ∃ rest, k.p.sees = valsOf pre ++ rest) 1000 w :=
  SeqStopsK.depth (n := 8) rfl fun y J Jx W hW hAJ _hAX hY h0 =>
    things1_any k mb bl y J Jx W (fun s A B h hg => hAJ s A B none h (Gr.grown hg) (fun r e => by cases e)) hY (hbl.grow hW) (hM.grow hW) hlen h0
end Go.Proofs.YtcngaohfemdfjaaGreat
namespace Go.Proofs.YtcngaohfemdfjaaGreat
open Go.RowKit Go.Shelf
attribute [local go_sem] Oper.semAt_some
theorem SeqStopsK.own {α : Type} {F : Fence} {n : Nat} {P : Program} {g : Nat} {lb : Array Value} {encs : α → Array Value} {Kp : World → World → Prop} {S Sp : List α → Prop} {N B : Nat} {w : World}
    (h : SeqStopsK F n P g lb encs Kp S Sp N w) : SeqStopsO F n P g lb encs Kp S Sp N B w := fun y J Jx W hW _ hJ hX hY h0 =>
  have walk : ∀ {row : Option Nat} {A : World}, (∀ r, row = some r → W.heap.size ≤ r ∧ ∃ o : Obj, A.heap[r]? = some o ∧ o.isWalk = true) → (∀ r, row = some r → W.heap.size ≤ r ∧ ∃ o : Obj, A.heap[r]? = some o ∧ o.isCells = false) := fun hr r e => by
    obtain ⟨hB, o, ho, hw⟩ := hr r e
    exact ⟨hB, o, ho, Obj.not_cells_of_walk hw⟩
  h y J Jx W hW (fun s A B row hs hg hr => hJ s A B row hs hg (walk hr)) (fun s A B row hs hg hr => hX s A B row hs hg (walk hr)) hY h0
def Tm.why (t : Tm) (x : Vw) : Int :=
  if t.dist x.sb < t.k.ehi - t.k.squeeze then 1 else if t.k.elo + t.k.prism < t.dist x.sa then 2 else if t.win + t.k.front < x.sb then 3 else if x.sa < t.win - t.k.deep then 4 else if 0 < t.over x then 5 else 0
def Tm.first (t : Tm) : List (Int × Vw) → Int × Int
  | [] => (0, 0)
  | q :: l => if t.why q.2 = 0 then Tm.first t l else (q.1, t.why q.2)
theorem Tm.first_skip (t : Tm) {l r : List (Int × Vw)} (h : ∀ q ∈ l, t.why q.2 = 0) : t.first (l ++ r) = t.first r := by
  induction l with
  | nil => rfl
  | cons q l ih => simp only [List.cons_append, Tm.first]; rw [if_pos (h q (by simp))]; exact ih fun q hq => h q (by simp [hq])
theorem Box.own' {W W' : World} {row : Option Nat} {b : Nat} {vs : List Value} {T : TypeId} (h : Box W b vs T) (hg : W.grownBy W' row) (hr : ∀ r, row = some r → ∃ o : Obj, W.heap[r]? = some o ∧ o.isCells = false) : Box W' b vs T :=
  h.grown hg fun e => by
    obtain ⟨o, ho, hc⟩ := hr b e.symm
    unfold Box at h
    rw [h] at ho
    cases ho
    cases hc
theorem MapAt.grown {es : List (Int × Vw)} {mb : Nat} {W W' : World} {row : Option Nat} (h : MapAt es mb W) (hg : W.grownBy W' row) (hr : row ≠ some mb) : MapAt es mb W' := by
  have hl := h.lt
  obtain ⟨l, c, h1, h2⟩ := h
  exact ⟨l, c, (hg.block mb hl (fun e => hr e.symm)).trans h1, h2⟩
theorem Tm.why_1 {t : Tm} {x : Vw}  (h0 : decide (t.dist x.sb < t.k.ehi - t.k.squeeze) = true) : t.why x = 1 := by
  simp only [decide_eq_true_eq, decide_eq_false_iff_not] at *
  unfold Tm.why
  simp [*]
theorem Tm.why_2 {t : Tm} {x : Vw} (h0 : decide (t.dist x.sb < t.k.ehi - t.k.squeeze) = false) (h1 : decide (t.k.elo + t.k.prism < t.dist x.sa) = true) : t.why x = 2 := by
  simp only [decide_eq_true_eq, decide_eq_false_iff_not] at *
  unfold Tm.why
  simp [*]
theorem Tm.why_3 {t : Tm} {x : Vw} (h0 : decide (t.dist x.sb < t.k.ehi - t.k.squeeze) = false) (h1 : decide (t.k.elo + t.k.prism < t.dist x.sa) = false) (h2 : decide (t.win + t.k.front < x.sb) = true) : t.why x = 3 := by
  simp only [decide_eq_true_eq, decide_eq_false_iff_not] at *
  unfold Tm.why
  simp [*]
theorem Tm.why_4 {t : Tm} {x : Vw} (h0 : decide (t.dist x.sb < t.k.ehi - t.k.squeeze) = false) (h1 : decide (t.k.elo + t.k.prism < t.dist x.sa) = false) (h2 : decide (t.win + t.k.front < x.sb) = false) (h3 : decide (x.sa < t.win - t.k.deep) = true) : t.why x = 4 := by
  simp only [decide_eq_true_eq, decide_eq_false_iff_not] at *
  unfold Tm.why
  simp [*]
theorem Tm.why_5 {t : Tm} {x : Vw} (h0 : decide (t.dist x.sb < t.k.ehi - t.k.squeeze) = false) (h1 : decide (t.k.elo + t.k.prism < t.dist x.sa) = false) (h2 : decide (t.win + t.k.front < x.sb) = false) (h3 : decide (x.sa < t.win - t.k.deep) = false) (h4 : decide (0 < t.over x) = true) : t.why x = 5 := by
  simp only [decide_eq_true_eq, decide_eq_false_iff_not] at *
  unfold Tm.why
  simp [*]
theorem Tm.why_0 {t : Tm} {x : Vw} (h0 : decide (t.dist x.sb < t.k.ehi - t.k.squeeze) = false) (h1 : decide (t.k.elo + t.k.prism < t.dist x.sa) = false) (h2 : decide (t.win + t.k.front < x.sb) = false) (h3 : decide (x.sa < t.win - t.k.deep) = false) (h4 : decide (0 < t.over x) = false) : t.why x = 0 := by
  simp only [decide_eq_false_iff_not] at *
  unfold Tm.why
  simp [*]
theorem ix131_0 (w : World) : (Instr.index 131 mreasonsV (.int .i64 0)).run Tryz.prog w = .ok (.iface 168 (.agg #[])) w := by kernel_rfl
theorem me_hurts_0 (w : World) : (method 319 168 (.agg #[]) "pairworks/mount.hurts").run Tryz.prog w = .ok (168, .agg #[]) w := by kernel_rfl
theorem ix131_1 (w : World) : (Instr.index 131 mreasonsV (.int .i64 1)).run Tryz.prog w = .ok (.iface 169 (.agg #[])) w := by kernel_rfl
theorem me_hurts_1 (w : World) : (method 319 169 (.agg #[]) "pairworks/mount.hurts").run Tryz.prog w = .ok (169, .agg #[]) w := by kernel_rfl
theorem ix131_2 (w : World) : (Instr.index 131 mreasonsV (.int .i64 2)).run Tryz.prog w = .ok (.iface 170 (.agg #[])) w := by kernel_rfl
theorem me_hurts_2 (w : World) : (method 319 170 (.agg #[]) "pairworks/mount.hurts").run Tryz.prog w = .ok (170, .agg #[]) w := by kernel_rfl
theorem ix131_3 (w : World) : (Instr.index 131 mreasonsV (.int .i64 3)).run Tryz.prog w = .ok (.iface 171 (.agg #[])) w := by kernel_rfl
theorem me_hurts_3 (w : World) : (method 319 171 (.agg #[]) "pairworks/mount.hurts").run Tryz.prog w = .ok (171, .agg #[]) w := by kernel_rfl
theorem ix131_4 (w : World) : (Instr.index 131 mreasonsV (.int .i64 4)).run Tryz.prog w = .ok (.iface 172 (.agg #[])) w := by kernel_rfl
theorem me_hurts_4 (w : World) : (method 319 172 (.agg #[]) "pairworks/mount.hurts").run Tryz.prog w = .ok (172, .agg #[]) w := by kernel_rfl
def FhI (t : Tm) (w : World) (pre : List (Sv t.k.p)) (W : World) : Prop := (Box W w.heap.size t.cs 83 ∧ Box W (w.heap.size + 1) [.int .i64 0, .int .i64 0] 81 ∧ (∀ q ∈ valsOf pre, t.why q.2 = 0)) ∧ Below w.heap.size w W
def FhX (t : Tm) (w : World) (c : Code) (pre : List (Sv t.k.p)) (W : World) : Prop := (c = .ret ∧ ∃ ps q, valsOf pre = ps ++ [q] ∧ (∀ r ∈ ps, t.why r.2 = 0) ∧ t.why q.2 ≠ 0 ∧ Box W (w.heap.size + 1) [.int .i64 q.1, .int .i64 (t.why q.2)] 81) ∧ Below w.heap.size w W
def FhA (t : Tm) (w : World) (g : Value) (s : Sv t.k.p) (a' : Act) (W : World) : Prop := ∃ b, w.heap.size + 1 < b ∧ Box W b [.int .i64 s.x.la, .int .i64 s.x.lb, .int .i64 s.x.ra, .int .i64 s.x.rb, .int .i64 s.x.sa, .int .i64 s.x.sb] 127 ∧
  a' = { tmps := #[.agg t.cs.toArray, .pointer (some ⟨w.heap.size, 0, none⟩), .pointer (some ⟨w.heap.size + 1, 0, none⟩), .int .i64 s.n, .pointer (some ⟨b, 0, none⟩), undef, undef, .pointer (some ⟨w.heap.size, 0, none⟩), .agg (t.k.lk t.mb).toArray, g, .int .i64 s.n, .agg #[.int .i64 s.x.la, .int .i64 s.x.lb, .int .i64 s.x.ra, .int .i64 s.x.rb, .int .i64 s.x.sa, .int .i64 s.x.sb], undef, undef, undef, undef, undef, undef, undef, undef, undef, undef, undef, undef, undef, undef, undef], defers := [] }
theorem FhI.own (t : Tm) (w : World) {B : Nat} (hB : w.heap.size ≤ B) : OwnFrom B (FhI t w) := fun s A A' row ⟨⟨h1, h2, h3⟩, h4⟩ hg hr =>
  ⟨⟨h1.own' hg fun r e => (hr r e).2, h2.own' hg fun r e => (hr r e).2, h3⟩, ownFrom_below (β := Unit) (Nat.le_refl _) hB () A A' row h4 hg hr⟩
theorem FhX.own (t : Tm) (w : World) (c : Code) {B : Nat} (hB : w.heap.size ≤ B) : OwnFrom B (FhX t w c) := fun s A A' row ⟨⟨h1, ps, q, h2, h3, h5, h6⟩, h4⟩ hg hr =>
  ⟨⟨h1, ps, q, h2, h3, h5, h6.own' hg fun r e => (hr r e).2⟩, ownFrom_below (β := Unit) (Nat.le_refl _) hB () A A' row h4 hg hr⟩
theorem FhA.own (t : Tm) (w : World) (g : Value) (B' : Nat) (s : Sv t.k.p) (a' : Act) : OwnFrom B' (fun (_ : Unit) W => FhA t w g s a' W) := fun _ A A' row ⟨b, h1, h2, h3⟩ hg hr =>
  ⟨b, h1, h2.own' hg fun r e => (hr r e).2, h3⟩
theorem firstHurt_ok (t : Tm) (h : t.ok) (hv : ∀ q ∈ t.k.p.sees, q.2.ok) (hlen : t.k.p.l.length ≤ 900) (w : World) (hM : MapAt t.k.p.sees t.mb w) :
    Calls Tryz.prog 54 #[.agg t.cs.toArray] w fun e w' => e = .returned (.agg #[.int .i64 (t.first t.k.p.sees).1, .int .i64 (t.first t.k.p.sees).2]) ∧ Below w.heap.size w w' := by
  have HV := Lib.hid hv
  have HM := Lib.hid hM
  have HOK := Lib.hid h
  clear hv hM h
  have hl : t.cs.length = 22 := rfl
  have HB := Lib.hid ((Box.fresh w t.cs 83).grow (Gr.alloc _ (Obj.cells #[.int .i64 0, .int .i64 0] 81)))
  refine (callsIn_wide (n := 9)).1 ?_
  refine callsIn_of_wp_marks Tryz.func54 rfl trivial ?_ rfl
  simp only [Tryz.ntmps54, List.size_toArray, List.length_cons, List.length_nil, Nat.reduceAdd, Nat.reduceSub, Array.replicate_succ, Array.replicate_zero, List.push_toArray, List.append_toArray, List.nil_append, List.cons_append]
  refine wpIn_wide.2 ?_
  go_wp2_with (first | (with_reducible refine wsl (ty := 71) rfl ?_; unfold Stop; refine wpList_loadPart row71 rfl (HB.out) t.part rfl rfl rfl ?_) | (go_at_call 49; refine (things_any _ _ _).mono ?_; rintro e w1 ⟨rfl, hBx, hb1⟩))
  replace hBx : Box w1 (w.heap.size + 1 + 1) (t.k.lk t.mb) 71 := by simpa using hBx
  have hgw : Gr w w1 := ((Gr.alloc _ _).tr (Gr.alloc _ _)).tr hb1
  have hw1 : w.heap.size + 1 + 1 < w1.heap.size := hBx.lt
  have hT0 : Box w1 w.heap.size t.cs 83 := HB.out.grow hb1
  have hR0 : Box w1 (w.heap.size + 1) [.int .i64 0, .int .i64 0] 81 := by
    have := (Box.fresh (w.alloc (Obj.cells t.cs.toArray 83)) [.int .i64 0, .int .i64 0] 81).grow hb1
    simpa using this
  have hM1 := HM.out.grow hgw
  refine (wpIn_wide (n := 9)).1 ?_
  refine wpIn_rangeOwn rfl (by omega) (gf := 92) (lb := #[.pointer (some ⟨w.heap.size + 1 + 1, 0, none⟩)]) rfl trivial (enters_of Tryz.func92 (by kernel_rfl) rfl)
    (SeqStopsK.own (things_stops t.k t.mb (w.heap.size + 1 + 1) _ w1 hBx hM1 hlen)) (Gr.same _) KeepAt.trans
    (fun W o' => KeepAt.putObj W _ o' (by have := HM.out.lt; simp; omega)) (fun _ => rfl)
    (FhI t w) (FhX t w) (FhI.own t w (by omega)) (fun c => FhX.own t w c (by omega)) ⟨⟨hT0, hR0, fun q hq => by cases hq⟩, hgw⟩
    (FhA t w (.func (.func 92) #[] #[.pointer (some ⟨w.heap.size + 1 + 1, 0, none⟩)])) (fun x a' => FhA.own t w _ _ x a') ?assign ?body ?done ?stop
  case assign =>
    intro y pre x W K hi hK
    have HI := Lib.hid hi
    clear hi
    unfold encV
    have hRl := HI.out.1.2.1.lt
    gi_wp2
    exact hK _ _ ((KeepsOthers.alloc _ _).from _) (KeepAt.of (Gr.alloc _ _)) (OwnFrom.alloc (FhI.own t w (Nat.le_refl _)) _ HI.out) ⟨W.heap.size, hRl, Box.fresh W _ _, rfl⟩
  case body =>
    rintro y pre x a' W hyl - ⟨⟨hT, hR, hP⟩, hBW⟩ ⟨b, hb, hX, rfl⟩ hN
    have hxo : x.x.ok := HV.out _ x.mem
    have HC0 := Lib.hid (fun W => tooNear_ok t x.x HOK.out hxo W)
    have HC1 := Lib.hid (fun W => tooFar_ok t x.x HOK.out hxo W)
    have HC2 := Lib.hid (fun W => inFront_ok t x.x HOK.out hxo W)
    have HC3 := Lib.hid (fun W => tooDeep_ok t x.x HOK.out hxo W)
    have HC4 := Lib.hid (fun W => cutAtEdge_ok t x.x HOK.out hxo W)
    have HBW := Lib.hid hBW
    have HP := Lib.hid hP
    have HT := Lib.hid hT
    have HR := Lib.hid hR
    have HX := Lib.hid hX
    have HG := Lib.hid (Gr.same W)
    have HHB := Lib.hid hb
    have hRl := hR.lt
    clear hBW hP hT hR hX hb hxo
    have ix0 := ix131_0
    have me0 := me_hurts_0
    have ix1 := ix131_1
    have me1 := me_hurts_1
    have ix2 := ix131_2
    have me2 := me_hurts_2
    have ix3 := ix131_3
    have me3 := me_hurts_3
    have ix4 := ix131_4
    have me4 := me_hurts_4
    gi_wp2_with (refine ⟨trivial, ?_⟩; gi_at_call 94; refine (CallsIn.inRound y (callsIn_wide.2 (mreasons_any _))).mono ?_; rintro e w2 ⟨rfl, hb2⟩; have HG' := Lib.hid (HG.out.tr hb2); have HT' := Lib.hid (HT.out.grow hb2); have HR' := Lib.hid (HR.out.grow hb2); have HX' := Lib.hid (HX.out.grow hb2); clear HG HT HR HX; have HG := HG'; have HT := HT'; have HR := HR'; have HX := HX'; clear HG' HT' HR' HX'; clear hb2)
    refine wpIn_loop_rounds 6 ?_
    rw [roundsIn_succ]
    have x0 := HX.out.cell (i := 0) rfl
    have x1 := HX.out.cell (i := 1) rfl
    have x2 := HX.out.cell (i := 2) rfl
    have x3 := HX.out.cell (i := 3) rfl
    have x4 := HX.out.cell (i := 4) rfl
    have x5 := HX.out.cell (i := 5) rfl
    have bl := HX.out.lt
    cases hd0 : decide (t.dist x.x.sb < t.k.ehi - t.k.squeeze) with
    | true =>
      have HD0 := Lib.hid hd0
      clear hd0
      gi_wp2_with (first | (with_reducible refine wpListIn_stopLoad (ty := 83) rfl ?_; unfold Stop; refine wpListIn_loadPart (us := t.cs) row83 rfl (HT.out) rfl rfl rfl rfl ?_) | (refine ⟨trivial, ?_⟩; gi_at_call 168; refine (CallsIn.inRound y (callsIn_wide.2 (HC0.out _))).mono ?_; rintro e w3 ⟨rfl, hb2⟩; rw [HD0.out]; have HG' := Lib.hid (HG.out.tr hb2); have HT' := Lib.hid (HT.out.grow hb2); have HR' := Lib.hid (HR.out.grow hb2); have HX' := Lib.hid (HX.out.grow hb2); clear HG HT HR HX; have HG := HG'; have HT := HT'; have HR := HR'; have HX := HX'; clear HG' HT' HR' HX'; clear hb2 x0 x1 x2 x3 x4 x5; have r0 := HR.out.cell (i := 0) rfl; have r1 := HR.out.cell (i := 1) rfl; have rf := HR.out.free; have rl := HR.out.lt))
      have hwy : t.why x.x = 1 := Tm.why_1 HD0.out
      refine ⟨((keepsOthers_of_gr HG.out).trans ((KeepsOthers.setCell _ _ _).trans (KeepsOthers.setCell _ _ _))).from _, ⟨rfl, valsOf pre, x.q, by simp [valsOf], HP.out, ?_, ?_⟩, ((bgr HBW.out HBW.out.size HG.out).setCell (by simp) _).setCell (by simp) _⟩
      · show t.why x.x ≠ 0
        rw [hwy]; omega
      · show Box _ _ [.int .i64 x.n, .int .i64 (t.why x.x)] 81
        rw [hwy]
        exact (HR.out.put 0 _).put 1 _
    | false =>
      have HD0 := Lib.hid hd0
      clear hd0
      gi_wp2_with (first | (with_reducible refine wpListIn_stopLoad (ty := 83) rfl ?_; unfold Stop; refine wpListIn_loadPart (us := t.cs) row83 rfl (HT.out) rfl rfl rfl rfl ?_) | (refine ⟨trivial, ?_⟩; gi_at_call 168; refine (CallsIn.inRound y (callsIn_wide.2 (HC0.out _))).mono ?_; rintro e w3 ⟨rfl, hb2⟩; rw [HD0.out]; have HG' := Lib.hid (HG.out.tr hb2); have HT' := Lib.hid (HT.out.grow hb2); have HR' := Lib.hid (HR.out.grow hb2); have HX' := Lib.hid (HX.out.grow hb2); clear HG HT HR HX; have HG := HG'; have HT := HT'; have HR := HR'; have HX := HX'; clear HG' HT' HR' HX'; clear hb2 x0 x1 x2 x3 x4 x5))
      clear bl
      rw [roundsIn_succ]
      have x0 := HX.out.cell (i := 0) rfl
      have x1 := HX.out.cell (i := 1) rfl
      have x2 := HX.out.cell (i := 2) rfl
      have x3 := HX.out.cell (i := 3) rfl
      have x4 := HX.out.cell (i := 4) rfl
      have x5 := HX.out.cell (i := 5) rfl
      have bl := HX.out.lt
      cases hd1 : decide (t.k.elo + t.k.prism < t.dist x.x.sa) with
      | true =>
        have HD1 := Lib.hid hd1
        clear hd1
        gi_wp2_with (first | (with_reducible refine wpListIn_stopLoad (ty := 83) rfl ?_; unfold Stop; refine wpListIn_loadPart (us := t.cs) row83 rfl (HT.out) rfl rfl rfl rfl ?_) | (refine ⟨trivial, ?_⟩; gi_at_call 169; refine (CallsIn.inRound y (callsIn_wide.2 (HC1.out _))).mono ?_; rintro e w4 ⟨rfl, hb2⟩; rw [HD1.out]; have HG' := Lib.hid (HG.out.tr hb2); have HT' := Lib.hid (HT.out.grow hb2); have HR' := Lib.hid (HR.out.grow hb2); have HX' := Lib.hid (HX.out.grow hb2); clear HG HT HR HX; have HG := HG'; have HT := HT'; have HR := HR'; have HX := HX'; clear HG' HT' HR' HX'; clear hb2 x0 x1 x2 x3 x4 x5; have r0 := HR.out.cell (i := 0) rfl; have r1 := HR.out.cell (i := 1) rfl; have rf := HR.out.free; have rl := HR.out.lt))
        have hwy : t.why x.x = 2 := Tm.why_2 HD0.out HD1.out
        refine ⟨((keepsOthers_of_gr HG.out).trans ((KeepsOthers.setCell _ _ _).trans (KeepsOthers.setCell _ _ _))).from _, ⟨rfl, valsOf pre, x.q, by simp [valsOf], HP.out, ?_, ?_⟩, ((bgr HBW.out HBW.out.size HG.out).setCell (by simp) _).setCell (by simp) _⟩
        · show t.why x.x ≠ 0
          rw [hwy]; omega
        · show Box _ _ [.int .i64 x.n, .int .i64 (t.why x.x)] 81
          rw [hwy]
          exact (HR.out.put 0 _).put 1 _
      | false =>
        have HD1 := Lib.hid hd1
        clear hd1
        gi_wp2_with (first | (with_reducible refine wpListIn_stopLoad (ty := 83) rfl ?_; unfold Stop; refine wpListIn_loadPart (us := t.cs) row83 rfl (HT.out) rfl rfl rfl rfl ?_) | (refine ⟨trivial, ?_⟩; gi_at_call 169; refine (CallsIn.inRound y (callsIn_wide.2 (HC1.out _))).mono ?_; rintro e w4 ⟨rfl, hb2⟩; rw [HD1.out]; have HG' := Lib.hid (HG.out.tr hb2); have HT' := Lib.hid (HT.out.grow hb2); have HR' := Lib.hid (HR.out.grow hb2); have HX' := Lib.hid (HX.out.grow hb2); clear HG HT HR HX; have HG := HG'; have HT := HT'; have HR := HR'; have HX := HX'; clear HG' HT' HR' HX'; clear hb2 x0 x1 x2 x3 x4 x5))
        clear bl
        rw [roundsIn_succ]
        have x0 := HX.out.cell (i := 0) rfl
        have x1 := HX.out.cell (i := 1) rfl
        have x2 := HX.out.cell (i := 2) rfl
        have x3 := HX.out.cell (i := 3) rfl
        have x4 := HX.out.cell (i := 4) rfl
        have x5 := HX.out.cell (i := 5) rfl
        have bl := HX.out.lt
        cases hd2 : decide (t.win + t.k.front < x.x.sb) with
        | true =>
          have HD2 := Lib.hid hd2
          clear hd2
          gi_wp2_with (first | (with_reducible refine wpListIn_stopLoad (ty := 83) rfl ?_; unfold Stop; refine wpListIn_loadPart (us := t.cs) row83 rfl (HT.out) rfl rfl rfl rfl ?_) | (refine ⟨trivial, ?_⟩; gi_at_call 170; refine (CallsIn.inRound y (callsIn_wide.2 (HC2.out _))).mono ?_; rintro e w5 ⟨rfl, hb2⟩; rw [HD2.out]; have HG' := Lib.hid (HG.out.tr hb2); have HT' := Lib.hid (HT.out.grow hb2); have HR' := Lib.hid (HR.out.grow hb2); have HX' := Lib.hid (HX.out.grow hb2); clear HG HT HR HX; have HG := HG'; have HT := HT'; have HR := HR'; have HX := HX'; clear HG' HT' HR' HX'; clear hb2 x0 x1 x2 x3 x4 x5; have r0 := HR.out.cell (i := 0) rfl; have r1 := HR.out.cell (i := 1) rfl; have rf := HR.out.free; have rl := HR.out.lt))
          have hwy : t.why x.x = 3 := Tm.why_3 HD0.out HD1.out HD2.out
          refine ⟨((keepsOthers_of_gr HG.out).trans ((KeepsOthers.setCell _ _ _).trans (KeepsOthers.setCell _ _ _))).from _, ⟨rfl, valsOf pre, x.q, by simp [valsOf], HP.out, ?_, ?_⟩, ((bgr HBW.out HBW.out.size HG.out).setCell (by simp) _).setCell (by simp) _⟩
          · show t.why x.x ≠ 0
            rw [hwy]; omega
          · show Box _ _ [.int .i64 x.n, .int .i64 (t.why x.x)] 81
            rw [hwy]
            exact (HR.out.put 0 _).put 1 _
        | false =>
          have HD2 := Lib.hid hd2
          clear hd2
          gi_wp2_with (first | (with_reducible refine wpListIn_stopLoad (ty := 83) rfl ?_; unfold Stop; refine wpListIn_loadPart (us := t.cs) row83 rfl (HT.out) rfl rfl rfl rfl ?_) | (refine ⟨trivial, ?_⟩; gi_at_call 170; refine (CallsIn.inRound y (callsIn_wide.2 (HC2.out _))).mono ?_; rintro e w5 ⟨rfl, hb2⟩; rw [HD2.out]; have HG' := Lib.hid (HG.out.tr hb2); have HT' := Lib.hid (HT.out.grow hb2); have HR' := Lib.hid (HR.out.grow hb2); have HX' := Lib.hid (HX.out.grow hb2); clear HG HT HR HX; have HG := HG'; have HT := HT'; have HR := HR'; have HX := HX'; clear HG' HT' HR' HX'; clear hb2 x0 x1 x2 x3 x4 x5))
          clear bl
          rw [roundsIn_succ]
          have x0 := HX.out.cell (i := 0) rfl
          have x1 := HX.out.cell (i := 1) rfl
          have x2 := HX.out.cell (i := 2) rfl
          have x3 := HX.out.cell (i := 3) rfl
          have x4 := HX.out.cell (i := 4) rfl
          have x5 := HX.out.cell (i := 5) rfl
          have bl := HX.out.lt
          cases hd3 : decide (x.x.sa < t.win - t.k.deep) with
          | true =>
            have HD3 := Lib.hid hd3
            clear hd3
            gi_wp2_with (first | (with_reducible refine wpListIn_stopLoad (ty := 83) rfl ?_; unfold Stop; refine wpListIn_loadPart (us := t.cs) row83 rfl (HT.out) rfl rfl rfl rfl ?_) | (refine ⟨trivial, ?_⟩; gi_at_call 171; refine (CallsIn.inRound y (callsIn_wide.2 (HC3.out _))).mono ?_; rintro e w6 ⟨rfl, hb2⟩; rw [HD3.out]; have HG' := Lib.hid (HG.out.tr hb2); have HT' := Lib.hid (HT.out.grow hb2); have HR' := Lib.hid (HR.out.grow hb2); have HX' := Lib.hid (HX.out.grow hb2); clear HG HT HR HX; have HG := HG'; have HT := HT'; have HR := HR'; have HX := HX'; clear HG' HT' HR' HX'; clear hb2 x0 x1 x2 x3 x4 x5; have r0 := HR.out.cell (i := 0) rfl; have r1 := HR.out.cell (i := 1) rfl; have rf := HR.out.free; have rl := HR.out.lt))
            have hwy : t.why x.x = 4 := Tm.why_4 HD0.out HD1.out HD2.out HD3.out
            refine ⟨((keepsOthers_of_gr HG.out).trans ((KeepsOthers.setCell _ _ _).trans (KeepsOthers.setCell _ _ _))).from _, ⟨rfl, valsOf pre, x.q, by simp [valsOf], HP.out, ?_, ?_⟩, ((bgr HBW.out HBW.out.size HG.out).setCell (by simp) _).setCell (by simp) _⟩
            · show t.why x.x ≠ 0
              rw [hwy]; omega
            · show Box _ _ [.int .i64 x.n, .int .i64 (t.why x.x)] 81
              rw [hwy]
              exact (HR.out.put 0 _).put 1 _
          | false =>
            have HD3 := Lib.hid hd3
            clear hd3
            gi_wp2_with (first | (with_reducible refine wpListIn_stopLoad (ty := 83) rfl ?_; unfold Stop; refine wpListIn_loadPart (us := t.cs) row83 rfl (HT.out) rfl rfl rfl rfl ?_) | (refine ⟨trivial, ?_⟩; gi_at_call 171; refine (CallsIn.inRound y (callsIn_wide.2 (HC3.out _))).mono ?_; rintro e w6 ⟨rfl, hb2⟩; rw [HD3.out]; have HG' := Lib.hid (HG.out.tr hb2); have HT' := Lib.hid (HT.out.grow hb2); have HR' := Lib.hid (HR.out.grow hb2); have HX' := Lib.hid (HX.out.grow hb2); clear HG HT HR HX; have HG := HG'; have HT := HT'; have HR := HR'; have HX := HX'; clear HG' HT' HR' HX'; clear hb2 x0 x1 x2 x3 x4 x5))
            clear bl
            rw [roundsIn_succ]
            have x0 := HX.out.cell (i := 0) rfl
            have x1 := HX.out.cell (i := 1) rfl
            have x2 := HX.out.cell (i := 2) rfl
            have x3 := HX.out.cell (i := 3) rfl
            have x4 := HX.out.cell (i := 4) rfl
            have x5 := HX.out.cell (i := 5) rfl
            have bl := HX.out.lt
            cases hd4 : decide (0 < t.over x.x) with
            | true =>
              have HD4 := Lib.hid hd4
              clear hd4
              gi_wp2_with (first | (with_reducible refine wpListIn_stopLoad (ty := 83) rfl ?_; unfold Stop; refine wpListIn_loadPart (us := t.cs) row83 rfl (HT.out) rfl rfl rfl rfl ?_) | (refine ⟨trivial, ?_⟩; gi_at_call 172; refine (CallsIn.inRound y (callsIn_wide.2 (HC4.out _))).mono ?_; rintro e w7 ⟨rfl, hb2⟩; rw [HD4.out]; have HG' := Lib.hid (HG.out.tr hb2); have HT' := Lib.hid (HT.out.grow hb2); have HR' := Lib.hid (HR.out.grow hb2); have HX' := Lib.hid (HX.out.grow hb2); clear HG HT HR HX; have HG := HG'; have HT := HT'; have HR := HR'; have HX := HX'; clear HG' HT' HR' HX'; clear hb2 x0 x1 x2 x3 x4 x5; have r0 := HR.out.cell (i := 0) rfl; have r1 := HR.out.cell (i := 1) rfl; have rf := HR.out.free; have rl := HR.out.lt))
              have hwy : t.why x.x = 5 := Tm.why_5 HD0.out HD1.out HD2.out HD3.out HD4.out
              refine ⟨((keepsOthers_of_gr HG.out).trans ((KeepsOthers.setCell _ _ _).trans (KeepsOthers.setCell _ _ _))).from _, ⟨rfl, valsOf pre, x.q, by simp [valsOf], HP.out, ?_, ?_⟩, ((bgr HBW.out HBW.out.size HG.out).setCell (by simp) _).setCell (by simp) _⟩
              · show t.why x.x ≠ 0
                rw [hwy]; omega
              · show Box _ _ [.int .i64 x.n, .int .i64 (t.why x.x)] 81
                rw [hwy]
                exact (HR.out.put 0 _).put 1 _
            | false =>
              have HD4 := Lib.hid hd4
              clear hd4
              gi_wp2_with (first | (with_reducible refine wpListIn_stopLoad (ty := 83) rfl ?_; unfold Stop; refine wpListIn_loadPart (us := t.cs) row83 rfl (HT.out) rfl rfl rfl rfl ?_) | (refine ⟨trivial, ?_⟩; gi_at_call 172; refine (CallsIn.inRound y (callsIn_wide.2 (HC4.out _))).mono ?_; rintro e w7 ⟨rfl, hb2⟩; rw [HD4.out]; have HG' := Lib.hid (HG.out.tr hb2); have HT' := Lib.hid (HT.out.grow hb2); have HR' := Lib.hid (HR.out.grow hb2); have HX' := Lib.hid (HX.out.grow hb2); clear HG HT HR HX; have HG := HG'; have HT := HT'; have HR := HR'; have HX := HX'; clear HG' HT' HR' HX'; clear hb2 x0 x1 x2 x3 x4 x5))
              clear bl
              rw [roundsIn_succ]
              gi_wp2
              have hwy : t.why x.x = 0 := Tm.why_0 HD0.out HD1.out HD2.out HD3.out HD4.out
              refine ⟨(keepsOthers_of_gr HG.out).from _, KeepAt.of HG.out, ⟨HT.out, HR.out, ?_⟩, bgr HBW.out HBW.out.size HG.out⟩
              intro q hq
              unfold valsOf at hq
              rw [List.map_append, List.mem_append] at hq
              rcases hq with hq | hq
              · exact HP.out q hq
              · have : q = x.q := by simpa using hq
                subst this
                exact hwy
  case done =>
    rintro D ys W hD hys ⟨⟨hT, hR, hP⟩, hBW⟩ hK
    have hf : t.first t.k.p.sees = (0, 0) := by
      have h0 := t.first_skip (r := []) hP
      rw [List.append_nil, hys] at h0
      exact h0
    have HF := Lib.hid hf
    have HBW := Lib.hid hBW
    have HR := Lib.hid hR
    have HK := Lib.hid hK
    clear hf hBW hK hP hT hR hys
    go_wp2_with (go_at_call 55; refine (unhurt_any _).mono ?_; rintro e w2 ⟨rfl, hb2⟩; have HG := Lib.hid (show Gr _ _ from hb2); have HR2 := Lib.hid (HR.out.grow hb2); clear hb2; have r0 := HR2.out.cell (i := 0) rfl; have r1 := HR2.out.cell (i := 1) rfl; have rf := HR2.out.free; have rl := HR2.out.lt)
    have hK4 := ((keepsOthers_of_gr HG.out).trans ((KeepsOthers.setCell w2 ⟨w.heap.size + 1, 0, none⟩ (.int .i64 0)).trans (KeepsOthers.setCell _ ⟨w.heap.size + 1, 1, none⟩ (.int .i64 0)))).same D _ HK.out rfl
    have hR4 := (HR2.out.put 0 (.int .i64 0)).put 1 (.int .i64 0)
    refine ⟨by simp, .inl ⟨_, _, rfl, run_takeDeferred hK4, ?_⟩⟩
    have hR5 := hR4.own' (grownBy_putObj' _ D (.deferred none)) (fun r e => by cases e; exact ⟨_, hK4, rfl⟩)
    obtain ⟨e0, e1, -, -, -⟩ := Box.two hR5
    refine ⟨.agg #[.int .i64 0, .int .i64 0], ?_, by rw [HF.out], (((bgr HBW.out HBW.out.size HG.out).setCell (by simp) _).setCell (by simp) _).trans (belowK_b (w := w) (Nat.le_refl _) _ D _ _ (by omega) hK4 rfl rfl)⟩
    simp [results, Tryz.f54, go_sem, e0, e1]
  case stop =>
    rintro D c pre W hD ⟨rest, hsees⟩ ⟨⟨rfl, ps, q, hps, hz, hne, hbox⟩, hBW⟩ hK
    have hf : t.first t.k.p.sees = (q.1, t.why q.2) := by
      rw [hsees, hps, List.append_assoc, t.first_skip hz]
      simp only [List.cons_append, Tm.first]
      rw [if_neg hne]
    have HF := Lib.hid hf
    have HBW := Lib.hid hBW
    have HR := Lib.hid hbox
    have HK := Lib.hid hK
    clear hf hBW hK hz hbox hps hsees hne
    refine wpIn_wide.2 ?_
    go_wp2
    refine ⟨by simp, .inl ⟨_, _, rfl, run_takeDeferred HK.out, ?_⟩⟩
    have hR5 := HR.out.own' (grownBy_putObj' _ D (.deferred none)) (fun r e => by cases e; exact ⟨_, HK.out, rfl⟩)
    obtain ⟨e0, e1, -, -, -⟩ := Box.two hR5
    refine ⟨.agg #[.int .i64 q.1, .int .i64 (t.why q.2)], ?_, by rw [HF.out], HBW.out.trans (belowK_b (w := w) (Nat.le_refl _) _ D _ _ (by omega) HK.out rfl rfl)⟩
    simp [results, Tryz.f54, go_sem, e0, e1]
end Go.Proofs.YtcngaohfemdfjaaGreat
namespace Go.Proofs.YtcngaohfemdfjaaGreat
open Go.RowKit Go.Shelf
attribute [local go_sem] Oper.semAt_some
def Tm.eyesTo (t : Tm) (a : Int × Int) (l : List (Int × Vw)) : Int × Int := l.foldl (fun a q => (imax a.1 (t.dist q.2.sa - t.k.prism), imin a.2 (t.dist q.2.sb + t.k.squeeze))) a
theorem Tm.eyesTo_snoc (t : Tm) (a : Int × Int) (l : List (Int × Vw)) (q : Int × Vw) : t.eyesTo a (l ++ [q]) = (imax (t.eyesTo a l).1 (t.dist q.2.sa - t.k.prism), imin (t.eyesTo a l).2 (t.dist q.2.sb + t.k.squeeze)) := by simp [Tm.eyesTo]
theorem Only.own {b : Nat} {w A A' : World} {row : Option Nat} {B : Nat} (h : Only b w A) (hB : w.heap.size ≤ B) (hb : b < w.heap.size) (hg : A.grownBy A' row) (hr : ∀ r, row = some r → B ≤ r ∧ ∃ o : Obj, A.heap[r]? = some o ∧ o.isCells = false) : Only b w A' :=
  ⟨ownFrom_below (β := Unit) (n₀ := b) (w₀ := w) (by omega) (show b ≤ B by omega) () A A' row h.low hg hr, Nat.le_trans h.size hg.size, fun k hk hl => (hg.block k (Nat.lt_of_lt_of_le hl h.size) (fun e => by have := (hr k e.symm).1; omega)).trans (h.keep k hk hl)⟩
theorem Only.from {b : Nat} {A A' : World} (h : Only b A A') {B : Nat} (hb : b < B) : KeepsFrom B A A' := ⟨h.size, fun k o hk ho _ => (h.keep k (by omega) (Array.getElem?_eq_some_iff.1 ho).1).trans ho⟩
theorem map_ne {es : List (Int × Vw)} {mb b : Nat} {vs : List Value} {T : TypeId} {w : World} (h : MapAt es mb w) (hb : Box w b vs T) : mb ≠ b := fun e => by
  subst e
  obtain ⟨l, c, h1, -⟩ := h
  rw [show w.heap[mb]? = _ from hb] at h1
  cases h1
def TeI (t : Tm) (b : Nat) (a : Int × Int) (w : World) (pre : List (Sv t.k.p)) (W : World) : Prop := Box W w.heap.size t.cs 83 ∧ Box W (w.heap.size + 1) [sayTo b] 137 ∧ Box W b [.int .i64 (t.eyesTo a (valsOf pre)).1, .int .i64 (t.eyesTo a (valsOf pre)).2] 136 ∧ Only b w W
theorem TeI.own (t : Tm) (b : Nat) (a : Int × Int) (w : World) {B : Nat} (hB : w.heap.size ≤ B) (hb : b < w.heap.size) : OwnFrom B (TeI t b a w) := fun s A A' row ⟨h1, h2, h3, h4⟩ hg hr =>
  ⟨h1.own' hg fun r e => (hr r e).2, h2.own' hg fun r e => (hr r e).2, h3.own' hg fun r e => (hr r e).2, h4.own hB hb hg hr⟩
def TeA (t : Tm) (b : Nat) (w : World) (g : Value) (s : Sv t.k.p) (a' : Act) (W : World) : Prop := ∃ b5, w.heap.size + 1 < b5 ∧ Box W b5 [.int .i64 s.x.la, .int .i64 s.x.lb, .int .i64 s.x.ra, .int .i64 s.x.rb, .int .i64 s.x.sa, .int .i64 s.x.sb] 127 ∧
  a' = { tmps := #[.agg t.cs.toArray, sayTo b, .pointer (some ⟨w.heap.size, 0, none⟩), .pointer (some ⟨w.heap.size + 1, 0, none⟩), undef, .pointer (some ⟨b5, 0, none⟩), .pointer (some ⟨w.heap.size, 0, none⟩), .agg (t.k.lk t.mb).toArray, g, .int .i64 s.n, .agg #[.int .i64 s.x.la, .int .i64 s.x.lb, .int .i64 s.x.ra, .int .i64 s.x.rb, .int .i64 s.x.sa, .int .i64 s.x.sb], undef, undef, undef, undef, undef, undef, undef, undef, undef, undef, undef, undef, undef, undef, undef, undef, undef, undef, undef, undef, undef, undef], defers := [] }
theorem TeA.own (t : Tm) (b : Nat) (w : World) (g : Value) (B' : Nat) (s : Sv t.k.p) (a' : Act) : OwnFrom B' (fun (_ : Unit) W => TeA t b w g s a' W) := fun _ A A' row ⟨b5, h1, h2, h3⟩ hg hr =>
  ⟨b5, h1, h2.own' hg fun r e => (hr r e).2, h3⟩
theorem tellEyes_ok (t : Tm) (h : t.ok) (hv : ∀ q ∈ t.k.p.sees, q.2.ok) (hlen : t.k.p.l.length ≤ 900) (b : Nat) (a : Int × Int) (w : World) (hb : Box w b [.int .i64 a.1, .int .i64 a.2] 136) (hM : MapAt t.k.p.sees t.mb w) :
    Calls Tryz.prog 59 #[.agg t.cs.toArray, sayTo b] w fun e w' => e = .returned (.tuple #[]) ∧ Box w' b [.int .i64 (t.eyesTo a t.k.p.sees).1, .int .i64 (t.eyesTo a t.k.p.sees).2] 136 ∧ Only b w w' := by
  have HV := Lib.hid hv
  have HM := Lib.hid hM
  have HOK := Lib.hid h
  have HX := Lib.hid hb
  have hbl := hb.lt
  have hmb := map_ne hM hb
  clear hv hM h hb
  have hl : t.cs.length = 22 := rfl
  have HB := Lib.hid ((Box.fresh w t.cs 83).grow (Gr.alloc _ (Obj.cells #[sayTo b] 137)))
  refine (callsIn_wide (n := 9)).1 ?_
  refine callsIn_of_wp_marks Tryz.func59 rfl trivial ?_ rfl
  simp only [Tryz.ntmps59, List.size_toArray, List.length_cons, List.length_nil, Nat.reduceAdd, Nat.reduceSub, Array.replicate_succ, Array.replicate_zero, List.push_toArray, List.append_toArray, List.nil_append, List.cons_append]
  refine wpIn_wide.2 ?_
  unfold sayTo at HB
  unfold sayTo
  go_wp2_with (first | (with_reducible refine wsl (ty := 71) rfl ?_; unfold Stop; refine wpList_loadPart row71 rfl (HB.out) t.part rfl rfl rfl ?_) | (go_at_call 49; refine (things_any _ _ _).mono ?_; rintro e w1 ⟨rfl, hBx, hb1⟩))
  replace hBx : Box w1 (w.heap.size + 1 + 1) (t.k.lk t.mb) 71 := by simpa using hBx
  have hgw : Gr w w1 := ((Gr.alloc _ _).tr (Gr.alloc _ _)).tr hb1
  have hw1 : w.heap.size + 1 + 1 < w1.heap.size := hBx.lt
  have hT0 : Box w1 w.heap.size t.cs 83 := HB.out.grow hb1
  have hR0 : Box w1 (w.heap.size + 1) [sayTo b] 137 := by
    have := (Box.fresh (w.alloc (Obj.cells t.cs.toArray 83)) [sayTo b] 137).grow hb1
    simpa using this
  have hM1 := HM.out.grow hgw
  have hml := HM.out.lt
  refine (wpIn_wide (n := 9)).1 ?_
  refine wpIn_rangeOwn rfl (by omega) (gf := 92) (lb := #[.pointer (some ⟨w.heap.size + 1 + 1, 0, none⟩)]) rfl trivial (enters_of Tryz.func92 (by kernel_rfl) rfl)
    (SeqStopsK.own (things_stops t.k t.mb (w.heap.size + 1 + 1) _ w1 hBx hM1 hlen)) (Gr.same _) KeepAt.trans
    (fun W o' => KeepAt.putObj W _ o' (by simp; omega)) (fun _ => rfl)
    (TeI t b a w) (fun _ _ _ => False) (TeI.own t b a w (by omega) hbl) (fun _ _ _ _ _ hs _ _ => hs) ⟨hT0, hR0, HX.out.grow hgw, Only.of hbl hgw⟩
    (TeA t b w (.func (.func 92) #[] #[.pointer (some ⟨w.heap.size + 1 + 1, 0, none⟩)])) (fun x a' => TeA.own t b w _ _ x a') ?assign ?body ?done ?stop
  case assign =>
    intro y pre x W K hi hK
    have HI := Lib.hid hi
    clear hi
    unfold encV
    have hRl := HI.out.2.1.lt
    gi_wp2
    exact hK _ _ ((KeepsOthers.alloc _ _).from _) (KeepAt.of (Gr.alloc _ _)) (OwnFrom.alloc (TeI.own t b a w (Nat.le_refl _) hbl) _ HI.out) ⟨W.heap.size, hRl, Box.fresh W _ _, rfl⟩
  case body =>
    rintro y pre x a' Wr hyl - ⟨hT, hR, hB, hO⟩ ⟨b5, hb5, hX, rfl⟩ hN
    have hxo : x.x.ok := HV.out _ x.mem
    have HA := Lib.hid (fun W => distance_ok t HOK.out x.x.sa hxo.sa W)
    have HE := Lib.hid (fun W => distance_ok t HOK.out x.x.sb hxo.sb W)
    have hda := HOK.out.dist hxo.sa
    have hdb := HOK.out.dist hxo.sb
    have hpr := HOK.out.prism
    have hsq := HOK.out.squeeze
    have hsn := t.eyesTo_snoc a (valsOf pre) x.q
    have hvs : valsOf (pre ++ [x]) = valsOf pre ++ [x.q] := by simp [valsOf]
    rw [← hvs] at hsn
    have HSN := Lib.hid hsn
    clear hxo hsn hvs
    generalize t.eyesTo a (valsOf pre) = ac at *
    obtain ⟨ac0, ac1⟩ := ac
    have t13 := hT.cell (i := 13) rfl
    have t14 := hT.cell (i := 14) rfl
    have tl := hT.lt
    have r0 := hR.cell (i := 0) rfl
    have rl := hR.lt
    have x4 := hX.cell (i := 4) rfl
    have x5 := hX.cell (i := 5) rfl
    have xl := hX.lt
    have HT := Lib.hid hT
    have HR := Lib.hid hR
    have HBB := Lib.hid hB
    have HO := Lib.hid hO
    have HXX := Lib.hid hX
    unfold sayTo at r0
    clear hT hR hB hO hX
    unfold sayTo
    dsimp only
    gi_wp2_with fail
    refine region2_in 21 ?_ ?_ ?_ ?_ ?_
    · kernel_rfl
    · kernel_rfl
    · kernel_rfl
    · rintro ⟨_, _, h⟩; exact h
    simp only [List.take_succ_cons, List.take_zero, List.drop_succ_cons, List.drop_zero]
    apply ceq (D := [(3, none)]) rfl (by kernel_rfl)
    · intro ρ W ⟨p1,p2,p3⟩ hG hF K hK; (try simp [FD] at hF); have ⟨hc, hf, hz⟩ := bdr hG; go_simp; exact hK _ gv
    apply ceq (D := [(2, none)]) rfl (by kernel_rfl)
    · intro ρ W ⟨p1,p2,p3⟩ hG hF K hK; (try simp [FD] at hF); rw [xlb row83 t.cs_len (HT.out.grow (Gr.tr (Gr.drew _) hG)) rfl hF]; exact hK _ gv
    apply ceq (D := [(5, none)]) rfl (by kernel_rfl)
    · intro ρ W ⟨p1,p2,p3⟩ hG hF K hK; (try simp [FD] at hF); have ⟨hc, hf, hz⟩ := bdr hG; go_simp; exact hK _ gv
    apply ceq (D := [(13, some 0)]) rfl (by kernel_rfl)
    · intro ρ W ⟨p1,p2,p3⟩ hG hF K hK; (try simp [FD] at hF); have ⟨hc, hf, hz⟩ := bdr hG; go_simp; exact hK _ gv
    apply ceq (D := [(14, some 0)]) rfl (by kernel_rfl)
    · intro ρ W ⟨p1,p2,p3⟩ hG hF K hK; (try simp [FD] at hF); have ⟨hc, hf, hz⟩ := bdr hG; go_simp; exact hK _ gv
    apply ceq (D := [(12, some 3), (15, some 0)]) rfl (by kernel_rfl)
    · intro ρ W ⟨p1,p2,p3⟩ hG hF K hK; (try simp [FD] at hF); have ⟨hc, hf, hz⟩ := bdr hG; go_simp; exact hK _ (gc (HA.out _))
    apply ceq (D := [(2, none)]) rfl (by kernel_rfl)
    · intro ρ W ⟨p1,p2,p3⟩ hG hF K hK; (try simp [FD] at hF); have ⟨hc, hf, hz⟩ := bdr hG; go_simp; exact hK _ gv
    apply ceq (D := [(17, some 0)]) rfl (by kernel_rfl)
    · intro ρ W ⟨p1,p2,p3⟩ hG hF K hK; (try simp [FD] at hF); have ⟨hc, hf, hz⟩ := bdr hG; go_simp; exact hK _ gv
    apply ceq (D := [(18, some 0)]) rfl (by kernel_rfl)
    · intro ρ W ⟨p1,p2,p3⟩ hG hF K hK; (try simp [FD] at hF); have ⟨hc, hf, hz⟩ := bdr hG; go_simp; exact hK _ gv
    apply ceq (D := [(19, some 0)]) rfl (by kernel_rfl)
    · intro ρ W ⟨p1,p2,p3⟩ hG hF K hK; (try simp [FD] at hF); have ⟨hc, hf, hz⟩ := bdr hG; go_simp; exact hK _ gv
    apply ceq (D := [(16, some 4), (20, some 0)]) rfl (by kernel_rfl)
    · intro ρ W ⟨p1,p2,p3⟩ hG hF K hK; (try simp [FD] at hF); have ⟨hc, hf, hz⟩ := bdr hG; go_simp; exact hK _ gv
    apply ceq (D := [(2, none)]) rfl (by kernel_rfl)
    · intro ρ W ⟨p1,p2,p3⟩ hG hF K hK; (try simp [FD] at hF); rw [xlb row83 t.cs_len (HT.out.grow (Gr.tr (Gr.drew _) hG)) rfl hF]; exact hK _ gv
    apply ceq (D := [(5, none)]) rfl (by kernel_rfl)
    · intro ρ W ⟨p1,p2,p3⟩ hG hF K hK; (try simp [FD] at hF); have ⟨hc, hf, hz⟩ := bdr hG; go_simp; exact hK _ gv
    apply ceq (D := [(23, some 0)]) rfl (by kernel_rfl)
    · intro ρ W ⟨p1,p2,p3⟩ hG hF K hK; (try simp [FD] at hF); have ⟨hc, hf, hz⟩ := bdr hG; go_simp; exact hK _ gv
    apply ceq (D := [(24, some 0)]) rfl (by kernel_rfl)
    · intro ρ W ⟨p1,p2,p3⟩ hG hF K hK; (try simp [FD] at hF); have ⟨hc, hf, hz⟩ := bdr hG; go_simp; exact hK _ gv
    apply ceq (D := [(22, some 3), (25, some 0)]) rfl (by kernel_rfl)
    · intro ρ W ⟨p1,p2,p3⟩ hG hF K hK; (try simp [FD] at hF); have ⟨hc, hf, hz⟩ := bdr hG; go_simp; exact hK _ (gc (HE.out _))
    apply ceq (D := [(2, none)]) rfl (by kernel_rfl)
    · intro ρ W ⟨p1,p2,p3⟩ hG hF K hK; (try simp [FD] at hF); have ⟨hc, hf, hz⟩ := bdr hG; go_simp; exact hK _ gv
    apply ceq (D := [(27, some 0)]) rfl (by kernel_rfl)
    · intro ρ W ⟨p1,p2,p3⟩ hG hF K hK; (try simp [FD] at hF); have ⟨hc, hf, hz⟩ := bdr hG; go_simp; exact hK _ gv
    apply ceq (D := [(28, some 0)]) rfl (by kernel_rfl)
    · intro ρ W ⟨p1,p2,p3⟩ hG hF K hK; (try simp [FD] at hF); have ⟨hc, hf, hz⟩ := bdr hG; go_simp; exact hK _ gv
    apply ceq (D := [(29, some 0)]) rfl (by kernel_rfl)
    · intro ρ W ⟨p1,p2,p3⟩ hG hF K hK; (try simp [FD] at hF); have ⟨hc, hf, hz⟩ := bdr hG; go_simp; exact hK _ gv
    apply ceq (D := [(26, some 4), (30, some 0)]) rfl (by kernel_rfl)
    · intro ρ W ⟨p1,p2,p3⟩ hG hF K hK; (try simp [FD] at hF); have ⟨hc, hf, hz⟩ := bdr hG; go_simp; exact hK _ gv
    refine cdn ?_
    intro vs W hG hV
    obtain ⟨e20, -, -, -, -, -, -, -, -, -, e10, -, -, -, -, -, -, -, -, -, e0, -⟩ := hV
    simp only [Nat.reduceSub] at e0 e10
    simp only [Nat.reduceSub] at e20
    simp only [lay, Act.put, List.getElem?_toArray, List.getElem?_cons_succ, List.getElem?_cons_zero, Option.bind_some, List.setIfInBounds_toArray, List.set_cons_succ, List.set_cons_zero]
    generalize vs 0 = v0 at *
    generalize vs 1 = v1, vs 2 = v2, vs 3 = v3, vs 4 = v4, vs 5 = v5, vs 6 = v6, vs 7 = v7, vs 8 = v8, vs 9 = v9
    generalize vs 10 = v10 at *
    generalize vs 11 = v11, vs 12 = v12, vs 13 = v13, vs 14 = v14, vs 15 = v15, vs 16 = v16, vs 17 = v17, vs 18 = v18, vs 19 = v19
    generalize vs 20 = v20 at *
    subst e0
    subst e10
    subst e20
    obtain ⟨hc, hf, hz⟩ := bcell hG
    have HG := Lib.hid hG
    clear hG hc hf hz
    go_wp2_with fail
    refine (mnarrow_any b ac0 ac1 _ _ _ (HBB.out.grow HG.out)).mono ?_
    rintro e w3 ⟨rfl, hk3, ho3⟩
    have HO3 := Lib.hid ho3
    have HN3 := Lib.hid hk3
    clear ho3 hk3
    go_wp2
    refine ⟨((keepsOthers_of_gr HG.out).from _).trans (HO3.out.from (by omega)), (KeepAt.of HG.out).trans (KeepAt.only HO3.out (by simp; omega)), ⟨HO3.out.box (HT.out.grow HG.out) (by omega), HO3.out.box (HR.out.grow HG.out) (by omega), ?_, (HO.out.tr (Only.of (Nat.lt_of_lt_of_le hbl HO.out.size) HG.out)).tr HO3.out⟩⟩
    rw [HSN.out]
    exact HN3.out
  case done =>
    rintro D ys W hD hys ⟨hT, hR, hB, hO⟩ hK
    rw [hys] at hB
    have HB := Lib.hid hB
    have HO := Lib.hid hO
    have HK := Lib.hid hK
    clear hB hO hK hT hR hys
    go_wp2
    refine ⟨by simp, .inl ⟨_, _, rfl, run_takeDeferred HK.out, ?_⟩⟩
    have hB5 := HB.out.own' (grownBy_putObj' _ D (.deferred none)) (fun r e => by cases e; exact ⟨_, HK.out, rfl⟩)
    have hO5 := HO.out.own (Nat.le_refl _) hbl (grownBy_putObj' _ D (.deferred none)) (fun r e => by cases e; exact ⟨by omega, _, HK.out, rfl⟩)
    exact ⟨.tuple #[], by simp [results, Tryz.f59, go_sem], rfl, hB5, hO5⟩
  case stop =>
    rintro D c pre W _ _ h _
    exact h.elim
end Go.Proofs.YtcngaohfemdfjaaGreat
