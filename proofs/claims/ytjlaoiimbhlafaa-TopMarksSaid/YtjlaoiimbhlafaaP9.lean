import Derived.Test.YtjlaoiimbhlafaaP8
import Derived.Deep.AppendLies
import Derived.Laws.EntriesVeiled
set_option linter.unusedVariables false
set_option linter.unusedSimpArgs false
section
namespace Go.Proofs.Ytjlaoiimbhlafaa
open Go.RowKit Go.Shelf

open MW
attribute [local go_sem] Oper.semAt_some run_store_func
def Lk.wh (k : Lk) (n : Int) : Lk := { k with h := n }
theorem Lk.wh_set (k : Lk) (a b : Int) : (k.wh a).cs.set 4 (.int .i64 b) = (k.wh b).cs := rfl
theorem Lk.wh_self (k : Lk) : k.wh k.h = k := rfl
theorem Lk.Ok.wh {k : Lk} (hk : k.Ok) {n : Int} (h : 0 ≤ n ∧ n ≤ 20) : (k.wh n).Ok := ⟨hk.nL, hk.nR, h, hk.m, hk.r⟩
/-- How many ways there are if so many marks can be hidden. -/
def Lk.at_ (k : Lk) (n : Int) : Nat := k.wy k.all 0 0 n
/-- How many marks are hidden at least. -/
def Lk.few (k : Lk) : Nat := ((List.range 21).find? fun n : Nat => k.at_ n != 0).getD 0
theorem Lk.few_is {k : Lk} {n : Nat} (hn : n ≤ 20) (h0 : k.at_ n ≠ 0) (hl : ∀ j : Nat, j < n → k.at_ j = 0) : k.few = n := by
  unfold Lk.few
  rw [find_pre (f := fun n : Nat => k.at_ n != 0) (n := n) (fun j hj => by simp [hl j hj]) (by simpa using h0) (by omega)]
  rfl
set_option maxRecDepth 100000 in
set_option maxHeartbeats 1000000 in
theorem fewest_any (k : Lk) (w : World) (hk : k.Ok) (h0 : k.all0 ≠ 0) :
    Calls Try.prog 55 #[.agg k.cs.toArray] w fun e w' => e = .returned (.int .i64 (k.few : Nat)) ∧ Below w.heap.size w w' := by
  have HB := Lib.hid (Box.fresh w k.cs 85)
  have hl := k.cs_len
  have HK := Lib.hid hk
  have H0 := Lib.hid h0
  have hh := hk.h
  have hW : Gr w (w.alloc (Obj.cells k.cs.toArray 85)) := Gr.alloc _ _
  have f4 := HB.out.free (i := 4)
  have z4 := HB.out.cell k.c4
  have l4 := HB.out.lt
  generalize hw1 : w.alloc (Obj.cells k.cs.toArray 85) = w1 at *
  have HW := Lib.hid hW
  clear hk h0 hW
  go_enter Try.func55, Try.ntmps55
  go_wp2_with fail
  have HB1 := Lib.hid (show Box (w1.setCell ⟨w.heap.size, 4, none⟩ (.int .i64 0)) w.heap.size (k.wh ((0 : Nat) : Int)).cs 85 by
    rw [← k.wh_set k.h, k.wh_self]
    exact HB.out.put 4 _)
  have HO1 := Lib.hid (Only.set w1 (b := w.heap.size) 4 (.int .i64 0))
  clear HB z4 f4 l4
  generalize w1.setCell ⟨w.heap.size, 4, none⟩ (.int .i64 0) = w2 at *
  go_loopw [] (fun wr => ∃ n : Nat, n ≤ 20 ∧ Hid (Box wr w.heap.size (k.wh n).cs 85) ∧ Hid (Only w.heap.size w1 wr) ∧ Hid (∀ j : Nat, j < n → k.at_ j = 0)) (fun wr => (30 - intOf ((wr.cell? ⟨w.heap.size, 4, none⟩).getD undef)).toNat)
  case atStart => exact ⟨0, by omega, HB1, HO1, Lib.hid fun j hj => absurd hj (by omega)⟩
  case round =>
    obtain ⟨n, hn, HX, HO, HN⟩ := hrel
    have HC := Lib.hid (fun W => count_any (k.wh n) k.all HK.out.m HK.out.r HK.out.nL HK.out.nR (show 0 ≤ (n : Int) ∧ (n : Int) ≤ 20 by omega) W)
    have hc0 : (k.wh n).wy k.all 0 0 (k.wh n).h = k.at_ n := rfl
    rw [hc0] at HC
    have z4 := HX.out.cell (Lk.c4 _)
    have hz4 : (k.wh n).h = n := rfl
    rw [hz4] at z4
    have l4 := HX.out.lt
    have hm0 : (30 - intOf ((wr.cell? ⟨w.heap.size, 4, none⟩).getD undef)).toNat = 30 - n := by rw [z4]; first | (simp [intOf]; done) | (simp [intOf]; omega)
    have HM0 := Lib.hid hm0
    clear hm0 hc0 hz4
    cases hq : (k.at_ n == 0) with
    | true =>
      have he : ((k.at_ n : Int) == 0) = true := by rw [← hq, Bool.eq_iff_iff, beq_iff_eq, beq_iff_eq]; omega
      have hn20 : n < 20 := by
        by_cases hlt : n < 20
        · exact hlt
        · exfalso
          have h1 : k.at_ k.h ≠ 0 := H0.out
          have h2 : k.at_ n = 0 := by simpa using hq
          have h3 : k.h = ((k.h.toNat : Nat) : Int) := by omega
          by_cases h4 : k.h.toNat < n
          · rw [h3] at h1
            exact h1 (HN.out _ h4)
          · have h5 : k.h = n := by omega
            rw [h5] at h1
            exact h1 h2
      have HQ := Lib.hid (show k.at_ n = 0 by simpa using hq)
      clear hq
      go_wp2_with (first | (with_reducible refine wpList_stopLoad (ty := 85) rfl ?_; unfold Stop; refine wpList_loadBox row85 ((k.wh n).cs_len) (HX.out) rfl rfl rfl ?_) | (with_reducible refine wpList_stopLoad (ty := 83) rfl ?_; unfold Stop; refine wpList_loadPart row83 (opts_len k.all) (HX.out) (k.wh n).part rfl rfl rfl ?_) | (go_at_call 52; refine (HC.out _).mono ?_; rintro e w3 ⟨rfl, hb3⟩; have HG3 := Lib.hid (show Gr wr w3 from hb3); have HX3 := Lib.hid (HX.out.grow hb3); have y4 := HX3.out.cell (Lk.c4 _); have f4 := HX3.out.free (i := 4); have l3 := HX3.out.lt; rw [show (k.wh n).h = (n : Int) from rfl] at y4; clear hb3))
      have HX4 := HX3.out.put 4 (.int .i64 ((n : Int) + 1))
      rw [k.wh_set] at HX4
      have hcast : ((n + 1 : Nat) : Int) = (n : Int) + 1 := by omega
      refine ⟨⟨n + 1, by omega, Lib.hid (by rw [hcast]; exact HX4), Lib.hid ((HO.out.tr (Only.of l4 HG3.out)).tr (Only.set _ _ _)), Lib.hid fun j hj => ?_⟩, ?_⟩
      · by_cases hjn : j = n
        · rw [hjn]; exact HQ.out
        · exact HN.out j (by omega)
      · rw [HM0.out, HX4.cell (Lk.c4 _)]
        show (30 - intOf (.int .i64 ((n : Int) + 1))).toNat < _
        simp only [intOf]
        omega
    | false =>
      have he : ((k.at_ n : Int) == 0) = false := by rw [← hq, Bool.eq_iff_iff, beq_iff_eq, beq_iff_eq]; omega
      have HF := Lib.hid (Lk.few_is hn (by simpa using hq) HN.out)
      clear hq
      go_wp2_with (first | (with_reducible refine wpList_stopLoad (ty := 85) rfl ?_; unfold Stop; refine wpList_loadBox row85 ((k.wh n).cs_len) (HX.out) rfl rfl rfl ?_) | (with_reducible refine wpList_stopLoad (ty := 83) rfl ?_; unfold Stop; refine wpList_loadPart row83 (opts_len k.all) (HX.out) (k.wh n).part rfl rfl rfl ?_) | (go_at_call 52; refine (HC.out _).mono ?_; rintro e w3 ⟨rfl, hb3⟩; have HG3 := Lib.hid (show Gr wr w3 from hb3); have HX3 := Lib.hid (HX.out.grow hb3); have y4 := HX3.out.cell (Lk.c4 _); have l3 := HX3.out.lt; rw [show (k.wh n).h = (n : Int) from rfl] at y4; clear hb3))
      go_ret
      exact ⟨by rw [HF.out]; rfl, HW.out.trans (Below.mono (HO.out.tr (Only.of l4 HG3.out)).low (Nat.le_refl _))⟩

end Go.Proofs.Ytjlaoiimbhlafaa
end
section
namespace Go.Proofs.Ytjlaoiimbhlafaa
open Go.RowKit Go.Shelf

open MW
attribute [local go_sem] Oper.semAt_some run_store_func
theorem Box.whole {W : World} {b : Nat} {vs : List Value} {T : TypeId} {n : Nat} (h : vs.length = n) : (vs.drop 0).take n = vs := by rw [List.drop_zero, List.take_of_length_le (by omega)]
theorem exec_storeBox {P : Program} {old vs : List Value} {T ty : TypeId} {x y : Operand} {g n : Nat} {o : Oper} {ρ : Operand → Value} {W : World} (hr : rowOf P ty n = true) (hn : vs.length = n) (hold : old.length = n) (h1 : vs.all (·.oneCell') = true) (hg : Box W g old T)
    (ho : o.op = .store ty x y) (hx : ρ x = .pointer (some ⟨g, 0, none⟩)) (hy : ρ y = .agg vs.toArray) : (execOp ρ o).run P W = .ok .skip (W.setRow g vs.toArray) := by
  obtain ⟨d, -, -, hi⟩ := rowOf.parts hr
  unfold execOp
  simp only [ho, hx, hy, Instr.storeAt, Instr.sureAddr, Sem.run_bind, Sem.run_pure, Result.andThen_ok, run_storeVar_row W g T ty old.toArray vs.toArray hg (by simpa [hn] using hi) (by simp [hn, hold]) (by simpa using h1)]
theorem wpListIn_stopStore {F : Fence} {m : Nat} {P : Program} {ops : Array Oper} {rest : List Oper} {o : Oper} {a : Act} {w : World} {Q : Exit → Act → World → Prop} {ty : TypeId} {x y : Operand} (_ : o.op = .store ty x y) (h : Stop (wpListIn F m P ops Q (o :: rest) a w)) : wpListIn F m P ops Q (o :: rest) a w := h
theorem wpListIn_storeBox {F : Fence} {m : Nat} {P : Program} {ops : Array Oper} {rest : List Oper} {o : Oper} {a : Act} {w : World} {Q : Exit → Act → World → Prop} {old vs : List Value} {T ty : TypeId} {x y : Operand} {g n : Nat} (hr : rowOf P ty n = true) (hn : vs.length = n) (hold : old.length = n) (h1 : vs.all (·.oneCell') = true) (hg : Box w g old T)
    (ho : o.op = .store ty x y) (hgd : o.guard = none) (hx : a.eval x = .pointer (some ⟨g, 0, none⟩)) (hy : a.eval y = .agg vs.toArray)
    (h : wpListIn F m P ops Q rest (a.put o.dst undef) (w.setRow g vs.toArray)) : wpListIn F m P ops Q (o :: rest) a w := by
  refine wpListIn_plain hgd fun K hK => ⟨fun f hf => by simp [Oper.about, ho] at hf, ?_⟩
  rw [Oper.semAt_eq _ _ _ (fun c => by rw [ho]; exact fun h => by cases h), exec_storeBox hr hn hold h1 hg ho hx hy]
  exact hK _ _ h
/-! The search for the first way. -/
theorem rev_ind {α : Type} {P : List α → Prop} (h0 : P []) (h1 : ∀ l x, P l → P (l ++ [x])) (l : List α) : P l := by
  have : ∀ l : List α, P l.reverse := by
    intro l
    induction l with
    | nil => exact h0
    | cons x l ih => rw [List.reverse_cons]; exact h1 _ _ ih
  rw [← List.reverse_reverse l]
  exact this _
def pv (x : Nat × Nat) : List Value := [.int .i64 x.1, .int .i64 x.2]
def keepM (m : Nat → Nat) (ps : List (Nat × Nat)) : Nat → Nat := ps.foldl (fun m x => onlM m x.1 x.2) m
theorem keepM_snoc (m : Nat → Nat) (ps : List (Nat × Nat)) (x : Nat × Nat) : keepM m (ps ++ [x]) = onlM (keepM m ps) x.1 x.2 := by unfold keepM; rw [List.foldl_append]; rfl
def Lk.cnt (k : Lk) (ps : List (Nat × Nat)) : Nat := k.wy (keepM k.all ps) 0 0 k.h
def Lk.stepG (k : Lk) (many : Nat) (ps : List (Nat × Nat)) (x : Nat × Nat) : List (Nat × Nat) := if ps.length = many then ps else if 0 < k.cnt (ps ++ [x]) then ps ++ [x] else ps
def Lk.run (k : Lk) (many : Nat) (l : List (Nat × Nat)) : List (Nat × Nat) := l.foldl (k.stepG many) []
theorem Lk.run_snoc (k : Lk) (many : Nat) (l : List (Nat × Nat)) (x : Nat × Nat) : k.run many (l ++ [x]) = k.stepG many (k.run many l) x := by unfold Lk.run; rw [List.foldl_append]; rfl
theorem Lk.run_full {k : Lk} {many : Nat} {l : List (Nat × Nat)} (h : (k.run many l).length = many) (r : List (Nat × Nat)) : k.run many (l ++ r) = k.run many l := by
  induction r generalizing l with
  | nil => simp
  | cons x r ih =>
    have e : k.run many (l ++ [x]) = k.run many l := by rw [k.run_snoc]; unfold Lk.stepG; rw [if_pos h]
    have := ih (l := l ++ [x]) (by rw [e]; exact h)
    rw [List.append_assoc] at this
    rw [← e, ← this]
    rfl
theorem Lk.run_len (k : Lk) (many : Nat) (l : List (Nat × Nat)) : (k.run many l).length ≤ l.length := by
  refine rev_ind (P := fun l => (k.run many l).length ≤ l.length) (Nat.le_refl _) (fun l x ih => ?_) l
  rw [k.run_snoc]
  unfold Lk.stepG
  split
  · simp; omega
  · split
    · simp; omega
    · simp; omega
theorem Lk.run_mem {k : Lk} {many : Nat} {l : List (Nat × Nat)} : ∀ x ∈ k.run many l, x ∈ l := by
  refine rev_ind (P := fun l => ∀ x ∈ k.run many l, x ∈ l) (fun x hx => by cases hx) (fun l y ih => ?_) l
  intro x hx
  rw [k.run_snoc] at hx
  unfold Lk.stepG at hx
  split at hx
  · exact List.mem_append_left _ (ih x hx)
  · split at hx
    · rcases List.mem_append.1 hx with h | h
      · exact List.mem_append_left _ (ih x h)
      · exact List.mem_append_right _ h
    · exact List.mem_append_left _ (ih x hx)
theorem keepM_lt {m : Nat → Nat} (h : ∀ i, m i < 2048) (ps : List (Nat × Nat)) : ∀ i, keepM m ps i < 2048 := by
  refine rev_ind (P := fun ps => ∀ i, keepM m ps i < 2048) h (fun ps x ih => ?_) ps
  rw [keepM_snoc]
  exact onlM_lt ih _ _
theorem keepM_bit {m : Nat → Nat} {j b : Nat} (h : (m j).testBit b = false) (ps : List (Nat × Nat)) : (keepM m ps j).testBit b = false := by
  refine rev_ind (P := fun ps => (keepM m ps j).testBit b = false) h (fun ps x ih => ?_) ps
  rw [keepM_snoc, onlM_bit, ih, Bool.false_and]
theorem own_gr {w w' : World} {base : Nat} {e : TypeId} {size : Nat} {v : Value} {n : Nat} {xs : List Value} (h : w.ownsRow base e size v n xs) (hg : Gr w w') : w'.ownsRow base e size v n xs :=
  h.kept (Gr.gro hg) (by cases v.ownBlock <;> simp)
theorem own_kept {w w' : World} {base : Nat} {e : TypeId} {size : Nat} {v : Value} {n : Nat} {xs : List Value} {row : Option Nat} (h : w.ownsRow base e size v n xs) (hg : w.grownBy w' row) (hr : ∀ r, row = some r → ∃ o : Obj, w.heap[r]? = some o ∧ o.isCells = false) : w'.ownsRow base e size v n xs := by
  refine h.kept hg ?_
  obtain ⟨_, h1⟩ := h
  rcases h1 with ⟨rfl, hn⟩ | ⟨g, cap, cur, rfl, hb, hgg, -⟩
  · left; rfl
  · right
    intro e
    obtain ⟨o, ho, hc⟩ := hr g (by rw [← e]; rfl)
    rw [hgg] at ho
    cases ho
    cases hc
theorem own_slice {w : World} {base : Nat} {e : TypeId} {size : Nat} {v : Value} {n : Nat} {xs : List Value} (h : w.ownsRow base e size v n xs) : ∃ p cap, v = .slice p n cap := by
  obtain ⟨_, h1⟩ := h
  rcases h1 with ⟨rfl, hn⟩ | ⟨g, cap, cur, rfl, -⟩
  · exact ⟨none, 0, by rw [hn]⟩
  · exact ⟨_, _, rfl⟩
def FiI (k : Lk) (many : Nat) (w : World) (b3 b4 b5 base : Nat) {nL nR : Nat} (pre : List (Gp nL nR)) (W : World) : Prop :=
  Box W w.heap.size k.cs 85 ∧ (∃ v, Box W b3 [v] 34 ∧ W.ownsRow base 55 2 v (k.run many (pre.map Gp.p)).length ((k.run many (pre.map Gp.p)).flatMap pv)) ∧ Box W b4 [.int .i64 many] 3 ∧ Box W b5 (opts (keepM k.all (k.run many (pre.map Gp.p)))) 83 ∧ Below w.heap.size w W
theorem FiI.own (k : Lk) (many : Nat) (w : World) (b3 b4 b5 base : Nat) {nL nR B : Nat} (hB : w.heap.size ≤ B) : OwnFrom B (FiI k many w b3 b4 b5 base (nL := nL) (nR := nR)) := fun s A A' row ⟨h1, ⟨v, h2, h3⟩, h4, h5, h6⟩ hg hr =>
  ⟨h1.own' hg fun r e => (hr r e).2, ⟨v, h2.own' hg fun r e => (hr r e).2, own_kept h3 hg (fun r e => (hr r e).2)⟩, h4.own' hg fun r e => (hr r e).2, h5.own' hg fun r e => (hr r e).2, ownFrom_below (β := Unit) (Nat.le_refl _) hB () A A' row h6 hg hr⟩

end Go.Proofs.Ytjlaoiimbhlafaa
end
section
namespace Go.Proofs.Ytjlaoiimbhlafaa
open Go.RowKit Go.Shelf

open MW
attribute [local go_sem] Oper.semAt_some run_store_func
theorem info55 : (Try.prog.info? 55).map (fun i => (i.zero, i.size, i.bytes)) = some (some (.agg #[.int .i64 0, .int .i64 0]), 2, 16) := by kernel_rfl
theorem infoP {P : Program} {t : TypeId} {z : Option Value} {s b : Nat} (h : (P.info? t).map (fun i => (i.zero, i.size, i.bytes)) = some (z, s, b)) : ∃ i, P.info? t = some i ∧ i.zero = z ∧ i.size = s ∧ i.bytes = b := by
  cases hi : P.info? t with
  | none => rw [hi] at h; simp at h
  | some i => rw [hi] at h; simp at h; exact ⟨i, rfl, h.1, h.2.1, h.2.2⟩
theorem wholeL {vs : List Value} {n : Nat} (h : vs.length = n) : (vs.drop 0).take n = vs := by rw [List.drop_zero, List.take_of_length_le (by omega)]
theorem own_blk {w : World} {base : Nat} {e : TypeId} {size : Nat} {v : Value} {n : Nat} {xs : List Value} (h : w.ownsRow base e size v n xs) {r : Nat} (hr : some r = v.ownBlock) : base ≤ r ∧ ∃ cur, w.heap[r]? = some (.cells cur e (0, 0)) := by
  obtain ⟨_, h1⟩ := h
  rcases h1 with ⟨rfl, hn⟩ | ⟨g, cap, cur, rfl, hb, hgg, -⟩
  · cases hr
  · cases hr; exact ⟨hb, cur, hgg⟩
theorem own_only {A A' : World} {base : Nat} {e : TypeId} {size : Nat} {v : Value} {n : Nat} {xs : List Value} (h : A.ownsRow base e size v n xs) {b : Nat} (ho : Only b A A') (hb : b < base) : A'.ownsRow base e size v n xs := by
  obtain ⟨h0, h1⟩ := h
  refine ⟨h0, ?_⟩
  rcases h1 with h1 | ⟨g, cap, cur, hv, hbg, hgg, hr⟩
  · exact Or.inl h1
  · exact Or.inr ⟨g, cap, cur, hv, hbg, (ho.keep g (by omega) (Array.getElem?_eq_some_iff.1 hgg).1).trans hgg, hr⟩
theorem own_base {A : World} {base base' : Nat} {e : TypeId} {size : Nat} {v : Value} {n : Nat} {xs : List Value} (h : A.ownsRow base e size v n xs) (hb : base' ≤ base) : A.ownsRow base' e size v n xs := by
  obtain ⟨h0, h1⟩ := h
  refine ⟨h0, ?_⟩
  rcases h1 with h1 | ⟨g, cap, cur, hv, hbg, hr⟩
  · exact Or.inl h1
  · exact Or.inr ⟨g, cap, cur, hv, by omega, hr⟩
theorem own_keeps {A A' : World} {base : Nat} {e : TypeId} {size : Nat} {v : Value} {n : Nat} {xs : List Value} (h : A.ownsRow base e size v n xs) (hg : A.grownBy A' v.ownBlock) : KeepsOthers A A' :=
  ⟨hg.size, fun k o ho hc => (hg.block k (Array.getElem?_eq_some_iff.1 ho).1 (fun e => by obtain ⟨-, cur, hh⟩ := own_blk h e; rw [ho] at hh; cases hh; cases hc)).trans ho⟩
theorem own_keepAt {S : List Nat} {A A' : World} {base : Nat} {e : TypeId} {size : Nat} {v : Value} {n : Nat} {xs : List Value} (h : A.ownsRow base e size v n xs) (hg : A.grownBy A' v.ownBlock) (hS : ∀ b ∈ S, b < base) : KeepAt S A A' :=
  ⟨hg.size, fun k hk hl => hg.block k hl (fun e => by have := (own_blk h e).1; have := hS k hk; omega)⟩
def Lk.many (k : Lk) : Nat := ((((k.nL : Int) + k.nR) - k.h).tdiv 2).toNat
/-- The first way: the pairs that the search takes. -/
def Lk.fst (k : Lk) : List (Nat × Nat) := k.run k.many (grid k.nL k.nR)
def FiPost (k : Lk) (w : World) (e : Ending) (w' : World) : Prop := (∃ v, e = .returned v ∧ w'.ownsRow w.heap.size 55 2 v k.fst.length (k.fst.flatMap pv)) ∧ Below w.heap.size w w'

def FiX (k : Lk) (w : World) (b3 b4 b5 base : Nat) {nL nR : Nat} (c : Code) (pre : List (Gp nL nR)) (W : World) : Prop := c = .exit 0 ∧ (k.run k.many (pre.map Gp.p)).length = k.many ∧ FiI k k.many w b3 b4 b5 base pre W
set_option maxRecDepth 100000 in
set_option maxHeartbeats 8000000 in
theorem first_any (k : Lk) (w : World) (hk : k.Ok) (hhd : k.h ≤ k.nL + k.nR) :
    Calls Try.prog 56 #[.agg k.cs.toArray] w (FiPost k w) := by
  have HB := Lib.hid (Box.fresh w k.cs 85)
  have HPA := Lib.hid (fun W => pairsOf_any k W)
  have z0 := HB.out.cell k.c0
  have z1 := HB.out.cell k.c1
  have z4 := HB.out.cell k.c4
  have zl := HB.out.lt
  have hL := hk.nL
  have hR := hk.nR
  have hh := hk.h
  have hzo := opts_len k.all
  have HK := Lib.hid hk
  have hmm : ((k.nL : Int) + k.nR - k.h).tdiv 2 = (k.many : Nat) := by
    unfold Lk.many
    rw [Int.tdiv_eq_ediv_of_nonneg (by omega)]
    omega
  have hm20 : k.many ≤ 20 := by
    have h1 := hmm
    rw [Int.tdiv_eq_ediv_of_nonneg (by omega)] at h1
    omega
  have hwm : wrap64 (k.many : Int) = k.many := IntWalk.wrap64_in _ ⟨by omega, by omega⟩
  have HW := Lib.hid (show Gr w (w.alloc (Obj.cells k.cs.toArray 85)) from Gr.alloc _ _)
  generalize hw1 : w.alloc (Obj.cells k.cs.toArray 85) = w1 at *
  have hw1s : w1.heap.size = w.heap.size + 1 := by rw [← hw1]; simp
  have HF := Lib.hid (show Box (((w1.alloc (Obj.cells #[.slice none 0 0] 34)).alloc (Obj.cells #[.int .i64 (k.many : Int)] 3)).alloc (Obj.cells zero10.toArray 83)) (w.heap.size + 1 + 1 + 1) zero10 83 by
    have := Box.fresh ((w1.alloc (Obj.cells #[.slice none 0 0] 34)).alloc (Obj.cells #[.int .i64 (k.many : Int)] 3)) zero10 83
    simpa [hw1s] using this)
  have HB3 := Lib.hid (show Box (((w1.alloc (Obj.cells #[.slice none 0 0] 34)).alloc (Obj.cells #[.int .i64 (k.many : Int)] 3)).alloc (Obj.cells zero10.toArray 83)) (w.heap.size + 1) [.slice none 0 0] 34 by
    have := ((Box.fresh w1 [.slice none 0 0] 34).grow (Gr.alloc _ (Obj.cells #[.int .i64 (k.many : Int)] 3))).grow (Gr.alloc _ (Obj.cells zero10.toArray 83))
    simpa [hw1s] using this)
  have HB4 := Lib.hid (show Box (((w1.alloc (Obj.cells #[.slice none 0 0] 34)).alloc (Obj.cells #[.int .i64 (k.many : Int)] 3)).alloc (Obj.cells zero10.toArray 83)) (w.heap.size + 1 + 1) [.int .i64 (k.many : Int)] 3 by
    have := (Box.fresh (w1.alloc (Obj.cells #[.slice none 0 0] 34)) [.int .i64 (k.many : Int)] 3).grow (Gr.alloc _ (Obj.cells zero10.toArray 83))
    simpa [hw1s] using this)
  have HGZ := Lib.hid (show Gr w1 (((w1.alloc (Obj.cells #[.slice none 0 0] 34)).alloc (Obj.cells #[.int .i64 (k.many : Int)] 3)).alloc (Obj.cells zero10.toArray 83)) from ((Gr.alloc _ _).tr (Gr.alloc _ _)).tr (Gr.alloc _ _))
  have HB0 := Lib.hid (HB.out.grow HGZ.out)
  unfold zero10 at HF HB3 HB4 HGZ HB0
  have HG5 := Lib.hid (show Below w.heap.size w ((((w1.alloc (Obj.cells #[.slice none 0 0] 34)).alloc (Obj.cells #[.int .i64 (k.many : Int)] 3)).alloc (Obj.cells #[.int .i64 0, .int .i64 0, .int .i64 0, .int .i64 0, .int .i64 0, .int .i64 0, .int .i64 0, .int .i64 0, .int .i64 0, .int .i64 0] 83)).setRow (w.heap.size + 1 + 1 + 1) (opts k.all).toArray) from below_setRow (show Below w.heap.size w _ from HW.out.tr HGZ.out) (by omega) _)
  clear hk
  obtain ⟨i0, ii0, iz0, iz1, iz2⟩ := infoP info55
  have II0 := Lib.hid ii0
  have IZ0 := Lib.hid iz0
  have IZ1 := Lib.hid iz1
  have IZ2 := Lib.hid iz2
  clear ii0 iz0 iz1 iz2
  refine (callsIn_wide (n := 9)).1 ?_
  refine callsIn_of_wp_marks Try.func56 rfl trivial ?_ rfl
  simp only [Try.ntmps56, List.size_toArray, List.length_cons, List.length_nil, Nat.reduceAdd, Nat.reduceSub, Array.replicate_succ, Array.replicate_zero, List.push_toArray, List.append_toArray, List.nil_append, List.cons_append]
  refine wpIn_wide.2 ?_
  go_wp2_with (first
    | (with_reducible refine wpList_stopLoad (ty := 83) rfl ?_; unfold Stop; refine wpList_loadPart row83 (opts_len k.all) (HB.out.grow ((Gr.alloc _ _).tr (Gr.alloc _ _))) k.part rfl rfl rfl ?_)
    | (with_reducible refine wpList_stopStore (ty := 83) rfl ?_; unfold Stop; refine wpList_storeBox row83 hzo rfl (opts_one _) HF.out rfl rfl rfl rfl ?_; have ho5 := Only.row (((w1.alloc (Obj.cells #[.slice none 0 0] 34)).alloc (Obj.cells #[.int .i64 (k.many : Int)] 3)).alloc (Obj.cells #[.int .i64 0, .int .i64 0, .int .i64 0, .int .i64 0, .int .i64 0, .int .i64 0, .int .i64 0, .int .i64 0, .int .i64 0, .int .i64 0] 83)) (w.heap.size + 1 + 1 + 1) (opts k.all).toArray; have HO5 := Lib.hid ho5; have HF5 := Lib.hid (HF.out.row (vs := opts k.all)); have HB5 := Lib.hid (ho5.box HB0.out (by omega)); have HB35 := Lib.hid (ho5.box HB3.out (by omega)); have HB45 := Lib.hid (ho5.box HB4.out (by omega)); clear ho5; generalize (((w1.alloc (Obj.cells #[.slice none 0 0] 34)).alloc (Obj.cells #[.int .i64 (k.many : Int)] 3)).alloc (Obj.cells #[.int .i64 0, .int .i64 0, .int .i64 0, .int .i64 0, .int .i64 0, .int .i64 0, .int .i64 0, .int .i64 0, .int .i64 0, .int .i64 0] 83)).setRow (w.heap.size + 1 + 1 + 1) (opts k.all).toArray = w5 at *)
    | (with_reducible refine wpList_stopLoad (ty := 85) rfl ?_; unfold Stop; refine wpList_loadBox row85 (k.cs_len) (HB5.out) rfl rfl rfl ?_)
    | (go_at_call 92; refine (HPA.out _).mono ?_; rintro e w4 ⟨rfl, hP4, hb4⟩)
    | go_step3)
  have hw5s := HB5.out.lt
  have hw5s' := HF5.out.lt
  have hw45 : w5.heap.size < w4.heap.size := hP4.lt
  have HG54 := Lib.hid (show Gr w5 w4 from hb4)
  have HI0 := Lib.hid (show FiI k k.many w (w.heap.size + 1) (w.heap.size + 1 + 1) (w.heap.size + 1 + 1 + 1) w4.heap.size ([] : List (Gp k.nL k.nR)) w4 from ⟨HB5.out.grow hb4, ⟨.slice none 0 0, HB35.out.grow hb4, World.ownsRow_nil _ _ _ _⟩, HB45.out.grow hb4, HF5.out.grow hb4, bgr HG5.out HG5.out.size hb4⟩)
  have HP4 := Lib.hid hP4
  generalize hbp : w5.heap.size = bp at *
  have hbp3 : w.heap.size + 1 + 1 + 1 < bp := by omega
  clear HB HB0 HB3 HB4 HF HGZ HB5 HB35 HB45 HF5 HG5 HO5 HPA hP4 hb4 HG54 HW hbp
  generalize hb3e : w.heap.size + 1 = b3 at *
  generalize hb4e : b3 + 1 = b4 at *
  generalize hb5e : b4 + 1 = b5 at *
  refine (wpIn_wide (n := 9)).1 ?_
  refine wpIn_rangeOwn rfl (by omega) (gf := 121) (lb := #[.pointer (some ⟨bp, 0, none⟩)]) rfl trivial (enters_of Try.func121 (by kernel_rfl) rfl)
    (SeqStopsK.own (pairs_stops2 k bp _ _ w4 HP4.out k.c0 k.c1 hL hR)) (Gr.same _) KeepAt.trans
    (fun W o' => KeepAt.putObj W _ o' (by simp; omega)) (fun _ => rfl)
    (FiI k k.many w b3 b4 b5 w4.heap.size) (FiX k w b3 b4 b5 w4.heap.size) (FiI.own k k.many w b3 b4 b5 _ (by omega)) (fun c s A A' row h hg hr => ⟨h.1, h.2.1, FiI.own k k.many w b3 b4 b5 _ (B := w4.heap.size) (by omega) s A A' row h.2.2 hg hr⟩) HI0.out
    (fun x a' W => a' = { tmps := #[.agg k.cs.toArray, .pointer (some ⟨w.heap.size, 0, none⟩), .slice none 0 0, .pointer (some ⟨b3, 0, none⟩), .pointer (some ⟨b4, 0, none⟩), .pointer (some ⟨b5, 0, none⟩), .int .i64 x.i, .int .i64 x.j, undef, .pointer (some ⟨w.heap.size, 0, none⟩), .pointer (some ⟨w.heap.size, 0, none⟩), .slice k.lp k.nL k.lc, .int .i64 k.nL, .pointer (some ⟨w.heap.size, 0, none⟩), .pointer (some ⟨w.heap.size, 1, none⟩), .slice k.rp k.nR k.rc, .int .i64 k.nR, .int .i64 (k.nL + k.nR), .pointer (some ⟨w.heap.size, 0, none⟩), .pointer (some ⟨w.heap.size, 4, none⟩), .int .i64 k.h, .int .i64 (k.nL + k.nR - k.h), .int .i64 k.many, .pointer (some ⟨w.heap.size, 105, none⟩), .agg (opts k.all).toArray, .agg k.cs.toArray, .func (.func 121) #[] #[.pointer (some ⟨bp, 0, none⟩)], .int .i64 x.i, .int .i64 x.j, undef, undef, undef, undef, undef, undef, undef, undef, undef, undef, undef, undef, undef, undef, undef, undef, undef, undef, undef, undef, undef, undef], defers := [] }) (fun x a' => fun _ _ _ _ h _ _ => h) ?assign ?body ?done ?stop
  case assign =>
    intro y pre x W K hi hK
    have HI := Lib.hid hi
    clear hi
    unfold encG
    gi_wp2
    exact hK _ _ (KeepsOthers.refl _ |>.from _) (KeepAt.refl _ _) HI.out rfl
  case body =>
    rintro y pre x a' W hyl ⟨ry, hry⟩ ⟨h0, ⟨v, h3, hown⟩, h4, h5, hBW⟩ rfl hN
    have hyW := (Array.getElem?_eq_some_iff.1 hry).1
    have hBW4 : w4.heap.size ≤ W.heap.size := by omega
    clear hry hyW
    obtain ⟨vp, cap, rfl⟩ := own_slice hown
    have hrl := k.run_len k.many (pre.map Gp.p)
    rw [List.length_map] at hrl
    have HRS := Lib.hid (k.run_snoc k.many (pre.map Gp.p) (x.i, x.j))
    have hmp : (pre ++ [x]).map Gp.p = pre.map Gp.p ++ [(x.i, x.j)] := by simp [Gp.p]
    have HMP := Lib.hid hmp
    have HB0 := Lib.hid h0
    have H3 := Lib.hid h3
    have H4 := Lib.hid h4
    have H5 := Lib.hid h5
    have HOWN := Lib.hid hown
    have HBW := Lib.hid hBW
    have hxi := x.hi
    have hxj := x.hj
    clear h0 h3 h4 h5 hBW hown hmp
    generalize hps : k.run k.many (pre.map Gp.p) = ps at *
    have HON := Lib.hid (fun W => only_any (keepM k.all ps) x.i x.j W (by omega) (by omega) (keepM_lt HK.out.m ps x.i))
    have HCN := Lib.hid (fun W => count_any k (onlM (keepM k.all ps) x.i x.j) (onlM_lt (keepM_lt HK.out.m ps) x.i x.j) (fun a ha j hj hj' => by rw [onlM_bit, keepM_bit (HK.out.r a ha j hj hj') ps, Bool.false_and]) HK.out.nL HK.out.nR HK.out.h W)
    have hcn : k.wy (onlM (keepM k.all ps) x.i x.j) 0 0 k.h = k.cnt (ps ++ [(x.i, x.j)]) := by unfold Lk.cnt; rw [keepM_snoc]
    rw [hcn] at HCN
    clear hcn
    have HBl := HBW.out.size
    have h34 : b3 < b4 ∧ b4 < b5 ∧ w.heap.size < b3 := by omega
    cases hq : (ps.length == k.many) with
    | true =>
      have hqe : ps.length = k.many := by simpa using hq
      have he : ((ps.length : Int) == (k.many : Int)) = true := by rw [← hq, Bool.eq_iff_iff, beq_iff_eq, beq_iff_eq]; omega
      have hrun : k.run k.many ((pre ++ [x]).map Gp.p) = ps := by
        rw [HMP.out, HRS.out]
        unfold Lk.stepG
        rw [if_pos hqe]
      have HRUN := Lib.hid hrun
      have HQE := Lib.hid hqe
      clear hq hqe hrun hps
      gi_wp2_with (first | (refine ⟨trivial, ?_⟩; gi_at_call 100; refine (CallsIn.inRound y (callsIn_wide.2 (HON.out _))).mono ?_; rintro e w2 ⟨rfl, hb2⟩; have HG2 := Lib.hid (show Gr W w2 from hb2); have HT := Lib.hid (Box.fresh w2 zero10 83); unfold zero10 at HT; clear hb2) | ((with_reducible refine wpListIn_stopLoad (ty := 83) rfl ?_); unfold Stop; refine wpListIn_loadPart row83 (opts_len _) H5.out (wholeL (opts_len _)) rfl rfl rfl ?_) | ((with_reducible refine wpListIn_stopStore (ty := 83) rfl ?_); unfold Stop; refine wpListIn_storeBox row83 (opts_len _) rfl (opts_one _) HT.out rfl rfl rfl rfl ?_; have H8 := Lib.hid (show Box ((w2.alloc (Obj.cells #[.int .i64 0, .int .i64 0, .int .i64 0, .int .i64 0, .int .i64 0, .int .i64 0, .int .i64 0, .int .i64 0, .int .i64 0, .int .i64 0] 83)).setRow w2.heap.size (opts (onlM (keepM k.all ps) x.i x.j)).toArray) w2.heap.size (opts (onlM (keepM k.all ps) x.i x.j)) 83 from HT.out.row (vs := opts (onlM (keepM k.all ps) x.i x.j))); have HG3 := Lib.hid (show Gr w2 ((w2.alloc (Obj.cells #[.int .i64 0, .int .i64 0, .int .i64 0, .int .i64 0, .int .i64 0, .int .i64 0, .int .i64 0, .int .i64 0, .int .i64 0, .int .i64 0] 83)).setRow w2.heap.size (opts (onlM (keepM k.all ps) x.i x.j)).toArray) from Gr.row_new w2 _ _ _); clear HT; generalize (w2.alloc (Obj.cells #[.int .i64 0, .int .i64 0, .int .i64 0, .int .i64 0, .int .i64 0, .int .i64 0, .int .i64 0, .int .i64 0, .int .i64 0, .int .i64 0] 83)).setRow w2.heap.size (opts (onlM (keepM k.all ps) x.i x.j)).toArray = w3 at *; have HGA := Lib.hid (HG2.out.tr HG3.out); have z3 := (H3.out.grow HGA.out).cell (i := 0) rfl; have l3 := (H3.out.grow HGA.out).lt; have z4 := (H4.out.grow HGA.out).cell (i := 0) rfl; have l4 := (H4.out.grow HGA.out).lt))
      refine ⟨(keepsO HGA.out).from _, rfl, by rw [HRUN.out]; exact HQE.out, HB0.out.grow HGA.out, ⟨_, H3.out.grow HGA.out, by rw [HRUN.out]; exact own_gr HOWN.out HGA.out⟩, H4.out.grow HGA.out, by rw [HRUN.out]; exact H5.out.grow HGA.out, bgr HBW.out HBW.out.size HGA.out⟩
    | false =>
      have hqe : ¬ ps.length = k.many := by simpa using hq
      have he : ((ps.length : Int) == (k.many : Int)) = false := by rw [← hq, Bool.eq_iff_iff, beq_iff_eq, beq_iff_eq]; omega
      cases hc : decide (0 < k.cnt (ps ++ [(x.i, x.j)])) with
      | false =>
        have hc2 : ¬ 0 < k.cnt (ps ++ [(x.i, x.j)]) := by simpa using hc
        have hrun : k.run k.many ((pre ++ [x]).map Gp.p) = ps := by
          rw [HMP.out, HRS.out]
          unfold Lk.stepG
          rw [if_neg hqe, if_neg (by simpa using hc)]
        have HRUN := Lib.hid hrun
        clear hq hqe hrun hps hc
        gi_wp2_with (first | (refine ⟨trivial, ?_⟩; gi_at_call 100; refine (CallsIn.inRound y (callsIn_wide.2 (HON.out _))).mono ?_; rintro e w2 ⟨rfl, hb2⟩; have HG2 := Lib.hid (show Gr W w2 from hb2); have HT := Lib.hid (Box.fresh w2 zero10 83); unfold zero10 at HT; clear hb2) | ((with_reducible refine wpListIn_stopLoad (ty := 83) rfl ?_); unfold Stop; refine wpListIn_loadPart row83 (opts_len _) H5.out (wholeL (opts_len _)) rfl rfl rfl ?_) | ((with_reducible refine wpListIn_stopStore (ty := 83) rfl ?_); unfold Stop; refine wpListIn_storeBox row83 (opts_len _) rfl (opts_one _) HT.out rfl rfl rfl rfl ?_; have H8 := Lib.hid (show Box ((w2.alloc (Obj.cells #[.int .i64 0, .int .i64 0, .int .i64 0, .int .i64 0, .int .i64 0, .int .i64 0, .int .i64 0, .int .i64 0, .int .i64 0, .int .i64 0] 83)).setRow w2.heap.size (opts (onlM (keepM k.all ps) x.i x.j)).toArray) w2.heap.size (opts (onlM (keepM k.all ps) x.i x.j)) 83 from HT.out.row (vs := opts (onlM (keepM k.all ps) x.i x.j))); have HG3 := Lib.hid (show Gr w2 ((w2.alloc (Obj.cells #[.int .i64 0, .int .i64 0, .int .i64 0, .int .i64 0, .int .i64 0, .int .i64 0, .int .i64 0, .int .i64 0, .int .i64 0, .int .i64 0] 83)).setRow w2.heap.size (opts (onlM (keepM k.all ps) x.i x.j)).toArray) from Gr.row_new w2 _ _ _); clear HT; generalize (w2.alloc (Obj.cells #[.int .i64 0, .int .i64 0, .int .i64 0, .int .i64 0, .int .i64 0, .int .i64 0, .int .i64 0, .int .i64 0, .int .i64 0, .int .i64 0] 83)).setRow w2.heap.size (opts (onlM (keepM k.all ps) x.i x.j)).toArray = w3 at *; have HGA := Lib.hid (HG2.out.tr HG3.out); have z3 := (H3.out.grow HGA.out).cell (i := 0) rfl; have l3 := (H3.out.grow HGA.out).lt; have z4 := (H4.out.grow HGA.out).cell (i := 0) rfl; have l4 := (H4.out.grow HGA.out).lt) | ((with_reducible refine wpListIn_stopLoad (ty := 85) rfl ?_); unfold Stop; refine wpListIn_loadPart row85 k.cs_len (HB0.out.grow HGA.out) (wholeL k.cs_len) rfl rfl rfl ?_) | ((with_reducible refine wpListIn_stopLoad (ty := 83) rfl ?_); unfold Stop; refine wpListIn_loadPart row83 (opts_len _) H8.out (wholeL (opts_len _)) rfl rfl rfl ?_) | (refine ⟨trivial, ?_⟩; gi_at_call 52; refine (CallsIn.inRound y (callsIn_wide.2 (HCN.out _))).mono ?_; rintro e w4' ⟨rfl, hb4⟩; have HG4 := Lib.hid (show Gr w3 w4' from hb4); have HGB := Lib.hid (HGA.out.tr hb4); have z3 := (H3.out.grow HGB.out).cell (i := 0) rfl; have l3 := (H3.out.grow HGB.out).lt; clear hb4))
        refine ⟨(keepsO HGB.out).from _, KeepAt.of HGB.out, HB0.out.grow HGB.out, ⟨_, H3.out.grow HGB.out, by rw [HRUN.out]; exact own_gr HOWN.out HGB.out⟩, H4.out.grow HGB.out, by rw [HRUN.out]; exact H5.out.grow HGB.out, bgr HBW.out HBW.out.size HGB.out⟩
      | true =>
        have hc2 : 0 < k.cnt (ps ++ [(x.i, x.j)]) := by simpa using hc
        have hrun : k.run k.many ((pre ++ [x]).map Gp.p) = ps ++ [(x.i, x.j)] := by
          rw [HMP.out, HRS.out]
          unfold Lk.stepG
          rw [if_neg hqe, if_pos (by simpa using hc)]
        have HRUN := Lib.hid hrun
        clear hq hqe hrun hps hc
        have hown1 := Lib.hid (fun (W1 : World) (h : Gr W W1) => own_gr (own_gr HOWN.out h) (Gr.alloc W1 (Obj.cells #[.int .i64 x.i, .int .i64 x.j] 55)))
        gi_wp2_with (first | (refine ⟨trivial, ?_⟩; gi_at_call 100; refine (CallsIn.inRound y (callsIn_wide.2 (HON.out _))).mono ?_; rintro e w2 ⟨rfl, hb2⟩; have HG2 := Lib.hid (show Gr W w2 from hb2); have HT := Lib.hid (Box.fresh w2 zero10 83); unfold zero10 at HT; clear hb2) | ((with_reducible refine wpListIn_stopLoad (ty := 83) rfl ?_); unfold Stop; refine wpListIn_loadPart row83 (opts_len _) H5.out (wholeL (opts_len _)) rfl rfl rfl ?_) | ((with_reducible refine wpListIn_stopStore (ty := 83) rfl ?_); unfold Stop; refine wpListIn_storeBox row83 (opts_len _) rfl (opts_one _) HT.out rfl rfl rfl rfl ?_; have H8 := Lib.hid (show Box ((w2.alloc (Obj.cells #[.int .i64 0, .int .i64 0, .int .i64 0, .int .i64 0, .int .i64 0, .int .i64 0, .int .i64 0, .int .i64 0, .int .i64 0, .int .i64 0] 83)).setRow w2.heap.size (opts (onlM (keepM k.all ps) x.i x.j)).toArray) w2.heap.size (opts (onlM (keepM k.all ps) x.i x.j)) 83 from HT.out.row (vs := opts (onlM (keepM k.all ps) x.i x.j))); have HG3 := Lib.hid (show Gr w2 ((w2.alloc (Obj.cells #[.int .i64 0, .int .i64 0, .int .i64 0, .int .i64 0, .int .i64 0, .int .i64 0, .int .i64 0, .int .i64 0, .int .i64 0, .int .i64 0] 83)).setRow w2.heap.size (opts (onlM (keepM k.all ps) x.i x.j)).toArray) from Gr.row_new w2 _ _ _); clear HT; generalize (w2.alloc (Obj.cells #[.int .i64 0, .int .i64 0, .int .i64 0, .int .i64 0, .int .i64 0, .int .i64 0, .int .i64 0, .int .i64 0, .int .i64 0, .int .i64 0] 83)).setRow w2.heap.size (opts (onlM (keepM k.all ps) x.i x.j)).toArray = w3 at *; have HGA := Lib.hid (HG2.out.tr HG3.out); have z3 := (H3.out.grow HGA.out).cell (i := 0) rfl; have l3 := (H3.out.grow HGA.out).lt; have z4 := (H4.out.grow HGA.out).cell (i := 0) rfl; have l4 := (H4.out.grow HGA.out).lt) | ((with_reducible refine wpListIn_stopLoad (ty := 85) rfl ?_); unfold Stop; refine wpListIn_loadPart row85 k.cs_len (HB0.out.grow HGA.out) (wholeL k.cs_len) rfl rfl rfl ?_) | ((with_reducible refine wpListIn_stopLoad (ty := 83) rfl ?_); unfold Stop; refine wpListIn_loadPart row83 (opts_len _) H8.out (wholeL (opts_len _)) rfl rfl rfl ?_) | (refine ⟨trivial, ?_⟩; gi_at_call 52; refine (CallsIn.inRound y (callsIn_wide.2 (HCN.out _))).mono ?_; rintro e w4' ⟨rfl, hb4⟩; have HG4 := Lib.hid (show Gr w3 w4' from hb4); have HGB := Lib.hid (HGA.out.tr hb4); have z3 := (H3.out.grow HGB.out).cell (i := 0) rfl; have l3 := (H3.out.grow HGB.out).lt; clear hb4) | (gi_at_builtin; refine wpListIn_append_own _ rfl _ _ 34 rfl w4.heap.size 55 i0 _ 2 16 Try.underlying34 II0.out IZ0.out IZ1.out IZ2.out rfl (by decide) _ _ _ rfl (hown1.out w4' HGB.out) ⟨w4'.heap.size, 0, none⟩ 1 1 [.int .i64 x.i, .int .i64 x.j] rfl rfl ?c1 ?c2 ?c3 ?c4 ?c5 ?_))
        case c1 => exact World.news_of_block (cs := #[.int .i64 x.i, .int .i64 x.j]) (t := 55) (fr := (0, 0)) (by first | exact World.alloc_heap_new w4' _ | (have := World.alloc_heap_new w4' (Obj.cells #[.int .i64 x.i, .int .i64 x.j] 55); simpa using this))
        case c2 => simp [Value.oneCell']
        case c3 => unfold maxLen; omega
        case c4 => omega
        case c5 => have := HGB.out.size; simp; omega
        intro v' w6 hown6 hg6 hn6
        obtain ⟨vp6, cap6, rfl⟩ := own_slice hown6
        have hOW := hown1.out w4' HGB.out
        have hGW := HGB.out.tr (Gr.alloc w4' (Obj.cells #[.int .i64 x.i, .int .i64 x.j] 55))
        have HK6 := Lib.hid ((keepsO hGW).trans (own_keeps hOW hg6))
        have HA6 := Lib.hid (fun (S : List Nat) (hS : ∀ b ∈ S, b < w4.heap.size) => (KeepAt.of (S := S) hGW).trans (own_keepAt hOW hg6 hS))
        have hL4 : w.heap.size ≤ w4.heap.size := by omega
        have hlow : ∀ {b : Nat} {vs : List Value} {T : TypeId}, Box W b vs T → b < w4.heap.size → Box w6 b vs T := fun {b vs T} h hb => (HA6.out [b] (fun c hc => by rw [List.mem_singleton.1 hc]; exact hb)).box h (List.mem_singleton.2 rfl)
        have H36 := Lib.hid (hlow H3.out (by omega))
        have H46 := Lib.hid (hlow H4.out (by omega))
        have H56 := Lib.hid (hlow H5.out (by omega))
        have H06 := Lib.hid (hlow HB0.out (by omega))
        have hw36 : w3.heap.size ≤ w4'.heap.size := HG4.out.size
        have H86 : Box w6 w2.heap.size (opts (onlM (keepM k.all ps) x.i x.j)) 83 := by
          refine (hg6.block _ ?_ ?_).trans ((H8.out.grow HG4.out).grow (Gr.alloc w4' (Obj.cells #[.int .i64 x.i, .int .i64 x.j] 55)))
          · have := H8.out.lt; simp; omega
          · intro e
            obtain ⟨-, cur, hc⟩ := own_blk HOWN.out e
            have h1 := (Array.getElem?_eq_some_iff.1 hc).1
            have h2 := HG2.out.size
            omega
        have HB6 := Lib.hid (show Below w.heap.size w w6 from (bgr HBW.out HBW.out.size hGW).trans ((bgr (Below.refl _ _) (by have := HBW.out.size; have := hGW.size; omega) (Gr.same _)).grown hg6 (by have := HBW.out.size; have := hGW.size; simp at this ⊢; omega) (fun q e => by have := (own_blk hOW e.symm).1; omega)))
        have HO6 := Lib.hid hown6
        have H86' := Lib.hid H86
        have z3 := H36.out.cell (i := 0) rfl
        have l3 := H36.out.lt
        have f3 := H36.out.free (i := 0)
        have hw2W : W.heap.size ≤ w2.heap.size := HG2.out.size
        have ho7 : Only b3 w6 (w6.setCell ⟨b3, 0, none⟩ (.slice vp6 (ps.length + 1) cap6)) := Only.set w6 0 _
        have H87 := Lib.hid (ho7.box H86'.out (by omega))
        have H57 := Lib.hid (ho7.box H56.out (by omega))
        have H47 := Lib.hid (ho7.box H46.out (by omega))
        have H07 := Lib.hid (ho7.box H06.out (by omega))
        have H37 := Lib.hid (show Box (w6.setCell ⟨b3, 0, none⟩ (.slice vp6 (ps.length + 1) cap6)) b3 [.slice vp6 (ps.length + 1) cap6] 34 from H36.out.put 0 (.slice vp6 (ps.length + 1) cap6))
        have HB7 := Lib.hid (HB6.out.setCell (p := ⟨b3, 0, none⟩) (show w.heap.size ≤ b3 by omega) (.slice vp6 (ps.length + 1) cap6))
        have HO7 := Lib.hid ho7
        clear ho7
        clear hown6 hg6 hn6 hOW hGW hlow H86 H8 HON HCN hown1
        gi_wp2_with (first | ((with_reducible refine wpListIn_stopLoad (ty := 83) rfl ?_); unfold Stop; refine wpListIn_loadPart row83 (opts_len _) H87.out (wholeL (opts_len _)) rfl rfl rfl ?_) | ((with_reducible refine wpListIn_stopStore (ty := 83) rfl ?_); unfold Stop; refine wpListIn_storeBox row83 (opts_len _) (opts_len _) (opts_one _) H57.out rfl rfl rfl rfl ?_))
        have hb5B : b5 < w4.heap.size := by omega
        have hpB : bp < w4.heap.size := by omega
        have hn3 : b3 ∉ [bp] := by simp; omega
        have hn5 : b5 ∉ [bp] := by simp; omega
        have ho8 := Only.row (w6.setCell ⟨b3, 0, none⟩ (.slice vp6 (ps.length + 1) cap6)) b5 (opts (onlM (keepM k.all ps) x.i x.j)).toArray
        refine ⟨?_, ((HA6.out [bp] (fun c hc => by rw [List.mem_singleton.1 hc]; exact hpB)).trans (KeepAt.only HO7.out hn3)).trans (KeepAt.only ho8 hn5), ho8.box H07.out (by omega), ⟨_, ho8.box H37.out (by omega), ?_⟩, ho8.box H47.out (by omega), ?_, below_setRow HB7.out (by omega) _⟩
        · have h1 := ((HK6.out.trans (KeepsOthers.setCell w6 ⟨b3, 0, none⟩ (.slice vp6 (ps.length + 1) cap6))).from w4.heap.size)
          have h2 := ho8.from hb5B
          exact ⟨Nat.le_trans h1.1 h2.1, fun q o hq ho hc => h2.2 q o hq (h1.2 q o hq ho hc) hc⟩
        · rw [HRUN.out]
          have := own_only (own_only HO6.out HO7.out (by omega)) ho8 hb5B
          simpa [pv] using this
        · rw [HRUN.out, keepM_snoc]
          exact H57.out.row (vs := opts (onlM (keepM k.all ps) x.i x.j))
  case done =>
    rintro D ys W hD hys ⟨h0, ⟨v, h3, hown⟩, h4, h5, hBW⟩ hK'
    rw [hys] at hown
    obtain ⟨vp, cap, rfl⟩ := own_slice hown
    have z3 := h3.cell (i := 0) rfl
    have l3 := h3.lt
    have HOWN := Lib.hid hown
    have HBW := Lib.hid hBW
    have HKD := Lib.hid hK'
    clear h0 h3 h4 h5 hBW hown hK'
    go_wp2_with fail
    rw [Exit.noGoto_ret]
    refine ⟨by simp, .inl ⟨_, _, rfl, run_takeDeferred HKD.out, ?_⟩⟩
    refine ⟨.slice vp (k.run k.many (grid k.nL k.nR)).length cap, by simp [results, Try.f56, go_sem], ⟨_, rfl, ?_⟩, HBW.out.trans (belowK_b (w := w) (Nat.le_refl _) _ D _ _ (by omega) HKD.out rfl rfl)⟩
    exact own_kept (own_base HOWN.out (by omega)) (grownBy_putObj' _ D (.deferred none)) (fun r e => by cases e; exact ⟨_, HKD.out, rfl⟩)
  case stop =>
    rintro D c pre W hD hsp ⟨rfl, hlen, h0, ⟨v, h3, hown⟩, h4, h5, hBW⟩ hK'
    obtain ⟨rest, hrest⟩ := hsp
    have hfl : k.run k.many (pre.map Gp.p) = k.run k.many (grid k.nL k.nR) := by rw [hrest, Lk.run_full hlen]
    rw [hfl] at hown
    clear hfl hrest
    obtain ⟨vp, cap, rfl⟩ := own_slice hown
    have z3 := h3.cell (i := 0) rfl
    have l3 := h3.lt
    have HOWN := Lib.hid hown
    have HBW := Lib.hid hBW
    have HKD := Lib.hid hK'
    have HLEN := Lib.hid hlen
    clear h0 h3 h4 h5 hBW hown hK' hlen
    gi_wp2
    go_wp2_with fail
    rw [Exit.noGoto_ret]
    refine ⟨by simp, .inl ⟨_, _, rfl, run_takeDeferred HKD.out, ?_⟩⟩
    refine ⟨.slice vp (k.run k.many (grid k.nL k.nR)).length cap, by simp [results, Try.f56, go_sem], ⟨_, rfl, ?_⟩, HBW.out.trans (belowK_b (w := w) (Nat.le_refl _) _ D _ _ (by omega) HKD.out rfl rfl)⟩
    exact own_kept (own_base HOWN.out (by omega)) (grownBy_putObj' _ D (.deferred none)) (fun r e => by cases e; exact ⟨_, HKD.out, rfl⟩)

end Go.Proofs.Ytjlaoiimbhlafaa
end
