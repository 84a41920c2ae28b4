import Derived.Test.YtcngaohfemdfjaaGreatE19
import Derived.Test.YtcngaohfemdfjaaGreatE20
set_option linter.unusedVariables false
set_option linter.unusedSimpArgs false
set_option maxRecDepth 100000
set_option maxHeartbeats 60000000
namespace Go.Proofs.YtcngaohfemdfjaaGreat
open Go.RowKit
theorem neq145 (a b c d e a' b' c' d' e' : Int) (w : World) : (binOp .neq 145 (.agg #[.int .i64 a, .int .i64 b, .int .i64 c, .int .i64 d, .int .i64 e]) (.agg #[.int .i64 a', .int .i64 b', .int .i64 c', .int .i64 d', .int .i64 e'])).run Tryz.prog w = .ok (.bool (!(a == a' && (b == b' && (c == c' && (d == d' && e == e')))))) w := by
  have hS : Tryz.prog.underlying 145 = some (.struct (Tryz.prog.fieldsOf 145)) := by kernel_rfl
  have hS' : Tryz.prog.underlying 30 = some (.struct (Tryz.prog.fieldsOf 30)) := by kernel_rfl
  rw [run_neq_struct, run_equalIn_agg _ _ _ _ _ hS (by kernel_rfl)]
  simp only [Program.fieldsOf, Tryz.underlying145]
  simp [Op.eqFields, go_sem]
  by_cases h1 : a = a' <;> by_cases h2 : b = b' <;> by_cases h3 : c = c' <;> by_cases h4 : d = d' <;> by_cases h5 : e = e' <;> simp [h1, h2, h3, h4, h5]
theorem neg145 (x y : Operand) (xs ys : Array Value) (w : World) : (eqGuard .neq 145 x y (.agg xs) (.agg ys)).run Tryz.prog w = .ok () w := run_eqGuard_agg w _ _ _ _ _ _ (by kernel_rfl)
theorem neq81 (a b c d : Int) (w : World) : (binOp .neq 81 (.agg #[.int .i64 a, .int .i64 b]) (.agg #[.int .i64 c, .int .i64 d])).run Tryz.prog w = .ok (.bool (!(a == c && b == d))) w := by
  have hS : Tryz.prog.underlying 81 = some (.struct (Tryz.prog.fieldsOf 81)) := by kernel_rfl
  rw [run_neq_struct, run_equalIn_agg _ _ _ _ _ hS (by kernel_rfl)]
  simp only [Program.fieldsOf, Tryz.underlying81]
  simp [Op.eqFields, go_sem]
  by_cases h1 : a = c <;> by_cases h2 : b = d <;> simp [h1, h2]
theorem neg81 (x y : Operand) (xs ys : Array Value) (w : World) : (eqGuard .neq 81 x y (.agg xs) (.agg ys)).run Tryz.prog w = .ok () w := run_eqGuard_agg w _ _ _ _ _ _ (by kernel_rfl)
end Go.Proofs.YtcngaohfemdfjaaGreat
namespace Go.Proofs.YtcngaohfemdfjaaGreat
open Go.RowKit Go.Shelf
attribute [local go_sem] Oper.semAt_some
theorem trimmings_stops (k : Cd) (mb bl n B : Nat) (S : List Nat) (w : World) (hm : 0 ≤ k.cuts ∧ k.cuts ≤ 40) (hbl : Box w bl (k.lk mb) 71) (hS : ∀ i ∈ S, i < B) (hb : bl ∉ S) :
    SeqStopsP Fence.wide n Tryz.prog 131 #[.pointer (some ⟨bl, 0, none⟩)] (encT (m := k.cuts)) (KeepX S) (fun ys => usOf ys = trims k.cuts) (fun pre => ∃ rest, trims k.cuts = usOf pre ++ rest) 1000000 B w := fun y J Jx W hW hB hJ hX hY h0 =>
  CallsIn.depth rfl (trimmings1_any k mb bl y S J Jx W hm hJ hX (fun pre x A h1 h2 => YieldAt.depth rfl (hY pre x A h1 h2)) (fun i hi => by have := hS i hi; omega) (hbl.grow hW) hb h0)
def Cd.okT (k : Cd) (u : Cu) : Bool := decide ((⟨k, 0, u⟩ : Tm).first k.p.sees = (0, 0))
theorem first_mb (k : Cd) (mb : Nat) (u : Cu) : ∀ l, (⟨k, mb, u⟩ : Tm).first l = (⟨k, 0, u⟩ : Tm).first l
  | [] => rfl
  | q :: l => by
    have e : (⟨k, mb, u⟩ : Tm).why q.2 = (⟨k, 0, u⟩ : Tm).why q.2 := rfl
    unfold Tm.first
    rw [e, first_mb k mb u l]
def Rk.vals (r : Rk) : List Value := [.int .i64 r.steps, .int .i64 r.u.a, .int .i64 r.u.b, .int .i64 r.u.c, .int .i64 r.u.d]
theorem orOf_lt (a b c d : Int) : orOf [a, b, c, d] < 0 ↔ a < 0 ∨ a = 0 ∧ (b < 0 ∨ b = 0 ∧ (c < 0 ∨ c = 0 ∧ d < 0)) := by
  unfold orOf orOf orOf orOf orOf
  (repeat' split) <;> omega
theorem icmp_lt (a b : Int) : icmp a b < 0 ↔ a < b := by unfold icmp; (repeat' split) <;> omega
theorem icmp_eq (a b : Int) : icmp a b = 0 ↔ a = b := by unfold icmp; (repeat' split) <;> omega
theorem befI_eq (r s : Rk) : befI r.steps r.u.a r.u.b r.u.c s.steps s.u.a s.u.b s.u.c = decide (r.bef s) := by
  unfold befI
  refine decide_eq_decide.2 ?_
  unfold Rk.bef
  rw [orOf_lt]
  simp only [icmp_lt, icmp_eq]
theorem eq81 (a b c d : Int) (w : World) : (binOp .eql 81 (.agg #[.int .i64 a, .int .i64 b]) (.agg #[.int .i64 c, .int .i64 d])).run Tryz.prog w = .ok (.bool (a == c && b == d)) w := by
  have hS : Tryz.prog.underlying 81 = some (.struct (Tryz.prog.fieldsOf 81)) := by kernel_rfl
  rw [run_eql_struct, run_equalIn_agg _ _ _ _ _ hS (by kernel_rfl)]
  simp only [Program.fieldsOf, Tryz.underlying81]
  simp [Op.eqFields, go_sem]
  by_cases h1 : a = c <;> by_cases h2 : b = d <;> simp [h1, h2]
theorem eqg81 (x y : Operand) (xs ys : Array Value) (w : World) : (eqGuard .eql 81 x y (.agg xs) (.agg ys)).run Tryz.prog w = .ok () w := run_eqGuard_agg w _ _ _ _ _ _ (by kernel_rfl)
def Cd.trim (k : Cd) : Option Cu := (trims k.cuts).find? k.okT
def LeastPost (k : Cd) (w : World) (e : Ending) (w' : World) : Prop := e = .returned (.tuple #[(k.trim.getD ⟨0, 0, 0, 0⟩).val, .bool k.trim.isSome]) ∧ Below w.heap.size w w'
def LtC (k : Cd) (mb : Nat) (w : World) (pre : List Cu) (W : World) : Prop := (Box W w.heap.size (k.lk mb) 71 ∧ Box W (w.heap.size + 1) [.int .i64 0, .int .i64 0, .int .i64 0, .int .i64 0] 30 ∧ Box W (w.heap.size + 1 + 1) (Rk.none k.cuts).vals 145 ∧ Box W (w.heap.size + 1 + 1 + 1) (Rk.of k.okT k.cuts pre).vals 145 ∧ MapAt k.p.sees mb W) ∧ Below w.heap.size w W
def LtX (k : Cd) (mb : Nat) (w : World) (c : Code) (pre : List (Tc k.cuts)) (W : World) : Prop := c = .exit 0 ∧ ∃ ps x, usOf pre = ps ++ [x] ∧ (Rk.of k.okT k.cuts ps).steps < x.sum ∧ LtC k mb w ps W
def LtA (k : Cd) (mb : Nat) (w : World) (x : Tc k.cuts) (a' : Act) (W : World) : Prop := ∃ b6, w.heap.size + 1 + 1 + 1 < b6 ∧ Box W b6 [.int .i64 x.u.a, .int .i64 x.u.b, .int .i64 x.u.c, .int .i64 x.u.d] 30 ∧ a' = { tmps := #[.agg (k.lk mb).toArray, .pointer (some ⟨w.heap.size, 0, none⟩), .pointer (some ⟨w.heap.size + 1, 0, none⟩), .bool false, .pointer (some ⟨w.heap.size + 1 + 1, 0, none⟩), .pointer (some ⟨w.heap.size + 1 + 1 + 1, 0, none⟩), .pointer (some ⟨b6, 0, none⟩), undef, .pointer (some ⟨w.heap.size, 0, none⟩), .pointer (some ⟨w.heap.size, 10, none⟩), .int .i64 k.cuts, .int .i64 (4 * k.cuts), .int .i64 (4 * k.cuts + 1), .agg #[.int .i64 (4 * k.cuts + 1), .int .i64 0, .int .i64 0, .int .i64 0, .int .i64 0], .agg #[.int .i64 (4 * k.cuts + 1), .int .i64 0, .int .i64 0, .int .i64 0, .int .i64 0], .agg (k.lk mb).toArray, .func (.func 131) #[] #[.pointer (some ⟨w.heap.size + 1 + 1 + 1 + 1, 0, none⟩)], .agg #[.int .i64 x.u.a, .int .i64 x.u.b, .int .i64 x.u.c, .int .i64 x.u.d], undef, undef, undef, undef, undef, undef, undef, undef, undef, undef, undef, undef, undef, undef, undef, undef, undef, undef, undef, undef, undef, undef, undef, undef, undef, undef], defers := [] }
theorem LtC.own {k : Cd} {mb : Nat} {w : World} {pre : List Cu} {B : Nat} {A A' : World} {row : Option Nat} (h : LtC k mb w pre A) (hB : w.heap.size ≤ B) (hm : mb < B) (hg : A.grownBy A' row) (hr : ∀ r, row = some r → B ≤ r ∧ ∃ o : Obj, A.heap[r]? = some o ∧ o.isCells = false) : LtC k mb w pre A' :=
  have f := fun r e => (hr r e).2
  ⟨⟨h.1.1.own' hg f, h.1.2.1.own' hg f, h.1.2.2.1.own' hg f, h.1.2.2.2.1.own' hg f, h.1.2.2.2.2.grown hg fun e => by have := (hr _ e).1; omega⟩, ownFrom_below (β := Unit) (Nat.le_refl _) hB () A A' row h.2 hg hr⟩
theorem LtC.ownF {k : Cd} {mb : Nat} {w : World} {B : Nat} (hB : w.heap.size ≤ B) (hm : mb < B) : OwnFrom B (fun (pre : List (Tc k.cuts)) W => LtC k mb w (usOf pre) W) := fun _ _ _ _ h hg hr => h.own hB hm hg hr
theorem LtX.ownF {k : Cd} {mb : Nat} {w : World} {B : Nat} (hB : w.heap.size ≤ B) (hm : mb < B) (c : Code) : OwnFrom B (LtX k mb w c) := fun _ _ _ _ ⟨h0, ps, x, h1, h2, h3⟩ hg hr => ⟨h0, ps, x, h1, h2, h3.own hB hm hg hr⟩
theorem LtA.ownF {k : Cd} {mb : Nat} {w : World} {B : Nat} (x : Tc k.cuts) (a' : Act) : OwnFrom B (fun (_ : Unit) W => LtA k mb w x a' W) := fun _ _ _ _ ⟨b6, h1, h2, h3⟩ hg hr => ⟨b6, h1, h2.own' hg fun r e => (hr r e).2, h3⟩
theorem LtC.grow {k : Cd} {mb : Nat} {w : World} {pre : List Cu} {A A' : World} (h : LtC k mb w pre A) (hg : Gr A A') : LtC k mb w pre A' :=
  ⟨⟨h.1.1.grow hg, h.1.2.1.grow hg, h.1.2.2.1.grow hg, h.1.2.2.2.1.grow hg, h.1.2.2.2.2.grow hg⟩, bgr h.2 h.2.size hg⟩
theorem LtC.congr {k : Cd} {mb : Nat} {w : World} {ps qs : List Cu} {W : World} (h : LtC k mb w ps W) (e : Rk.of k.okT k.cuts ps = Rk.of k.okT k.cuts qs) : LtC k mb w qs W :=
  ⟨⟨h.1.1, h.1.2.1, h.1.2.2.1, e ▸ h.1.2.2.2.1, h.1.2.2.2.2⟩, h.2⟩
theorem LtC.store {k : Cd} {mb : Nat} {w : World} {ps qs : List Cu} {W : World} (h : LtC k mb w ps W) (r : Rk) (e : Rk.of k.okT k.cuts qs = r) : LtC k mb w qs (((((W.setCell ⟨w.heap.size + 1 + 1 + 1, 0, none⟩ (.int .i64 r.steps)).setCell ⟨w.heap.size + 1 + 1 + 1, 1, none⟩ (.int .i64 r.u.a)).setCell ⟨w.heap.size + 1 + 1 + 1, 2, none⟩ (.int .i64 r.u.b)).setCell ⟨w.heap.size + 1 + 1 + 1, 3, none⟩ (.int .i64 r.u.c)).setCell ⟨w.heap.size + 1 + 1 + 1, 4, none⟩ (.int .i64 r.u.d)) := by
  have hn : w.heap.size + 1 + 1 + 1 ∉ [mb] := by have := map_ne h.1.2.2.2.2 h.1.2.2.2.1; simp; omega
  have hk : KeepAt [mb] W (((((W.setCell ⟨w.heap.size + 1 + 1 + 1, 0, none⟩ (.int .i64 r.steps)).setCell ⟨w.heap.size + 1 + 1 + 1, 1, none⟩ (.int .i64 r.u.a)).setCell ⟨w.heap.size + 1 + 1 + 1, 2, none⟩ (.int .i64 r.u.b)).setCell ⟨w.heap.size + 1 + 1 + 1, 3, none⟩ (.int .i64 r.u.c)).setCell ⟨w.heap.size + 1 + 1 + 1, 4, none⟩ (.int .i64 r.u.d)) := (((((KeepAt.set _ _ _ _ hn).trans (KeepAt.set _ _ _ _ hn)).trans (KeepAt.set _ _ _ _ hn)).trans (KeepAt.set _ _ _ _ hn)).trans (KeepAt.set _ _ _ _ hn))
  refine ⟨⟨(((((h.1.1.other (by omega) _ _).other (by omega) _ _).other (by omega) _ _).other (by omega) _ _).other (by omega) _ _), (((((h.1.2.1.other (by omega) _ _).other (by omega) _ _).other (by omega) _ _).other (by omega) _ _).other (by omega) _ _), (((((h.1.2.2.1.other (by omega) _ _).other (by omega) _ _).other (by omega) _ _).other (by omega) _ _).other (by omega) _ _), ?_, hk.map h.1.2.2.2.2 (by simp)⟩, (((((h.2.setCell (by simp; omega) _).setCell (by simp; omega) _).setCell (by simp; omega) _).setCell (by simp; omega) _).setCell (by simp; omega) _)⟩
  rw [e]
  exact (((((h.1.2.2.2.1.put 0 _).put 1 _).put 2 _).put 3 _).put 4 _)
theorem trim_rk (k : Cd) (hm : 0 ≤ k.cuts) : (!((Rk.ofOpt k.cuts k.trim).steps == 4 * k.cuts + 1 && ((Rk.ofOpt k.cuts k.trim).u.a == 0 && ((Rk.ofOpt k.cuts k.trim).u.b == 0 && ((Rk.ofOpt k.cuts k.trim).u.c == 0 && (Rk.ofOpt k.cuts k.trim).u.d == 0))))) = k.trim.isSome ∧ (Rk.ofOpt k.cuts k.trim).u = k.trim.getD ⟨0, 0, 0, 0⟩ := by
  cases ht : k.trim with
  | none => exact ⟨by simp [Rk.ofOpt, Rk.none], rfl⟩
  | some u =>
    have hu := isT_sum (mem_trims.1 (List.mem_of_find?_eq_some ht))
    have : (u.sum == 4 * k.cuts + 1) = false := beq_eq_false_iff_ne.2 (by omega)
    refine ⟨?_, rfl⟩
    show (!(u.sum == 4 * k.cuts + 1 && _)) = true
    rw [this]; rfl
theorem tm_ok {k : Cd} {mb : Nat} {u : Cu} (hk : k.okc = true) (hu : u.isT k.cuts = true) : (⟨k, mb, u⟩ : Tm).ok := by
  have hm := okc_cuts hk
  unfold Cd.okc at hk
  have h := fun j hj => List.all_eq_true.1 hk j (List.mem_range.2 hj)
  have h0 := h 0 (by omega); have h1 := h 1 (by omega); have h3 := h 3 (by omega); have h4 := h 4 (by omega); have h5 := h 5 (by omega); have h6 := h 6 (by omega); have h7 := h 7 (by omega); have h8 := h 8 (by omega); have h9 := h 9 (by omega)
  simp [Cd.vd] at h0 h1 h3 h4 h5 h6 h7 h8 h9
  simp only [Cu.isT, Bool.and_eq_true, decide_eq_true_eq] at hu
  constructor <;> dsimp only <;> omega
theorem least_ok (k : Cd) (mb : Nat) (hk : k.okc = true) (hv : ∀ q ∈ k.p.sees, q.2.ok) (hlen : k.p.l.length ≤ 900) (w : World) (hM : MapAt k.p.sees mb w) :
    Calls Tryz.prog 68 #[.agg (k.lk mb).toArray] w (LeastPost k w) := by
  have hm := okc_cuts hk
  have HV := Lib.hid hv
  have HM := Lib.hid hM
  clear hv hM
  have hl : (k.lk mb).length = 18 := rfl
  have e10 : ∀ h : 10 < (k.lk mb).length, (k.lk mb)[10] = .int .i64 k.cuts := fun _ => rfl
  refine (callsIn_wide (n := 11)).1 ?_
  refine callsIn_of_wp_marks Tryz.func68 rfl trivial ?_ rfl
  simp only [Tryz.ntmps68, List.size_toArray, List.length_cons, List.length_nil, Nat.reduceAdd, Nat.reduceSub, Array.replicate_succ, Array.replicate_zero, List.push_toArray, List.append_toArray, List.nil_append, List.cons_append]
  have HL := Lib.hid (Box.fresh w (k.lk mb) 71)
  gi_wp2_with fail
  refine wpIn_wide.2 (wp_scope_straight ((wpIn_wide (n := 11)).1 ?_))
  gi_wp2_with fail
  apply wpIn_label
  gi_wp2_with (first | (with_reducible refine wpListIn_stopLoad (ty := 71) rfl ?_; unfold Stop; refine wpListIn_loadPart (us := k.lk mb) row71 rfl (((HL.out.grow (Gr.alloc _ _)).grow (Gr.alloc _ _)).grow (Gr.alloc _ _)) rfl rfl rfl rfl ?_) | (refine ⟨trivial, ?_⟩; gi_at_call 108; refine (callsIn_wide.2 (trimmings_any k mb _)).mono ?_; rintro e w1 ⟨rfl, hBx, hb1⟩))
  replace hBx : Box w1 (w.heap.size + 1 + 1 + 1 + 1) (k.lk mb) 71 := by simpa using hBx
  have hB0 : Box w1 w.heap.size (k.lk mb) 71 := (((HL.out.grow (Gr.alloc _ _)).grow (Gr.alloc _ _)).grow (Gr.alloc _ _)).grow hb1
  have hB1 : Box w1 (w.heap.size + 1) [.int .i64 0, .int .i64 0, .int .i64 0, .int .i64 0] 30 := by
    have := (((Box.fresh (w.alloc (Obj.cells (k.lk mb).toArray 71)) [.int .i64 0, .int .i64 0, .int .i64 0, .int .i64 0] 30).grow (Gr.alloc _ _)).grow (Gr.alloc _ _)).grow hb1
    simpa using this
  have hB2 : Box w1 (w.heap.size + 1 + 1) (Rk.none k.cuts).vals 145 := by
    have := ((Box.fresh ((w.alloc (Obj.cells (k.lk mb).toArray 71)).alloc (Obj.cells #[.int .i64 0, .int .i64 0, .int .i64 0, .int .i64 0] 30)) (Rk.none k.cuts).vals 145).grow (Gr.alloc _ _)).grow hb1
    simpa using this
  have hB3 : Box w1 (w.heap.size + 1 + 1 + 1) (Rk.none k.cuts).vals 145 := by
    have := (Box.fresh (((w.alloc (Obj.cells (k.lk mb).toArray 71)).alloc (Obj.cells #[.int .i64 0, .int .i64 0, .int .i64 0, .int .i64 0] 30)).alloc (Obj.cells (Rk.none k.cuts).vals.toArray 145)) (Rk.none k.cuts).vals 145).grow hb1
    simpa using this
  have hgw : Gr w w1 := ((((Gr.alloc _ _).tr (Gr.alloc _ _)).tr (Gr.alloc _ _)).tr (Gr.alloc _ _)).tr hb1
  have hw1 : w.heap.size + 1 + 1 + 1 + 1 < w1.heap.size := hBx.lt
  have hml := HM.out.lt
  have hC : LtC k mb w [] w1 := ⟨⟨hB0, hB1, hB2, hB3, HM.out.grow hgw⟩, hgw⟩
  have HC := Lib.hid hC
  have HBX := Lib.hid hBx
  clear hB0 hB1 hB2 hB3 hC hBx hb1 hgw
  refine wpIn_rangeOwn2 rfl (by omega) (gf := 131) (lb := #[.pointer (some ⟨w.heap.size + 1 + 1 + 1 + 1, 0, none⟩)]) rfl trivial (enters_of Tryz.func131 (by kernel_rfl) rfl)
    (trimmings_stops k mb (w.heap.size + 1 + 1 + 1 + 1) _ _ [w.heap.size + 1 + 1 + 1, w1.heap.size + 1] w1 hm HBX.out (by simp; omega) (by simp; omega)) (Gr.same _) KeepX.trans
    (fun W o' => KeepX.putObj W _ o' (by simp)) (fun _ => rfl)
    (fun pre W => LtC k mb w (usOf pre) W) (LtX k mb w) (LtC.ownF (by omega) (by omega)) (fun c => LtX.ownF (by omega) (by omega) c) HC.out
    (LtA k mb w) (fun x a' => LtA.ownF x a') ?assign ?body ?done ?stop
  case assign =>
    intro y pre x W K hi hK
    have HI := Lib.hid hi
    clear hi
    unfold encT
    have hNl := HI.out.1.2.2.2.1.lt
    gi_wp2
    exact hK _ _ ((KeepsOthers.alloc _ _).from _) (KeepX.of (Gr.alloc _ _)) (HI.out.grow (Gr.alloc _ _)) ⟨W.heap.size, hNl, Box.fresh W [.int .i64 x.u.a, .int .i64 x.u.b, .int .i64 x.u.c, .int .i64 x.u.d] 30, rfl⟩
  case body =>
    rintro y pre x a' W hyl - hC ⟨b6, hb6, hB6, rfl⟩ hN
    have hu : x.u.isT k.cuts = true := mem_trims.1 x.mem
    have htm : (⟨k, mb, x.u⟩ : Tm).ok := tm_ok hk hu
    have hub := hu
    simp only [Cu.isT, Bool.and_eq_true, decide_eq_true_eq] at hub
    have hab : (0 ≤ x.u.a ∧ x.u.a ≤ 40) ∧ (0 ≤ x.u.b ∧ x.u.b ≤ 40) ∧ (0 ≤ x.u.c ∧ x.u.c ≤ 40) ∧ (0 ≤ x.u.d ∧ x.u.d ≤ 40) := by omega
    obtain ⟨ha, hb, hc, hd⟩ := hab
    clear hub
    have HFH := Lib.hid (fun W (hM : MapAt k.p.sees mb W) => firstHurt_ok (⟨k, mb, x.u⟩ : Tm) htm HV.out hlen W hM)
    have hpp : usOf (pre ++ [x]) = usOf pre ++ [x.u] := by simp [usOf]
    have hsn := Rk.of_snoc k.okT k.cuts (usOf pre) x.u
    rw [← hpp] at hsn
    have HPP := Lib.hid hpp
    obtain ⟨r, hr⟩ : ∃ r, Rk.of k.okT k.cuts (usOf pre) = r := ⟨_, rfl⟩
    have b3 := hC.1.2.2.2.1
    rw [hr] at b3 hsn
    have HR := Lib.hid hr
    have HSN := Lib.hid hsn
    have HC := Lib.hid hC
    have HB6 := Lib.hid hB6
    have HB3 := Lib.hid b3
    have HG := Lib.hid (Gr.same W)
    have c6 := hB6.cell (i := 0) rfl
    have c61 := hB6.cell (i := 1) rfl
    have c62 := hB6.cell (i := 2) rfl
    have c63 := hB6.cell (i := 3) rfl
    have l6 := hB6.lt
    clear hu htm hpp hsn hr hC hB6 b3
    dsimp only
    gi_wp2_with fail
    refine ⟨trivial, ?_⟩
    refine (CallsIn.inRound y (callsIn_wide.2 (rankOf_any x.u.a x.u.b x.u.c x.u.d _ (by omega)))).mono ?_
    rintro e w2 ⟨rfl, hb2⟩
    have hg2 : Gr W w2 := hb2
    clear c6 c61 c62 c63
    have HG2 := Lib.hid hg2
    have hB3 := HB3.out.grow hg2
    have b0 := hB3.cell (i := 0) rfl
    have b1 := hB3.cell (i := 1) rfl
    have b2 := hB3.cell (i := 2) rfl
    have b3 := hB3.cell (i := 3) rfl
    have b4 := hB3.cell (i := 4) rfl
    have bl := hB3.lt
    clear hB3 hb2 hg2
    by_cases hgt : r.steps < x.u.a + x.u.b + x.u.c + x.u.d
    · gi_wp2
      have hGa : Gr W (w2.alloc (.cells #[.int .i64 (x.u.a + x.u.b + x.u.c + x.u.d), .int .i64 x.u.a, .int .i64 x.u.b, .int .i64 x.u.c, .int .i64 x.u.d] 145)) := HG2.out.tr (Gr.alloc _ _)
      refine ⟨(keepsOthers_of_gr hGa).from _, KeepX.of hGa, rfl, usOf pre, x.u, HPP.out, ?_, HC.out.grow hGa⟩
      rw [HR.out]
      exact hgt
    · have hgt' : decide (r.steps < x.u.a + x.u.b + x.u.c + x.u.d) = false := by simpa using hgt
      have hbe : befI (x.u.a + x.u.b + x.u.c + x.u.d) x.u.a x.u.b x.u.c r.steps r.u.a r.u.b r.u.c = decide (x.u.rk.bef r) := befI_eq x.u.rk r
      have HBE := Lib.hid hbe
      clear hbe hgt
      gi_wp2_with fail
      refine ⟨trivial, ?_⟩
      refine (CallsIn.inRound y (callsIn_wide.2 (before_any _ _ _ _ _ _ _ _ _ _ _))).mono ?_
      rintro e w3 ⟨rfl, hb3⟩
      rw [HBE.out]
      have HG3 := Lib.hid (HG2.out.tr ((Gr.alloc _ _).tr hb3))
      have HT7 := Lib.hid ((Box.fresh w2 [.int .i64 (x.u.a + x.u.b + x.u.c + x.u.d), .int .i64 x.u.a, .int .i64 x.u.b, .int .i64 x.u.c, .int .i64 x.u.d] 145).grow hb3)
      clear hb3 b0 b1 b2 b3 b4 bl hgt'
      by_cases hbf : x.u.rk.bef r
      · have hd1 : decide (x.u.rk.bef r) = true := by simpa using hbf
        rw [hd1]
        clear hd1
        have HBF := Lib.hid hbf
        clear hbf
        have HL3 := Lib.hid (HC.out.1.1.grow HG3.out)
        have hB6 := HB6.out.grow HG3.out
        have c6 := hB6.cell (i := 0) rfl
        have c61 := hB6.cell (i := 1) rfl
        have c62 := hB6.cell (i := 2) rfl
        have c63 := hB6.cell (i := 3) rfl
        have l6 := hB6.lt
        clear hB6
        gi_wp2_with (with_reducible refine wpListIn_stopLoad (ty := 71) rfl ?_; unfold Stop; refine wpListIn_loadPartG (us := k.lk mb) row71 rfl (HL3.out) rfl rfl rfl rfl ?_)
        refine ⟨trivial, ?_⟩
        refine (CallsIn.inRound y (callsIn_wide.2 (with_any' (⟨k, mb, x.u⟩ : Tm) _))).mono ?_
        rintro e w4 ⟨rfl, hb4⟩
        have HG4 := Lib.hid (HG3.out.tr hb4)
        have HT74 := Lib.hid (HT7.out.grow hb4)
        clear hb4 c6 c61 c62 c63 l6
        gi_wp2_with fail
        refine ⟨trivial, ?_⟩
        refine (CallsIn.inRound y (callsIn_wide.2 (HFH.out _ (HC.out.1.2.2.2.2.grow HG4.out)))).mono ?_
        rintro e w5 ⟨rfl, hb5⟩
        have HG5 := Lib.hid (HG4.out.tr hb5)
        have HT75 := Lib.hid (HT74.out.grow hb5)
        clear hb5
        obtain ⟨ft, hft⟩ : ∃ ft, (⟨k, mb, x.u⟩ : Tm).first k.p.sees = ft := ⟨_, rfl⟩
        have hok : k.okT x.u = (ft.1 == 0 && ft.2 == 0) := by
          unfold Cd.okT
          rw [← first_mb k mb x.u, hft]
          obtain ⟨f1, f2⟩ := ft
          simp only [Prod.mk.injEq]
          by_cases h1 : f1 = 0 <;> by_cases h2 : f2 = 0 <;> simp [h1, h2]
        have HOK := Lib.hid hok
        simp only [hft]
        clear hok hft
        have heq := @eq81
        have heg := @eqg81
        gi_wp2_with fail
        refine ⟨trivial, ?_⟩
        refine (CallsIn.inRound y (callsIn_wide.2 (unhurt_any _))).mono ?_
        rintro e w6 ⟨rfl, hb6⟩
        have HG6 := Lib.hid (HG5.out.tr hb6)
        have hT76 := HT75.out.grow hb6
        have t0 := hT76.cell (i := 0) rfl
        have t1 := hT76.cell (i := 1) rfl
        have t2 := hT76.cell (i := 2) rfl
        have t3 := hT76.cell (i := 3) rfl
        have t4 := hT76.cell (i := 4) rfl
        have tl := hT76.lt
        have hB36 := HB3.out.grow HG6.out
        have b0 := hB36.cell (i := 0) rfl
        have b1 := hB36.cell (i := 1) rfl
        have b2 := hB36.cell (i := 2) rfl
        have b3 := hB36.cell (i := 3) rfl
        have b4 := hB36.cell (i := 4) rfl
        have bl := hB36.lt
        have bf := hB36.free
        have HB36 := Lib.hid hB36
        clear hT76 hB36 hb6
        cases hz : (ft.1 == 0 && ft.2 == 0) with
        | true =>
          have HZ := Lib.hid hz
          gi_wp2
          refine ⟨((keepsOthers_of_gr HG6.out).trans ((KeepsOthers.setCell _ _ _).trans ((KeepsOthers.setCell _ _ _).trans ((KeepsOthers.setCell _ _ _).trans ((KeepsOthers.setCell _ _ _).trans (KeepsOthers.setCell _ _ _)))))).from _,
            (KeepX.of HG6.out).trans ((KeepX.set _ _ _ _ (by simp)).trans ((KeepX.set _ _ _ _ (by simp)).trans ((KeepX.set _ _ _ _ (by simp)).trans ((KeepX.set _ _ _ _ (by simp)).trans (KeepX.set _ _ _ _ (by simp)))))), (HC.out.grow HG6.out).store x.u.rk ?_⟩
          rw [HSN.out]
          unfold Rk.take
          rw [if_pos ⟨HBF.out, by rw [HOK.out, HZ.out]⟩]
        | false =>
          have HZ := Lib.hid hz
          gi_wp2
          refine ⟨(keepsOthers_of_gr HG6.out).from _, KeepX.of HG6.out, (HC.out.grow HG6.out).congr ?_⟩
          rw [HSN.out, HR.out]
          unfold Rk.take
          rw [if_neg (fun h => by rw [HOK.out, HZ.out] at h; cases h.2)]
      · have hd1 : decide (x.u.rk.bef r) = false := by simpa using hbf
        rw [hd1]
        clear hd1
        gi_wp2
        refine ⟨trivial, ?_⟩
        gi_wp2
        refine ⟨trivial, ?_⟩
        gi_wp2
        refine ⟨trivial, ?_⟩
        gi_wp2
        refine ⟨(keepsOthers_of_gr HG3.out).from _, KeepX.of HG3.out, (HC.out.grow HG3.out).congr ?_⟩
        rw [HSN.out, HR.out]
        unfold Rk.take
        rw [if_neg (fun h => hbf h.1)]
  case done =>
    rintro D ys W hD hys hC hK
    have hrr : Rk.of k.okT k.cuts (usOf ys) = Rk.ofOpt k.cuts k.trim := by rw [hys]; exact Rk.of_all _ _
    clear hys
    obtain ⟨hq1, hq2⟩ := trim_rk k hm.1
    obtain ⟨r, hr⟩ : ∃ r, Rk.ofOpt k.cuts k.trim = r := ⟨_, rfl⟩
    rw [hr] at hq1 hq2 hrr
    have HQ1 := Lib.hid hq1
    have HQ2 := Lib.hid hq2
    have hB3 := hC.1.2.2.2.1
    rw [hrr] at hB3
    have HC := Lib.hid hC
    have HK := Lib.hid hK
    have b0 := hB3.cell (i := 0) rfl
    have b1 := hB3.cell (i := 1) rfl
    have b2 := hB3.cell (i := 2) rfl
    have b3 := hB3.cell (i := 3) rfl
    have b4 := hB3.cell (i := 4) rfl
    have bl := hB3.lt
    have hB2 := hC.1.2.2.1
    have n0 : W.cell? ⟨w.heap.size + 1 + 1, 0, none⟩ = some (.int .i64 (4 * k.cuts + 1)) := hB2.cell (i := 0) rfl
    have n1 : W.cell? ⟨w.heap.size + 1 + 1, 1, none⟩ = some (.int .i64 0) := hB2.cell (i := 1) rfl
    have n2 : W.cell? ⟨w.heap.size + 1 + 1, 2, none⟩ = some (.int .i64 0) := hB2.cell (i := 2) rfl
    have n3 : W.cell? ⟨w.heap.size + 1 + 1, 3, none⟩ = some (.int .i64 0) := hB2.cell (i := 3) rfl
    have n4 : W.cell? ⟨w.heap.size + 1 + 1, 4, none⟩ = some (.int .i64 0) := hB2.cell (i := 4) rfl
    have hB1 := hC.1.2.1
    have z0 := hB1.cell (i := 0) rfl
    have z1 := hB1.cell (i := 1) rfl
    have z2 := hB1.cell (i := 2) rfl
    have z3 := hB1.cell (i := 3) rfl
    have zf := hB1.free
    have HB1 := Lib.hid hB1
    have hne := @neq145
    have hng := @neg145
    clear hq1 hq2 hr hrr hC hK hB3 hB2 hB1
    gi_wp2
    refine wpIn_wide.2 ?_
    go_region
    all_goals
      gi_wp2
      rw [Exit.noGoto_ret]
      have hK4 : (((((W.setCell ⟨w.heap.size + 1, 0, none⟩ (.int .i64 r.u.a)).setCell ⟨w.heap.size + 1, 1, none⟩ (.int .i64 r.u.b)).setCell ⟨w.heap.size + 1, 2, none⟩ (.int .i64 r.u.c)).setCell ⟨w.heap.size + 1, 3, none⟩ (.int .i64 r.u.d)).drew).heap[D]? = some (.deferred (some [])) := ((KeepsOthers.setCell _ _ _).trans ((KeepsOthers.setCell _ _ _).trans ((KeepsOthers.setCell _ _ _).trans (KeepsOthers.setCell _ _ _)))).same D _ HK.out rfl
      have hR4 : Box (((((W.setCell ⟨w.heap.size + 1, 0, none⟩ (.int .i64 r.u.a)).setCell ⟨w.heap.size + 1, 1, none⟩ (.int .i64 r.u.b)).setCell ⟨w.heap.size + 1, 2, none⟩ (.int .i64 r.u.c)).setCell ⟨w.heap.size + 1, 3, none⟩ (.int .i64 r.u.d)).drew) (w.heap.size + 1) [.int .i64 r.u.a, .int .i64 r.u.b, .int .i64 r.u.c, .int .i64 r.u.d] 30 := ((((HB1.out.put 0 (.int .i64 r.u.a)).put 1 (.int .i64 r.u.b)).put 2 (.int .i64 r.u.c)).put 3 (.int .i64 r.u.d)).grow (Gr.drew _)
      refine ⟨by simp, .inl ⟨_, _, rfl, run_takeDeferred hK4, ?_⟩⟩
      have hR5 := hR4.own' (grownBy_putObj' _ D (.deferred none)) (fun r e => by cases e; exact ⟨_, hK4, rfl⟩)
      have e0 := hR5.cell (i := 0) rfl
      have e1 := hR5.cell (i := 1) rfl
      have e2 := hR5.cell (i := 2) rfl
      have e3 := hR5.cell (i := 3) rfl
      refine ⟨.tuple #[.agg #[.int .i64 r.u.a, .int .i64 r.u.b, .int .i64 r.u.c, .int .i64 r.u.d], .bool (!(r.steps == 4 * k.cuts + 1 && (r.u.a == 0 && (r.u.b == 0 && (r.u.c == 0 && r.u.d == 0)))))], ?_, ?_, ?_⟩
      · simp [results, Tryz.f68, go_sem, e0, e1, e2, e3]
      · rw [HQ1.out, ← HQ2.out]
        rfl
      · exact ((((HC.out.2.setCell (by simp) _).setCell (by simp) _).setCell (by simp) _).setCell (by simp) _).drew.trans (belowK_b (w := w) (Nat.le_refl _) _ D _ _ (by omega) hK4 rfl rfl)
  case stop =>
    rintro D c pre W hD ⟨rest, hrest⟩ ⟨rfl, ps, x, hps, hlt, hC⟩ hK
    have hrr : Rk.of k.okT k.cuts ps = Rk.ofOpt k.cuts k.trim := by
      rw [hps, List.append_assoc] at hrest
      have ht : (trims k.cuts).take ps.length = ps := by rw [hrest]; simp
      have hx : x ∈ trims k.cuts := by rw [hrest]; simp
      rw [← ht] at hlt ⊢
      exact Rk.of_stop (mem_trims.1 hx) hlt
    clear hrest hps hlt
    obtain ⟨hq1, hq2⟩ := trim_rk k hm.1
    obtain ⟨r, hr⟩ : ∃ r, Rk.ofOpt k.cuts k.trim = r := ⟨_, rfl⟩
    rw [hr] at hq1 hq2 hrr
    have HQ1 := Lib.hid hq1
    have HQ2 := Lib.hid hq2
    have hB3 := hC.1.2.2.2.1
    rw [hrr] at hB3
    have HC := Lib.hid hC
    have HK := Lib.hid hK
    have b0 := hB3.cell (i := 0) rfl
    have b1 := hB3.cell (i := 1) rfl
    have b2 := hB3.cell (i := 2) rfl
    have b3 := hB3.cell (i := 3) rfl
    have b4 := hB3.cell (i := 4) rfl
    have bl := hB3.lt
    have hB2 := hC.1.2.2.1
    have n0 : W.cell? ⟨w.heap.size + 1 + 1, 0, none⟩ = some (.int .i64 (4 * k.cuts + 1)) := hB2.cell (i := 0) rfl
    have n1 : W.cell? ⟨w.heap.size + 1 + 1, 1, none⟩ = some (.int .i64 0) := hB2.cell (i := 1) rfl
    have n2 : W.cell? ⟨w.heap.size + 1 + 1, 2, none⟩ = some (.int .i64 0) := hB2.cell (i := 2) rfl
    have n3 : W.cell? ⟨w.heap.size + 1 + 1, 3, none⟩ = some (.int .i64 0) := hB2.cell (i := 3) rfl
    have n4 : W.cell? ⟨w.heap.size + 1 + 1, 4, none⟩ = some (.int .i64 0) := hB2.cell (i := 4) rfl
    have hB1 := hC.1.2.1
    have z0 := hB1.cell (i := 0) rfl
    have z1 := hB1.cell (i := 1) rfl
    have z2 := hB1.cell (i := 2) rfl
    have z3 := hB1.cell (i := 3) rfl
    have zf := hB1.free
    have HB1 := Lib.hid hB1
    have hne := @neq145
    have hng := @neg145
    clear hq1 hq2 hr hrr hC hK hB3 hB2 hB1
    gi_wp2
    refine wpIn_wide.2 ?_
    go_region
    all_goals
      gi_wp2
      rw [Exit.noGoto_ret]
      have hK4 : (((((W.setCell ⟨w.heap.size + 1, 0, none⟩ (.int .i64 r.u.a)).setCell ⟨w.heap.size + 1, 1, none⟩ (.int .i64 r.u.b)).setCell ⟨w.heap.size + 1, 2, none⟩ (.int .i64 r.u.c)).setCell ⟨w.heap.size + 1, 3, none⟩ (.int .i64 r.u.d)).drew).heap[D]? = some (.deferred (some [])) := ((KeepsOthers.setCell _ _ _).trans ((KeepsOthers.setCell _ _ _).trans ((KeepsOthers.setCell _ _ _).trans (KeepsOthers.setCell _ _ _)))).same D _ HK.out rfl
      have hR4 : Box (((((W.setCell ⟨w.heap.size + 1, 0, none⟩ (.int .i64 r.u.a)).setCell ⟨w.heap.size + 1, 1, none⟩ (.int .i64 r.u.b)).setCell ⟨w.heap.size + 1, 2, none⟩ (.int .i64 r.u.c)).setCell ⟨w.heap.size + 1, 3, none⟩ (.int .i64 r.u.d)).drew) (w.heap.size + 1) [.int .i64 r.u.a, .int .i64 r.u.b, .int .i64 r.u.c, .int .i64 r.u.d] 30 := ((((HB1.out.put 0 (.int .i64 r.u.a)).put 1 (.int .i64 r.u.b)).put 2 (.int .i64 r.u.c)).put 3 (.int .i64 r.u.d)).grow (Gr.drew _)
      refine ⟨by simp, .inl ⟨_, _, rfl, run_takeDeferred hK4, ?_⟩⟩
      have hR5 := hR4.own' (grownBy_putObj' _ D (.deferred none)) (fun r e => by cases e; exact ⟨_, hK4, rfl⟩)
      have e0 := hR5.cell (i := 0) rfl
      have e1 := hR5.cell (i := 1) rfl
      have e2 := hR5.cell (i := 2) rfl
      have e3 := hR5.cell (i := 3) rfl
      refine ⟨.tuple #[.agg #[.int .i64 r.u.a, .int .i64 r.u.b, .int .i64 r.u.c, .int .i64 r.u.d], .bool (!(r.steps == 4 * k.cuts + 1 && (r.u.a == 0 && (r.u.b == 0 && (r.u.c == 0 && r.u.d == 0)))))], ?_, ?_, ?_⟩
      · simp [results, Tryz.f68, go_sem, e0, e1, e2, e3]
      · rw [HQ1.out, ← HQ2.out]
        rfl
      · exact ((((HC.out.2.setCell (by simp) _).setCell (by simp) _).setCell (by simp) _).setCell (by simp) _).drew.trans (belowK_b (w := w) (Nat.le_refl _) _ D _ _ (by omega) hK4 rfl rfl)
end Go.Proofs.YtcngaohfemdfjaaGreat
