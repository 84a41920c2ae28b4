import Derived.Test.YtcngaohfemdfjaaGreatY34
import Derived.Test.YtcngaohfemdfjaaGreatY33
import Derived.Test.YtcngaohfemdfjaaGreatX44
set_option linter.unusedVariables false
set_option linter.unusedSimpArgs false
namespace Go.Proofs.YtcngaohfemdfjaaGreat
open Go.RowKit

/-! What MountTurned asks of the numbers: a card in a mirror. -/
def Th.mir (t : Th) : Th := ⟨-t.f, -t.e, t.g, t.h, -t.b, -t.a, t.c, t.d, t.z⟩
def Cu.mir (u : Cu) : Cu := ⟨u.d, u.c, u.b, u.a⟩
def Vw.mir (x : Vw) : Vw := ⟨-x.rb, -x.ra, -x.lb, -x.la, x.sa, x.sb⟩
def Pr.mir (p : Pr) : Pr := { p with l := p.l.map Th.mir }
def Cd.mir (k : Cd) (sp : Option Addr) (cap : Nat) : Cd := { k with p := k.p.mir, sp := sp, cap := cap }
theorem Cu.mir_mir (u : Cu) : u.mir.mir = u := rfl
theorem mimax_comm (a b : Int) : imax a b = imax b a := by unfold imax; split <;> split <;> omega
theorem Th.mir_see (ti ne fa : Int) (t : Th) : t.mir.see ti ne fa = t.see ti ne fa := by
  have h1 : t.mir.wit ne fa = t.wit ne fa := rfl
  unfold Th.see
  rw [h1]
  have h2 : t.mir.a - t.mir.f = t.a - t.f := by show -t.f - -t.a = _; omega
  have h3 : t.mir.b - t.mir.e = t.b - t.e := by show -t.e - -t.b = _; omega
  have h4 : imax (t.mir.c - t.mir.h) (t.mir.g - t.mir.d) = imax (t.c - t.h) (t.g - t.d) := by
    show imax (t.g - t.d) (t.c - t.h) = _
    exact mimax_comm _ _
  rw [h2, h3, h4]
theorem Pr.mir_seen (p : Pr) : p.mir.seen = p.seen := by
  unfold Pr.seen seenOf Pr.mir
  rw [List.map_map]
  exact List.map_congr_left fun t _ => Th.mir_see _ _ _ t
theorem Pr.mir_pw (p : Pr) : p.mir.pw = p.pw := by
  rw [Pr.pw_eq, Pr.pw_eq]
  show ((((p.l.map Th.mir).filter Th.m).map (Th.see p.ti p.ne p.fa)).map Sg.spw).foldl ovl (p.fl * p.bl, p.fh * p.bh) = _
  rw [List.filter_map]
  have e : (Th.m ∘ Th.mir) = Th.m := funext fun t => rfl
  have e2 : ((p.l.filter Th.m).map Th.mir).map (Th.see p.ti p.ne p.fa) = (p.l.filter Th.m).map (Th.see p.ti p.ne p.fa) := by
    rw [List.map_map]
    exact List.map_congr_left fun t _ => Th.mir_see _ _ _ t
  rw [e, e2]
theorem okSp_neg {a b : Int} (h : okSp (-4000) 4000 (a, b) = true) : okSp (-4000) 4000 (-b, -a) = true := by
  unfold okSp at *
  simp only [Bool.and_eq_true, decide_eq_true_eq] at *
  omega
theorem Th.mir_valid {ne fa : Int} {t : Th} (h : Th.valid ne fa t = true) : Th.valid ne fa t.mir = true := by
  unfold Th.valid at *
  simp only [List.all_cons, List.all_nil, Bool.and_true, Bool.and_eq_true] at h ⊢
  obtain ⟨⟨h1, h2, h3, h4⟩, h5⟩ := h
  exact ⟨⟨okSp_neg h3, h4, okSp_neg h1, h2⟩, h5⟩
theorem Pr.mir_ok {p : Pr} (h : p.ok = true) : p.mir.ok = true := by
  unfold Pr.ok valid at *
  rw [Bool.and_eq_true] at *
  refine ⟨?_, ?_⟩
  · have e : p.mir.l.length = p.l.length := List.length_map _
    rw [e]
    exact h.1
  · rw [List.all_eq_true]
    intro t ht
    obtain ⟨s, hs, rfl⟩ := List.mem_map.1 ht
    exact Th.mir_valid (List.all_eq_true.1 h.2 s hs)
theorem Pr.mir_view (p : Pr) (n : Nat) : p.mir.view n = (p.view n).map Vw.mir := by
  unfold Pr.view
  rw [p.mir_seen, p.mir_pw]
  have e : p.mir.l[n]? = (p.l[n]?).map Th.mir := List.getElem?_map
  rw [e]
  cases p.l[n]? with
  | none => rfl
  | some t =>
    cases p.seen[n]? with
    | none => rfl
    | some s =>
      show (if _ then some _ else none) = Option.map Vw.mir (if _ then some _ else none)
      split <;> rfl
theorem Pr.mir_sees (p : Pr) : p.mir.sees = p.sees.map fun q => (q.1, q.2.mir) := by
  unfold Pr.sees Pr.seesTo
  have e : p.mir.l.length = p.l.length := List.length_map _
  rw [e, List.map_filterMap]
  congr 1
  funext i
  rw [p.mir_view]
  cases p.view i <;> rfl
theorem setTo_mir (l : List (Int × Vw)) : setTo (l.map fun q => (q.1, q.2.mir)) = setTo l := by
  unfold setTo
  rw [List.foldl_map]
theorem Tryz.info52 : (Tryz.prog.info? 52).map (fun i => (i.zero, i.size, i.bytes)) = some (some (.agg #[.int .i64 0, .int .i64 0, .int .i64 0, .int .i64 0, .int .i64 0, .int .i64 0, .int .i64 0, .int .i64 0, .int .i64 0]), 9, 72) := by kernel_rfl
section
variable (k : Cd) (sp : Option Addr) (cap : Nat)
theorem Cd.mir_okc : (k.mir sp cap).okc = k.okc := by
  unfold Cd.okc
  congr 1
theorem isT_mir {u : Cu} {m : Int} : u.mir.isT m = u.isT m := by
  have h : u.mir.isT m = true ↔ u.isT m = true := by
    unfold Cu.isT Cu.mir
    simp only [Bool.and_eq_true, decide_eq_true_eq]
    omega
  cases h1 : u.isT m
  · cases h2 : u.mir.isT m
    · rfl
    · rw [h.1 h2] at h1; cases h1
  · exact h.2 h1
theorem Cd.mir_err0 (hok : k.p.ok = true) : (k.mir sp cap).err [] = k.err [] := by
  unfold Cd.err
  rw [k.mir_okc, show (k.mir sp cap).p = k.p.mir from rfl, Pr.mir_pw, Pr.mir_ok hok, hok]
  rfl
theorem Cd.mir_err1 (hok : k.p.ok = true) (u : Cu) : (k.mir sp cap).err [u.mir] = k.err [u] := by
  unfold Cd.err
  rw [k.mir_okc, show (k.mir sp cap).p = k.p.mir from rfl, Pr.mir_pw, Pr.mir_ok hok, hok]
  have e : [u.mir].all (fun v => v.isT (k.mir sp cap).cuts) = [u].all (fun v => v.isT k.cuts) := by
    simp only [List.all_cons, List.all_nil, Bool.and_true]
    exact isT_mir
  rw [e]
theorem mir_dist (u : Cu) (s : Int) : (⟨k.mir sp cap, 0, u.mir⟩ : Tm).dist s = (⟨k, 0, u⟩ : Tm).dist s := by
  unfold Tm.dist
  show 2 * k.half - k.step * (u.c + u.b) - s = 2 * k.half - k.step * (u.b + u.c) - s
  rw [Int.add_comm u.c u.b]
theorem mir_win {u : Cu} (h : u.a + u.b = u.c + u.d) : (⟨k.mir sp cap, 0, u.mir⟩ : Tm).win = (⟨k, 0, u⟩ : Tm).win := by
  unfold Tm.win
  show k.step * (u.d - u.b) = k.step * (u.a - u.c)
  rw [show u.d - u.b = u.a - u.c by omega]
theorem mimax_four (a b c d : Int) : 0 < [b, c, d].foldl imax a ↔ 0 < a ∨ 0 < b ∨ 0 < c ∨ 0 < d := by
  simp only [List.foldl_cons, List.foldl_nil]
  have h : ∀ x y : Int, 0 < imax x y ↔ 0 < x ∨ 0 < y := fun x y => by unfold imax; split <;> omega
  rw [h, h, h]
  omega
theorem mir_over (u : Cu) (x : Vw) : 0 < (⟨k.mir sp cap, 0, u.mir⟩ : Tm).over x.mir ↔ 0 < (⟨k, 0, u⟩ : Tm).over x := by
  unfold Tm.over
  rw [mimax_four, mimax_four]
  show 0 < -k.half + k.step * u.d - -x.rb ∨ 0 < -x.ra - (k.half - k.step * u.c) ∨ 0 < -k.half + k.step * u.b - -x.lb ∨ 0 < -x.la - (k.half - k.step * u.a) ↔ (0 < -k.half + k.step * u.a - x.la ∨ 0 < x.lb - (k.half - k.step * u.b) ∨ 0 < -k.half + k.step * u.c - x.ra ∨ 0 < x.rb - (k.half - k.step * u.d))
  omega
theorem mir_why {u : Cu} (h : u.a + u.b = u.c + u.d) (x : Vw) : (⟨k.mir sp cap, 0, u.mir⟩ : Tm).why x.mir = (⟨k, 0, u⟩ : Tm).why x := by
  unfold Tm.why
  rw [mir_dist, mir_dist, mir_win k sp cap h]
  have e := mir_over k sp cap u x
  show (if (⟨k, 0, u⟩ : Tm).dist x.sb < k.ehi - k.squeeze then (1 : Int) else if k.elo + k.prism < (⟨k, 0, u⟩ : Tm).dist x.sa then 2 else if (⟨k, 0, u⟩ : Tm).win + k.front < x.sb then 3 else if x.sa < (⟨k, 0, u⟩ : Tm).win - k.deep then 4 else if 0 < (⟨k.mir sp cap, 0, u.mir⟩ : Tm).over x.mir then 5 else 0) = _
  simp only [e]
theorem mir_first {u : Cu} (h : u.a + u.b = u.c + u.d) : ∀ l : List (Int × Vw), (⟨k.mir sp cap, 0, u.mir⟩ : Tm).first (l.map fun q => (q.1, q.2.mir)) = (⟨k, 0, u⟩ : Tm).first l
  | [] => rfl
  | q :: l => by
    simp only [List.map_cons]
    unfold Tm.first
    rw [mir_why k sp cap h, mir_first h l]
theorem mir_eyesTo (u : Cu) : ∀ (l : List (Int × Vw)) (a : Int × Int), (⟨k.mir sp cap, 0, u.mir⟩ : Tm).eyesTo a (l.map fun q => (q.1, q.2.mir)) = (⟨k, 0, u⟩ : Tm).eyesTo a l
  | [], a => rfl
  | q :: l, a => by
    have e := mir_eyesTo u l
    unfold Tm.eyesTo at *
    simp only [List.map_cons, List.foldl_cons]
    rw [e, mir_dist, mir_dist]
    rfl
theorem mir_okT {u : Cu} (h : u.a + u.b = u.c + u.d) : (k.mir sp cap).okT u.mir = k.okT u := by
  unfold Cd.okT
  rw [show (k.mir sp cap).p = k.p.mir from rfl, Pr.mir_sees, mir_first k sp cap h]
theorem isT_eq {u : Cu} {m : Int} (h : u.isT m = true) : u.a + u.b = u.c + u.d := by
  unfold Cu.isT at h
  simp only [Bool.and_eq_true, decide_eq_true_eq] at h
  omega
theorem mir_trim_none (h : k.trim = none) : (k.mir sp cap).trim = none := by
  cases hv : (k.mir sp cap).trim with
  | none => rfl
  | some v =>
    obtain ⟨h1, h2⟩ := trim_is hv
    have h3 : v.mir.isT k.cuts = true := isT_mir.trans h1
    have h4 : k.okT v.mir = true := by rw [← mir_okT k sp cap (isT_eq h3)]; exact h2
    obtain ⟨t, ht⟩ := trim_some h3 h4
    rw [h] at ht; cases ht
theorem mir_trim {t : Cu} (h : k.trim = some t) : ∃ v, (k.mir sp cap).trim = some v ∧ v.isT k.cuts = true ∧ t.isT k.cuts = true ∧ v.a + v.b + v.c + v.d = t.a + t.b + t.c + t.d := by
  obtain ⟨h1, h2⟩ := trim_is h
  have h3 : t.mir.isT (k.mir sp cap).cuts = true := isT_mir.trans h1
  have h4 : (k.mir sp cap).okT t.mir = true := by rw [mir_okT k sp cap (isT_eq h1)]; exact h2
  obtain ⟨v, hv⟩ := trim_some h3 h4
  obtain ⟨g1, g2⟩ := trim_is hv
  have g3 : v.mir.isT k.cuts = true := isT_mir.trans g1
  have g4 : k.okT v.mir = true := by rw [← mir_okT k sp cap (isT_eq g3)]; exact g2
  refine ⟨v, hv, g1, h1, ?_⟩
  have l1 := trim_least h g3 g4
  have l2 := trim_least hv h3 h4
  unfold Cu.bef Cu.sum Cu.mir at l1 l2
  dsimp only at l1 l2
  omega
theorem mir_rlo {u : Cu} (h : u.a + u.b = u.c + u.d) : (⟨k.mir sp cap, 0, u.mir⟩ : Tm).rlo = (⟨k, 0, u⟩ : Tm).rlo := by
  unfold Tm.rlo
  rw [mir_dist, mir_win k sp cap h]
  rfl
theorem mir_rhi {u : Cu} (h : u.a + u.b = u.c + u.d) : (⟨k.mir sp cap, 0, u.mir⟩ : Tm).rhi = (⟨k, 0, u⟩ : Tm).rhi := by
  unfold Tm.rhi
  rw [mir_dist, mir_win k sp cap h]
  rfl
theorem mir_seenA (hok : k.p.ok = true) : (k.mir sp cap).seenA = k.seenA := by
  unfold Cd.seenA
  rw [k.mir_err0 sp cap hok, show (k.mir sp cap).p = k.p.mir from rfl, Pr.mir_sees, setTo_mir]
theorem err_sum {k : Cd} {u : Cu} (h : k.err [u] = 0) : u.a + u.b = u.c + u.d := isT_eq ((Cd.err_zero h).2.2.1 u (by simp))
theorem mir_hurtsA (hok : k.p.ok = true) (u : Cu) : (k.mir sp cap).hurtsA u.mir = k.hurtsA u := by
  unfold Cd.hurtsA
  rw [k.mir_err1 sp cap hok u]
  by_cases h : k.err [u] = 0
  · rw [if_pos h, if_pos h, show (k.mir sp cap).p = k.p.mir from rfl, Pr.mir_sees, mir_first k sp cap (err_sum h)]
  · rw [if_neg h, if_neg h]
theorem mir_eyesA (hok : k.p.ok = true) (u : Cu) : (k.mir sp cap).eyesA u.mir = k.eyesA u := by
  unfold Cd.eyesA Tm.eyes
  rw [k.mir_err1 sp cap hok u]
  dsimp only
  rw [show (k.mir sp cap).p = k.p.mir from rfl, Pr.mir_sees, mir_eyesTo k sp cap u]
theorem mir_room {u : Cu} (h : u.a + u.b = u.c + u.d) : (⟨k.mir sp cap, 0, u.mir⟩ : Tm).room = (⟨k, 0, u⟩ : Tm).room := by
  unfold Tm.room
  rw [mir_rlo k sp cap h, mir_rhi k sp cap h]
theorem mir_roomA (hok : k.p.ok = true) (u : Cu) : (k.mir sp cap).roomA u.mir = k.roomA u := by
  unfold Cd.roomA
  rw [k.mir_err1 sp cap hok u]
  by_cases h : k.err [u] = 0
  · rw [if_pos h, if_pos h, mir_room k sp cap (err_sum h)]
  · rw [if_neg h, if_neg h]
theorem mir_deepS (lo hi : Int) : (k.mir sp cap).deepS lo hi = k.deepS lo hi := by
  unfold Cd.deepS
  rw [show (k.mir sp cap).p = k.p.mir from rfl, Pr.mir_pw]
  rfl
theorem mir_deepA (hok : k.p.ok = true) (u : Cu) : (k.mir sp cap).deepA u.mir = k.deepA u := by
  unfold Cd.deepA
  rw [k.mir_err1 sp cap hok u]
  by_cases h : k.err [u] = 0
  · rw [if_pos h, if_pos h, mir_room k sp cap (err_sum h), mir_deepS]
  · rw [if_neg h, if_neg h]
/-- What both cards answer when they are trimmed. -/
theorem mir_trimA (hk : k.okc = true) (hok : k.p.ok = true) : ∃ t v e, k.trimA = (t, e) ∧ (k.mir sp cap).trimA = (v, e) ∧ t.isT k.cuts = true ∧ v.isT k.cuts = true ∧ v.a + v.b + v.c + v.d = t.a + t.b + t.c + t.d := by
  have hc0 := (okc_cuts hk).1
  have hz : (⟨0, 0, 0, 0⟩ : Cu).isT k.cuts = true := by
    unfold Cu.isT
    simp
    omega
  unfold Cd.trimA
  rw [k.mir_err0 sp cap hok]
  by_cases h : k.err [] = 0
  · rw [if_pos h, if_pos h]
    cases ht : k.trim with
    | none =>
      rw [mir_trim_none k sp cap ht]
      exact ⟨_, _, _, rfl, rfl, hz, hz, rfl⟩
    | some t =>
      obtain ⟨v, hv, h1, h2, h3⟩ := mir_trim k sp cap ht
      rw [hv]
      exact ⟨_, _, _, rfl, rfl, h2, h1, h3⟩
  · rw [if_neg h, if_neg h]
    exact ⟨_, _, _, rfl, rfl, hz, hz, rfl⟩
end
theorem ThingsAt.boxp {l : List Th} {w : World} {b : Nat} {T : TypeId} {vs : List Value} {cap : Nat} (h : Box w b vs T) (hl : l.length ≤ 1000) (hv : ∀ i t j x, l[i]? = some t → t.vals[j]? = some x → vs[i * 9 + j]? = some x) : ThingsAt l (.slice (some ⟨b, 0, none⟩) l.length cap) w := by
  refine ⟨hl, .inr ⟨b, 0, cap, rfl, h.lt, fun i t hi => CellsFrom.mk fun j x hx => ?_⟩⟩
  rw [Nat.zero_add]
  exact h.cell (hv i t j x hi hx)
theorem flat_take {l : List Th} {vs : List Value} (h : vs.take (l.length * 9) = l.flatMap Th.vals) {i j : Nat} {t : Th} {x : Value} (hi : l[i]? = some t) (hx : t.vals[j]? = some x) : vs[i * 9 + j]? = some x := by
  have hj : j < 9 := by have := (List.getElem?_eq_some_iff.1 hx).1; simpa [Th.vals] using this
  have hil := (List.getElem?_eq_some_iff.1 hi).1
  have h1 := flat_at Th.vals 9 (fun _ => rfl) l i j t hi hj
  rw [← h] at h1
  rw [List.getElem?_take_of_lt (by omega)] at h1
  rw [h1]; exact hx
theorem ThingsAt.own {w : World} {base : Nat} {v : Value} {l : List Th} {n : Nat} (h : w.ownsRow base 52 9 v n (l.flatMap Th.vals)) (hn : n = l.length) (hl : l.length ≤ 1000) : ThingsAt l v w := by
  subst hn
  have h0 := h
  obtain ⟨_, h1⟩ := h
  rcases h1 with ⟨rfl, hn⟩ | ⟨g, cap, cur, rfl, hg, hb, -, -, -, ht⟩
  · exact ⟨hl, .inl ⟨List.eq_nil_of_length_eq_zero hn, rfl⟩⟩
  · exact ThingsAt.boxp (T := 52) (vs := cur.toList) (show Box w g cur.toList 52 by unfold Box; simpa using hb) hl fun i t j x hi hx => flat_take ht hi hx
end Go.Proofs.YtcngaohfemdfjaaGreat
