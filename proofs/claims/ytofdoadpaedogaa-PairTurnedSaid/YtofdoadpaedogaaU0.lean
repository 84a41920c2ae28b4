import Derived.Test.YtofdoadpaedogaaU1
import Derived.Test.YtofdoadpaedogaaT33
namespace Go.Proofs.Ytofdoadpaedogaa
open Go.RowKit

/-- A pair whose things are turned. -/
def Pr.turn (p : Pr) (f : Th → Th) : Pr := { p with l := p.l.map f }
theorem Pr.turn_seen {p : Pr} {f : Th → Th} (hf : ∀ t, (f t).see p.ti p.ne p.fa = t.see p.ti p.ne p.fa) : (p.turn f).seen = p.seen := by
  unfold Pr.seen seenOf Pr.turn
  rw [List.map_map]
  exact List.map_congr_left fun t _ => hf t
theorem Pr.turn_pw {p : Pr} {f : Th → Th} (hf : ∀ t, (f t).see p.ti p.ne p.fa = t.see p.ti p.ne p.fa) (hz : ∀ t, (f t).z = t.z) : (p.turn f).pw = p.pw := by
  rw [Pr.pw_eq, Pr.pw_eq]
  show ((((p.l.map f).filter Th.m).map (Th.see p.ti p.ne p.fa)).map Sg.spw).foldl ovl (p.fl * p.bl, p.fh * p.bh) = _
  rw [List.filter_map]
  have e : (Th.m ∘ f) = Th.m := funext fun t => by simp [Th.m, hz]
  have e2 : ((p.l.filter Th.m).map f).map (Th.see p.ti p.ne p.fa) = (p.l.filter Th.m).map (Th.see p.ti p.ne p.fa) := by
    rw [List.map_map]
    exact List.map_congr_left fun t _ => hf t
  rw [e, e2]
theorem Pr.turn_all {p : Pr} {f : Th → Th} (hf : ∀ t, (f t).see p.ti p.ne p.fa = t.see p.ti p.ne p.fa) (hz : ∀ t, (f t).z = t.z) (h : p.ok = true) (hq : (p.turn f).ok = true) (n : Int) :
    (p.turn f).power = p.power ∧ (p.turn f).distance n = p.distance n ∧ (p.turn f).why n = p.why n ∧ (p.turn f).fewest = p.fewest := by
  have e1 := Pr.turn_seen hf
  have e2 := Pr.turn_pw hf hz
  have e3 : (p.turn f).at n = p.at n := by unfold Pr.at; rw [e1]
  refine ⟨?_, ?_, ?_, ?_⟩
  · unfold Pr.power; rw [h, hq, e2]
  · unfold Pr.distance; rw [h, hq, e2, e3]
  · unfold Pr.why; rw [h, hq, e2, e3]
  · unfold Pr.fewest; rw [h, hq, e1, e2]
theorem Th.back_see (ti ne fa : Int) (t : Th) : t.back.see ti ne fa = t.see ti ne fa := by
  have h1 : t.back.wit ne fa = t.wit ne fa := rfl
  unfold Th.see
  rw [h1]
  have h2 : t.back.a - t.back.f = t.a - t.f := by show -t.f - -t.a = _; omega
  have h3 : t.back.b - t.back.e = t.b - t.e := by show -t.e - -t.b = _; omega
  have h4 : t.back.c - t.back.h = t.c - t.h := by show -t.h - -t.c = _; omega
  have h5 : t.back.g - t.back.d = t.g - t.d := by show -t.d - -t.g = _; omega
  rw [h2, h3, h4, h5]
theorem Th.on_see (b ti ne fa : Int) (t : Th) : (t.on b).see ti ne fa = t.see ti ne fa := by
  have h1 : (t.on b).wit ne fa = t.wit ne fa := rfl
  unfold Th.see
  rw [h1]
  have h2 : (t.on b).a - (t.on b).f = t.a - t.f := by show t.a + b - (t.f + b) = _; omega
  have h3 : (t.on b).b - (t.on b).e = t.b - t.e := by show t.b + b - (t.e + b) = _; omega
  have h4 : (t.on b).c - (t.on b).h = t.c - t.h := rfl
  have h5 : (t.on b).g - (t.on b).d = t.g - t.d := rfl
  rw [h2, h3, h4, h5]
theorem ThingsAt.own {w : World} {base : Nat} {v : Value} {l : List Th} {n : Nat} (h : w.ownsRow base 47 9 v n (l.flatMap Th.vals)) (hn : n = l.length) (hl : l.length ≤ 1000) : ThingsAt l v w := by
  subst hn
  have h0 := h
  obtain ⟨_, h1⟩ := h
  rcases h1 with ⟨rfl, hn⟩ | ⟨g, cap, cur, rfl, hg, hb, -, -, -, ht⟩
  · exact ⟨hl, .inl ⟨List.eq_nil_of_length_eq_zero hn, rfl⟩⟩
  · exact ThingsAt.boxp (T := 47) (vs := cur.toList) (show Box w g cur.toList 47 by unfold Box; simpa using hb) hl fun i t j x hi hx => flat_take ht hi hx
end Go.Proofs.Ytofdoadpaedogaa
