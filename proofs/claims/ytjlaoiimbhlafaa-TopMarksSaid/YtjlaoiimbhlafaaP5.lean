import Derived.Test.YtjlaoiimbhlafaaP4
import Derived.BigRegion
set_option linter.unusedVariables false
set_option linter.unusedSimpArgs false
namespace Go.Proofs.Ytjlaoiimbhlafaa
open Go.RowKit Go.Shelf

open MW
def mnI (a b : Int) : Int := if b < a then b else a
def mxI (a b : Int) : Int := if a < b then b else a
/-- A mark. -/
structure Mrk where
  a : Int
  b : Int
  c : Int
  d : Int
def Mrk.cs (m : Mrk) : List Value := [.int .i64 m.a, .int .i64 m.b, .int .i64 m.c, .int .i64 m.d]
def Mrk.val (m : Mrk) : Value := .agg #[.int .i64 m.a, .int .i64 m.b, .int .i64 m.c, .int .i64 m.d]
def spV (a b : Int) : Value := .agg #[.int .i64 a, .int .i64 b]
/-- Within the limits. -/
structure Mrk.In (m : Mrk) : Prop where
  a : -1000000 ≤ m.a ∧ m.a ≤ 1000000
  b : -1000000 ≤ m.b ∧ m.b ≤ 1000000
def okS (a b lo hi : Int) : Bool := decide (a ≤ b) && (decide (lo ≤ a) && decide (b ≤ hi))
def Mrk.ok (m : Mrk) : Bool := okS m.a m.b 0 65536 && okS m.c m.d 0 1000
set_option maxHeartbeats 400000 in
theorem span_any (lo hi : Int) (w : World) :
    Calls Try.prog 71 #[.int .i64 lo, .int .i64 hi] w fun e w' => e = .returned (spV lo hi) ∧ Below w.heap.size w w' := by
  unfold spV
  go_enter Try.func71, Try.ntmps71
  go_wp2
  exact bodyPost_ret (v := .agg #[.int .i64 lo, .int .i64 hi]) (by simp [results, Try.results71, go_sem]) rfl ⟨rfl, ((Below.refl _ _).alloc (by first | (simp; done) | (simp; omega) | omega) _)⟩
set_option maxHeartbeats 400000 in
theorem empty_any (a b : Int) (w : World) :
    Calls Try.prog 93 #[spV a b] w fun e w' => e = .returned (.bool (decide (b < a))) ∧ Below w.heap.size w w' := by
  unfold spV
  go_enter Try.func93, Try.ntmps93
  go_wp2
  go_ret
  exact ⟨rfl, ((Below.refl _ _).alloc (by first | (simp; done) | (simp; omega) | omega) _)⟩
set_option maxHeartbeats 400000 in
theorem overlap_any (a b c d : Int) (w : World) :
    Calls Try.prog 94 #[spV a b, spV c d] w fun e w' => e = .returned (spV (mxI a c) (mnI b d)) ∧ Below w.heap.size w w' := by
  have h1 : (if a < c then c else a) = mxI a c := rfl
  have h2 : (if d < b then d else b) = mnI b d := rfl
  generalize mxI a c = x at *
  generalize mnI b d = y at *
  have HS := Lib.hid (fun W => span_any x y W)
  unfold spV at *
  have HZ := Lib.hid (show Box (((w.alloc (Obj.cells #[.int .i64 a, .int .i64 b] 24)).alloc (Obj.cells #[.int .i64 c, .int .i64 d] 24)).alloc (Obj.cells #[.int .i64 0, .int .i64 0] 24)) (w.heap.size + 1 + 1) [.int .i64 0, .int .i64 0] 24 by
    have := Box.fresh ((w.alloc (Obj.cells #[.int .i64 a, .int .i64 b] 24)).alloc (Obj.cells #[.int .i64 c, .int .i64 d] 24)) [.int .i64 0, .int .i64 0] 24
    simpa using this)
  go_enter Try.func94, Try.ntmps94
  go_wp2_with (go_at_call 71; refine (HS.out _).mono ?_; rintro e w1 ⟨rfl, hb1⟩; have HZ1 := Lib.hid (HZ.out.grow hb1); obtain ⟨z0, z1, z2, z3, -⟩ := Box.two HZ1.out; have zl := HZ1.out.lt; have HB1 := Lib.hid hb1; clear hb1)
  obtain ⟨y0, y1, -, -, -⟩ := Box.two ((HZ1.out.put 0 (.int .i64 x)).put 1 (.int .i64 y))
  exact bodyPost_ret (v := .agg #[.int .i64 x, .int .i64 y]) (by simp [results, Try.f94, go_sem, y0, y1]) rfl ⟨rfl, ((bgr ((((Below.refl _ _).alloc (by first | (simp; done) | (simp; omega) | omega) _).alloc (by first | (simp; done) | (simp; omega) | omega) _).alloc (by first | (simp; done) | (simp; omega) | omega) _) (by first | (simp; done) | (simp; omega) | omega) HB1.out).setCell (by first | (simp; done) | (simp; omega) | omega) _).setCell (by first | (simp; done) | (simp; omega) | omega) _⟩
set_option maxHeartbeats 400000 in
theorem apart_any (m n : Mrk) (w : World) (hm : m.In) (hn : n.In) :
    Calls Try.prog 108 #[m.val, n.val] w fun e w' => e = .returned (spV (m.a - n.b) (m.b - n.a)) ∧ Below w.heap.size w w' := by
  have HS := Lib.hid (fun W => span_any (m.a - n.b) (m.b - n.a) W)
  obtain ⟨⟨q1, q2⟩, ⟨q3, q4⟩⟩ := hm
  obtain ⟨⟨q5, q6⟩, ⟨q7, q8⟩⟩ := hn
  unfold spV at *
  unfold Mrk.val
  have HZ := Lib.hid (show Box (((w.alloc (Obj.cells #[.int .i64 m.a, .int .i64 m.b, .int .i64 m.c, .int .i64 m.d] 65)).alloc (Obj.cells #[.int .i64 n.a, .int .i64 n.b, .int .i64 n.c, .int .i64 n.d] 65)).alloc (Obj.cells #[.int .i64 0, .int .i64 0] 24)) (w.heap.size + 1 + 1) [.int .i64 0, .int .i64 0] 24 by
    have := Box.fresh ((w.alloc (Obj.cells #[.int .i64 m.a, .int .i64 m.b, .int .i64 m.c, .int .i64 m.d] 65)).alloc (Obj.cells #[.int .i64 n.a, .int .i64 n.b, .int .i64 n.c, .int .i64 n.d] 65)) [.int .i64 0, .int .i64 0] 24
    simpa using this)
  go_enter Try.func108, Try.ntmps108
  go_wp2_with (go_at_call 71; refine (HS.out _).mono ?_; rintro e w1 ⟨rfl, hb1⟩; have HZ1 := Lib.hid (HZ.out.grow hb1); obtain ⟨z0, z1, z2, z3, -⟩ := Box.two HZ1.out; have zl := HZ1.out.lt; have HB1 := Lib.hid hb1; clear hb1)
  obtain ⟨y0, y1, -, -, -⟩ := Box.two ((HZ1.out.put 0 (.int .i64 (m.a - n.b))).put 1 (.int .i64 (m.b - n.a)))
  exact bodyPost_ret (v := .agg #[.int .i64 (m.a - n.b), .int .i64 (m.b - n.a)]) (by simp [results, Try.f108, go_sem, y0, y1]) rfl ⟨rfl, ((bgr ((((Below.refl _ _).alloc (by first | (simp; done) | (simp; omega) | omega) _).alloc (by first | (simp; done) | (simp; omega) | omega) _).alloc (by first | (simp; done) | (simp; omega) | omega) _) (by first | (simp; done) | (simp; omega) | omega) HB1.out).setCell (by first | (simp; done) | (simp; omega) | omega) _).setCell (by first | (simp; done) | (simp; omega) | omega) _⟩
set_option maxHeartbeats 400000 in
theorem within_any (a b c d : Int) (w : World) :
    Calls Try.prog 118 #[spV a b, spV c d] w fun e w' => e = .returned (.bool (okS a b c d)) ∧ Below w.heap.size w w' := by
  have HE := Lib.hid (fun W => empty_any a b W)
  unfold okS
  unfold spV at *
  cases h1 : decide (a ≤ b) with
  | false =>
    have h1' : decide (b < a) = true := by simp at h1; simpa using h1
    rw [h1'] at HE
    go_enter Try.func118, Try.ntmps118
    go_wp2_with (go_at_call 93; refine (HE.out _).mono ?_; rintro e w1 ⟨rfl, hb1⟩)
    go_ret
    exact ⟨rfl, bgr (((Below.refl _ _).alloc (by first | (simp; done) | (simp; omega) | omega) _).alloc (by first | (simp; done) | (simp; omega) | omega) _) (by first | (simp; done) | (simp; omega) | omega) hb1⟩
  | true =>
    have h1' : decide (b < a) = false := by simp at h1; simpa using h1
    rw [h1'] at HE
    cases h2 : decide (c ≤ a) with
    | false =>
      go_enter Try.func118, Try.ntmps118
      go_wp2_with (go_at_call 93; refine (HE.out _).mono ?_; rintro e w1 ⟨rfl, hb1⟩; obtain ⟨hc, hf, hz⟩ := bcell (show Below _ _ w1 from hb1))
      go_ret
      exact ⟨rfl, bgr (((Below.refl _ _).alloc (by first | (simp; done) | (simp; omega) | omega) _).alloc (by first | (simp; done) | (simp; omega) | omega) _) (by first | (simp; done) | (simp; omega) | omega) hb1⟩
    | true =>
      go_enter Try.func118, Try.ntmps118
      go_wp2_with (go_at_call 93; refine (HE.out _).mono ?_; rintro e w1 ⟨rfl, hb1⟩; obtain ⟨hc, hf, hz⟩ := bcell (show Below _ _ w1 from hb1))
      go_ret
      exact ⟨by simp, bgr (((Below.refl _ _).alloc (by first | (simp; done) | (simp; omega) | omega) _).alloc (by first | (simp; done) | (simp; omega) | omega) _) (by first | (simp; done) | (simp; omega) | omega) hb1⟩
set_option maxHeartbeats 400000 in
theorem isMark_any (i : Int) (p : Option Addr) (n c : Nat) (w : World) :
    Calls Try.prog 49 #[.int .i64 i, .slice p n c] w fun e w' => e = .returned (.bool (decide (0 ≤ i) && decide (i < n))) ∧ Below w.heap.size w w' := by
  cases h1 : decide (0 ≤ i) with
  | false =>
    go_enter Try.func49, Try.ntmps49
    go_wp2
    go_ret
    exact ⟨rfl, Below.refl _ _⟩
  | true =>
    go_enter Try.func49, Try.ntmps49
    go_wp2
    go_ret
    exact ⟨by simp, Below.refl _ _⟩

end Go.Proofs.Ytjlaoiimbhlafaa
namespace Go.Proofs.Ytjlaoiimbhlafaa
open Go.RowKit Go.Shelf

open MW
/-- A slice value reads as this list of numbers. -/
def IntsAt (l : List Int) (v : Value) (w : World) : Prop :=
  ∃ b o cap, v = .slice (some ⟨b, o, none⟩) l.length cap ∧ b < w.heap.size ∧ l.length ≤ 1000 ∧
    ∀ i, i < l.length → w.cell? ⟨b, o + i, none⟩ = some (.int .i64 (l.getD i 0))
theorem IntsAt.lasts (l : List Int) : Lasts (IntsAt l) := fun v W W' ⟨b, o, cap, h1, h2, h3, h4⟩ hG =>
  ⟨b, o, cap, h1, (bcell hG).2.2 _ h2, h3, fun i hi => by rw [(bcell hG).1 _ _ h2]; exact h4 i hi⟩
theorem IntsAt.new (l : List Int) (W : World) (T : TypeId) (hl : l.length ≤ 1000) : IntsAt l (.slice (some ⟨W.heap.size, 0, none⟩) l.length l.length) (W.alloc (.cells (l.map (Value.int .i64)).toArray T)) :=
  ⟨W.heap.size, 0, l.length, rfl, by simp, hl, fun i hi => by
    have := (Box.fresh W (l.map (Value.int .i64)) T).cell (i := i) (x := .int .i64 (l.getD i 0)) (by simp [hi])
    simpa using this⟩
/-- What keeps the least and the greatest of numbers. -/
structure En where
  a : Int
  b : Int
  s : Bool
def En.cs (e : En) : List Value := [.int .i64 e.a, .int .i64 e.b, .bool e.s]
def En.put (e : En) (x : Int) : En := if e.s then ⟨mnI e.a x, mxI e.b x, true⟩ else ⟨x, x, true⟩
theorem En.put_snoc (e : En) (l : List Int) (n : Nat) (h : n < l.length) : (l.take (n + 1)).foldl En.put e = ((l.take n).foldl En.put e).put (l.getD n 0) := by
  rw [List.take_succ_eq_append_getElem h, List.foldl_append]
  simp [h]
theorem cells3 {W : World} {b : Nat} {x y z : Value} {T : TypeId} (h : Box W b [x, y, z] T) : W.cell? ⟨b, 0, none⟩ = some x ∧ W.cell? ⟨b, 1, none⟩ = some y ∧ W.cell? ⟨b, 2, none⟩ = some z := ⟨h.cell (i := 0) rfl, h.cell (i := 1) rfl, h.cell (i := 2) rfl⟩
theorem mnI_self (x : Int) : mnI x x = x := by unfold mnI; simp
theorem mxI_self (x : Int) : mxI x x = x := by unfold mxI; simp
set_option maxHeartbeats 4000000 in
theorem take_any (be b o cap : Nat) (e : En) (l : List Int) (w : World) (he : Box w be e.cs 105) (hb : b < w.heap.size) (hne : b ≠ be) (hlen : l.length ≤ 1000) (hc : ∀ i, i < l.length → w.cell? ⟨b, o + i, none⟩ = some (.int .i64 (l.getD i 0))) :
    Calls Try.prog 70 #[.pointer (some ⟨be, 0, none⟩), .slice (some ⟨b, o, none⟩) l.length cap] w fun r w' => r = .returned (.tuple #[]) ∧ Box w' be (l.foldl En.put e).cs 105 ∧ Only be w w' := by
  have HE := Lib.hid he
  have HC := Lib.hid hc
  have hbe := he.lt
  have hmn : ∀ (x y : Int), (if y < x then y else x) = mnI x y := fun _ _ => rfl
  have hmx : ∀ (x y : Int), (if x < y then y else x) = mxI x y := fun _ _ => rfl
  clear he hc
  go_enter Try.func70, Try.ntmps70
  go_wp2
  go_loopw [8] (fun i wr => ∃ n : Nat, n ≤ l.length ∧ i = .int .i64 n ∧ Hid (Box wr be ((l.take n).foldl En.put e).cs 105) ∧ Hid (Only be w wr)) (fun i _ => l.length - (intOf i).toNat)
  case atStart => exact ⟨0, Nat.zero_le _, rfl, Lib.hid HE.out, Lib.hid (Only.of hbe (Gr.same _))⟩
  case round =>
    obtain ⟨n, hn, rfl, HX, HO⟩ := hrel
    by_cases hlt : n < l.length
    · have hz : wr.cell? ⟨b, o + n, none⟩ = some (.int .i64 (l.getD n 0)) := (World.cell?_of_block (HO.out.keep b hne hb)).trans (HC.out n hlt)
      have hbr : b < wr.heap.size := Nat.lt_of_lt_of_le hb HO.out.size
      have HS := Lib.hid (En.put_snoc e l n hlt)
      have hbl := HX.out.lt
      generalize (l.take n).foldl En.put e = c at *
      generalize l.getD n 0 = x at *
      obtain ⟨ca, cb, cs⟩ := c
      unfold En.cs at HX
      dsimp only at HX
      obtain ⟨z0, z1, z2⟩ := cells3 HX.out
      cases cs
      · have HS' := Lib.hid (show (l.take (n + 1)).foldl En.put e = ⟨x, x, true⟩ by rw [HS.out]; rfl)
        have fr0 := HX.out.free (i := 0)
        have fr1 := HX.out.free (i := 1)
        have fr2 := HX.out.free (i := 2)
        go_wp2_with fail
        have HX' := Lib.hid (((HX.out.put 0 (.int .i64 x)).put 1 (.int .i64 x)).put 2 (.bool true))
        have HO' := Lib.hid (((HO.out.tr (Only.set _ 0 (.int .i64 x))).tr (Only.set _ 1 (.int .i64 x))).tr (Only.set _ 2 (.bool true)))
        simp only [List.set_cons_zero, List.set_cons_succ] at HX'
        clear HX HO z0 z1 z2 fr0 fr1 fr2 hz
        generalize ((wr.setCell ⟨be, 0, none⟩ (.int .i64 x)).setCell ⟨be, 1, none⟩ (.int .i64 x)).setCell ⟨be, 2, none⟩ (.bool true) = wq at *
        have HX := HX'
        have HO := HO'
        clear HX' HO'
        have hsf1 := mnI_self x
        have hsf2 := mxI_self x
        obtain ⟨zz0, zz1, zz2⟩ := cells3 HX.out
        have ff0 := HX.out.free (i := 0)
        have ff1 := HX.out.free (i := 1)
        have ll := HX.out.lt
        go_region
        go_wp2_with fail
        refine ⟨⟨n + 1, by omega, by go_num, Lib.hid ?_, Lib.hid ?_⟩, by simp [intOf]; omega⟩
        · rw [HS'.out]
          exact ((HX.out.grow (Gr.drew _)).put 0 _).put 1 _
        · exact ((HO.out.tr (Only.of HX.out.lt (Gr.drew _))).tr (Only.set _ _ _)).tr (Only.set _ _ _)
      · have HS' := Lib.hid (show (l.take (n + 1)).foldl En.put e = ⟨mnI ca x, mxI cb x, true⟩ by rw [HS.out]; rfl)
        go_wp2_with fail
        clear z0 z1 z2 hz
        obtain ⟨zz0, zz1, zz2⟩ := cells3 HX.out
        have ff0 := HX.out.free (i := 0)
        have ff1 := HX.out.free (i := 1)
        have ll := HX.out.lt
        go_region
        go_wp2_with fail
        refine ⟨⟨n + 1, by omega, by go_num, Lib.hid ?_, Lib.hid ?_⟩, by simp [intOf]; omega⟩
        · rw [HS'.out]
          exact ((HX.out.grow (Gr.drew _)).put 0 _).put 1 _
        · exact ((HO.out.tr (Only.of HX.out.lt (Gr.drew _))).tr (Only.set _ _ _)).tr (Only.set _ _ _)
    · have hnl : n = l.length := by omega
      subst hnl
      rw [List.take_length] at HX
      have HX5 := HX
      clear HX
      go_wp2_with fail
      go_end0
      exact ⟨rfl, HX5.out, HO.out⟩

end Go.Proofs.Ytjlaoiimbhlafaa
namespace Go.Proofs.Ytjlaoiimbhlafaa
open Go.RowKit Go.Shelf

open MW
theorem cells4 {W : World} {b : Nat} {x y z u : Value} {T : TypeId} (h : Box W b [x, y, z, u] T) : W.cell? ⟨b, 0, none⟩ = some x ∧ W.cell? ⟨b, 1, none⟩ = some y ∧ W.cell? ⟨b, 2, none⟩ = some z ∧ W.cell? ⟨b, 3, none⟩ = some u := ⟨h.cell (i := 0) rfl, h.cell (i := 1) rfl, h.cell (i := 2) rfl, h.cell (i := 3) rfl⟩

def Lk.sh (k : Lk) (x y : Mrk) : Int × Int := (mxI (x.a - y.b) k.s, mnI (x.b - y.a) k.t)
set_option maxHeartbeats 1000000 in
theorem shift_any (k : Lk) (x y : Mrk) (w : World) (hx : x.In) (hy : y.In) :
    Calls Try.prog 69 #[.agg k.cs.toArray, x.val, y.val] w fun e w' => e = .returned (spV (k.sh x y).1 (k.sh x y).2) ∧ Below w.heap.size w w' := by
  have HA := Lib.hid (fun W => apart_any x y W hx hy)
  have HO := Lib.hid (fun W => overlap_any (x.a - y.b) (x.b - y.a) k.s k.t W)
  unfold Lk.sh
  dsimp only
  generalize mxI (x.a - y.b) k.s = p at *
  generalize mnI (x.b - y.a) k.t = q at *
  have HB := Lib.hid ((((Box.fresh w k.cs 85).grow (Gr.alloc _ (Obj.cells x.cs.toArray 65))).grow (Gr.alloc _ (Obj.cells y.cs.toArray 65))).grow (Gr.alloc _ (Obj.cells #[.int .i64 0, .int .i64 0] 24)))
  have HX := Lib.hid (show Box ((((w.alloc (Obj.cells k.cs.toArray 85)).alloc (Obj.cells x.cs.toArray 65)).alloc (Obj.cells y.cs.toArray 65)).alloc (Obj.cells #[.int .i64 0, .int .i64 0] 24)) (w.heap.size + 1) x.cs 65 by
    have := ((Box.fresh (w.alloc (Obj.cells k.cs.toArray 85)) x.cs 65).grow (Gr.alloc _ (Obj.cells y.cs.toArray 65))).grow (Gr.alloc _ (Obj.cells #[.int .i64 0, .int .i64 0] 24))
    simpa using this)
  have HY := Lib.hid (show Box ((((w.alloc (Obj.cells k.cs.toArray 85)).alloc (Obj.cells x.cs.toArray 65)).alloc (Obj.cells y.cs.toArray 65)).alloc (Obj.cells #[.int .i64 0, .int .i64 0] 24)) (w.heap.size + 1 + 1) y.cs 65 by
    have := (Box.fresh ((w.alloc (Obj.cells k.cs.toArray 85)).alloc (Obj.cells x.cs.toArray 65)) y.cs 65).grow (Gr.alloc _ (Obj.cells #[.int .i64 0, .int .i64 0] 24))
    simpa using this)
  have HZ := Lib.hid (show Box ((((w.alloc (Obj.cells k.cs.toArray 85)).alloc (Obj.cells x.cs.toArray 65)).alloc (Obj.cells y.cs.toArray 65)).alloc (Obj.cells #[.int .i64 0, .int .i64 0] 24)) (w.heap.size + 1 + 1 + 1) [.int .i64 0, .int .i64 0] 24 by
    have := Box.fresh (((w.alloc (Obj.cells k.cs.toArray 85)).alloc (Obj.cells x.cs.toArray 65)).alloc (Obj.cells y.cs.toArray 65)) [.int .i64 0, .int .i64 0] 24
    simpa using this)
  unfold Mrk.cs at HX HY HB HZ
  unfold spV Mrk.val at *
  go_enter Try.func69, Try.ntmps69
  go_wp2_with fail
  refine region2 7 ?_ ?_ ?_
  · kernel_rfl
  · kernel_rfl
  simp only [List.take_succ_cons, List.take_zero, List.drop_succ_cons, List.drop_zero]
  apply chain_eq (D := [(4, none)]) rfl (by kernel_rfl)
  · intro ρ W4 ⟨p1, p2, p3⟩ hG hF K hK; (try simp [FactsD] at hF); have hD := Gr.tr (Gr.drew _) hG; obtain ⟨q0, q1, q2, q3⟩ := cells4 (HX.out.grow hD); go_simp; exact hK _ (gives_val)
  apply chain_eq (D := [(5, none)]) rfl (by kernel_rfl)
  · intro ρ W4 ⟨p1, p2, p3⟩ hG hF K hK; (try simp [FactsD] at hF); have hD := Gr.tr (Gr.drew _) hG; obtain ⟨q0, q1, q2, q3⟩ := cells4 (HY.out.grow hD); go_simp; exact hK _ (gives_val)
  apply chain_eq (D := [(7, some 1), (8, some 0)]) rfl (by kernel_rfl)
  · intro ρ W4 ⟨p1, p2, p3⟩ hG hF K hK; (try simp [FactsD] at hF); have hD := Gr.tr (Gr.drew _) hG; go_simp; exact hK _ (gives_call (HA.out _))
  apply chain_eq (D := [(3, none)]) rfl (by kernel_rfl)
  · intro ρ W4 ⟨p1, p2, p3⟩ hG hF K hK; (try simp [FactsD] at hF); have hD := Gr.tr (Gr.drew _) hG; go_simp; exact hK _ (gives_val)
  apply chain_eq (D := [(10, some 0)]) rfl (by kernel_rfl)
  · intro ρ W4 ⟨p1, p2, p3⟩ hG hF K hK; (try simp [FactsD] at hF); have hD := Gr.tr (Gr.drew _) hG; go_simp; exact hK _ (gives_val)
  apply chain_eq (D := [(11, some 0)]) rfl (by kernel_rfl)
  · intro ρ W4 ⟨p1, p2, p3⟩ hG hF K hK; (try simp [FactsD] at hF); have hD := Gr.tr (Gr.drew _) hG; have q0 := (HB.out.grow hD).cell k.c2; have q1 := (HB.out.grow hD).cell k.c3; go_simp; exact hK _ (gives_val)
  apply chain_eq (D := [(9, some 3), (12, some 0)]) rfl (by kernel_rfl)
  · intro ρ W4 ⟨p1, p2, p3⟩ hG hF K hK; (try simp [FactsD] at hF); have hD := Gr.tr (Gr.drew _) hG; go_simp; exact hK _ (gives_call (HO.out _))
  refine chain_done ?_
  intro vs W4 hG hV
  obtain ⟨e6, -⟩ := hV
  simp only [Nat.reduceSub] at e6
  simp only [lay, Act.put, List.getElem?_toArray, List.getElem?_cons_succ, List.getElem?_cons_zero, Option.bind_some, List.setIfInBounds_toArray, List.set_cons_succ, List.set_cons_zero]
  generalize vs 0 = v0
  generalize vs 1 = v1
  generalize vs 2 = v2
  generalize vs 3 = v3
  generalize vs 4 = v4
  generalize vs 5 = v5
  generalize vs 6 = v6 at *
  subst e6
  have HG := Lib.hid (show Gr _ W4 from hG)
  have HZ4 := Lib.hid (HZ.out.grow hG)
  obtain ⟨z0, z1, z2, z3, -⟩ := Box.two HZ4.out
  have zl := HZ4.out.lt
  clear hG
  go_wp2_with fail
  obtain ⟨y0, y1, -, -, -⟩ := Box.two ((HZ4.out.put 0 (.int .i64 p)).put 1 (.int .i64 q))
  exact bodyPost_ret (v := .agg #[.int .i64 p, .int .i64 q]) (by simp [results, Try.f69, go_sem, y0, y1]) rfl ⟨rfl, ((bgr (((((Below.refl _ _).alloc (by first | (simp; done) | (simp; omega) | omega) _).alloc (by first | (simp; done) | (simp; omega) | omega) _).alloc (by first | (simp; done) | (simp; omega) | omega) _).alloc (by first | (simp; done) | (simp; omega) | omega) _) (by first | (simp; done) | (simp; omega) | omega) HG.out).setCell (by first | (simp; done) | (simp; omega) | omega) _).setCell (by first | (simp; done) | (simp; omega) | omega) _⟩

theorem idx153 (f : Nat → Nat) {i : Nat} (h : i < 11) (W : World) : (Instr.index 153 (.agg (wrow f).toArray) (.int .i64 i)).run Try.prog W = .ok (.int .i64 (f i)) W := by
  have : i = 0 ∨ i = 1 ∨ i = 2 ∨ i = 3 ∨ i = 4 ∨ i = 5 ∨ i = 6 ∨ i = 7 ∨ i = 8 ∨ i = 9 ∨ i = 10 := by omega
  rcases this with rfl | rfl | rfl | rfl | rfl | rfl | rfl | rfl | rfl | rfl | rfl <;> (show _ = _; kernel_rfl)
set_option maxHeartbeats 1000000 in
theorem hidesLeft_any (k : Lk) (i : Nat) (w : World) (hk : k.Ok) (hi : i < k.nL) :
    Calls Try.prog 64 #[.agg k.cs.toArray, .int .i64 i] w fun e w' => e = .returned (.bool (decide (0 < k.spl i 10))) ∧ Below w.heap.size w w' := by
  have HS := Lib.hid (fun W => split_any k i W hk hi)
  have HB := Lib.hid (Box.fresh w k.cs 85)
  have hix := fun W => idx153 (k.spl i) (show 10 < 11 by omega) W
  have hix' : ∀ W, (Instr.index 153 (.agg (wrow (k.spl i)).toArray) (.int .i64 10)).run Try.prog W = .ok (.int .i64 (k.spl i 10)) W := hix
  have hd : decide ((0 : Int) < (k.spl i 10 : Nat)) = decide (0 < k.spl i 10) := by rw [decide_eq_decide]; omega
  generalize wrow (k.spl i) = R at *
  generalize k.spl i 10 = v at *
  clear hix
  go_enter Try.func64, Try.ntmps64
  go_wp2_with (first | (with_reducible refine wpList_stopLoad (ty := 85) rfl ?_; unfold Stop; refine wpList_loadBox row85 k.cs_len HB.out rfl rfl rfl ?_) | (go_at_call 101; refine (HS.out _).mono ?_; rintro e w1 ⟨rfl, hb1⟩))
  go_ret
  exact ⟨by simp, bgr ((Below.refl _ _).alloc (by first | (simp; done) | (simp; omega) | omega) _) (by first | (simp; done) | (simp; omega) | omega) hb1⟩
set_option maxHeartbeats 1000000 in
theorem hidesRight_any (k : Lk) (c : Nat) (w : World) (hk : k.Ok) (hc : c ≤ 10) :
    Calls Try.prog 65 #[.agg k.cs.toArray, .int .i64 c] w fun e w' => e = .returned (.bool (decide (0 < k.wy (woM k.all c) 0 0 k.h))) ∧ Below w.heap.size w w' := by
  have HW := Lib.hid (fun W => without_any k.all c W hc hk.m)
  have HC := Lib.hid (fun W => count_any k (woM k.all c) (woM_lt _ _) (fun a ha j hj hj' => by rw [woM_bit hk.m, hk.r a ha j hj hj', Bool.false_and]) hk.nL hk.nR hk.h W)
  have HB := Lib.hid (Box.fresh w k.cs 85)
  generalize k.wy (woM k.all c) 0 0 k.h = v at *
  have hd : decide ((0 : Int) < (v : Nat)) = decide (0 < v) := by rw [decide_eq_decide]; omega
  generalize opts (woM k.all c) = O at *
  go_enter Try.func65, Try.ntmps65
  go_wp2_with fail
  refine region2 8 ?_ ?_ ?_
  · kernel_rfl
  · kernel_rfl
  simp only [List.take_succ_cons, List.take_zero, List.drop_succ_cons, List.drop_zero]
  apply chain_eq (D := [(2, none)]) rfl (by kernel_rfl)
  · intro ρ W4 ⟨p1, p2, p3⟩ hG hF K hK; (try simp [FactsD] at hF); have hD := Gr.tr (Gr.drew _) hG; rw [exec_loadBox row85 k.cs_len (HB.out.grow hD) rfl hF]; exact hK _ gives_val
  apply chain_eq (D := [(2, none)]) rfl (by kernel_rfl)
  · intro ρ W4 ⟨p1, p2, p3⟩ hG hF K hK; (try simp [FactsD] at hF); have hD := Gr.tr (Gr.drew _) hG; go_simp; exact hK _ (gives_val)
  apply chain_eq (D := [(6, some 0)]) rfl (by kernel_rfl)
  · intro ρ W4 ⟨p1, p2, p3⟩ hG hF K hK; (try simp [FactsD] at hF); have hD := Gr.tr (Gr.drew _) hG; rw [exec_loadPart row83 (opts_len k.all) (HB.out.grow hD) k.part rfl hF]; exact hK _ gives_val
  apply chain_eq (D := [(1, none)]) rfl (by kernel_rfl)
  · intro ρ W4 ⟨p1, p2, p3⟩ hG hF K hK; (try simp [FactsD] at hF); have hD := Gr.tr (Gr.drew _) hG; go_simp; exact hK _ (gives_val)
  apply chain_eq (D := [(7, some 1), (8, some 0)]) rfl (by kernel_rfl)
  · intro ρ W4 ⟨p1, p2, p3⟩ hG hF K hK; (try simp [FactsD] at hF); have hD := Gr.tr (Gr.drew _) hG; go_simp; exact hK _ (gives_call (HW.out _))
  apply chain_eq (D := [(5, some 4), (9, some 0)]) rfl (by kernel_rfl)
  · intro ρ W4 ⟨p1, p2, p3⟩ hG hF K hK; (try simp [FactsD] at hF); have hD := Gr.tr (Gr.drew _) hG; go_simp; exact hK _ (gives_call (HC.out _))
  apply chain_eq (D := [(10, some 0)]) rfl (by kernel_rfl)
  · intro ρ W4 ⟨p1, p2, p3⟩ hG hF K hK; (try simp [FactsD] at hF); have hD := Gr.tr (Gr.drew _) hG; go_simp; exact hK _ (gives_val)
  apply chain_eq (D := [(11, some 0)]) rfl (by kernel_rfl)
  · intro ρ W4 ⟨p1, p2, p3⟩ hG hF K hK; (try simp [FactsD] at hF); have hD := Gr.tr (Gr.drew _) hG; go_simp; exact hK _ (gives_val)
  refine chain_done ?_
  intro vs W4 hG hV
  obtain ⟨e7, -⟩ := hV
  simp only [Nat.reduceSub] at e7
  simp only [lay, Act.put, List.getElem?_toArray, List.getElem?_cons_succ, List.getElem?_cons_zero, Option.bind_some, List.setIfInBounds_toArray, List.set_cons_succ, List.set_cons_zero]
  generalize vs 0 = v0
  generalize vs 1 = v1
  generalize vs 2 = v2
  generalize vs 3 = v3
  generalize vs 4 = v4
  generalize vs 5 = v5
  generalize vs 6 = v6
  generalize vs 7 = v7 at *
  subst e7
  have HG := Lib.hid (show Gr _ W4 from hG)
  clear hG
  go_wp2_with fail
  go_ret
  exact ⟨by simp, bgr ((Below.refl _ _).alloc (by first | (simp; done) | (simp; omega) | omega) _) (by first | (simp; done) | (simp; omega) | omega) HG.out⟩

end Go.Proofs.Ytjlaoiimbhlafaa
namespace Go.Proofs.Ytjlaoiimbhlafaa
open Go.RowKit Go.Shelf

open MW
set_option maxHeartbeats 1000000 in
theorem partner_any (f : Nat → Nat) (c bw : Nat) (w : World) (hc : c < 11) (hb : Box w bw (wrow f) 153) :
    Calls Try.prog 102 #[.int .i64 c, .pointer (some ⟨bw, 0, none⟩)] w fun e w' => e = .returned (.bool (decide (0 < f c))) ∧ Below w.heap.size w w' := by
  have z := hb.cell (wrow_at f hc)
  have zl := hb.lt
  have h1 : (c : Int) < 11 := by omega
  have h1' : decide ((c : Int) < 11) = true := by simp; omega
  have h1'' : decide (c < 11) = true := by simp; omega
  have hd : decide ((0 : Int) < (f c : Nat)) = decide (0 < f c) := by rw [decide_eq_decide]; omega
  generalize f c = v at *
  clear hb
  go_enter Try.func102, Try.ntmps102
  go_wp2
  go_ret
  exact ⟨by simp, Below.refl _ _⟩
def Lk.ptn (k : Lk) (i : Nat) : Nat := gat (fun c => decide (0 < k.spl i c)) k.nR
set_option maxHeartbeats 1000000 in
theorem partners_any (k : Lk) (i : Nat) (w : World) (hk : k.Ok) (hi : i < k.nL) :
    Calls Try.prog 59 #[.agg k.cs.toArray, .int .i64 i] w fun e w' => e = .returned (.int .i64 (k.ptn i)) ∧ Below w.heap.size w w' := by
  have HS := Lib.hid (fun W => split_any k i W hk hi)
  have HB := Lib.hid (Box.fresh w k.cs 85)
  have HK := Lib.hid hk
  have hnR := hk.nR
  unfold Lk.ptn
  have HGA := Lib.hid (fun (v5 : Nat) (W : World) (hv : v5 < W.heap.size) hf => gatherP_any v5 k.nR (fun c => decide (0 < k.spl i c)) [v5] W (by omega) (by simpa using hv) hf)
  go_enter Try.func59, Try.ntmps59
  go_wp2_with (first | (with_reducible refine wpList_stopLoad (ty := 85) rfl ?_; unfold Stop; refine wpList_loadBox row85 k.cs_len (HB.out) rfl rfl rfl ?_) | (go_at_call 101; refine (HS.out _).mono ?_; rintro e w1 ⟨rfl, hb1⟩; have HB1 := Lib.hid hb1; have HBx := Lib.hid (HB.out.grow hb1); have HF := Lib.hid (Box.fresh w1 zero11 153); unfold zero11 at HF; clear hb1) | ((with_reducible refine wpList_stopStore (ty := 153) rfl ?_; unfold Stop; refine wpList_storeBox row153 (wrow_len _) rfl (wrow_one _) (HF.out) rfl rfl rfl rfl ?_); have HF2 := Lib.hid (show Box ((w1.alloc (Obj.cells #[.int .i64 0, .int .i64 0, .int .i64 0, .int .i64 0, .int .i64 0, .int .i64 0, .int .i64 0, .int .i64 0, .int .i64 0, .int .i64 0, .int .i64 0] 153)).setRow w1.heap.size (wrow (k.spl i)).toArray) w1.heap.size (wrow (k.spl i)) 153 from HF.out.row (vs := wrow (k.spl i))); have HG2 := Lib.hid (show Gr w1 ((w1.alloc (Obj.cells #[.int .i64 0, .int .i64 0, .int .i64 0, .int .i64 0, .int .i64 0, .int .i64 0, .int .i64 0, .int .i64 0, .int .i64 0, .int .i64 0, .int .i64 0] 153)).setRow w1.heap.size (wrow (k.spl i)).toArray) from below_setRow (Gr.alloc w1 _) (Nat.le_refl _) _); clear HF; generalize (w1.alloc (Obj.cells #[.int .i64 0, .int .i64 0, .int .i64 0, .int .i64 0, .int .i64 0, .int .i64 0, .int .i64 0, .int .i64 0, .int .i64 0, .int .i64 0, .int .i64 0] 153)).setRow w1.heap.size (wrow (k.spl i)).toArray = w2 at *; have HB2 := Lib.hid (HBx.out.grow HG2.out); have b0 := HB2.out.cell k.c0; have b1 := HB2.out.cell k.c1; have bl := HB2.out.lt; have bw := HF2.out.lt) | (go_at_call 63; refine (HGA.out _ _ bw (fun W' hK c hc => partner_any (k.spl i) c _ W' (by omega) (hK.box HF2.out (by simp)))).mono ?_; rintro e w3 ⟨rfl, hb3⟩))
  go_ret
  exact ⟨rfl, bgr ((Below.refl _ _).alloc (by first | (simp; done) | (simp; omega) | omega) _) (by first | (simp; done) | (simp; omega) | omega) ((Gr.tr HB1.out HG2.out).tr hb3)⟩
def Lk.all0 (k : Lk) : Nat := k.wy k.all 0 0 k.h
/-- The right mark that has all ways; -1: there is none. -/
def Lk.surTo (k : Lk) (i : Nat) (n : Nat) : Int := match (List.range n).find? fun c => k.spl i c == k.all0 with
  | some c => (c : Int)
  | none => -1
theorem find_pre {f : Nat → Bool} {n : Nat} (h : ∀ j, j < n → f j = false) (hn : f n = true) {m : Nat} (hm : n < m) : (List.range m).find? f = some n := by
  rw [List.find?_range_eq_some]
  exact ⟨hn, by simpa using hm, fun j hj => by simp [h j hj]⟩
theorem find_no {f : Nat → Bool} {m : Nat} (h : ∀ j, j < m → f j = false) : (List.range m).find? f = none := by
  rw [List.find?_eq_none]
  intro j hj
  simp [h j (List.mem_range.1 hj)]
set_option maxHeartbeats 1000000 in
theorem surePartner_any (k : Lk) (i : Nat) (w : World) (hk : k.Ok) (hi : i < k.nL) :
    Calls Try.prog 61 #[.agg k.cs.toArray, .int .i64 i] w fun e w' => e = .returned (.int .i64 (k.surTo i k.nR)) ∧ Below w.heap.size w w' := by
  have HS := Lib.hid (fun W => split_any k i W hk hi)
  have HB := Lib.hid (Box.fresh w k.cs 85)
  have hnR := hk.nR
  have HC := Lib.hid (fun W => count_any k k.all hk.m hk.r hk.nL hk.nR hk.h W)
  have h0 : k.wy k.all 0 0 k.h = k.all0 := rfl
  rw [h0] at HC
  have HSU := Lib.hid (rfl : k.surTo i k.nR = k.surTo i k.nR)
  go_enter Try.func61, Try.ntmps61
  go_wp2_with (first | (with_reducible refine wpList_stopLoad (ty := 85) rfl ?_; unfold Stop; refine wpList_loadBox row85 k.cs_len (HB.out) rfl rfl rfl ?_) | (with_reducible refine wpList_stopLoad (ty := 83) rfl ?_; unfold Stop; refine wpList_loadPart row83 (opts_len k.all) (HB.out) k.part rfl rfl rfl ?_) | (go_at_call 52; refine (HC.out _).mono ?_; rintro e w0 ⟨rfl, hb0⟩; have HB0 := Lib.hid hb0; have HBy := Lib.hid (HB.out.grow hb0); clear hb0) | (with_reducible refine wpList_stopLoad (ty := 85) rfl ?_; unfold Stop; refine wpList_loadBox row85 k.cs_len (HBy.out) rfl rfl rfl ?_) | (go_at_call 101; refine (HS.out _).mono ?_; rintro e w1 ⟨rfl, hb1⟩; have HB1 := Lib.hid (Gr.tr HB0.out hb1); have HBx := Lib.hid (HBy.out.grow hb1); have HF := Lib.hid (Box.fresh w1 zero11 153); unfold zero11 at HF; clear hb1) | ((with_reducible refine wpList_stopStore (ty := 153) rfl ?_; unfold Stop; refine wpList_storeBox row153 (wrow_len _) rfl (wrow_one _) (HF.out) rfl rfl rfl rfl ?_); have HF2 := Lib.hid (show Box ((w1.alloc (Obj.cells #[.int .i64 0, .int .i64 0, .int .i64 0, .int .i64 0, .int .i64 0, .int .i64 0, .int .i64 0, .int .i64 0, .int .i64 0, .int .i64 0, .int .i64 0] 153)).setRow w1.heap.size (wrow (k.spl i)).toArray) w1.heap.size (wrow (k.spl i)) 153 from HF.out.row (vs := wrow (k.spl i))); have HG2 := Lib.hid (show Gr w1 ((w1.alloc (Obj.cells #[.int .i64 0, .int .i64 0, .int .i64 0, .int .i64 0, .int .i64 0, .int .i64 0, .int .i64 0, .int .i64 0, .int .i64 0, .int .i64 0, .int .i64 0] 153)).setRow w1.heap.size (wrow (k.spl i)).toArray) from below_setRow (Gr.alloc w1 _) (Nat.le_refl _) _); clear HF; generalize (w1.alloc (Obj.cells #[.int .i64 0, .int .i64 0, .int .i64 0, .int .i64 0, .int .i64 0, .int .i64 0, .int .i64 0, .int .i64 0, .int .i64 0, .int .i64 0, .int .i64 0] 153)).setRow w1.heap.size (wrow (k.spl i)).toArray = w2 at *; have HB2 := Lib.hid (HBx.out.grow HG2.out); have b0 := HB2.out.cell k.c0; have b1 := HB2.out.cell k.c1; have bl := HB2.out.lt; have bw := HF2.out.lt))
  have HT := Lib.hid (show Below w.heap.size w w2 from bgr ((Below.refl _ _).alloc (by first | (simp; done) | (simp; omega) | omega) _) (by first | (simp; done) | (simp; omega) | omega) (Gr.tr HB1.out HG2.out))
  clear b0 HB HBx HB2 HB0 HBy HB1 HG2 h0
  go_loopw [19] (fun t wr => ∃ n : Nat, n ≤ k.nR ∧ t = .int .i64 n ∧ wr = w2 ∧ Hid (∀ j, j < n → (k.spl i j == k.all0) = false)) (fun t _ => (20 - intOf t).toNat)
  case atStart => exact ⟨0, Nat.zero_le _, rfl, rfl, Lib.hid fun j hj => absurd hj (by omega)⟩
  case round =>
    obtain ⟨n, hn, rfl, rfl, HN⟩ := hrel
    by_cases hlt : n < k.nR
    · have h1 : (n : Int) < 11 := by omega
      have h1' : decide ((n : Int) < 11) = true := by simp; omega
      have h1'' : decide (n < 11) = true := by simp; omega
      have zz := HF2.out.cell (wrow_at (k.spl i) (show n < 11 by omega))
      have he : ((k.spl i n : Int) == (k.all0 : Int)) = (k.spl i n == k.all0) := by rw [Bool.eq_iff_iff, beq_iff_eq, beq_iff_eq]; omega
      cases hq : k.spl i n == k.all0 with
      | true =>
        have hs : k.surTo i k.nR = n := by
          unfold Lk.surTo
          rw [find_pre (f := fun c => k.spl i c == k.all0) HN.out hq hlt]
        have HS2 := Lib.hid hs
        rw [hq] at he
        clear hs hq
        go_wp2_with fail
        go_ret
        exact ⟨by rw [HS2.out]; rfl, HT.out⟩
      | false =>
        have HQ := Lib.hid hq
        rw [hq] at he
        clear hq
        go_wp2_with fail
        refine ⟨⟨n + 1, by omega, by go_num, trivial, Lib.hid fun j hj => ?_⟩, by simp [intOf]; omega⟩
        by_cases hjn : j = n
        · rw [hjn]; exact HQ.out
        · exact HN.out j (by omega)
    · have hnn : n = k.nR := by omega
      have hs : k.surTo i k.nR = -1 := by
        unfold Lk.surTo
        rw [find_no (f := fun c => k.spl i c == k.all0) (fun j hj => HN.out j (by omega))]
      have HS2 := Lib.hid hs
      clear hs hnn
      go_wp2_with fail
      go_ret
      exact ⟨by rw [HS2.out]; rfl, HT.out⟩

end Go.Proofs.Ytjlaoiimbhlafaa
namespace Go.Proofs.Ytjlaoiimbhlafaa
open Go.RowKit Go.Shelf

open MW
def enTo (f : Nat → Nat) (n : Nat) : En := ((List.range n).map fun c => (f c : Int)).foldl En.put ⟨0, 0, false⟩
theorem enTo_succ (f : Nat → Nat) (n : Nat) : enTo f (n + 1) = (enTo f n).put (f n) := by
  unfold enTo
  rw [List.range_succ, List.map_append, List.foldl_append]
  rfl
theorem enTo_is (f : Nat → Nat) : ∀ n, 0 < n → (enTo f n).s = true ∧ (enTo f n).b = (mxl f (List.range n) : Nat)
  | 0, h => absurd h (by omega)
  | 1, _ => by
    refine ⟨rfl, ?_⟩
    show (f 0 : Int) = ((if 0 < f 0 then f 0 else 0 : Nat) : Int)
    split <;> omega
  | n + 2, _ => by
    obtain ⟨h1, h2⟩ := enTo_is f (n + 1) (by omega)
    rw [enTo_succ]
    unfold En.put
    rw [if_pos h1]
    refine ⟨rfl, ?_⟩
    dsimp only
    rw [h2, List.range_succ (n := n + 1), mxl_snoc]
    unfold mxI
    split <;> split <;> omega
def Lk.lvs (k : Lk) (i : Nat) : Nat := mxl (k.spl i) (List.range 11)
set_option maxHeartbeats 1000000 in
theorem leaves_any (k : Lk) (i : Nat) (w : World) (hk : k.Ok) (hi : i < k.nL) :
    Calls Try.prog 73 #[.agg k.cs.toArray, .int .i64 i] w fun e w' => e = .returned (.int .i64 (k.lvs i)) ∧ Below w.heap.size w w' := by
  have HS := Lib.hid (fun W => split_any k i W hk hi)
  have HB := Lib.hid ((Box.fresh w k.cs 85).grow (Gr.alloc _ (Obj.cells #[.int .i64 0, .int .i64 0, .bool false] 105)))
  have HE := Lib.hid (show Box ((w.alloc (Obj.cells k.cs.toArray 85)).alloc (Obj.cells #[.int .i64 0, .int .i64 0, .bool false] 105)) (w.heap.size + 1) (enTo (k.spl i) 0).cs 105 by
    show Box _ _ [.int .i64 0, .int .i64 0, .bool false] 105
    have := Box.fresh (w.alloc (Obj.cells k.cs.toArray 85)) [.int .i64 0, .int .i64 0, .bool false] 105
    simpa using this)
  have HTK := Lib.hid (fun (e : En) (x : Int) (b : Nat) (W : World) (T : TypeId) (he : Box W (w.heap.size + 1) e.cs 105) (hb : Box W b [.int .i64 x] T) (hne : b ≠ w.heap.size + 1) => (show Calls Try.prog 70 #[.pointer (some ⟨w.heap.size + 1, 0, none⟩), .slice (some ⟨b, 0, none⟩) 1 1] W (fun r w' => r = .returned (.tuple #[]) ∧ Box w' (w.heap.size + 1) (e.put x).cs 105 ∧ Only (w.heap.size + 1) W w') from take_any (w.heap.size + 1) b 0 1 e [x] W he hb.lt hne (by simp) (fun j hj => by
    have hj0 : j = 0 := by simpa using hj
    subst hj0
    exact hb.cell (i := 0) rfl)))
  have HLV := Lib.hid (show (enTo (k.spl i) 11).b = (k.lvs i : Nat) from (enTo_is (k.spl i) 11 (by omega)).2)
  go_enter Try.func73, Try.ntmps73
  go_wp2_with (first | (with_reducible refine wpList_stopLoad (ty := 85) rfl ?_; unfold Stop; refine wpList_loadBox row85 k.cs_len (HB.out) rfl rfl rfl ?_) | (go_at_call 101; refine (HS.out _).mono ?_; rintro e w1 ⟨rfl, hb1⟩; have HE1 := Lib.hid (HE.out.grow hb1); have HT := Lib.hid (show Below w.heap.size w w1 from bgr (((Below.refl _ _).alloc (by first | (simp; done) | (simp; omega) | omega) _).alloc (by first | (simp; done) | (simp; omega) | omega) _) (by first | (simp; done) | (simp; omega) | omega) hb1); have hs1 := HE1.out.lt; clear hb1))
  clear HE HB
  go_loopw [11] (fun t wr => ∃ n : Nat, n ≤ 11 ∧ t = .int .i64 n ∧ Hid (Box wr (w.heap.size + 1) (enTo (k.spl i) n).cs 105) ∧ Hid (Only (w.heap.size + 1) w1 wr)) (fun t _ => (20 - intOf t).toNat)
  case atStart => exact ⟨0, by omega, rfl, HE1, Lib.hid (Only.of hs1 (Gr.same _))⟩
  case round =>
    obtain ⟨n, hn, rfl, HX, HO⟩ := hrel
    by_cases hlt : n < 11
    · have hd : decide ((n : Int) < 11) = true := by simp; omega
      have hd' : decide (n < 11) = true := by simp; omega
      have hix := idx153 (k.spl i) hlt wr
      have HSU := Lib.hid (enTo_succ (k.spl i) n)
      have hl := HX.out.lt
      generalize k.spl i n = x at *
      go_wp2_with (go_at_call 70; refine (HTK.out _ x wr.heap.size _ _ (HX.out.grow (Gr.alloc _ _)) (Box.fresh wr [.int .i64 x] _) (by omega)).mono ?_; rintro e w3 ⟨rfl, hb3, ho3⟩)
      refine ⟨⟨n + 1, by omega, by go_num, Lib.hid ?_, Lib.hid ?_⟩, by simp [intOf]; omega⟩
      · rw [HSU.out]
        exact hb3
      · exact (HO.out.tr (Only.of hl (Gr.alloc _ _))).tr ho3
    · have hnn : n = 11 := by omega
      subst hnn
      have z1 : wr.cell? ⟨w.heap.size + 1, 1, none⟩ = some (.int .i64 (k.lvs i)) := by
        rw [HX.out.cell (i := 1) (x := .int .i64 (enTo (k.spl i) 11).b) rfl, HLV.out]
      have l1 := HX.out.lt
      clear hlt
      go_wp2_with fail
      go_ret
      exact ⟨rfl, HT.out.trans (Below.mono HO.out.low (by omega))⟩

end Go.Proofs.Ytjlaoiimbhlafaa
