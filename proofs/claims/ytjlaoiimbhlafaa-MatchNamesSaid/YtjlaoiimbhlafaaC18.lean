import Derived.Test.YtjlaoiimbhlafaaC17
import Derived.BigRegion
set_option linter.unusedVariables false
set_option linter.unusedSimpArgs false
namespace Go.Proofs.Ytjlaoiimbhlafaa
open Go.RowKit Go.Shelf

open MW
/-- A slice value reads as this list of numbers. -/
def IntsAt (l : List Int) (v : Value) (w : World) : Prop :=
  ∃ b o cap, v = .slice (some ⟨b, o, none⟩) l.length cap ∧ b < w.heap.size ∧ l.length ≤ 1000 ∧
    ∀ i, i < l.length → w.cell? ⟨b, o + i, none⟩ = some (.int .i64 (l.getD i 0))
theorem IntsAt.lasts (l : List Int) : Lasts (IntsAt l) := fun v W W' ⟨b, o, cap, h1, h2, h3, h4⟩ hG =>
  ⟨b, o, cap, h1, (bcell hG).2.2 _ h2, h3, fun i hi => by rw [(bcell hG).1 _ _ h2]; exact h4 i hi⟩
theorem IntsAt.new (l : List Int) (W : World) (T : TypeId) (hl : l.length ≤ 1000) : IntsAt l (.slice (some ⟨W.heap.size, 0, none⟩) l.length l.length) (W.alloc (.cells (l.map (Value.int .i64)).toArray T)) :=
  ⟨W.heap.size, 0, l.length, rfl, by simp, hl, fun i hi => by
    have := (Box.fresh W (l.map (Value.int .i64)) T).cell (i := i) (x := .int .i64 (l.getD i 0)) (by simp [hi])
    simpa using this⟩
/-- What keeps the least and the greatest of numbers. -/
structure En where
  a : Int
  b : Int
  s : Bool
def En.cs (e : En) : List Value := [.int .i64 e.a, .int .i64 e.b, .bool e.s]
def En.put (e : En) (x : Int) : En := if e.s then ⟨mnI e.a x, mxI e.b x, true⟩ else ⟨x, x, true⟩
theorem En.put_snoc (e : En) (l : List Int) (n : Nat) (h : n < l.length) : (l.take (n + 1)).foldl En.put e = ((l.take n).foldl En.put e).put (l.getD n 0) := by
  rw [List.take_succ_eq_append_getElem h, List.foldl_append]
  simp [h]
theorem cells3 {W : World} {b : Nat} {x y z : Value} {T : TypeId} (h : Box W b [x, y, z] T) : W.cell? ⟨b, 0, none⟩ = some x ∧ W.cell? ⟨b, 1, none⟩ = some y ∧ W.cell? ⟨b, 2, none⟩ = some z := ⟨h.cell (i := 0) rfl, h.cell (i := 1) rfl, h.cell (i := 2) rfl⟩
theorem mnI_self (x : Int) : mnI x x = x := by unfold mnI; simp
theorem mxI_self (x : Int) : mxI x x = x := by unfold mxI; simp
set_option maxHeartbeats 4000000 in
theorem take_any (be b o cap : Nat) (e : En) (l : List Int) (w : World) (he : Box w be e.cs 105) (hb : b < w.heap.size) (hne : b ≠ be) (hlen : l.length ≤ 1000) (hc : ∀ i, i < l.length → w.cell? ⟨b, o + i, none⟩ = some (.int .i64 (l.getD i 0))) :
    Calls Try.prog 70 #[.pointer (some ⟨be, 0, none⟩), .slice (some ⟨b, o, none⟩) l.length cap] w fun r w' => r = .returned (.tuple #[]) ∧ Box w' be (l.foldl En.put e).cs 105 ∧ Only be w w' := by
  have HE := Lib.hid he
  have HC := Lib.hid hc
  have hbe := he.lt
  have hmn : ∀ (x y : Int), (if y < x then y else x) = mnI x y := fun _ _ => rfl
  have hmx : ∀ (x y : Int), (if x < y then y else x) = mxI x y := fun _ _ => rfl
  clear he hc
  go_enter Try.func70, Try.ntmps70
  go_wp2
  go_loopw [8] (fun i wr => ∃ n : Nat, n ≤ l.length ∧ i = .int .i64 n ∧ Hid (Box wr be ((l.take n).foldl En.put e).cs 105) ∧ Hid (Only be w wr)) (fun i _ => l.length - (intOf i).toNat)
  case atStart => exact ⟨0, Nat.zero_le _, rfl, Lib.hid HE.out, Lib.hid (Only.of hbe (Gr.same _))⟩
  case round =>
    obtain ⟨n, hn, rfl, HX, HO⟩ := hrel
    by_cases hlt : n < l.length
    · have hz : wr.cell? ⟨b, o + n, none⟩ = some (.int .i64 (l.getD n 0)) := (World.cell?_of_block (HO.out.keep b hne hb)).trans (HC.out n hlt)
      have hbr : b < wr.heap.size := Nat.lt_of_lt_of_le hb HO.out.size
      have HS := Lib.hid (En.put_snoc e l n hlt)
      have hbl := HX.out.lt
      generalize (l.take n).foldl En.put e = c at *
      generalize l.getD n 0 = x at *
      obtain ⟨ca, cb, cs⟩ := c
      unfold En.cs at HX
      dsimp only at HX
      obtain ⟨z0, z1, z2⟩ := cells3 HX.out
      cases cs
      · have HS' := Lib.hid (show (l.take (n + 1)).foldl En.put e = ⟨x, x, true⟩ by rw [HS.out]; rfl)
        have fr0 := HX.out.free (i := 0)
        have fr1 := HX.out.free (i := 1)
        have fr2 := HX.out.free (i := 2)
        go_wp2_with fail
        have HX' := Lib.hid (((HX.out.put 0 (.int .i64 x)).put 1 (.int .i64 x)).put 2 (.bool true))
        have HO' := Lib.hid (((HO.out.tr (Only.set _ 0 (.int .i64 x))).tr (Only.set _ 1 (.int .i64 x))).tr (Only.set _ 2 (.bool true)))
        simp only [List.set_cons_zero, List.set_cons_succ] at HX'
        clear HX HO z0 z1 z2 fr0 fr1 fr2 hz
        generalize ((wr.setCell ⟨be, 0, none⟩ (.int .i64 x)).setCell ⟨be, 1, none⟩ (.int .i64 x)).setCell ⟨be, 2, none⟩ (.bool true) = wq at *
        have HX := HX'
        have HO := HO'
        clear HX' HO'
        have hsf1 := mnI_self x
        have hsf2 := mxI_self x
        obtain ⟨zz0, zz1, zz2⟩ := cells3 HX.out
        have ff0 := HX.out.free (i := 0)
        have ff1 := HX.out.free (i := 1)
        have ll := HX.out.lt
        go_region
        go_wp2_with fail
        refine ⟨⟨n + 1, by omega, by go_num, Lib.hid ?_, Lib.hid ?_⟩, by simp [intOf]; omega⟩
        · rw [HS'.out]
          exact ((HX.out.grow (Gr.drew _)).put 0 _).put 1 _
        · exact ((HO.out.tr (Only.of HX.out.lt (Gr.drew _))).tr (Only.set _ _ _)).tr (Only.set _ _ _)
      · have HS' := Lib.hid (show (l.take (n + 1)).foldl En.put e = ⟨mnI ca x, mxI cb x, true⟩ by rw [HS.out]; rfl)
        go_wp2_with fail
        clear z0 z1 z2 hz
        obtain ⟨zz0, zz1, zz2⟩ := cells3 HX.out
        have ff0 := HX.out.free (i := 0)
        have ff1 := HX.out.free (i := 1)
        have ll := HX.out.lt
        go_region
        go_wp2_with fail
        refine ⟨⟨n + 1, by omega, by go_num, Lib.hid ?_, Lib.hid ?_⟩, by simp [intOf]; omega⟩
        · rw [HS'.out]
          exact ((HX.out.grow (Gr.drew _)).put 0 _).put 1 _
        · exact ((HO.out.tr (Only.of HX.out.lt (Gr.drew _))).tr (Only.set _ _ _)).tr (Only.set _ _ _)
    · have hnl : n = l.length := by omega
      subst hnl
      rw [List.take_length] at HX
      have HX5 := HX
      clear HX
      go_wp2_with fail
      go_end0
      exact ⟨rfl, HX5.out, HO.out⟩

end Go.Proofs.Ytjlaoiimbhlafaa
