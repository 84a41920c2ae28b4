import Derived.Test.YtjlaoiimbhlafaaP0
import Derived.Test.YtjlaoiimbhlafaaZT14
namespace Go.Proofs.Ytjlaoiimbhlafaa.Pq
open Go.RowKit


theorem pickTo_mem (l : List Sg) (m : Nat) : ∀ k s, s ∈ pickTo l m k → s ∈ l
  | 0, s, h => by simp [pickTo] at h
  | k + 1, s, h => by
    unfold pickTo at h
    split at h
    · rcases List.mem_append.1 h with h | h
      · exact pickTo_mem l m k s h
      · exact List.mem_of_getElem? (Option.mem_toList.1 h)
    · exact pickTo_mem l m k s h
theorem own_slice {w : World} {base : Nat} {e : TypeId} {size : Nat} {v : Value} {n : Nat} {xs : List Value} (h : w.ownsRow base e size v n xs) : ∃ p m c, v = .slice p m c := by
  rcases h.2 with ⟨h1, _⟩ | ⟨g, cap, cur, h1, _⟩
  · exact ⟨_, _, _, h1⟩
  · exact ⟨_, _, _, h1⟩
theorem own_succ {w : World} {base : Nat} {e : TypeId} {size : Nat} {v : Value} {n : Nat} {xs : List Value} (h : w.ownsRow base e size v (n + 1) xs) : ∃ g cap, v = .slice (some ⟨g, 0, none⟩) (n + 1) cap := by
  rcases h.2 with ⟨_, h1⟩ | ⟨g, cap, cur, h1, _⟩
  · omega
  · exact ⟨_, _, h1⟩
theorem _root_.Go.Proofs.Ytjlaoiimbhlafaa.Box.grown {w w' : World} {b : Nat} {vs : List Value} {T : TypeId} {row : Option Nat} (h : Box w b vs T) (hg : w.grownBy w' row) (hne : some b ≠ row) : Box w' b vs T := by
  have h1 := hg.block b h.lt hne
  unfold Box at *
  rw [h1]
  exact h
/-- A slice of one element. -/
def OneAt (vs : List Value) (T : TypeId) (v : Value) (w : World) : Prop := ∃ b, v = .slice (some ⟨b, 0, none⟩) 1 1 ∧ Box w b vs T
theorem OneAt.lasts (vs : List Value) (T : TypeId) : Lasts (OneAt vs T) := fun _ _ _ ⟨b, h1, h2⟩ hg => ⟨b, h1, h2.grow hg⟩
theorem OneAt.new (W : World) (vs : List Value) (T : TypeId) : OneAt vs T (.slice (some ⟨W.heap.size, 0, none⟩) 1 1) (W.alloc (.cells vs.toArray T)) := ⟨_, rfl, Box.fresh W vs T⟩
theorem ThingsAt.grown {l : List Th} {v : Value} {w w' : World} (h : ThingsAt l v w) (hg : ∀ b, b < w.heap.size → w'.heap[b]? = w.heap[b]?) : ThingsAt l v w' := by
  obtain ⟨h0, h⟩ := h
  refine ⟨h0, ?_⟩
  rcases h with h | ⟨b, o, cap, h1, h2, h3⟩
  · exact .inl h
  · refine .inr ⟨b, o, cap, h1, ?_, fun i t hi => ?_⟩
    · have := hg b h2
      rw [Array.getElem?_eq_getElem h2] at this
      exact (Array.getElem?_eq_some_iff.1 this).1
    · have h4 := h3 i t hi
      have key : ∀ {xs : List Value} {i : Nat}, CellsFrom w b i xs → CellsFrom w' b i xs := by
        intro xs
        induction xs with
        | nil => intro _ _; trivial
        | cons x xs ih => intro i h; exact ⟨by rw [World.cell?_of_block (w := w) (hg b h2)]; exact h.1, ih h.2⟩
      exact key h4
def marksTo (l : List Th) : Nat → Nat
  | 0 => 0
  | k + 1 => if (l.getD k ⟨0, 0, 0, 0, 0, 0, 0, 0, 0⟩).z = 0 then marksTo l k else marksTo l k ||| 2 ^ k
theorem marksTo_lt (l : List Th) : ∀ k, marksTo l k < 2 ^ k
  | 0 => by simp [marksTo]
  | k + 1 => by
    have h := marksTo_lt l k
    have h1 : 2 ^ k < 2 ^ (k + 1) := by rw [Nat.pow_succ]; have := Nat.two_pow_pos k; omega
    unfold marksTo
    split
    · omega
    · exact Nat.or_lt_two_pow (by omega) h1
/-- What is seen of the things. -/
def seenOf (ti ne fa : Int) (l : List Th) : List Sg := l.map (Th.see ti ne fa)
/-- The powers of all truths. -/
def allPw (fl fh bl bh ti ne fa : Int) (l : List Th) : Int × Int := ((pickTo (seenOf ti ne fa l) (marksTo l l.length) l.length).map Sg.spw).foldl ovl (fl * bl, fh * bh)
structure Bounds (fl fh bl bh ti ne fa : Int) (l : List Th) : Prop where
  fl1 : 1 ≤ fl
  fh1 : fl ≤ fh
  fh2 : fh ≤ 50000
  bl1 : 1 ≤ bl
  bh1 : bl ≤ bh
  bh2 : bh ≤ 10000
  ti0 : 0 ≤ ti
  ti1 : ti ≤ 1000
  ne0 : 2000 ≤ ne
  ne1 : ne ≤ fa
  fa1 : fa ≤ 1073741824
  len : l.length ≤ 12
  things : ∀ t ∈ l, t.ok ∧ (t.z = 0 ∨ ne ≤ t.z ∧ t.z ≤ fa)
theorem Bounds.of {fl fh bl bh ti ne fa : Int} {l : List Th} (h : valid fl fh bl bh ti ne fa l = true) : Bounds fl fh bl bh ti ne fa l := by
  unfold valid at h
  rw [Bool.and_eq_true] at h
  obtain ⟨h1, h2⟩ := h
  have h0 := fun k hk => List.all_eq_true.1 h1 k (List.mem_range.2 hk)
  have a0 := h0 0 (by omega)
  have a1 := h0 1 (by omega)
  have a2 := h0 2 (by omega)
  have a3 := h0 3 (by omega)
  have a4 := h0 4 (by omega)
  have a5 := h0 5 (by omega)
  simp [headValid, okSp] at a0 a1 a2 a3 a4 a5
  refine ⟨by omega, by omega, by omega, by omega, by omega, by omega, by omega, by omega, by omega, by omega, by omega, by omega, fun t ht => ?_⟩
  have := List.all_eq_true.1 h2 t ht
  simp [Th.valid, okSp] at this
  obtain ⟨h3, h4⟩ := this
  exact ⟨⟨⟨by omega, by omega⟩, ⟨by omega, by omega⟩, ⟨by omega, by omega⟩, ⟨by omega, by omega⟩, ⟨by omega, by omega⟩, ⟨by omega, by omega⟩, ⟨by omega, by omega⟩, ⟨by omega, by omega⟩⟩, h4⟩
theorem Bounds.see {fl fh bl bh ti ne fa : Int} {l : List Th} (h : Bounds fl fh bl bh ti ne fa l) {t : Th} (ht : t ∈ l) : (t.see ti ne fa).ok := by
  obtain ⟨⟨⟨a0, a1⟩, ⟨b0, b1⟩, -, -, ⟨e0, e1⟩, ⟨f0, f1⟩, -, -⟩, hz⟩ := h.things t ht
  have := h.ne0; have := h.ne1; have := h.fa1
  refine ⟨?_, ?_, ?_, ?_, ?_⟩
  · unfold Th.see Th.wit
    by_cases hz0 : t.z = 0
    · simp only [hz0, if_true]; exact ⟨by omega, by omega, by omega, by omega⟩
    · simp only [hz0, if_false]; exact ⟨by omega, by omega⟩
  all_goals simp only [Th.see]; omega
theorem look_no (fl fh bl bh ti ne fa : Int) (v : Value) (l : List Th) (w : World) (h : ThingsAt l v w) (hv : valid fl fh bl bh ti ne fa l = false) :
    Calls Try.prog 112 #[.agg #[.int .i64 fl, .int .i64 fh, .int .i64 bl, .int .i64 bh, .int .i64 ti, .int .i64 ne, .int .i64 fa, v]] w fun e w' => e = .panicked [{ v := .iface 29 (.int .i64 1), recovered := false }] ∧ Below w.heap.size w w' := by
  go_enter Try.func112, Try.ntmps112
  have HC := Lib.hid (fun w => check_any fl fh bl bh ti ne fa v l w)
  have HT := Lib.hid (fun (W : World) (hg : Gr w W) => ThingsAt.lasts l _ _ _ h hg)
  have HV := Lib.hid hv
  clear h hv
  go_wp2_with (go_at_call 125; refine (HC.out _ (HT.out _ ((Gr.alloc _ _).tr (Gr.alloc _ _)))).mono ?_; rw [HV.out]; rintro e w1 ⟨rfl, hb1⟩)
  exact ⟨rfl, rfl, (bgr (((Below.refl _ _).alloc (by first | (simp; done) | (simp; omega) | omega) _).alloc (by first | (simp; done) | (simp; omega) | omega) _) (by first | (simp; done) | (simp; omega) | omega) hb1)⟩
def LookPost (fl fh bl bh ti ne fa : Int) (v : Value) (ap : Int × Int) (ss : List Sg) (w : World) (e : Ending) (w' : World) : Prop := (∃ r, e = .returned r ∧ ∃ sv, r = .agg #[.int .i64 fl, .int .i64 fh, .int .i64 bl, .int .i64 bh, .int .i64 ti, .int .i64 ne, .int .i64 fa, v, sv, .int .i64 ap.1, .int .i64 ap.2] ∧ SeenAt ss sv w') ∧ Below w.heap.size w w'
set_option maxRecDepth 100000 in
set_option maxHeartbeats 2000000 in
theorem look_ok (fl fh bl bh ti ne fa : Int) (v : Value) (l : List Th) (w : World) (h : ThingsAt l v w) (hv : valid fl fh bl bh ti ne fa l = true) :
    Calls Try.prog 112 #[.agg #[.int .i64 fl, .int .i64 fh, .int .i64 bl, .int .i64 bh, .int .i64 ti, .int .i64 ne, .int .i64 fa, v]] w (LookPost fl fh bl bh ti ne fa v (allPw fl fh bl bh ti ne fa l) (seenOf ti ne fa l) w) := by
  obtain ⟨i0, ii0, iz0, iz1, iz2⟩ := info_parts Try.info74
  have II0 := Lib.hid ii0
  have IZ0 := Lib.hid iz0
  have IZ1 := Lib.hid iz1
  have IZ2 := Lib.hid iz2
  clear ii0 iz0 iz1 iz2
  have HBD := Lib.hid (Bounds.of hv)
  obtain ⟨sp, cap, rfl, hlen⟩ := h.len
  generalize hap : allPw fl fh bl bh ti ne fa l = ap
  have HAP := Lib.hid hap
  have HC := Lib.hid (fun w => check_any fl fh bl bh ti ne fa (.slice sp l.length cap) l w)
  have HTW := Lib.hid h
  have HV := Lib.hid hv
  clear h hv hap
  have hl12 : l.length ≤ 12 := HBD.out.len
  have hal := @cal
  have hfl := @fal
  go_enter Try.func112, Try.ntmps112
  go_wp2_with (go_at_call 125; refine (HC.out _ (ThingsAt.lasts l _ _ _ HTW.out ((Gr.alloc _ _).tr (Gr.alloc _ _)))).mono ?_; rw [HV.out]; rintro e w1 ⟨rfl, hb1⟩; obtain ⟨hc1, hf1, hz1⟩ := bcell hb1; have hs1 : w.heap.size < w1.heap.size := hz1 _ (by first | (simp; done) | (simp; omega)); have hs2 : w.heap.size + 1 < w1.heap.size := hz1 _ (by first | (simp; done) | (simp; omega)))
  have hG1 : Gr w w1 := ((Gr.alloc _ _).tr (Gr.alloc _ _)).tr hb1
  have B1 : Box w1 w.heap.size [.int .i64 fl, .int .i64 fh, .int .i64 bl, .int .i64 bh, .int .i64 ti, .int .i64 ne, .int .i64 fa, .slice sp l.length cap] 71 := ((Box.fresh w [.int .i64 fl, .int .i64 fh, .int .i64 bl, .int .i64 bh, .int .i64 ti, .int .i64 ne, .int .i64 fa, .slice sp l.length cap] 71).grow (Gr.alloc _ _)).grow hb1
  have B2 := (Box.fresh (w.alloc (.cells #[.int .i64 fl, .int .i64 fh, .int .i64 bl, .int .i64 bh, .int .i64 ti, .int .i64 ne, .int .i64 fa, .slice sp l.length cap] 71)) [.int .i64 0, .int .i64 0, .int .i64 0, .int .i64 0, .int .i64 0, .int .i64 0, .int .i64 0, .slice none 0 0, .slice none 0 0, .int .i64 0, .int .i64 0] 123).grow hb1
  rw [show (w.alloc (.cells #[.int .i64 fl, .int .i64 fh, .int .i64 bl, .int .i64 bh, .int .i64 ti, .int .i64 ne, .int .i64 fa, .slice sp l.length cap] 71)).heap.size = w.heap.size + 1 by simp] at B2
  have hgl : Gr w1 (w1.alloc (.cells #[.int .i64 fl, .int .i64 fh, .int .i64 bl, .int .i64 bh, .int .i64 ti, .int .i64 ne, .int .i64 fa, .slice sp l.length cap, .slice none 0 0, .int .i64 0, .int .i64 0] 123)) := Gr.alloc _ _
  have B3 := Box.fresh w1 [.int .i64 fl, .int .i64 fh, .int .i64 bl, .int .i64 bh, .int .i64 ti, .int .i64 ne, .int .i64 fa, .slice sp l.length cap, .slice none 0 0, .int .i64 0, .int .i64 0] 123
  change Box (w1.alloc (.cells #[.int .i64 fl, .int .i64 fh, .int .i64 bl, .int .i64 bh, .int .i64 ti, .int .i64 ne, .int .i64 fa, .slice sp l.length cap, .slice none 0 0, .int .i64 0, .int .i64 0] 123)) _ _ _ at B3
  have hsz : (w1.alloc (.cells #[.int .i64 fl, .int .i64 fh, .int .i64 bl, .int .i64 bh, .int .i64 ti, .int .i64 ne, .int .i64 fa, .slice sp l.length cap, .slice none 0 0, .int .i64 0, .int .i64 0] 123)).heap.size = w1.heap.size + 1 := by simp
  have HB1 := Lib.hid (B1.grow hgl)
  have HB2 := Lib.hid (B2.grow hgl)
  have HB3 := Lib.hid B3
  have HGW := Lib.hid (hG1.tr hgl)
  have HT := Lib.hid (ThingsAt.lasts l _ _ _ HTW.out (hG1.tr hgl))
  have hwb : w.heap.size + 1 < w1.heap.size := hs2
  have HSZ := Lib.hid hsz
  clear hc1 hf1 hz1 hb1 hG1 B1 B2 B3 hgl hsz hs1 hs2
  generalize w1.alloc (.cells #[.int .i64 fl, .int .i64 fh, .int .i64 bl, .int .i64 bh, .int .i64 ti, .int .i64 ne, .int .i64 fa, .slice sp l.length cap, .slice none 0 0, .int .i64 0, .int .i64 0] 123) = Wl at *
  generalize w1.heap.size = b3 at *
  go_loopw [4, 15] (fun mk i wr => ∃ k : Nat, k ≤ l.length ∧ i = .int .i64 k ∧ mk = .int .i64 (marksTo l k) ∧ Wl.grownBy wr (some b3) ∧ ∃ seenv, Box wr b3 [.int .i64 fl, .int .i64 fh, .int .i64 bl, .int .i64 bh, .int .i64 ti, .int .i64 ne, .int .i64 fa, .slice sp l.length cap, seenv, .int .i64 0, .int .i64 0] 123 ∧ wr.ownsRow (b3 + 1) 127 4 seenv (seenOf ti ne fa (l.take k)).length ((seenOf ti ne fa (l.take k)).flatMap Sg.vals)) (fun _ i _ => l.length - (intOf i).toNat)
  case atStart => exact ⟨0, Nat.zero_le _, rfl, rfl, ⟨rfl, rfl, rfl, Nat.le_refl _, fun _ _ _ => rfl⟩, _, HB3.out, World.ownsRow_nil _ _ _ _⟩
  case round =>
    obtain ⟨k, hk, rfl, rfl, hg, seenv, hB3, hown⟩ := hrel
    obtain ⟨qp, qn, qc, rfl⟩ := own_slice hown
    have HG := Lib.hid hg
    have HK3 := Lib.hid hB3
    have HOWN := Lib.hid hown
    clear hg hB3 hown
    have hszr : b3 + 1 ≤ wr.heap.size := by have := HSZ.out; have := HG.out.size; omega
    by_cases hlt : k < l.length
    · obtain ⟨t, htk⟩ : ∃ t, l[k]? = some t := ⟨l[k], List.getElem?_eq_getElem hlt⟩
      have hth := ThingsAt.grown (w' := wr) HTW.out (fun b hb => (HG.out.block b (by have := HGW.out.size; omega) (by simp; omega)).trans (HGW.out.block b hb))
      obtain ⟨-, hth⟩ := hth
      rcases hth with ⟨e, -⟩ | ⟨b, o, cap', hsp, hb, hc⟩
      · rw [e] at hlt; simp at hlt
      have X := CellsFrom.nine (hc k t htk)
      obtain ⟨hsp1, -, -⟩ : sp = some ⟨b, o, none⟩ ∧ l.length = l.length ∧ cap = cap' := by simpa using hsp
      subst hsp1
      clear hc hsp
      have hmem : t ∈ l := List.mem_of_getElem? htk
      have htl : l.take (k + 1) = l.take k ++ [t] := by rw [List.take_add_one, htk]; rfl
      have hmk : marksTo l (k + 1) = if t.z = 0 then marksTo l k else marksTo l k ||| 2 ^ k := by simp [marksTo, htk]
      have hmlt : marksTo l k < 4096 := Nat.lt_of_lt_of_le (marksTo_lt l k) (by have := Nat.pow_le_pow_right (n := 2) (by omega) (show k ≤ 12 by omega); simpa using this)
      have HTL := Lib.hid htl
      have HMK := Lib.hid hmk
      have HTOK := Lib.hid (HBD.out.things t hmem).1
      have hk12 : k < 12 := by omega
      have hsl : (seenOf ti ne fa (l.take k)).length ≤ 12 := by simp [seenOf]; omega
      clear htk hmem htl hmk
      have C3 := HK3.out.facts
      simp only [CellsFrom, Nat.zero_add, Nat.reduceAdd, and_true] at C3
      obtain ⟨C3, l3⟩ := C3
      have F3 := HK3.out.free
      generalize marksTo l k = m at *
      go_wp2_with fail
      have hbt : Box (wr.alloc (Obj.cells #[.int .i64 t.a, .int .i64 t.b, .int .i64 t.c, .int .i64 t.d, .int .i64 t.e, .int .i64 t.f, .int .i64 t.g, .int .i64 t.h, .int .i64 t.z] 76)) wr.heap.size t.vals 76 := Box.fresh wr t.vals 76
      have hg6 : Gr wr (wr.alloc (Obj.cells #[.int .i64 t.a, .int .i64 t.b, .int .i64 t.c, .int .i64 t.d, .int .i64 t.e, .int .i64 t.f, .int .i64 t.g, .int .i64 t.h, .int .i64 t.z] 76)) := Gr.alloc _ _
      have hrow : ∀ q, (Value.slice qp qn qc).ownBlock = some q → b3 + 1 ≤ q ∧ q < wr.heap.size := fun q hq => HOWN.out.lt q hq
      have HROW := Lib.hid hrow
      clear X C3 l3 F3 hrow
      have HG6 := Lib.hid hg6
      have HBT := Lib.hid hbt
      clear hg6 hbt
      have hbt0 : b3 + 1 ≤ wr.heap.size := hszr
      have HSR := Lib.hid (show wr.heap.size < (wr.alloc (Obj.cells #[.int .i64 t.a, .int .i64 t.b, .int .i64 t.c, .int .i64 t.d, .int .i64 t.e, .int .i64 t.f, .int .i64 t.g, .int .i64 t.h, .int .i64 t.z] 76)).heap.size from by simp)
      generalize wr.alloc (Obj.cells #[.int .i64 t.a, .int .i64 t.b, .int .i64 t.c, .int .i64 t.d, .int .i64 t.e, .int .i64 t.f, .int .i64 t.g, .int .i64 t.h, .int .i64 t.z] 76) = W6 at *
      have C3 := (HK3.out.grow HG6.out).facts
      simp only [CellsFrom, Nat.zero_add, Nat.reduceAdd, and_true] at C3
      have CT := HBT.out.facts
      simp only [Th.vals, CellsFrom, Nat.zero_add, Nat.reduceAdd, and_true] at CT
      generalize hbtn : wr.heap.size = bt at *
      have HBTN := Lib.hid hbtn
      clear hbtn
      generalize hss : t.see ti ne fa = ss at *
      have HSS := Lib.hid (fun W => see_any fl fh bl bh ti ne fa (.slice (some ⟨b, o, none⟩) l.length cap) (.slice qp qn qc) 0 0 t W HTOK.out)
      rw [hss] at HSS
      have HSE := Lib.hid hss
      clear hss
      obtain ⟨wit, slo, shi, ssl⟩ := ss
      obtain ⟨wt, wx, hwv⟩ := wit.iface
      have hsv : Sg.val ⟨wit, slo, shi, ssl⟩ = .agg #[.iface wt wx, .int .i64 slo, .int .i64 shi, .bool ssl] := by simp [Sg.val, hwv]
      have hsvs : Sg.vals ⟨wit, slo, shi, ssl⟩ = [.iface wt wx, .int .i64 slo, .int .i64 shi, .bool ssl] := by simp [Sg.vals, hwv]
      rw [hsv] at HSS
      have HSVS := Lib.hid hsvs
      clear hsv hsvs hwv
      refine region2 6 ?_ ?_ ?_
      · kernel_rfl
      · kernel_rfl
      simp only [List.take_succ_cons, List.take_zero, List.drop_succ_cons, List.drop_zero]
      apply chain_eq (D := [(3, none)]) rfl (by kernel_rfl)
      · intro ρ W ⟨p1, p2, p3⟩ hG hF K hK; (try simp [FactsD] at hF); have ⟨hc, hf, hz⟩ := bcell (Gr.tr (Gr.drew _) hG); go_simp; exact hK _ (gives_val)
      apply chain_eq (D := [(20, some 0)]) rfl (by kernel_rfl)
      · intro ρ W ⟨p1, p2, p3⟩ hG hF K hK; (try simp [FactsD] at hF); have ⟨hc, hf, hz⟩ := bcell (Gr.tr (Gr.drew _) hG); go_simp; exact hK _ (gives_val)
      apply chain_eq (D := [(3, none)]) rfl (by kernel_rfl)
      · intro ρ W ⟨p1, p2, p3⟩ hG hF K hK; (try simp [FactsD] at hF); have ⟨hc, hf, hz⟩ := bcell (Gr.tr (Gr.drew _) hG); go_simp; exact hK _ (gives_val)
      apply chain_eq (D := [(6, none)]) rfl (by kernel_rfl)
      · intro ρ W ⟨p1, p2, p3⟩ hG hF K hK; (try simp [FactsD] at hF); have ⟨hc, hf, hz⟩ := bcell (Gr.tr (Gr.drew _) hG); go_simp; exact hK _ (gives_val)
      apply chain_eq (D := [(22, some 1), (23, some 0)]) rfl (by kernel_rfl)
      · intro ρ W ⟨p1, p2, p3⟩ hG hF K hK; (try simp [FactsD] at hF); have ⟨hc, hf, hz⟩ := bcell (Gr.tr (Gr.drew _) hG); go_simp; exact hK _ (gives_call (HSS.out _))
      refine chain_any (V := OneAt [.iface wt wx, .int .i64 slo, .int .i64 shi, .bool ssl] 127) (D := [(24, some 0)]) rfl (by kernel_rfl) (OneAt.lasts _ _) ?_ ?_
      · intro ρ W ⟨p1, p2, p3⟩ hG hF K hK; (try simp [FactsD] at hF); have ⟨hc, hf, hz⟩ := bcell (Gr.tr (Gr.drew _) hG); go_simp; exact hK _ (⟨OneAt.new _ _ _, Gr.alloc _ _⟩)
      refine chain_done ?_
      intro vs W hG hV
      obtain ⟨e5, -, -, -, e1, -⟩ := hV
      simp only [Nat.reduceSub] at e1
      simp only [Nat.reduceSub] at e5
      simp only [lay, Act.put, List.getElem?_toArray, List.getElem?_cons_succ, List.getElem?_cons_zero, Option.bind_some, List.setIfInBounds_toArray, List.set_cons_succ, List.set_cons_zero]
      generalize vs 0 = v0
      generalize vs 1 = v1 at *
      generalize vs 2 = v2
      generalize vs 3 = v3
      generalize vs 4 = v4
      generalize vs 5 = v5 at *
      subst e1
      obtain ⟨hc, hf, hz⟩ := bcell hG
      obtain ⟨bn, rfl, hbn⟩ := e5
      have HBNN := Lib.hid hbn
      have hownW := Lib.hid (own_gr (own_gr HOWN.out HG6.out) hG)
      have hGW := Lib.hid hG
      clear hc hf hz hG hbn C3 CT
      go_wp2_with (at_builtin; refine wpList_append_own _ rfl _ _ 121 rfl (b3 + 1) 127 i0 _ 4 40 Try.underlying121 II0.out IZ0.out IZ1.out IZ2.out rfl (by decide) _ _ _ rfl hownW.out ⟨bn, 0, none⟩ 1 1 [.iface wt wx, .int .i64 slo, .int .i64 shi, .bool ssl] rfl rfl ?c1 ?c2 ?c3 ?c4 ?c5 ?_)
      case c1 => exact World.news_of_block (cs := #[.iface wt wx, .int .i64 slo, .int .i64 shi, .bool ssl]) (t := 127) (fr := (0, 0)) HBNN.out
      case c2 => simp [Value.oneCell']
      case c3 => unfold maxLen; omega
      case c4 => omega
      case c5 => have := hGW.out.size; have := HSR.out; omega
      intro v' w3 hown3 hgrow3 _
      obtain ⟨g', cap', rfl⟩ := own_succ hown3
      have hn3 : some b3 ≠ (Value.slice qp qn qc).ownBlock := fun h => by have := (HROW.out b3 h.symm).1; omega
      have hnt : some bt ≠ (Value.slice qp qn qc).ownBlock := fun h => by have := (HROW.out bt h.symm).2; omega
      have hB3w := ((HK3.out.grow HG6.out).grow hGW.out).grown hgrow3 hn3
      have hBTw := (HBT.out.grow hGW.out).grown hgrow3 hnt
      have hsW : b3 + 1 ≤ w3.heap.size := by have := hgrow3.size; have := hGW.out.size; have := HSR.out; omega
      have hgf : Wl.grownBy (w3.setCell ⟨b3, 8, none⟩ (.slice (some ⟨g', 0, none⟩) ((seenOf ti ne fa (l.take k)).length + 1) cap')) (some b3) := by
        refine ⟨hgrow3.os.trans (hGW.out.os.trans (HG6.out.os.trans HG.out.os)), hgrow3.tape.trans (hGW.out.tape.trans (HG6.out.tape.trans HG.out.tape)), hgrow3.output.trans (hGW.out.output.trans (HG6.out.output.trans HG.out.output)), ?_, fun q hq hne => ?_⟩
        · have := HSZ.out; simp; omega
        · have hqb : q ≠ b3 := fun e => hne (by rw [e])
          have hq1 : q < b3 + 1 := by have := HSZ.out; omega
          have hq2 : some q ≠ (Value.slice qp qn qc).ownBlock := fun h => by have := (HROW.out q h.symm).1; omega
          rw [Below.heap_setCell _ _ _ _ (by simpa using hqb)]
          exact (hgrow3.block q (by have := hGW.out.size; have := HSR.out; omega) hq2).trans ((hGW.out.block q (by have := HSR.out; omega)).trans ((HG6.out.block q (by have := HBTN.out; omega)).trans (HG.out.block q hq hne)))
      have hbf := hB3w.put 8 (.slice (some ⟨g', 0, none⟩) ((seenOf ti ne fa (l.take k)).length + 1) cap')
      have hof := ownsRow_setCell_below hown3 (a := ⟨b3, 8, none⟩) (by simp) (.slice (some ⟨g', 0, none⟩) ((seenOf ti ne fa (l.take k)).length + 1) cap')
      have hnext : (seenOf ti ne fa (l.take (k + 1))).length = (seenOf ti ne fa (l.take k)).length + 1 ∧ (seenOf ti ne fa (l.take (k + 1))).flatMap Sg.vals = (seenOf ti ne fa (l.take k)).flatMap Sg.vals ++ [.iface wt wx, .int .i64 slo, .int .i64 shi, .bool ssl] := by
        rw [HTL.out]
        simp only [seenOf, List.map_append, List.map_cons, List.map_nil, List.length_append, List.length_cons, List.length_nil, List.flatMap_append, List.flatMap_cons, List.flatMap_nil, List.append_nil, HSE.out, HSVS.out]
        exact ⟨trivial, trivial⟩
      have HGF := Lib.hid hgf
      have HBF := Lib.hid hbf
      have HOF := Lib.hid hof
      have HNX := Lib.hid hnext
      have x8 := hB3w.cell (i := 8) rfl
      have f8 := hB3w.free 8
      have z8 := hBTw.cell (i := 8) rfl
      have n1 : b3 ≠ bt := by omega
      have n2 : bt ≠ b3 := by omega
      clear hgf hbf hof hnext hB3w hBTw hn3 hnt hown3 hgrow3
      by_cases hz : t.z = 0
      · have z1 : (t.z != 0) = false := by simpa using hz
        have hmk : marksTo l (k + 1) = m := by rw [HMK.out, if_pos hz]
        have HM := Lib.hid hmk
        clear hz hmk
        go_wp2
        refine ⟨⟨k + 1, by omega, by go_num, by rw [HM.out], HGF.out, _, HBF.out, ?_⟩, by simp [intOf]; omega⟩
        rw [HNX.out.1, HNX.out.2]; exact HOF.out
      · have z1 : (t.z != 0) = true := by simpa using hz
        have hmk : marksTo l (k + 1) = m ||| 2 ^ k := by rw [HMK.out, if_neg hz]
        have HM := Lib.hid hmk
        clear hz hmk
        go_wp2_with (go_at_call 127; refine (with_any m k _ hk12 hmlt).mono ?_; rintro e w5 ⟨rfl, hb5⟩)
        refine ⟨⟨k + 1, by omega, by go_num, by rw [HM.out], ⟨hb5.os.trans HGF.out.os, hb5.tape.trans HGF.out.tape, hb5.output.trans HGF.out.output, Nat.le_trans HGF.out.size hb5.size, fun q hq hne => (hb5.block q (by have := HGF.out.size; omega)).trans (HGF.out.block q hq hne)⟩, _, HBF.out.grow hb5, ?_⟩, by simp [intOf]; omega⟩
        rw [HNX.out.1, HNX.out.2]; exact own_gr HOF.out hb5
    · have hkl : k = l.length := by omega
      subst hkl
      have hown := HOWN.out
      rw [List.take_length] at hown
      have hsl : (seenOf ti ne fa l).length = l.length := by simp [seenOf]
      have hsok : ∀ s ∈ seenOf ti ne fa l, s.ok := fun s hs => by
        obtain ⟨t, ht, rfl⟩ := List.mem_map.1 hs
        exact HBD.out.see ht
      have hmlt : marksTo l l.length < 4096 := Nat.lt_of_lt_of_le (marksTo_lt l l.length) (by have := Nat.pow_le_pow_right (n := 2) (by omega) (show l.length ≤ 12 by omega); simpa using this)
      have hap := HAP.out
      unfold allPw at hap
      obtain ⟨m0, m1⟩ := mulb (a := bl) (b := fl) (by have := HBD.out.bl1; omega) (by have := HBD.out.bh1; have := HBD.out.bh2; omega) (by have := HBD.out.fl1; omega) (by have := HBD.out.fh1; have := HBD.out.fh2; omega)
      obtain ⟨m2, m3⟩ := mulb (a := bh) (b := fh) (by have := HBD.out.bl1; have := HBD.out.bh1; omega) (by have := HBD.out.bh2; omega) (by have := HBD.out.fl1; have := HBD.out.fh1; omega) (by have := HBD.out.fh2; omega)
      rw [Int.mul_comm] at m0 m1 m2 m3
      have hpick : ∀ W, Gr wr W → Calls Try.prog 130 #[.agg #[.int .i64 fl, .int .i64 fh, .int .i64 bl, .int .i64 bh, .int .i64 ti, .int .i64 ne, .int .i64 fa, .slice sp l.length cap, .slice qp qn qc, .int .i64 0, .int .i64 0], .func (.func 131) #[.int .i64 (marksTo l l.length)] #[]] W fun e W' => (∃ v, e = .returned v ∧ SeenAt (pickTo (seenOf ti ne fa l) (marksTo l l.length) l.length) v W') ∧ Below W.heap.size W W' := fun W hg => by
        have := pick_any fl fh bl bh ti ne fa (.slice sp l.length cap) (.slice qp qn qc) 0 0 (seenOf ti ne fa l) (marksTo l l.length) W (SeenAt.lasts _ _ _ _ (SeenAt.own hown (by omega)) hg) (by omega) hmlt
        rwa [hsl] at this
      have hnar : ∀ v W, SeenAt (pickTo (seenOf ti ne fa l) (marksTo l l.length) l.length) v W → Calls Try.prog 129 #[.agg #[.int .i64 (fl * bl), .int .i64 (fh * bh)], v, .func (.func 132) #[] #[]] W fun e W' => e = .returned (.agg #[.int .i64 ap.1, .int .i64 ap.2]) ∧ Below W.heap.size W W' := fun v W h => by
        rw [← hap]
        exact narrow_any (fl * bl) (fh * bh) v _ W h (by have := pickTo_len (seenOf ti ne fa l) (marksTo l l.length) l.length; omega) (fun s hs => hsok s (pickTo_mem _ _ _ s hs))
      have HPICK := Lib.hid hpick
      have HNAR := Lib.hid hnar
      have HO := Lib.hid hown
      have HSL := Lib.hid hsl
      generalize pickTo (seenOf ti ne fa l) (marksTo l l.length) l.length = pk at *
      clear hpick hnar hown hap hsok hmlt hsl
      generalize marksTo l l.length = m at *
      have hw3 : w.heap.size ≠ b3 := by omega
      have B1 := HB1.out.grown HG.out (by simp; omega)
      have B2 := HB2.out.grown HG.out (by simp; omega)
      have C1 := B1.facts
      simp only [CellsFrom, Nat.zero_add, Nat.reduceAdd, and_true] at C1
      have HB2r := Lib.hid B2
      have hBW := Lib.hid (Go.RowKit.Below.grown (show Below w.heap.size w Wl from HGW.out) HG.out (by have := HGW.out.size; exact this) (fun q e => by cases e; omega))
      have hmf : ∀ (fn : Fn) (first cap : Array Value) (w : World), (Instr.makeFunc fn first cap).run Try.prog w = .ok (.func fn first cap) w := fun _ _ _ _ => rfl
      clear B1 B2
      go_wp2_with (go_at_call 128; refine (span_any _ _ _).mono ?_; rintro e w1 ⟨rfl, hb1⟩; obtain ⟨hc1, hf1, hz1⟩ := bcell hb1)
      have hg7 : Gr wr (w1.alloc (Obj.cells #[.int .i64 (fl * bl), .int .i64 (fh * bh)] 24)) := Gr.tr hb1 (Gr.alloc _ _)
      have B7 := Box.fresh w1 [.int .i64 (fl * bl), .int .i64 (fh * bh)] 24
      change Box (w1.alloc (Obj.cells #[.int .i64 (fl * bl), .int .i64 (fh * bh)] 24)) w1.heap.size _ 24 at B7
      have HB7 := Lib.hid B7
      have HG7 := Lib.hid hg7
      clear hc1 hf1 hz1 hb1 C1 hg7 B7 m0 m1 m2 m3
      generalize w1.alloc (Obj.cells #[.int .i64 (fl * bl), .int .i64 (fh * bh)] 24) = W7 at *
      generalize w1.heap.size = b7 at *
      have C7 := HB7.out.facts
      simp only [CellsFrom, Nat.zero_add, and_true] at C7
      have C3 := (HK3.out.grow HG7.out).facts
      simp only [CellsFrom, Nat.zero_add, Nat.reduceAdd, and_true] at C3
      refine region2 7 ?_ ?_ ?_
      · kernel_rfl
      · kernel_rfl
      simp only [List.take_succ_cons, List.take_zero, List.drop_succ_cons, List.drop_zero]
      apply chain_eq (D := [(7, none)]) rfl (by kernel_rfl)
      · intro ρ W ⟨p1, p2, p3⟩ hG hF K hK; (try simp [FactsD] at hF); have ⟨hc, hf, hz⟩ := bcell (Gr.tr (Gr.drew _) hG); go_simp; exact hK _ (gives_val)
      apply chain_eq (D := [(3, none)]) rfl (by kernel_rfl)
      · intro ρ W ⟨p1, p2, p3⟩ hG hF K hK; (try simp [FactsD] at hF); have ⟨hc, hf, hz⟩ := bcell (Gr.tr (Gr.drew _) hG); go_simp; exact hK _ (gives_val)
      apply chain_eq (D := [(4, none)]) rfl (by kernel_rfl)
      · intro ρ W ⟨p1, p2, p3⟩ hG hF K hK; (try simp [FactsD] at hF); have ⟨hc, hf, hz⟩ := bcell (Gr.tr (Gr.drew _) hG); go_simp; exact hK _ (gives_val)
      apply chain_eq (D := [(52, some 0)]) rfl (by kernel_rfl)
      · intro ρ W ⟨p1, p2, p3⟩ hG hF K hK; (try simp [FactsD] at hF); have ⟨hc, hf, hz⟩ := bcell (Gr.tr (Gr.drew _) hG); go_simp; exact hK _ (gives_val)
      refine chain_any (V := SeenAt pk) (D := [(51, some 2), (53, some 0)]) rfl (by kernel_rfl) (SeenAt.lasts _) ?_ ?_
      · intro ρ W ⟨p1, p2, p3⟩ hG hF K hK; (try simp [FactsD] at hF); have ⟨hc, hf, hz⟩ := bcell (Gr.tr (Gr.drew _) hG); go_simp; exact hK _ (gives_rel (HPICK.out _ (HG7.out.tr ((Gr.drew _).tr hG))))
      apply chain_eq (D := [(50, some 4), (54, some 0)]) rfl (by kernel_rfl)
      · intro ρ W ⟨p1, p2, p3⟩ hG hF K hK; (try simp [FactsD] at hF); have ⟨hc, hf, hz⟩ := bcell (Gr.tr (Gr.drew _) hG); obtain ⟨hF1, hF2⟩ := hF; go_simp; exact hK _ (gives_call (HNAR.out _ _ hF2))
      apply chain_eq (D := [(3, none)]) rfl (by kernel_rfl)
      · intro ρ W ⟨p1, p2, p3⟩ hG hF K hK; (try simp [FactsD] at hF); have ⟨hc, hf, hz⟩ := bcell (Gr.tr (Gr.drew _) hG); go_simp; exact hK _ (gives_val)
      refine chain_done ?_
      intro vs W hG hV
      obtain ⟨e6, e5, -⟩ := hV
      simp only [Nat.reduceSub] at e5
      simp only [Nat.reduceSub] at e6
      simp only [lay, Act.put, List.getElem?_toArray, List.getElem?_cons_succ, List.getElem?_cons_zero, Option.bind_some, List.setIfInBounds_toArray, List.set_cons_succ, List.set_cons_zero]
      generalize vs 0 = v0
      generalize vs 1 = v1
      generalize vs 2 = v2
      generalize vs 3 = v3
      generalize vs 4 = v4
      generalize vs 5 = v5 at *
      generalize vs 6 = v6 at *
      subst e5
      subst e6
      obtain ⟨hc, hf, hz⟩ := bcell hG
      clear hc hf hz C7 C3
      have hGr := HG7.out.tr hG
      have B3 := HK3.out.grow hGr
      have B2 := HB2r.out.grow hGr
      have C3 := B3.facts
      simp only [CellsFrom, Nat.zero_add, Nat.reduceAdd, and_true] at C3
      have C2 := B2.facts
      simp only [CellsFrom, Nat.zero_add, Nat.reduceAdd, and_true] at C2
      have F3 : ∀ i, W.frozen? ⟨b3, i, none⟩ = false := B3.free
      have F2 : ∀ i, W.frozen? ⟨w.heap.size + 1, i, none⟩ = false := B2.free
      have hBe := Lib.hid (bgr hBW.out hBW.out.size hGr)
      have hOe := Lib.hid (own_gr HO.out hGr)
      have q1 : w.heap.size + 1 ≠ b3 := by omega
      have q2 : b3 ≠ w.heap.size + 1 := by omega
      clear hGr B3 B2 hG
      go_wp2
      refine bodyPost_ret (v := .agg #[.int .i64 fl, .int .i64 fh, .int .i64 bl, .int .i64 bh, .int .i64 ti, .int .i64 ne, .int .i64 fa, .slice sp l.length cap, .slice qp qn qc, .int .i64 ap.1, .int .i64 ap.2]) (by simp [results, Try.results112, go_sem, *]) rfl ?_
      refine ⟨⟨_, rfl, _, rfl, ?_⟩, ?_⟩
      · refine SeenAt.own (base := b3 + 1) ?_ (by have := HSL.out; omega)
        repeat (refine ownsRow_setCell_below ?_ (by first | (simp; done) | (simp; omega)) _)
        exact hOe.out
      · exact (((((((((((((hBe.out.setCell (by first | (simp; done) | (simp; omega) | omega) _).setCell (by first | (simp; done) | (simp; omega) | omega) _).setCell (by first | (simp; done) | (simp; omega) | omega) _).setCell (by first | (simp; done) | (simp; omega) | omega) _).setCell (by first | (simp; done) | (simp; omega) | omega) _).setCell (by first | (simp; done) | (simp; omega) | omega) _).setCell (by first | (simp; done) | (simp; omega) | omega) _).setCell (by first | (simp; done) | (simp; omega) | omega) _).setCell (by first | (simp; done) | (simp; omega) | omega) _).setCell (by first | (simp; done) | (simp; omega) | omega) _).setCell (by first | (simp; done) | (simp; omega) | omega) _).setCell (by first | (simp; done) | (simp; omega) | omega) _).setCell (by first | (simp; done) | (simp; omega) | omega) _)
end Go.Proofs.Ytjlaoiimbhlafaa.Pq
