import Derived.Test.YtofdoadpaedogaaA1
import Derived.Test.YtofdoadpaedogaaL0
import Derived.Test.YtofdoadpaedogaaFd
import Derived.Deep.CutBlock
import Derived.Deep.DeepCutAuto
import Derived.Test.YtofdoadpaedogaaT34
import Derived.Test.YtofdoadpaedogaaM1
namespace Go.Proofs.Ytofdoadpaedogaa
open Go.RowKit

def Code.snd2 : Code → Code
  | .seq _ b => b
  | c => c
set_option maxHeartbeats 1600000 in
/-- Is a number in a span? -/
theorem linside_any (a b n : Int) (r : Bool) (hr : (decide (a ≤ n) && decide (n ≤ b)) = r) (w : World) :
    Calls Try.prog 30 #[.agg #[.int .i64 a, .int .i64 b], .int .i64 n] w fun e w' => e = .returned (.bool r) ∧ Below w.heap.size w w' := by
  have hal := @cal
  subst hr
  cases h1 : decide (a ≤ n) with
  | true =>
    go_enter Try.func30, Try.ntmps30
    go_wp2_with fail
    go_ret
    exact ⟨rfl, ((Below.refl _ _).alloc (by first | (simp; done) | (simp; omega) | omega) _)⟩
  | false =>
    go_enter Try.func30, Try.ntmps30
    go_wp2_with fail
    go_ret
    exact ⟨rfl, ((Below.refl _ _).alloc (by first | (simp; done) | (simp; omega) | omega) _)⟩
theorem bit_one_all : (List.range 4096).all (fun d => (bits BinOp.and IntKind.i64 ((d : Nat) : Int) 1 == 1) == decide (d % 2 = 1)) = true := by decide +kernel
theorem bit_one (m k : Nat) (h : m < 4096) : (bits BinOp.and IntKind.i64 ((m : Int) / 2 ^ k) 1 == 1) = m.testBit k := by
  have e : (m : Int) / 2 ^ k = ((m / 2 ^ k : Nat) : Int) := by simp
  have hd : m / 2 ^ k < 4096 := Nat.lt_of_le_of_lt (Nat.div_le_self _ _) h
  rw [Nat.testBit_eq_decide_div_mod_eq, e]
  generalize m / 2 ^ k = d at *
  exact eq_of_beq (List.all_eq_true.1 bit_one_all d (List.mem_range.2 hd))
theorem bit_zero_all : (List.range 4096).all (fun d => (bits BinOp.and IntKind.i64 ((d : Nat) : Int) 1 == 0) == decide (d % 2 = 0)) = true := by decide +kernel
theorem bit_zero (m k : Nat) (h : m < 4096) : (bits BinOp.and IntKind.i64 ((m : Int) / 2 ^ k) 1 == 0) = !m.testBit k := by
  have e : (m : Int) / 2 ^ k = ((m / 2 ^ k : Nat) : Int) := by simp
  have hd : m / 2 ^ k < 4096 := Nat.lt_of_le_of_lt (Nat.div_le_self _ _) h
  rw [Nat.testBit_eq_decide_div_mod_eq, e]
  generalize m / 2 ^ k = d at *
  rw [eq_of_beq (List.all_eq_true.1 bit_zero_all d (List.mem_range.2 hd))]
  rcases Nat.mod_two_eq_zero_or_one d with c | c <;> simp [c]
/-- Numbers in a slice's cells. -/
def IntsAt (zs : List Int) (sp : Option Addr) (w : World) : Prop := ∀ (i : Nat) (z : Int), zs[i]? = some z → ∃ b o, sp = some ⟨b, o, none⟩ ∧ w.cell? ⟨b, o + i, none⟩ = some (.int .i64 z) ∧ b < w.heap.size
theorem IntsAt.grow {zs : List Int} {sp : Option Addr} {w W : World} (h : IntsAt zs sp w) (hg : Gr w W) : IntsAt zs sp W := fun i z hz => by
  obtain ⟨b, o, h1, h2, h3⟩ := h i z hz
  exact ⟨b, o, h1, ((bcell hg).1 _ _ h3).trans h2, Nat.lt_of_lt_of_le h3 hg.size⟩
set_option maxRecDepth 100000 in
set_option maxHeartbeats 4000000 in
theorem ltrue_rest (p : Pr) (sp tsp : Option Addr) (len cap tcap bp moved : Nat) (power : Int) (zs : List Int) (w w0 : World) (hT : ThingsAt p.l (.slice sp len cap) w0) (hpx : Box w0 bp [.int .i64 p.fl, .int .i64 p.fh, .int .i64 p.bl, .int .i64 p.bh, .int .i64 p.ti, .int .i64 p.ne, .int .i64 p.fa, .slice sp len cap] 26) (hI : IntsAt zs tsp w0) (hlen : zs.length = len) (htr : Truth p power zs moved) (hm : moved < 4096) (h12 : len ≤ 12) (hpb : 0 ≤ power ∧ power ≤ 1000000000) (HGC : Hid (Below w.heap.size w w0)) (s0 s1 s2 s3 s5 s6 s7 s10 s13 s14 s15 s16 s17 s18 s19 s20 s21 s22 s23 s24 s25 s26 s27 s28 s29 s30 s31 s32 s33 s34 s35 s36 s37 s38 s39 s40 s41 s42 s43 s44 s45 s46 s47 s48 s49 s50 s51 s52 s53 s54 s55 s56 s57 s58 s59 s60 s61 s62 s63 s64 s65 s66 s67 s68 s69 s70 s71 s72 s73 s74 s75 s76 s77 s78 s79 s80 s81 s82 s83 s84 s85 s86 s87 s88 s89 s90 s91 s92 s93 s94 s95 s96 s97 s98 s99 s100 s101 s102 s103 s104 s105 s106 s107 s108 s109 s110 s111 s112 s113 s114 s115 s116 s117 s118 s119 s120 s121 s122 s123 s124 s125 s126 s127 s128 s129 s130 s131 s132 s133 s134 s135 s136 s137 s138 s139 s140 s141 s142 s143 s144 s145 s146 s147 s148 s149 s150 s151 s152 s153 s154 s155 s156 s157 s158 s159 s160 s161 s162 s163 s164 s165 s166 s167 s168 s169 s170 s171 s172 s173 s174 s175 s176 s177 s178 s179 s180 s181 s182 s183 s184 s185 s186 s187 s188 s189 s190 s191 s192 s193 s194 s195 s196 s197 s198 s199 s200 s201 s202 s203 s204 s205 s206 s207 s208 s209 s210 s211 s212 s213 s214 s215 s216 s217 s218 s219 s220 s221 s222 s223 s224 s225 s226 s227 s228 s229 s230 s231 s232 s233 s234 s235 s236 s237 s238 s239 s240 s241 s242 s243 s244 s245 s246 s247 s248 s249 s250 s251 s252 s253 s254 s255 s256 s257 s258 s259 s260 s261 s262 s263 s264 s265 s266 s267 s268 s269 s270 s271 s272 s273 s274 s275 s276 s277 s278 s279 s280 s281 s282 s283 s284 s285 s286 s287 s288 s289 s290 s291 s292 s293 s294 s295 s296 s297 s298 s299 s300 s301 s302 s303 : Value) :
    (Code.snd2 (Code.snd2 (Code.snd2 (Code.snd2 (Code.snd2 (Code.snd2 (Code.snd2 (Code.snd2 (Code.snd2 (Code.snd2 (Try.f5.body.getD .skip))))))))))).wp Try.prog (bodyPost Try.prog Try.f5 fun e w' => e = .returned (.bool true) ∧ Below w.heap.size w w') { tmps := #[s0, s1, s2, s3, .bool false, s5, s6, s7, .pointer (some ⟨bp, 0, none⟩), .int .i64 power, s10, .slice tsp len tcap, .int .i64 (moved : Nat), s13, s14, s15, s16, s17, s18, s19, s20, s21, s22, s23, s24, s25, s26, s27, s28, s29, s30, s31, s32, s33, s34, s35, s36, s37, s38, s39, s40, s41, s42, s43, s44, s45, s46, s47, s48, s49, s50, s51, s52, s53, s54, s55, s56, s57, s58, s59, s60, s61, s62, s63, s64, s65, s66, s67, s68, s69, s70, s71, s72, s73, s74, s75, s76, s77, s78, s79, s80, s81, s82, s83, s84, s85, s86, s87, s88, s89, s90, s91, s92, s93, s94, s95, s96, s97, s98, s99, s100, s101, s102, s103, s104, s105, s106, s107, s108, s109, s110, s111, s112, s113, s114, s115, s116, s117, s118, s119, s120, s121, s122, s123, s124, s125, s126, s127, s128, s129, s130, s131, s132, s133, s134, s135, s136, s137, s138, s139, s140, s141, s142, s143, s144, s145, s146, s147, s148, s149, s150, s151, s152, s153, s154, s155, s156, s157, s158, s159, s160, s161, s162, s163, s164, s165, s166, s167, s168, s169, s170, s171, s172, s173, s174, s175, s176, s177, s178, s179, s180, s181, s182, s183, s184, s185, s186, s187, s188, s189, s190, s191, s192, s193, s194, s195, s196, s197, s198, s199, s200, s201, s202, s203, s204, s205, s206, s207, s208, s209, s210, s211, s212, s213, s214, s215, s216, s217, s218, s219, s220, s221, s222, s223, s224, s225, s226, s227, s228, s229, s230, s231, s232, s233, s234, s235, s236, s237, s238, s239, s240, s241, s242, s243, s244, s245, s246, s247, s248, s249, s250, s251, s252, s253, s254, s255, s256, s257, s258, s259, s260, s261, s262, s263, s264, s265, s266, s267, s268, s269, s270, s271, s272, s273, s274, s275, s276, s277, s278, s279, s280, s281, s282, s283, s284, s285, s286, s287, s288, s289, s290, s291, s292, s293, s294, s295, s296, s297, s298, s299, s300, s301, s302, s303], defers := [] } w0 := by
  obtain ⟨P, Q, u, v, B, e17, hP, hQ, hB, e25, huv, hcnt, hlaw⟩ := htr.laws
  have TH2 := Lib.hid (fun (W : World) (hg : Gr w0 W) => ThingsAt.lasts p.l _ _ _ hT hg)
  have HII := Lib.hid (fun (W : World) (hg : Gr w0 W) => hI.grow hg)
  have HPX := Lib.hid hpx
  have PC := hpx.facts
  simp only [CellsFrom, Nat.zero_add, Nat.reduceAdd, and_true] at PC
  obtain ⟨PC, pl⟩ := PC
  have H17 := Lib.hid e17
  have H25 := Lib.hid e25
  have HLAW := Lib.hid hlaw
  have HLEN := Lib.hid hlen
  have hw1 : (decide (P ≤ power) && decide (power ≤ Q)) = true := by rw [decide_eq_true hP, decide_eq_true hQ]; rfl
  have huv' : decide (v < u) = false := decide_eq_false (by omega)
  have hcb : decide ((cnt moved : Int) < (cnt B : Int)) = false := decide_eq_false (by omega)
  have hcb' : decide (cnt moved < cnt B) = false := decide_eq_false (by omega)
  have hg10 : Gr w0 w0 := Gr.same w0
  have hsz := HGC.out.size
  obtain ⟨hc, hf, hz⟩ := bcell hg10
  clear hT hpx hI e17 e25 hlaw hlen htr hP hQ huv hcnt
  conv => arg 2; whnf
  go_wp2_with fail
  clear hc hf hz
  refine (power_is H17.out (TH2.out _ hg10)).mono ?_
  rintro e w11 ⟨rfl, hb11⟩
  have gg11 : Gr _ _ := hb11
  have hg11 := Gr.tr hg10 gg11
  clear hg10 gg11 hb11
  obtain ⟨hc, hf, hz⟩ := bcell hg11
  go_wp2_with fail
  clear hc hf hz
  refine (fewest_is H25.out (TH2.out _ (hg11.tr (Gr.alloc _ _)))).mono ?_
  rintro e w12 ⟨rfl, hb12⟩
  have gg12 : Gr _ _ := (Gr.alloc _ _).tr hb12
  have hg12 := Gr.tr hg11 gg12
  have y11_0 := ((bcell hb12).1 w11.heap.size 0 (by simp)).trans (show _ = some (.int .i64 P) by simp)
  have y11_1 := ((bcell hb12).1 w11.heap.size 1 (by simp)).trans (show _ = some (.int .i64 Q) by simp)
  have k11 : w11.heap.size < w12.heap.size := Nat.lt_of_lt_of_le (by simp) hb12.size
  have k11n : w11.heap.size ≠ w12.heap.size := Nat.ne_of_lt k11
  have k11m : w12.heap.size ≠ w11.heap.size := (Nat.ne_of_lt k11).symm
  have k11p : w11.heap.size < w12.heap.size + 1 := Nat.lt_succ_of_lt k11
  clear hg11 gg12 hb12
  obtain ⟨hc, hf, hz⟩ := bcell hg12
  go_upto_region 28 with fail
  go_cut [210] (fun s wx => s = .bool false ∧ Gr w0 wx)
  case first =>
    go_wp2_with fail
    clear hc hf hz
    refine (linside_any _ _ _ true hw1 _).mono ?_
    rintro e w13 ⟨rfl, hb13⟩
    have gg13 : Gr _ _ := (Gr.alloc _ _).tr hb13
    have hg13 := Gr.tr hg12 gg13
    replace y11_0 := ((bcell gg13).1 w11.heap.size 0 k11).trans y11_0
    replace y11_1 := ((bcell gg13).1 w11.heap.size 1 k11).trans y11_1
    clear k11n k11m k11p
    replace k11 : w11.heap.size < w13.heap.size := Nat.lt_of_lt_of_le k11 gg13.size
    have k11n : w11.heap.size ≠ w13.heap.size := Nat.ne_of_lt k11
    have k11m : w13.heap.size ≠ w11.heap.size := (Nat.ne_of_lt k11).symm
    have k11p : w11.heap.size < w13.heap.size + 1 := Nat.lt_succ_of_lt k11
    have y12_0 := ((bcell hb13).1 w12.heap.size 0 (by simp)).trans (show _ = some (.int .i64 u) by simp)
    have y12_1 := ((bcell hb13).1 w12.heap.size 1 (by simp)).trans (show _ = some (.int .i64 v) by simp)
    have k12 : w12.heap.size < w13.heap.size := Nat.lt_of_lt_of_le (by simp) hb13.size
    have k12n : w12.heap.size ≠ w13.heap.size := Nat.ne_of_lt k12
    have k12m : w13.heap.size ≠ w12.heap.size := (Nat.ne_of_lt k12).symm
    have k12p : w12.heap.size < w13.heap.size + 1 := Nat.lt_succ_of_lt k12
    clear hg12 gg13 hb13
    obtain ⟨hc, hf, hz⟩ := bcell hg13
    go_wp2_with fail
    case inr =>
      have hc0 : decide ((cnt moved : Int) < (cnt 0 : Int)) = false := decide_eq_false (by have : cnt 0 = 0 := rfl; omega)
      have hc0' : decide (cnt moved < cnt 0) = false := decide_eq_false (by have : cnt 0 = 0 := rfl; omega)
      clear hc hf hz
      refine (rcount_any 0 _ (by omega)).mono ?_
      rintro e w14 ⟨rfl, hb14⟩
      have gg14 : Gr _ _ := hb14
      have hg14 := Gr.tr hg13 gg14
      clear y11_0 y11_1 k11n k11m k11p k11
      clear y12_0 y12_1 k12n k12m k12p k12
      clear hg13 gg14 hb14
      obtain ⟨hc, hf, hz⟩ := bcell hg14
      go_wp2_with fail
      clear hc hf hz
      refine (rcount_any moved _ hm).mono ?_
      rintro e w15 ⟨rfl, hb15⟩
      have gg15 : Gr _ _ := hb15
      have hg15 := Gr.tr hg14 gg15
      clear hg14 gg15 hb15
      obtain ⟨hc, hf, hz⟩ := bcell hg15
      go_wp2_with fail
      go_meet
      case rel =>
        exact ⟨rfl, hg15⟩
    case inl =>
      clear hc hf hz
      refine (rcount_any B _ hB).mono ?_
      rintro e w14 ⟨rfl, hb14⟩
      have gg14 : Gr _ _ := hb14
      have hg14 := Gr.tr hg13 gg14
      clear y11_0 y11_1 k11n k11m k11p k11
      clear y12_0 y12_1 k12n k12m k12p k12
      clear hg13 gg14 hb14
      obtain ⟨hc, hf, hz⟩ := bcell hg14
      go_wp2_with fail
      clear hc hf hz
      refine (rcount_any moved _ hm).mono ?_
      rintro e w15 ⟨rfl, hb15⟩
      have gg15 : Gr _ _ := hb15
      have hg15 := Gr.tr hg14 gg15
      clear hg14 gg15 hb15
      obtain ⟨hc, hf, hz⟩ := bcell hg15
      go_wp2_with fail
      go_meet
      case rel =>
        exact ⟨rfl, hg15⟩
  case rest =>
    obtain ⟨rfl, hg20⟩ := hcut
    clear hc hf hz
    have hal := @cal
    go_wp2_with fail
    go_loopw [213] (fun i wr => ∃ k : Nat, k ≤ len ∧ i = .int .i64 k ∧ Gr w0 wr) (fun i _ => len - (intOf i).toNat)
    case atStart => exact ⟨0, Nat.zero_le _, rfl, hg20⟩
    case round =>
      obtain ⟨k, hk, rfl, hgr⟩ := hrel
      have HGR := Lib.hid hgr
      obtain ⟨hc, hf, hz⟩ := bcell hgr
      have R0 := ((HPX.out).grow hgr).facts
      simp only [CellsFrom, Nat.zero_add, Nat.reduceAdd, and_true] at R0
      obtain ⟨R0, rl⟩ := R0
      have TR := Lib.hid (fun (W : World) (hg : Gr wr W) => TH2.out _ (hgr.tr hg))
      by_cases hlt : k < len
      · obtain ⟨z, hz⟩ : ∃ z, zs[k]? = some z := ⟨zs[k]'(by rw [HLEN.out]; exact hlt), List.getElem?_eq_getElem _⟩
        have HZ := Lib.hid hz
        obtain ⟨b, o, htsp, hcell, hbl⟩ := HII.out _ hgr k z hz
        subst htsp
        have hbt := bit_one moved k hm
        have hkk : k < 64 := by omega
        clear hz
        cases hbm : moved.testBit k with
        | true =>
          rw [hbm] at hbt
          go_wp2_with fail
          exact ⟨⟨k + 1, by omega, by go_num, HGR.out⟩, by simp [intOf]; omega⟩
        | false =>
          rw [hbm] at hbt
          obtain ⟨dd, dd', a, a', e21, e23, hd1, hd2, e19, ha1, ha2, hz0, hnear⟩ := HLAW.out k z HZ.out hbm
          have H21 := Lib.hid e21
          have H23 := Lib.hid e23
          have H19 := Lib.hid e19
          have HNEAR := Lib.hid hnear
          have hw3 : (decide (dd ≤ z) && decide (z ≤ dd')) = true := by rw [decide_eq_true hd1, decide_eq_true hd2]; rfl
          have hw4 : (decide (a ≤ power / z) && decide (power / z ≤ a')) = true := by rw [decide_eq_true ha1, decide_eq_true ha2]; rfl
          have hzn : ¬ z = 0 := by omega
          have eq1 : IntKind.i64.wrap (power.tdiv z) = power / z := by
            have q1 : 0 ≤ power / z := Int.ediv_nonneg hpb.1 (by omega)
            have q2 : power / z ≤ power := Int.ediv_le_self _ hpb.1
            rw [Int.tdiv_eq_ediv_of_nonneg hpb.1]
            exact wraps_i64 _ q1 (by omega)
          clear e21 e23 e19 hnear hd1 hd2 ha1 ha2
          have hg40 : Gr wr wr := Gr.same wr
          clear hc hf hz
          obtain ⟨hc, hf, hz⟩ := bcell hg40
          go_wp2_with fail
          clear hc hf hz
          refine (why_is H21.out (TR.out _ hg40)).mono ?_
          rintro e w41 ⟨rfl, hb41⟩
          have gg41 : Gr _ _ := hb41
          have hg41 := Gr.tr hg40 gg41
          clear hg40 gg41 hb41
          obtain ⟨hc, hf, hz⟩ := bcell hg41
          go_wp2_with fail
          clear hc hf hz
          refine (distance_is H23.out (TR.out _ hg41)).mono ?_
          rintro e w42 ⟨rfl, hb42⟩
          have gg42 : Gr _ _ := hb42
          have hg42 := Gr.tr hg41 gg42
          clear hg41 gg42 hb42
          obtain ⟨hc, hf, hz⟩ := bcell hg42
          go_wp2_with fail
          clear hc hf hz
          refine (stands_is H19.out (TR.out _ (hg42.tr (Gr.alloc _ _)))).mono ?_
          rintro e w43 ⟨rfl, hb43⟩
          have gg43 : Gr _ _ := (Gr.alloc _ _).tr hb43
          have hg43 := Gr.tr hg42 gg43
          have y42_0 := ((bcell hb43).1 w42.heap.size 0 (by simp)).trans (show _ = some (.int .i64 dd) by simp)
          have y42_1 := ((bcell hb43).1 w42.heap.size 1 (by simp)).trans (show _ = some (.int .i64 dd') by simp)
          have k42 : w42.heap.size < w43.heap.size := Nat.lt_of_lt_of_le (by simp) hb43.size
          have k42n : w42.heap.size ≠ w43.heap.size := Nat.ne_of_lt k42
          have k42m : w43.heap.size ≠ w42.heap.size := (Nat.ne_of_lt k42).symm
          have k42p : w42.heap.size < w43.heap.size + 1 := Nat.lt_succ_of_lt k42
          clear hg42 gg43 hb43
          obtain ⟨hc, hf, hz⟩ := bcell hg43
          go_wp2_with fail
          have hgA : Gr w43 (w43.alloc (.cells #[.int .i64 a, .int .i64 a'] 23)) := Gr.alloc _ _
          have y43_0 := (Box.fresh w43 [.int .i64 a, .int .i64 a'] 23).cell (i := 0) rfl
          have y43_1 := (Box.fresh w43 [.int .i64 a, .int .i64 a'] 23).cell (i := 1) rfl
          have z42_0 := ((bcell hgA).1 w42.heap.size 0 k42).trans y42_0
          have z42_1 := ((bcell hgA).1 w42.heap.size 1 k42).trans y42_1
          have hk43 : w43.heap.size < (w43.alloc (.cells #[.int .i64 a, .int .i64 a'] 23)).heap.size := by simp
          have hk42 : w42.heap.size < (w43.alloc (.cells #[.int .i64 a, .int .i64 a'] 23)).heap.size := Nat.lt_of_lt_of_le k42 hgA.size
          have HGA := Lib.hid ((HGR.out.tr hg43).tr hgA)
          clear hc hf hz y42_0 y42_1 k42n k42m k42p k42 hg43 hgA
          change ((w43.alloc (.cells #[.int .i64 a, .int .i64 a'] 23)).cell? _ = _) at y43_0 y43_1
          generalize hW : w43.alloc (.cells #[.int .i64 a, .int .i64 a'] 23) = W5 at *
          clear hW
          refine region2 28 ?_ ?_ ?_
          · kernel_rfl
          · kernel_rfl
          simp only [List.take_succ_cons, List.take_zero, List.drop_succ_cons, List.drop_zero]
          apply chain_eq (D := [(26, none)]) rfl (by kernel_rfl)
          · intro ρ W ⟨p1, p2, p3⟩ hG hF K hK; (try simp [FactsD] at hF); have ⟨hc, hf, hz⟩ := bcell (Gr.tr (Gr.drew _) hG); go_simp; exact hK _ (gives_val)
          apply chain_eq (D := [(241, some 0)]) rfl (by kernel_rfl)
          · intro ρ W ⟨p1, p2, p3⟩ hG hF K hK; (try simp [FactsD] at hF); have ⟨hc, hf, hz⟩ := bcell (Gr.tr (Gr.drew _) hG); go_simp; exact hK _ (gives_val)
          apply chain_eq (D := [(242, some 0)]) rfl (by kernel_rfl)
          · intro ρ W ⟨p1, p2, p3⟩ hG hF K hK; (try simp [FactsD] at hF); have ⟨hc, hf, hz⟩ := bcell (Gr.tr (Gr.drew _) hG); go_simp; exact hK _ (gives_val)
          apply chain_leq (D := [(27, none), (243, some 0)]) (by kernel_rfl)
          · intro ρ W hF; (try simp [FactsD] at hF); simp [Lets, *]
          · intro ρ W ⟨p1, p2, p3⟩ hG hF K hK; (try simp [FactsD] at hF); have ⟨hc, hf, hz⟩ := bcell (Gr.tr (Gr.drew _) hG); go_simp; exact hK _ (gives_val)
          apply chain_leq (D := [(244, some 0), (243, some 1)]) (by kernel_rfl)
          · intro ρ W hF; (try simp [FactsD] at hF); simp [Lets, *]
          · intro ρ W ⟨p1, p2, p3⟩ hG hF K hK; (try simp [FactsD] at hF); have ⟨hc, hf, hz⟩ := bcell (Gr.tr (Gr.drew _) hG); go_simp; exact hK _ (gives_val)
          apply chain_eq (D := [(243, some 2), (245, some 0)]) rfl (by kernel_rfl)
          · intro ρ W ⟨p1, p2, p3⟩ hG hF K hK; (try simp [FactsD] at hF); have ⟨hc, hf, hz⟩ := bcell (Gr.tr (Gr.drew _) hG); go_simp; exact hK _ (gives_val)
          apply chain_eq (D := [(246, some 0)]) rfl (by kernel_rfl)
          · intro ρ W ⟨p1, p2, p3⟩ hG hF K hK; (try simp [FactsD] at hF); have ⟨hc, hf, hz⟩ := bcell (Gr.tr (Gr.drew _) hG); go_simp; exact hK _ (gives_val)
          apply chain_leq (D := [(29, none), (247, some 0)]) (by kernel_rfl)
          · intro ρ W hF; (try simp [FactsD] at hF); simp [Lets, *]
          · intro ρ W ⟨p1, p2, p3⟩ hG hF K hK; (try simp [FactsD] at hF); have ⟨hc, hf, hz⟩ := bcell (Gr.tr (Gr.drew _) hG); go_simp; exact hK _ (gives_val)
          apply chain_leq (D := [(248, some 0), (247, some 1)]) (by kernel_rfl)
          · intro ρ W hF; (try simp [FactsD] at hF); simp [Lets, *]
          · intro ρ W ⟨p1, p2, p3⟩ hG hF K hK; (try simp [FactsD] at hF); have ⟨hc, hf, hz⟩ := bcell (Gr.tr (Gr.drew _) hG); go_simp; exact hK _ (gives_val)
          apply chain_eq (D := [(247, some 2), (249, some 0)]) rfl (by kernel_rfl)
          · intro ρ W ⟨p1, p2, p3⟩ hG hF K hK; (try simp [FactsD] at hF); have ⟨hc, hf, hz⟩ := bcell (Gr.tr (Gr.drew _) hG); go_simp; exact hK _ (gives_val)
          apply chain_eq (D := [(250, some 0)]) rfl (by kernel_rfl)
          · intro ρ W ⟨p1, p2, p3⟩ hG hF K hK; (try simp [FactsD] at hF); have ⟨hc, hf, hz⟩ := bcell (Gr.tr (Gr.drew _) hG); go_simp; exact hK _ (gives_val)
          apply chain_leq (D := [(28, none), (251, some 0)]) (by kernel_rfl)
          · intro ρ W hF; (try simp [FactsD] at hF); simp [Lets, *]
          · intro ρ W ⟨p1, p2, p3⟩ hG hF K hK; (try simp [FactsD] at hF); have ⟨hc, hf, hz⟩ := bcell (Gr.tr (Gr.drew _) hG); go_simp; exact hK _ (gives_val)
          apply chain_leq (D := [(25, none), (251, some 1)]) (by kernel_rfl)
          · intro ρ W hF; (try simp [FactsD] at hF); simp [Lets, *]
          · intro ρ W ⟨p1, p2, p3⟩ hG hF K hK; (try simp [FactsD] at hF); have ⟨hc, hf, hz⟩ := bcell (Gr.tr (Gr.drew _) hG); go_simp; exact hK _ (gives_val)
          apply chain_leq (D := [(252, some 1), (253, some 0), (251, some 2)]) (by kernel_rfl)
          · intro ρ W hF; (try simp [FactsD] at hF); simp [Lets, *]
          · intro ρ W ⟨p1, p2, p3⟩ hG hF K hK; (try simp [FactsD] at hF); have ⟨hc, hf, hz⟩ := bcell (Gr.tr (Gr.drew _) hG); go_simp; exact hK _ (gives_call (linside_any _ _ _ true hw3 _))
          apply chain_leq (D := [(254, some 0), (251, some 3)]) (by kernel_rfl)
          · intro ρ W hF; (try simp [FactsD] at hF); simp [Lets, *]
          · intro ρ W ⟨p1, p2, p3⟩ hG hF K hK; (try simp [FactsD] at hF); have ⟨hc, hf, hz⟩ := bcell (Gr.tr (Gr.drew _) hG); go_simp; exact hK _ (gives_val)
          apply chain_eq (D := [(251, some 4), (255, some 0)]) rfl (by kernel_rfl)
          · intro ρ W ⟨p1, p2, p3⟩ hG hF K hK; (try simp [FactsD] at hF); have ⟨hc, hf, hz⟩ := bcell (Gr.tr (Gr.drew _) hG); go_simp; exact hK _ (gives_val)
          apply chain_eq (D := [(256, some 0)]) rfl (by kernel_rfl)
          · intro ρ W ⟨p1, p2, p3⟩ hG hF K hK; (try simp [FactsD] at hF); have ⟨hc, hf, hz⟩ := bcell (Gr.tr (Gr.drew _) hG); go_simp; exact hK _ (gives_val)
          apply chain_leq (D := [(31, none), (257, some 0)]) (by kernel_rfl)
          · intro ρ W hF; (try simp [FactsD] at hF); simp [Lets, *]
          · intro ρ W ⟨p1, p2, p3⟩ hG hF K hK; (try simp [FactsD] at hF); have ⟨hc, hf, hz⟩ := bcell (Gr.tr (Gr.drew _) hG); go_simp; exact hK _ (gives_val)
          apply chain_leq (D := [(258, some 0), (257, some 1)]) (by kernel_rfl)
          · intro ρ W hF; (try simp [FactsD] at hF); simp [Lets, *]
          · intro ρ W ⟨p1, p2, p3⟩ hG hF K hK; (try simp [FactsD] at hF); have ⟨hc, hf, hz⟩ := bcell (Gr.tr (Gr.drew _) hG); go_simp; exact hK _ (gives_val)
          apply chain_eq (D := [(257, some 2), (259, some 0)]) rfl (by kernel_rfl)
          · intro ρ W ⟨p1, p2, p3⟩ hG hF K hK; (try simp [FactsD] at hF); have ⟨hc, hf, hz⟩ := bcell (Gr.tr (Gr.drew _) hG); go_simp; exact hK _ (gives_val)
          apply chain_eq (D := [(260, some 0)]) rfl (by kernel_rfl)
          · intro ρ W ⟨p1, p2, p3⟩ hG hF K hK; (try simp [FactsD] at hF); have ⟨hc, hf, hz⟩ := bcell (Gr.tr (Gr.drew _) hG); go_simp; exact hK _ (gives_val)
          apply chain_leq (D := [(30, none), (261, some 0)]) (by kernel_rfl)
          · intro ρ W hF; (try simp [FactsD] at hF); simp [Lets, *]
          · intro ρ W ⟨p1, p2, p3⟩ hG hF K hK; (try simp [FactsD] at hF); have ⟨hc, hf, hz⟩ := bcell (Gr.tr (Gr.drew _) hG); go_simp; exact hK _ (gives_val)
          apply chain_leq (D := [(9, none), (261, some 1)]) (by kernel_rfl)
          · intro ρ W hF; (try simp [FactsD] at hF); simp [Lets, *]
          · intro ρ W ⟨p1, p2, p3⟩ hG hF K hK; (try simp [FactsD] at hF); have ⟨hc, hf, hz⟩ := bcell (Gr.tr (Gr.drew _) hG); go_simp; exact hK _ (gives_val)
          apply chain_leq (D := [(25, none), (261, some 2)]) (by kernel_rfl)
          · intro ρ W hF; (try simp [FactsD] at hF); simp [Lets, *]
          · intro ρ W ⟨p1, p2, p3⟩ hG hF K hK; (try simp [FactsD] at hF); have ⟨hc, hf, hz⟩ := bcell (Gr.tr (Gr.drew _) hG); go_simp; exact hK _ (gives_val)
          apply chain_leq (D := [(263, some 1), (264, some 0), (261, some 3)]) (by kernel_rfl)
          · intro ρ W hF; (try simp [FactsD] at hF); simp [Lets, *]
          · intro ρ W ⟨p1, p2, p3⟩ hG hF K hK; (try simp [FactsD] at hF); have ⟨hc, hf, hz⟩ := bcell (Gr.tr (Gr.drew _) hG); go_simp; exact hK _ (gives_val)
          apply chain_leq (D := [(262, some 3), (265, some 0), (261, some 4)]) (by kernel_rfl)
          · intro ρ W hF; (try simp [FactsD] at hF); simp [Lets, *]
          · intro ρ W ⟨p1, p2, p3⟩ hG hF K hK; (try simp [FactsD] at hF); have ⟨hc, hf, hz⟩ := bcell (Gr.tr (Gr.drew _) hG); go_simp; exact hK _ (gives_call (linside_any _ _ _ true hw4 _))
          apply chain_leq (D := [(266, some 0), (261, some 5)]) (by kernel_rfl)
          · intro ρ W hF; (try simp [FactsD] at hF); simp [Lets, *]
          · intro ρ W ⟨p1, p2, p3⟩ hG hF K hK; (try simp [FactsD] at hF); have ⟨hc, hf, hz⟩ := bcell (Gr.tr (Gr.drew _) hG); go_simp; exact hK _ (gives_val)
          apply chain_eq (D := [(261, some 6), (267, some 0)]) rfl (by kernel_rfl)
          · intro ρ W ⟨p1, p2, p3⟩ hG hF K hK; (try simp [FactsD] at hF); have ⟨hc, hf, hz⟩ := bcell (Gr.tr (Gr.drew _) hG); go_simp; exact hK _ (gives_val)
          refine chain_done ?_
          intro vs W hG hV
          obtain ⟨e27, -⟩ := hV
          simp only [Nat.reduceSub] at e27
          set_option maxRecDepth 100000 in
          simp only [lay, Act.put, List.getElem?_toArray, List.getElem?_cons_succ, List.getElem?_cons_zero, Option.bind_some, List.setIfInBounds_toArray, List.set_cons_succ, List.set_cons_zero]
          generalize vs 0 = v0
          generalize vs 1 = v1
          generalize vs 2 = v2
          generalize vs 3 = v3
          generalize vs 4 = v4
          generalize vs 5 = v5
          generalize vs 6 = v6
          generalize vs 7 = v7
          generalize vs 8 = v8
          generalize vs 9 = v9
          generalize vs 10 = v10
          generalize vs 11 = v11
          generalize vs 12 = v12
          generalize vs 13 = v13
          generalize vs 14 = v14
          generalize vs 15 = v15
          generalize vs 16 = v16
          generalize vs 17 = v17
          generalize vs 18 = v18
          generalize vs 19 = v19
          generalize vs 20 = v20
          generalize vs 21 = v21
          generalize vs 22 = v22
          generalize vs 23 = v23
          generalize vs 24 = v24
          generalize vs 25 = v25
          generalize vs 26 = v26
          generalize vs 27 = v27 at *
          subst e27
          obtain ⟨hc, hf, hz⟩ := bcell hG
          have HGW := Lib.hid (HGA.out.tr hG)
          clear hG
          go_wp2_with fail
          go_loopw [271] (fun i ws => ∃ j : Nat, j ≤ len ∧ i = .int .i64 j ∧ Gr w0 ws) (fun i _ => len - (intOf i).toNat)
          case atStart => exact ⟨0, Nat.zero_le _, rfl, HGW.out⟩
          case round =>
            obtain ⟨j, hj, rfl, hgs⟩ := hrel
            have HGS := Lib.hid hgs
            clear hc hf hz
            obtain ⟨hc, hf, hz⟩ := bcell hgs
            have S0 := ((HPX.out).grow hgs).facts
            simp only [CellsFrom, Nat.zero_add, Nat.reduceAdd, and_true] at S0
            obtain ⟨S0, sl⟩ := S0
            by_cases hjlt : j < len
            · obtain ⟨y, hy⟩ : ∃ y, zs[j]? = some y := ⟨zs[j]'(by rw [HLEN.out]; exact hjlt), List.getElem?_eq_getElem _⟩
              obtain ⟨nn, e15, hnn⟩ := HNEAR.out j y hy
              have H15 := Lib.hid e15
              have HNN := Lib.hid hnn
              obtain ⟨b2, o2, htsp2, hcell2, hbl2⟩ := HII.out _ hgs j y hy
              obtain ⟨rfl, rfl⟩ : b = b2 ∧ o = o2 := by simpa using htsp2
              have hbz := bit_zero moved j hm
              have hkk2 : j < 64 := by omega
              clear e15 hnn hy htsp2
              go_wp2_with fail
              refine (nearer_is H15.out (TH2.out _ hgs)).mono ?_
              rintro e wt ⟨rfl, hbt2⟩
              have hgt : Gr _ wt := hbt2
              have HGT := Lib.hid (HGS.out.tr hgt)
              clear hc hf hz hgt hbt2 hgs
              cases hbj : moved.testBit j with
              | true =>
                rw [hbj] at hbz
                have hbz' : (!true) = false := rfl
                rw [hbz'] at hbz
                go_wp2_with fail
                exact ⟨⟨j + 1, by omega, by go_num, HGT.out⟩, by simp [intOf]; omega⟩
              | false =>
                rw [hbj] at hbz
                have hbz' : (!false) = true := rfl
                rw [hbz'] at hbz
                cases hn2 : (nn == 2) with
                | true =>
                  have hzy : decide (y ≤ z) = false := decide_eq_false (by have := HNN.out hbj (by simpa using hn2); omega)
                  go_wp2_with fail
                  exact ⟨⟨j + 1, by omega, by go_num, HGT.out⟩, by simp [intOf]; omega⟩
                | false =>
                  go_wp2_with fail
                  exact ⟨⟨j + 1, by omega, by go_num, HGT.out⟩, by simp [intOf]; omega⟩
            · have hjl : j = len := by omega
              subst hjl
              go_wp2_with fail
              exact ⟨⟨k + 1, by omega, by go_num, HGS.out⟩, by simp [intOf]; omega⟩
      · have hkl : k = len := by omega
        subst hkl
        go_wp2_with fail
        refine (awake_any _).mono ?_
        rintro e wz ⟨rfl, hbz⟩
        go_wp2
        go_ret
        exact ⟨rfl, bgr (bgr HGC.out hsz HGR.out) (Nat.le_trans hsz HGR.out.size) hbz⟩
/-- A pointer to a new block. -/
def NewAt (N : Nat) (vs : List Value) (T : TypeId) (v : Value) (w : World) : Prop := ∃ b : Nat, v = .pointer (some ⟨b, 0, none⟩) ∧ N ≤ b ∧ Box w b vs T
theorem NewAt.lasts {A κ N : Nat} (h : A < N) (vs : List Value) (T : TypeId) : Dw.Lasts A κ (NewAt N vs T) := fun _ _ _ ⟨b, h1, h2, h3⟩ hg => ⟨b, h1, h2, hg.box h3 (by omega)⟩
theorem NewAt.gives {A κ N : Nat} {Pr : Program} {W : World} {Pan : List PanicEntry → World → Prop} (h : N ≤ W.heap.size) (vs : List Value) (T : TypeId) : Dw.Gives A κ Pr W (NewAt N vs T) Pan (.ok (.value (.pointer (some ⟨W.heap.size, 0, none⟩))) (W.alloc (.cells vs.toArray T))) := ⟨⟨_, rfl, h, Box.fresh W vs T⟩, (Dr.of (Gr.alloc _ _)).le (Nat.zero_le _)⟩
/-- What the numbers of the pair are. -/
def PairNums (f ba fl fh bl bh ti ne fa : Int) : Prop := (f - 30 < fl ∧ fl ≤ f ∧ f ≤ fh ∧ fh < f + 30) ∧ (ba - 3 < bl ∧ bl ≤ ba ∧ ba ≤ bh ∧ bh < ba + 3) ∧ (0 ≤ ti ∧ ti < 9) ∧ (2000 ≤ ne ∧ ne < 2500) ∧ (50000 ≤ fa ∧ fa < 100000)
def DP (f ba : Int) (v : Value) (_ : World) : Prop := ∃ fl fh bl bh ti ne fa : Int, v = .agg #[.int .i64 fl, .int .i64 fh, .int .i64 bl, .int .i64 bh, .int .i64 ti, .int .i64 ne, .int .i64 fa, .slice none 0 0] ∧ PairNums f ba fl fh bl bh ti ne fa
theorem DP.lasts {A κ : Nat} (f ba : Int) : Dw.Lasts A κ (DP f ba) := fun _ _ _ h _ => h
theorem ThingsAt.own2 {w : World} {base : Nat} {v : Value} {l : List Th} {n : Nat} (h : w.ownsRow base 47 9 v n (l.flatMap Th.vals)) (hn : n = l.length) (hl : l.length ≤ 1000) : ThingsAt l v w := by
  subst hn
  have h0 := h
  obtain ⟨_, h1⟩ := h
  rcases h1 with ⟨rfl, hn⟩ | ⟨g, cap, cur, rfl, hg, hb, -, -, -, ht⟩
  · exact ⟨hl, .inl ⟨List.eq_nil_of_length_eq_zero hn, rfl⟩⟩
  · exact ThingsAt.boxp (T := 47) (vs := cur.toList) (show Box w g cur.toList 47 by unfold Box; simpa using hb) hl fun i t j x hi hx => flat_take ht hi hx
theorem IntsAt.own {w : World} {base : Nat} {sp : Option Addr} {m n cap : Nat} {zs : List Int} (h : w.ownsRow base 3 1 (.slice sp m cap) n (zs.map fun z => .int .i64 z)) (hn : n = zs.length) : IntsAt zs sp w := by
  subst hn
  intro i z hz
  obtain ⟨_, h1⟩ := h
  have hi := (List.getElem?_eq_some_iff.1 hz).1
  rcases h1 with ⟨h2, hn⟩ | ⟨g, cap, cur, hv, hg, hb, -, -, -, ht⟩
  · omega
  · have hsp : sp = some ⟨g, 0, none⟩ := by simp at hv; exact hv.1
    subst hsp
    have hbx : Box w g cur.toList 3 := by unfold Box; simpa using hb
    refine ⟨g, 0, rfl, ?_, hbx.lt⟩
    rw [Nat.zero_add]
    refine hbx.cell ?_
    have e : (zs.map fun z => Value.int .i64 z)[i]? = some (.int .i64 z) := by rw [List.getElem?_map, hz]; rfl
    rw [← ht, List.getElem?_take_of_lt (by omega)] at e
    exact e
theorem own_len {w : World} {base : Nat} {e : TypeId} {size : Nat} {v : Value} {n : Nat} {xs : List Value} (h : w.ownsRow base e size v n xs) : ∃ sp cap, v = .slice sp n cap := by
  obtain ⟨_, h1⟩ := h
  rcases h1 with ⟨rfl, rfl⟩ | ⟨g, cap, cur, rfl, _⟩
  · exact ⟨none, 0, rfl⟩
  · exact ⟨_, _, rfl⟩
/-- What is so at each round: so many draws, so many things, and where they truly are. -/
structure Rnd (A B D b o len cap bp N1 : Nat) (p : Pr) (power : Int) (k : Nat) (zs : List Int) (moved : Nat) (pv tv : Value) (w : World) : Prop where
  drw : DrawOk A B b o len cap (40 + 6700 * k) w
  fn : Box w D [drawV A B] 40
  box : Box w bp [.int .i64 p.fl, .int .i64 p.fh, .int .i64 p.bl, .int .i64 p.bh, .int .i64 p.ti, .int .i64 p.ne, .int .i64 p.fa, pv] 26
  ox : w.ownsRow N1 47 9 pv k (p.l.flatMap Th.vals)
  oy : w.ownsRow N1 3 1 tv k (zs.map fun z => .int .i64 z)
  dj : ∀ q, pv.ownBlock = some q → tv.ownBlock ≠ some q
  size : N1 ≤ w.heap.size
  len : p.l.length = k ∧ zs.length = k
  mvd : moved < 2 ^ k
  things : ∀ (i : Nat) (t : Th) (z : Int), p.l[i]? = some t → zs[i]? = some z → Th.valid p.ne p.fa t = true ∧ (moved.testBit i = false → Tr p.ti p.ne p.fa power t z) ∧ (moved.testBit i = true → t.z = 0)
theorem Try.info3x : (Try.prog.info? 3).map (fun i => (i.zero, i.size, i.bytes)) = some (some (.int .i64 0), 1, 8) := by kernel_rfl
theorem Dr.grownBy {A i : Nat} {w W : World} (h : Dr A i w W) : w.grownBy W (some A) := ⟨h.os, h.tape, h.output, h.size, fun k hk hne => h.block k hk (fun e => hne (by rw [e]))⟩
theorem own_dr {A i : Nat} {w W : World} {base : Nat} {e : TypeId} {size : Nat} {v : Value} {n : Nat} {xs : List Value} (h : w.ownsRow base e size v n xs) (hd : Dr A i w W) (hA : A < base) : W.ownsRow base e size v n xs := by
  refine h.kept hd.grownBy ?_
  cases hv : v.ownBlock with
  | none => exact .inl rfl
  | some q => exact .inr fun c => by have := (h.lt q hv).1; simp at c; omega
theorem DrawOk.grown {A B b o len cap N : Nat} {w W : World} {row : Option Nat} (h : DrawOk A B b o len cap N w) (hg : w.grownBy W row) (hA : some A ≠ row) (hB : some B ≠ row) (hb : some b ≠ row) : DrawOk A B b o len cap N W := by
  obtain ⟨⟨m, h1, h2, h3⟩, h4, ⟨h5, h6, h7, h8⟩, h9, h10⟩ := h
  exact ⟨⟨m, h1.grown hg hA, h2, h3⟩, h4.grown hg hB, ⟨h5, h6, Nat.lt_of_lt_of_le h7 hg.size, fun i hi => by
    obtain ⟨x, hx, hx'⟩ := h8 i hi
    exact ⟨x, (World.cell?_of_block (a := ⟨b, o + i, none⟩) (hg.block b h7 hb)).trans hx, hx'⟩⟩, h9, h10⟩
theorem DrawOk.other {A B b o len cap N : Nat} {w : World} (h : DrawOk A B b o len cap N w) {q : Nat} (hA : A ≠ q) (hB : B ≠ q) (hb : b ≠ q) (k : Nat) (x : Value) : DrawOk A B b o len cap N (w.setCell ⟨q, k, none⟩ x) := by
  obtain ⟨⟨m, h1, h2, h3⟩, h4, ⟨h5, h6, h7, h8⟩, h9, h10⟩ := h
  refine ⟨⟨m, h1.other hA _ _, h2, h3⟩, h4.other hB _ _, ⟨h5, h6, by simpa using h7, fun i hi => ?_⟩, h9, h10⟩
  obtain ⟨y, hy, hy'⟩ := h8 i hi
  exact ⟨y, (World.cell?_of_block (a := ⟨b, o + i, none⟩) (Below.heap_setCell _ _ _ _ (by simpa using hb))).trans hy, hy'⟩
/-- A round more. -/
theorem Rnd.next {A B D b o len cap bp N1 : Nat} {p : Pr} {power : Int} {k : Nat} {zs : List Int} {moved md N : Nat} {pv tv : Value} {wr wc w5 w7 w0 : World} {o1 o2 : Obj} {g1 c1 g2 c2 : Nat} {th : Th} {z : Int}
    (h : Rnd A B D b o len cap bp N1 p power k zs moved pv tv wr) (hd : Dr A N wr wc) (hN : N ≤ 6700) (hA : A < N1) (hB : B < N1) (hb : b < N1) (hD : D < N1) (hbp : bp < N1) (hDA : D ≠ A) (hbA : bp ≠ A) (hbD : bp ≠ D) (hBb : B ≠ bp) (hbb : b ≠ bp)
    (hg1 : (wc.alloc o1).grownBy w5 tv.ownBlock) (hown1 : w5.ownsRow N1 3 1 (.slice (some ⟨g1, 0, none⟩) (k + 1) c1) (k + 1) ((zs.map fun z => .int .i64 z) ++ [.int .i64 z])) (hat1 : tv.ownBlock = some g1 ∨ g1 = (wc.alloc o1).heap.size)
    (hg2 : (w5.alloc o2).grownBy w7 pv.ownBlock) (hown2 : w7.ownsRow N1 47 9 (.slice (some ⟨g2, 0, none⟩) (k + 1) c2) (k + 1) (p.l.flatMap Th.vals ++ th.vals)) (hat2 : pv.ownBlock = some g2 ∨ g2 = (w5.alloc o2).heap.size)
    (hm1 : md < 2 ^ (k + 1)) (hm2 : ∀ j, j < k → md.testBit j = moved.testBit j) (hval : Th.valid p.ne p.fa th = true) (hst : md.testBit k = false → Tr p.ti p.ne p.fa power th z) (hgn : md.testBit k = true → th.z = 0) (hW0 : Below w0.heap.size w0 wr) (_hN1 : w0.heap.size ≤ N1) (hw0A : w0.heap.size ≤ A) (hw0b : w0.heap.size ≤ bp) :
    Rnd A B D b o len cap bp N1 { p with l := p.l ++ [th] } power (k + 1) (zs ++ [z]) md (.slice (some ⟨g2, 0, none⟩) (k + 1) c2) (.slice (some ⟨g1, 0, none⟩) (k + 1) c1) (w7.setCell ⟨bp, 7, none⟩ (.slice (some ⟨g2, 0, none⟩) (k + 1) c2)) ∧ Below w0.heap.size w0 (w7.setCell ⟨bp, 7, none⟩ (.slice (some ⟨g2, 0, none⟩) (k + 1) c2)) := by
  have a1 : Gr wc (wc.alloc o1) := Gr.alloc _ _
  have a2 : Gr w5 (w5.alloc o2) := Gr.alloc _ _
  have oy := own_gr (own_dr h.oy hd hA) a1
  have ox := own_gr (own_dr h.ox hd hA) a1
  have r1 : ∀ q, q < N1 → some q ≠ tv.ownBlock := fun q hq e => by have := (oy.lt q e.symm).1; omega
  have r2 : ∀ q, q < N1 → some q ≠ pv.ownBlock := fun q hq e => by have := (ox.lt q e.symm).1; omega
  have hox5 := ox.kept hg1 (by
    cases hx : pv.ownBlock with
    | none => exact .inl rfl
    | some q => exact .inr fun e => h.dj q hx e.symm)
  have hoxl := fun q hq => (ox.lt q hq).2
  have hne : pv.ownBlock ≠ some g1 := fun e => by
    rcases hat1 with e1 | e1
    · exact h.dj g1 e e1
    · have := hoxl g1 e; omega
  have g1l : g1 < w5.heap.size := (hown1.lt g1 rfl).2
  have hoy7 := (own_gr hown1 a2).kept hg2 (.inr fun e => hne (by rw [← e]; rfl))
  have sz1 := hd.size
  have sz2 := a1.size
  have sz3 := hg1.size
  have sz4 := a2.size
  have sz5 := hg2.size
  have sz0 := h.size
  have hdr := (((((h.drw.grow hd).grow (Dr.of a1)).grown hg1 (r1 _ hA) (r1 _ hB) (r1 _ hb)).grow (Dr.of a2)).grown hg2 (r2 _ hA) (r2 _ hB) (r2 _ hb)).other (Ne.symm hbA) hBb hbb 7 (.slice (some ⟨g2, 0, none⟩) (k + 1) c2)
  have hfn := ((((hd.box h.fn hDA).grow a1).grown hg1 (r1 _ hD)).grow a2).grown hg2 (r2 _ hD)
  have hbx := ((((hd.box h.box hbA).grow a1).grown hg1 (r1 _ hbp)).grow a2).grown hg2 (r2 _ hbp)
  have hbel : Below w0.heap.size w0 w7 := by
    have b1 := hd.below hW0 hW0.size hw0A
    have b2 := bgr b1 b1.size a1
    have b3 := b2.grown hg1 b2.size (fun q e => by have := (oy.lt q e).1; omega)
    have b4 := bgr b3 b3.size a2
    exact b4.grown hg2 b4.size (fun q e => by have := (ox.lt q e).1; omega)
  refine ⟨⟨hdr.le (by omega), hfn.other (Ne.symm hbD) _ _, hbx.put 7 _, ?_, ?_, fun q hq e => ?_, by simp; omega, ⟨by simp [h.len.1], by simp [h.len.2]⟩, hm1, fun i t y hi hy => ?_⟩, hbel.setCell hw0b _⟩
  · have := ownsRow_setCell_below hown2 (a := ⟨bp, 7, none⟩) hbp (.slice (some ⟨g2, 0, none⟩) (k + 1) c2)
    simpa [List.flatMap_append] using this
  · have := ownsRow_setCell_below hoy7 (a := ⟨bp, 7, none⟩) hbp (.slice (some ⟨g2, 0, none⟩) (k + 1) c2)
    simpa [List.map_append] using this
  · simp [Value.ownBlock] at hq e
    subst hq
    rcases hat2 with e2 | e2
    · exact hne (by rw [e2, e])
    · have : (w5.alloc o2).heap.size = w5.heap.size + 1 := by simp
      omega
  · have hil : i < k + 1 := by
      have := (List.getElem?_eq_some_iff.1 hi).1
      simp [h.len.1] at this
      exact this
    by_cases e : i = k
    · subst e
      have e1 : (p.l ++ [th])[i]? = some th := by rw [List.getElem?_append_right (by rw [h.len.1]; exact Nat.le_refl _), h.len.1]; simp
      have e2 : (zs ++ [z])[i]? = some z := by rw [List.getElem?_append_right (by rw [h.len.2]; exact Nat.le_refl _), h.len.2]; simp
      have hi' : (p.l ++ [th])[i]? = some t := hi
      rw [e1] at hi'; cases hi'
      rw [e2] at hy; cases hy
      exact ⟨hval, hst, hgn⟩
    · have hi' : (p.l ++ [th])[i]? = some t := hi
      rw [List.getElem?_append_left (by rw [h.len.1]; omega)] at hi'
      rw [List.getElem?_append_left (by rw [h.len.2]; omega)] at hy
      rw [hm2 i (by omega)]
      exact h.things i t y hi' hy
theorem Rnd.truth {A B D b o len cap bp N1 : Nat} {p : Pr} {f ba : Int} {k : Nat} {zs : List Int} {moved : Nat} {pv tv : Value} {w : World} (h : Rnd A B D b o len cap bp N1 p (f * ba) k zs moved pv tv w) (hn : PairNums f ba p.fl p.fh p.bl p.bh p.ti p.ne p.fa) (hf : 5000 ≤ f ∧ f < 15000) (hb : 60 ≤ ba ∧ ba < 100) (hk : k ≤ 12) : Truth p (f * ba) zs moved := by
  obtain ⟨⟨a1, a2, a3, a4⟩, ⟨b1, b2, b3, b4⟩, c1, c2, c3⟩ := hn
  have h0 : 5000 * 60 ≤ f * ba := Int.mul_le_mul hf.1 hb.1 (by omega) (by omega)
  have h1 : f * ba ≤ 15000 * 100 := Int.mul_le_mul (by omega) (by omega) (by omega) (by omega)
  have h2 : p.fl * p.bl ≤ f * ba := Int.mul_le_mul a2 b2 (by omega) (by omega)
  have h3 : f * ba ≤ p.fh * p.bh := Int.mul_le_mul a3 b3 (by omega) (by omega)
  refine ⟨(valid_iff ..).2 ⟨⟨by omega, by omega, by omega, by omega, by omega, by omega, by omega, by omega, by omega, by omega, by omega, by rw [h.len.1]; exact hk⟩, fun t ht => ?_⟩, by rw [h.len.1, h.len.2], ⟨h2, h3⟩, ⟨by omega, ?_⟩, by rw [h.len.1]; exact h.mvd, fun i t z ht hz => (h.things i t z ht hz).2.1, fun i t ht hm => ?_⟩
  · obtain ⟨i, hi⟩ := List.getElem?_of_mem ht
    have hil : i < zs.length := by rw [h.len.2, ← h.len.1]; exact (List.getElem?_eq_some_iff.1 hi).1
    exact (h.things i t _ hi (List.getElem?_eq_getElem hil)).1
  · have := Int.ediv_mul_le (f * ba) (show p.ne ≠ 0 by omega)
    apply Int.not_lt.1
    intro hc
    have h5 := Int.mul_le_mul (show 2001 ≤ f * ba / p.ne by omega) c2.1 (by omega) (by omega)
    omega
  · have hil : i < zs.length := by rw [h.len.2, ← h.len.1]; exact (List.getElem?_eq_some_iff.1 ht).1
    exact (h.things i t _ ht (List.getElem?_eq_getElem hil)).2.2 hm
/-- What is known of a thing that was just told. -/
def T16 (x y sq ti : Int) (t : Th) : Prop := ((x - 4 < t.a ∧ t.a ≤ x ∧ x ≤ t.b ∧ t.b < x + 4) ∧ (y - 4 < t.c ∧ t.c ≤ y ∧ y ≤ t.d ∧ t.d < y + 4)) ∧ (x - sq - 4 < t.e ∧ t.e ≤ x - sq ∧ x - sq ≤ t.f ∧ t.f < x - sq + 4) ∧ (y - ti - 4 < t.g ∧ t.g ≤ y + ti ∧ y - ti ≤ t.h ∧ t.h < y + ti + 4 ∧ t.g ≤ t.h)
theorem T16.valid {x y sq ti ne fa z : Int} {t : Th} (h : T16 x y sq ti t) (hx : -500 ≤ x ∧ x < 500) (hy : -500 ≤ y ∧ y < 500) (hs : 0 ≤ sq ∧ sq ≤ 1000) (ht : 0 ≤ ti ∧ ti < 9) (hz : t.z = 0 ∨ t.z = z) (hzz : ne ≤ z ∧ z ≤ fa) : Th.valid ne fa t = true := by
  unfold T16 at h
  simp [Th.valid, okSp]
  omega
theorem T16.tr {x y sq ti ne fa z power : Int} {t : Th} (h : T16 x y sq ti t) (hs : power / z = sq) (hz : t.z = 0 ∨ t.z = z) (hzz : ne ≤ z ∧ z ≤ fa) : Tr ti ne fa power t z := by
  unfold T16 at h
  exact ⟨by omega, by rw [hs]; omega, by rw [hs]; omega, hzz, hz⟩
/-- A thing that moved: it stands anywhere. -/
def T21 (t : Th) : Prop := (-504 < t.e ∧ t.e ≤ t.f ∧ t.f < 504) ∧ (-504 < t.g ∧ t.g ≤ t.h ∧ t.h < 504)
theorem T21.valid {x y sq ti ne fa : Int} {t t0 : Th} (h : T21 t) (h0 : T16 x y sq ti t0) (e : t.a = t0.a ∧ t.b = t0.b ∧ t.c = t0.c ∧ t.d = t0.d ∧ t.z = 0) (hx : -500 ≤ x ∧ x < 500) (hy : -500 ≤ y ∧ y < 500) : Th.valid ne fa t = true := by
  unfold T21 at h
  unfold T16 at h0
  simp [Th.valid, okSp]
  omega
theorem or_bit (m k j : Nat) (_h : m < 2 ^ k) : (m ||| 2 ^ k).testBit j = (m.testBit j || decide (k = j)) := by
  rw [Nat.testBit_or, Nat.testBit_two_pow]
theorem or_lt (m k : Nat) (h : m < 2 ^ k) : m ||| 2 ^ k < 2 ^ (k + 1) := by
  have h1 : m < 2 ^ (k + 1) := by rw [Nat.pow_succ]; omega
  exact Nat.or_lt_two_pow h1 (by rw [Nat.pow_succ]; have := Nat.two_pow_pos k; omega)
set_option maxRecDepth 100000 in
set_option maxHeartbeats 1600000 in
theorem ltrue_none (th : Int) (sp : Option Addr) (cap : Nat) (w : World) : Calls Try.prog 5 #[.int .u8 th, .slice sp 0 cap] w fun e w' => e = .returned (.bool true) ∧ Below w.heap.size w w' := by
  go_enter Try.func5, Try.ntmps5
  go_wp2_with fail
  refine (awake_any _).mono ?_
  rintro e w1 ⟨rfl, hb1⟩
  go_wp2
  go_ret
  exact ⟨rfl, hb1⟩
end Go.Proofs.Ytofdoadpaedogaa
