/-
  FieldNames, walked.
-/
import Derived.Test.YtpjonhfphfkdiaaNm07
import Derived.Laws.Tables
namespace Go.Proofs.Ytpjonhfphfkdiaa
open Go.RowKit

set_option maxRecDepth 100000 in
theorem bz0 (W : World) : (Instr.build 30 #[]).run Try.prog W = .ok (.agg (fcell 0 0 zeroD).toArray) W := by kernel_rfl
set_option maxRecDepth 100000 in
theorem bz1 (k : Int) (W : World) : (Instr.build 30 #[(0, .int .u8 k)]).run Try.prog W = .ok (.agg (fcell k 0 zeroD).toArray) W := by kernel_rfl
set_option maxRecDepth 100000 in
theorem bzA (k : Int) (W : World) : (Instr.build 30 #[(0, .int .u8 k), (2, .agg (digA.map (Value.int .u8)).toArray)]).run Try.prog W = .ok (.agg (fcell k 0 digA).toArray) W := by kernel_rfl
set_option maxRecDepth 100000 in
theorem bzB (k : Int) (W : World) : (Instr.build 30 #[(0, .int .u8 k), (2, .agg (digB.map (Value.int .u8)).toArray)]).run Try.prog W = .ok (.agg (fcell k 0 digB).toArray) W := by kernel_rfl
set_option maxRecDepth 100000 in
theorem bdA (W : World) : (Instr.build 28 #[(0, .int .u8 1)]).run Try.prog W = .ok (.agg (digA.map (Value.int .u8)).toArray) W := by kernel_rfl
set_option maxRecDepth 100000 in
theorem bdB (W : World) : (Instr.build 28 #[(31, .int .u8 9)]).run Try.prog W = .ok (.agg (digB.map (Value.int .u8)).toArray) W := by kernel_rfl
section
variable {P : Program} {ops : Array Oper} {o : Oper} {a : Act} {w : World} {K : Act → World → Prop} {Q : Exit → Act → World → Prop} {E : Prop} {rest : List Oper}
theorem wpList_buildN (hgd : o.guard = none) (t : TypeId) (xs : Array (Nat × Operand)) (ho : o.op = .build t xs) {v : Value} {us : Array (Nat × Value)} (hx : (xs.toList.map fun p => (p.1, a.eval p.2)) = us.toList) (hr : (Instr.build t us).run P w = .ok v w)
    (h : wpList P ops Q rest (a.put o.dst v) w) : wpList P ops Q (o :: rest) a w := by
  have hx' : (xs.map fun (i, x) => (i, a.eval x)) = us := by
    apply Array.ext'
    rw [Array.toList_map, ← hx]
  subst hx'
  refine wpList_plain hgd fun _ hK => ?_
  unfold Oper.wp execOp
  simp only [ho, Sem.run_bind, hr, Result.andThen_ok, Sem.run_pure]
  exact hK _ _ h
end
theorem own_sl {w : World} {B e : Nat} {v : Value} {n : Nat} {l : List Value} (h : w.ownsRow B e 1 v n l) : ∃ a c, v = .slice a n c ∧ n ≤ c ∧ c ≤ 9223372036854775807 := by
  rcases h.2 with ⟨h', h0⟩ | ⟨g', cap', cur, h', _, hg, h1, h2, _⟩
  · subst h0
    exact ⟨none, 0, h', by omega, by omega⟩
  · exact ⟨_, _, h', h1, by unfold maxLen at h2; omega⟩
section
variable {P : Program} {ops : Array Oper} {o : Oper} {a : Act} {w : World} {K : Act → World → Prop} {Q : Exit → Act → World → Prop} {E : Prop} {rest : List Oper}
theorem step_makeH (d : Nat) (hd : o.dst = some d) (hgd : o.guard = none) (t : TypeId) (x y : Value) (ho : o.op = .makeSlice t (.const x) (.const y)) {v : Value} {w' : World} (hr : (Instr.makeSlice t x y).run P w = .ok v w')
    (h : K (a.put (some d) v) w') : if Region.wanted o (yielded ops a.tmps) = true then Oper.wp P o a w K Q else E := by
  rw [if_pos (by simp [Region.wanted, hgd])]
  unfold Oper.wp execOp
  simp only [ho, Act.eval, Sem.run_bind, hr, Sem.run_pure, Result.andThen_ok]
  unfold Oper.upon
  rw [hd]
  exact h
end
theorem make_41 (W : World) : (Instr.makeSlice 32 (.int .i64 41) (.int .i64 41)).run Try.prog W = .ok (.slice (some ⟨W.heap.size, 0, none⟩) 41 41) (W.alloc (.cells (flatR LF (List.replicate 41 Fd.zero)).toArray 30)) := by
  obtain ⟨ti, hin, hz0, hz1, hz2⟩ := info_parts info_fld
  rw [run_make (P := Try.prog) W 32 30 ti _ Try.underlying32 hin hz0 .i64 .i64 41 41 (by omega) (by omega) (by rw [hz2]; omega) (by omega), hz1, ← made_rep Fd.zero 41]
  rfl
theorem IsR.single {α : Type} {L : Lay α} {w : World} {b off c : Nat} {x : α} (h : w.rangeAt b off (L.f x)) (h1 : 1 ≤ c) (h2 : c ≤ 9223372036854775807) : IsR L w (.slice (some ⟨b, off, Option.none⟩) 1 c) [x] :=
  ⟨_, _, rfl, ⟨by simpa using h1, h2, fun _ => ⟨b, off, rfl, fun i y hi => by
    match i, hi with
    | 0, hi =>
      simp at hi
      subst hi
      rw [Nat.zero_mul, Nat.add_zero]
      exact h⟩, fun q => by cases q⟩⟩
theorem bad_row {f : Fd} (h : f.ok = false) : rowE [f] = 8 ∧ rowV [f] = [] ∧ f.err = 8 := by
  have e := rowE_bad (fs := [f]) (by simp) (List.mem_singleton.2 rfl) h
  refine ⟨e, ?_, ?_⟩
  · unfold rowV
    rw [e]
    rfl
  · unfold Fd.err
    rw [h]
    rfl
set_option maxRecDepth 100000 in
set_option maxHeartbeats 6400000 in
theorem names7_any (w : World) : Calls Try.prog 3 #[] w fun e w' => e = .returned (.bool true) ∧ Below w.heap.size w w' := by
  obtain ⟨ti, hin, hz0, hz1, hz2⟩ := info_parts info_fld
  obtain ⟨t8, h8n, h80, h81, h82⟩ := info_parts info_u8'
  have Ab0 := bz0
  have Ab1 := bz1 8
  have Ab2 := number_is 1 2
  have Ab3 := number_is 2 256
  have Ab4 := number_is 3 65536
  have Ab5 := number_is 4 4294967296
  have Ab6 := number_is 6 1
  have Ab7 := number_is 7 1
  have Ab8 := bzA 5
  have Ab9 := bzA 7
  have HFb : Hid (fcell 0 0 zeroD ++ (fcell 8 0 zeroD ++ (fcell 1 2 zeroD ++ (fcell 2 256 zeroD ++ (fcell 3 65536 zeroD ++ (fcell 4 4294967296 zeroD ++ (fcell 6 1 zeroD ++ (fcell 7 1 zeroD ++ (fcell 5 0 digA ++ fcell 7 0 digA)))))))) = flatR LF badF) := Lib.hid rfl
  have lb0 : (fcell 0 0 zeroD).length = 34 := rfl
  obtain ⟨Vb0, eb0⟩ : ∃ V, fcell 0 0 zeroD = V := ⟨_, rfl⟩
  rw [eb0] at Ab0 lb0 HFb
  have lb1 : (fcell 8 0 zeroD).length = 34 := rfl
  obtain ⟨Vb1, eb1⟩ : ∃ V, fcell 8 0 zeroD = V := ⟨_, rfl⟩
  rw [eb1] at Ab1 lb1 HFb
  have lb2 : (fcell 1 2 zeroD).length = 34 := rfl
  obtain ⟨Vb2, eb2⟩ : ∃ V, fcell 1 2 zeroD = V := ⟨_, rfl⟩
  rw [eb2] at Ab2 lb2 HFb
  have lb3 : (fcell 2 256 zeroD).length = 34 := rfl
  obtain ⟨Vb3, eb3⟩ : ∃ V, fcell 2 256 zeroD = V := ⟨_, rfl⟩
  rw [eb3] at Ab3 lb3 HFb
  have lb4 : (fcell 3 65536 zeroD).length = 34 := rfl
  obtain ⟨Vb4, eb4⟩ : ∃ V, fcell 3 65536 zeroD = V := ⟨_, rfl⟩
  rw [eb4] at Ab4 lb4 HFb
  have lb5 : (fcell 4 4294967296 zeroD).length = 34 := rfl
  obtain ⟨Vb5, eb5⟩ : ∃ V, fcell 4 4294967296 zeroD = V := ⟨_, rfl⟩
  rw [eb5] at Ab5 lb5 HFb
  have lb6 : (fcell 6 1 zeroD).length = 34 := rfl
  obtain ⟨Vb6, eb6⟩ : ∃ V, fcell 6 1 zeroD = V := ⟨_, rfl⟩
  rw [eb6] at Ab6 lb6 HFb
  have lb7 : (fcell 7 1 zeroD).length = 34 := rfl
  obtain ⟨Vb7, eb7⟩ : ∃ V, fcell 7 1 zeroD = V := ⟨_, rfl⟩
  rw [eb7] at Ab7 lb7 HFb
  have lb8 : (fcell 5 0 digA).length = 34 := rfl
  obtain ⟨Vb8, eb8⟩ : ∃ V, fcell 5 0 digA = V := ⟨_, rfl⟩
  rw [eb8] at Ab8 lb8 HFb
  have lb9 : (fcell 7 0 digA).length = 34 := rfl
  obtain ⟨Vb9, eb9⟩ : ∃ V, fcell 7 0 digA = V := ⟨_, rfl⟩
  rw [eb9] at Ab9 lb9 HFb
  have HBb := Lib.hid (fun W => run_bsliceN (P := Try.prog) (n := 10) W 32 30 ti _ 34 Try.underlying32 hin hz0 hz1 rfl [Vb0, Vb1, Vb2, Vb3, Vb4, Vb5, Vb6, Vb7, Vb8, Vb9] (by simp [lb0, lb1, lb2, lb3, lb4, lb5, lb6, lb7, lb8, lb9]) (by decide) (by simp) #[(0, .agg Vb0.toArray), (1, .agg Vb1.toArray), (2, .agg Vb2.toArray), (3, .agg Vb3.toArray), (4, .agg Vb4.toArray), (5, .agg Vb5.toArray), (6, .agg Vb6.toArray), (7, .agg Vb7.toArray), (8, .agg Vb8.toArray), (9, .agg Vb9.toArray)] rfl rfl (by decide))
  clear eb0 lb0 eb1 lb1 eb2 lb2 eb3 lb3 eb4 lb4 eb5 lb5 eb6 lb6 eb7 lb7 eb8 lb8 eb9 lb9
  have Af0 := number_is 2 255
  have Af1 := number_is 3 65535
  have Af2 := number_is 4 4294967295
  have Af3 := number_is 5 18446744073709551615
  have Af4 := bzB 6
  have Af5 := bz1 7
  have HFf : Hid (fcell 2 255 zeroD ++ (fcell 3 65535 zeroD ++ (fcell 4 4294967295 zeroD ++ (fcell 5 18446744073709551615 zeroD ++ (fcell 6 0 digB ++ fcell 7 0 zeroD)))) = flatR LF fineF) := Lib.hid rfl
  have lf0 : (fcell 2 255 zeroD).length = 34 := rfl
  obtain ⟨Vf0, ef0⟩ : ∃ V, fcell 2 255 zeroD = V := ⟨_, rfl⟩
  rw [ef0] at Af0 lf0 HFf
  have lf1 : (fcell 3 65535 zeroD).length = 34 := rfl
  obtain ⟨Vf1, ef1⟩ : ∃ V, fcell 3 65535 zeroD = V := ⟨_, rfl⟩
  rw [ef1] at Af1 lf1 HFf
  have lf2 : (fcell 4 4294967295 zeroD).length = 34 := rfl
  obtain ⟨Vf2, ef2⟩ : ∃ V, fcell 4 4294967295 zeroD = V := ⟨_, rfl⟩
  rw [ef2] at Af2 lf2 HFf
  have lf3 : (fcell 5 18446744073709551615 zeroD).length = 34 := rfl
  obtain ⟨Vf3, ef3⟩ : ∃ V, fcell 5 18446744073709551615 zeroD = V := ⟨_, rfl⟩
  rw [ef3] at Af3 lf3 HFf
  have lf4 : (fcell 6 0 digB).length = 34 := rfl
  obtain ⟨Vf4, ef4⟩ : ∃ V, fcell 6 0 digB = V := ⟨_, rfl⟩
  rw [ef4] at Af4 lf4 HFf
  have lf5 : (fcell 7 0 zeroD).length = 34 := rfl
  obtain ⟨Vf5, ef5⟩ : ∃ V, fcell 7 0 zeroD = V := ⟨_, rfl⟩
  rw [ef5] at Af5 lf5 HFf
  have HBf := Lib.hid (fun W => run_bsliceN (P := Try.prog) (n := 6) W 32 30 ti _ 34 Try.underlying32 hin hz0 hz1 rfl [Vf0, Vf1, Vf2, Vf3, Vf4, Vf5] (by simp [lf0, lf1, lf2, lf3, lf4, lf5]) (by decide) (by simp) #[(0, .agg Vf0.toArray), (1, .agg Vf1.toArray), (2, .agg Vf2.toArray), (3, .agg Vf3.toArray), (4, .agg Vf4.toArray), (5, .agg Vf5.toArray)] rfl rfl (by decide))
  clear ef0 lf0 ef1 lf1 ef2 lf2 ef3 lf3 ef4 lf4 ef5 lf5
  have dA := bdA
  have dB := bdB
  obtain ⟨DA, eDA⟩ : ∃ D, digA.map (Value.int .u8) = D := ⟨_, rfl⟩
  rw [eDA] at dA Ab8 Ab9
  clear eDA
  obtain ⟨DB, eDB⟩ : ∃ D, digB.map (Value.int .u8) = D := ⟨_, rfl⟩
  rw [eDB] at dB Af4
  clear eDB
  go_enter Try.func3, Try.ntmps3
  go_wp2_with fail
  go_loopw [2] (fun s2 wr => ∃ j : Nat, s2 = .int .i64 j ∧ j ≤ 7 ∧ Below w.heap.size w wr ∧ Hid (IsL wr .i64 (.slice (some ⟨w.heap.size, 0, none⟩) 7 7) widL)) (fun s2 _ => 7 - (intOf s2).toNat)
  case atStart => exact ⟨0, rfl, by omega, (Below.refl _ _).alloc (Nat.le_refl _) _, Lib.hid (IsL.built widL rfl rfl rfl rfl (by decide))⟩
  case round =>
    obtain ⟨j, rfl, hj, hB, HW⟩ := hrel
    by_cases hlt : j < 7
    · obtain ⟨b, off, he, hc⟩ := HW.out.get j hlt
      obtain ⟨k1, k2⟩ := widL_at hlt
      rw [k1] at hc
      cases he
      rw [Nat.zero_add] at hc
      have i0 : (0 : Int) ≤ (j : Int) := by omega
      have i1 : (j : Int) < 7 := by omega
      have C := fun W => width_is ((j : Int) + 1) W
      rw [k2] at C
      obtain ⟨K, hK⟩ : ∃ K : Int, ((wid ((j : Int) + 1) : Nat) : Int) = K := ⟨_, rfl⟩
      rw [hK] at C hc
      have hbn := bne_self_eq_false K
      have hwu : IntKind.u8.wrap ((j : Int) + 1) = (j : Int) + 1 := by rw [IntKind.wrap_u8]; omega
      clear k1 k2 hK
      go_wp2_with fail
      refine (C _).mono ?_
      rintro e w1 ⟨rfl, rfl⟩
      go_wp2_with fail
      go_roundw
      case rel => exact ⟨j + 1, by go_num, by omega, hB, HW⟩
      case measure => simp [intOf]; omega
    · obtain rfl : j = 7 := by omega
      clear HW hlt hj
      go_wp2_with fail
      refine (width_is 0 _).mono ?_
      rintro e w2 ⟨rfl, rfl⟩
      rw [show ((wid 0 : Nat) : Int) = 0 from rfl, show widE 0 = 2 from rfl]
      go_wp2_with fail
      refine (width_is 8 _).mono ?_
      rintro e w3 ⟨rfl, rfl⟩
      rw [show ((wid 8 : Nat) : Int) = 0 from rfl, show widE 8 = 2 from rfl]
      go_wp2_with fail
      refine (width_is 255 _).mono ?_
      rintro e w4 ⟨rfl, rfl⟩
      rw [show ((wid 255 : Nat) : Int) = 0 from rfl, show widE 255 = 2 from rfl]
      go_wp2_with (first
        | (refine wpList_buildN rfl 30 _ rfl (us := #[]) (by rfl) (Ab0 _) ?_)
        | (refine wpList_buildN rfl 30 _ rfl (us := #[(0, .int .u8 8)]) (by rfl) (Ab1 _) ?_))
      refine (Ab2 _).mono ?_
      rintro e w5 ⟨rfl, hb5⟩
      have hB5 := below_thru hB hb5
      clear hB hb5
      go_wp2_with fail
      refine (Ab3 _).mono ?_
      rintro e w6 ⟨rfl, hb6⟩
      have hB6 := below_thru hB5 hb6
      clear hB5 hb6
      go_wp2_with fail
      refine (Ab4 _).mono ?_
      rintro e w7 ⟨rfl, hb7⟩
      have hB7 := below_thru hB6 hb7
      clear hB6 hb7
      go_wp2_with fail
      refine (Ab5 _).mono ?_
      rintro e w8 ⟨rfl, hb8⟩
      have hB8 := below_thru hB7 hb8
      clear hB7 hb8
      go_wp2_with fail
      refine (Ab6 _).mono ?_
      rintro e w9 ⟨rfl, hb9⟩
      have hB9 := below_thru hB8 hb9
      clear hB8 hb9
      go_wp2_with fail
      refine (Ab7 _).mono ?_
      rintro e w10 ⟨rfl, hb10⟩
      have hB10 := below_thru hB9 hb10
      clear hB9 hb10
      have hs := hB10.size
      go_wp2_with (first | (first
        | (refine wpList_buildN rfl 28 _ rfl (us := #[(0, .int .u8 1)]) (by rfl) (dA _) ?_)
        | (refine wpList_buildN rfl 30 _ rfl (us := #[(0, .int .u8 5), (2, .agg DA.toArray)]) (by rfl) (Ab8 _) ?_)
        | (refine wpList_buildN rfl 30 _ rfl (us := #[(0, .int .u8 7), (2, .agg DA.toArray)]) (by rfl) (Ab9 _) ?_)) | (refine wpList_bsliceN rfl 32 10 _ rfl (us := #[(0, .agg Vb0.toArray), (1, .agg Vb1.toArray), (2, .agg Vb2.toArray), (3, .agg Vb3.toArray), (4, .agg Vb4.toArray), (5, .agg Vb5.toArray), (6, .agg Vb6.toArray), (7, .agg Vb7.toArray), (8, .agg Vb8.toArray), (9, .agg Vb9.toArray)]) (by rfl) (HBb.out _) ?_))
      have HRb := Lib.hid (show IsR LF (w10.alloc (.cells (Vb0 ++ (Vb1 ++ (Vb2 ++ (Vb3 ++ (Vb4 ++ (Vb5 ++ (Vb6 ++ (Vb7 ++ (Vb8 ++ Vb9))))))))).toArray 30)) (.slice (some ⟨w10.heap.size, 0, none⟩) 10 10) badF from IsR.built badF rfl (by rw [HFb.out]) rfl rfl (by decide))
      have hBb : Below w.heap.size w (w10.alloc (.cells (Vb0 ++ (Vb1 ++ (Vb2 ++ (Vb3 ++ (Vb4 ++ (Vb5 ++ (Vb6 ++ (Vb7 ++ (Vb8 ++ Vb9))))))))).toArray 30)) := hB10.alloc hs _
      clear HBb HFb hB10 Ab0 Ab1 Ab2 Ab3 Ab4 Ab5 Ab6 Ab7 Ab8 Ab9
      obtain ⟨bb, hbb⟩ : ∃ b, w10.heap.size = b := ⟨_, rfl⟩
      obtain ⟨wb, hwb⟩ : ∃ W, (w10.alloc (.cells (Vb0 ++ (Vb1 ++ (Vb2 ++ (Vb3 ++ (Vb4 ++ (Vb5 ++ (Vb6 ++ (Vb7 ++ (Vb8 ++ Vb9))))))))).toArray 30)) = W := ⟨_, rfl⟩
      rw [hwb, hbb] at HRb
      rw [hwb] at hBb
      rw [hwb, hbb]
      clear hwb hbb hs dA
      go_loopw [12] (fun s12 wr => ∃ j : Nat, s12 = .int .i64 j ∧ j ≤ 10 ∧ Below w.heap.size w wr ∧ Hid (IsR LF wr (.slice (some ⟨bb, 0, none⟩) 10 10) badF)) (fun s12 _ => 10 - (intOf s12).toNat)
      case atStart => exact ⟨0, rfl, by omega, hBb, HRb⟩
      case round =>
        obtain ⟨j, rfl, hj, hB, HW⟩ := hrel
        by_cases hlt : j < 10
        · obtain ⟨f, hf⟩ : ∃ f, badF[j]? = some f := ⟨_, List.getElem?_eq_getElem hlt⟩
          obtain ⟨b, off, he, hR⟩ := HW.out.get 34 rfl hf
          cases he
          rw [Nat.zero_add] at hR
          obtain ⟨r1, r2, r3⟩ := bad_row (badF_bad f (List.mem_of_getElem? hf))
          have i0 : (0 : Int) ≤ (j : Int) := by omega
          have i1 : (j : Int) < 10 := by omega
          have WR := fun (W : World) (v : Value) (h : IsR LF W v [f]) => write_is W h
          have SZ := fun (W : World) (v : Value) (h : IsR LF W v [f]) => size_is W h
          have CK := fun W => check_is f W
          rw [r1, r2] at WR SZ
          rw [r3] at CK
          have hS := lenFld f
          clear hf r1 r2 r3
          go_wp2_with fail
          refine (WR _ _ (IsR.single hR (by omega) (by omega))).mono ?_
          rintro e w1 ⟨v1, rfl, _, hb1⟩
          have hR1 := range_below hR hb1
          have hB1 := below_thru hB hb1
          clear WR
          go_wp2_with fail
          refine (SZ _ _ (IsR.single hR1 (by omega) (by omega))).mono ?_
          rintro e w2 ⟨rfl, hb2⟩
          have hR2 := range_below hR1 hb2
          have hB2 := below_thru hB1 hb2
          clear SZ hR hR1 hB1
          go_wp2_with (refine wpList_load_range rfl _ _ rfl hR2 rfl Try.underlying30 rfl hS ?_)
          refine (CK _).mono ?_
          rintro e w3 ⟨rfl, hb3⟩
          have hW3 := Lib.hid (((HW.out.below hb1).below hb2).below hb3)
          have hB3 := below_thru hB2 hb3
          clear hb1 hb2 hb3 hB2 hR2 CK HW
          go_wp2_with fail
          go_roundw
          case rel => exact ⟨j + 1, by go_num, by omega, hB3, hW3⟩
          case measure => simp [intOf]; omega
        · obtain rfl : j = 10 := by omega
          clear HW hlt hj HRb hBb
          go_wp2_with fail
          refine (Af0 _).mono ?_
          rintro e w21 ⟨rfl, hb21⟩
          have hB21 := below_thru hB hb21
          clear hB hb21
          go_wp2_with fail
          refine (Af1 _).mono ?_
          rintro e w22 ⟨rfl, hb22⟩
          have hB22 := below_thru hB21 hb22
          clear hB21 hb22
          go_wp2_with fail
          refine (Af2 _).mono ?_
          rintro e w23 ⟨rfl, hb23⟩
          have hB23 := below_thru hB22 hb23
          clear hB22 hb23
          go_wp2_with fail
          refine (Af3 _).mono ?_
          rintro e w24 ⟨rfl, hb24⟩
          have hB24 := below_thru hB23 hb24
          clear hB23 hb24
          have hs := hB24.size
          go_upto_region 19 with (first | (first
            | (refine wpList_buildN rfl 28 _ rfl (us := #[(31, .int .u8 9)]) (by rfl) (dB _) ?_)
            | (refine wpList_buildN rfl 30 _ rfl (us := #[(0, .int .u8 6), (2, .agg DB.toArray)]) (by rfl) (Af4 _) ?_)
            | (refine wpList_buildN rfl 30 _ rfl (us := #[(0, .int .u8 7)]) (by rfl) (Af5 _) ?_)) | (refine wpList_bsliceN rfl 32 6 _ rfl (us := #[(0, .agg Vf0.toArray), (1, .agg Vf1.toArray), (2, .agg Vf2.toArray), (3, .agg Vf3.toArray), (4, .agg Vf4.toArray), (5, .agg Vf5.toArray)]) (by rfl) (HBf.out _) ?_))
          have HRf := Lib.hid (show IsR LF (w24.alloc (.cells (Vf0 ++ (Vf1 ++ (Vf2 ++ (Vf3 ++ (Vf4 ++ Vf5))))).toArray 30)) (.slice (some ⟨w24.heap.size, 0, none⟩) 6 6) fineF from IsR.built fineF rfl (by rw [HFf.out]) rfl rfl (by decide))
          have hBf : Below w.heap.size w (w24.alloc (.cells (Vf0 ++ (Vf1 ++ (Vf2 ++ (Vf3 ++ (Vf4 ++ Vf5))))).toArray 30)) := hB24.alloc hs _
          clear HBf HFf hB24 hs dB Af0 Af1 Af2 Af3 Af4 Af5
          obtain ⟨bf, hbf⟩ : ∃ b, w24.heap.size = b := ⟨_, rfl⟩
          obtain ⟨wf, hwf⟩ : ∃ W, (w24.alloc (.cells (Vf0 ++ (Vf1 ++ (Vf2 ++ (Vf3 ++ (Vf4 ++ Vf5))))).toArray 30)) = W := ⟨_, rfl⟩
          rw [hwf, hbf] at HRf
          rw [hwf] at hBf
          rw [hwf, hbf]
          clear hwf hbf
          have SZ := size_is wf HRf.out
          rw [show rowE fineF = 0 from fineF_e, show ((rowV fineF).length : Nat) = 48 from by rw [rowV_ok fineF_e]; exact fineF_l] at SZ
          go_wp2_with fail
          refine (SZ).mono ?_
          rintro e w41 ⟨rfl, hb⟩
          have hB41 := below_thru hBf hb
          clear hBf hb
          clear SZ HRf
          have mk41 : ∀ W : World, (Instr.makeSlice 32 (.int .i64 41) (.int .i64 41)).run Try.prog W = .ok (.slice (some ⟨W.heap.size, 0, none⟩) 41 41) (W.alloc (.cells (flatR LF (List.replicate 41 Fd.zero)).toArray 30)) := fun W => make_41 W
          have W41 := fun (W : World) (v : Value) (h : IsR LF W v (List.replicate 41 Fd.zero)) => write_is W h
          rw [show rowV (List.replicate 41 Fd.zero) = [] from rfl, show rowE (List.replicate 41 Fd.zero) = 4 from rfl] at W41
          have I41 := fun (W : World) => (IsR.built (L := LF) (w := W) (t := 30) (List.replicate 41 Fd.zero) rfl rfl rfl rfl (by decide) : IsR LF _ (.slice (some ⟨W.heap.size, 0, none⟩) 41 41) _)
          obtain ⟨C41, hC41⟩ : ∃ C, (flatR LF (List.replicate 41 Fd.zero)).toArray = C := ⟨_, rfl⟩
          obtain ⟨F41, hF41⟩ : ∃ C, List.replicate 41 Fd.zero = C := ⟨_, rfl⟩
          rw [hC41] at mk41 I41
          rw [hF41] at W41 I41
          clear hC41 hF41
          have hs := hB41.size
          go_wp2_with fail
          refine (W41 _ _ (I41 _)).mono ?_
          rintro e w42 ⟨v41, rfl, _, hb⟩
          have hb := below_thru ((Below.refl _ _).alloc (Nat.le_refl _) _ : Below w41.heap.size w41 (w41.alloc (.cells C41 30))) hb
          have hB42 := below_thru hB41 hb
          clear hB41 hb
          clear mk41 W41 I41 hs
          have WN := write_is w42 (IsR.none (L := LF))
          rw [rowV_ok none_e, none_e, rowB_nil] at WN
          go_wp2_with fail
          refine (WN).mono ?_
          rintro e w43 ⟨vn, rfl, hn, hb⟩
          have hB43 := below_thru hB42 hb
          clear hB42 hb
          obtain ⟨an, cn, rfl, _, _⟩ := hn
          clear WN
          go_wp2_with fail
          go_loopw [24, 25] (fun s24 s25 wr => ∃ k : Nat, s25 = .int .i64 k ∧ k ≤ 41 ∧ Hid (wr.ownsRow w43.heap.size 5 1 s24 k ((manyK k).map (Value.int .u8))) ∧ Below w43.heap.size w43 wr) (fun _ s25 _ => 41 - (intOf s25).toNat)
          case atStart => exact ⟨0, rfl, by omega, Lib.hid ownU_nil, Below.refl _ _⟩
          case round =>
            obtain ⟨k, rfl, hk, HO, hB⟩ := hrel
            have hs := hB.size
            by_cases hlt : k < 41
            · have HT := Lib.hid (manyK_succ k)
              have i1 : (k : Int) < 41 := by omega
              have HO2 := Lib.hid (ownR_below HO.out ((Below.refl wr.heap.size wr).alloc (Nat.le_refl _) (.cells #[.int .u8 7] 5)))
              go_wp2_with (at_builtin; refine wpList_append_ints rfl _ _ 33 rfl w43.heap.size 5 t8 (.int .u8 0) 1 .u8 Try.underlying33 h8n h80 h81 h82 rfl _ k _ rfl HO2.out _ 1 [7] rfl ((IsL.built [7] rfl rfl rfl rfl (by simp)).ints) (fun h => by cases h) (by unfold maxLen; simp; omega) (by simp; omega) (by simp; omega) ?_; intro v4 w4 hown4 hgrow4)
              have hB4 : Below w43.heap.size w43 w4 := (hB.alloc hs _).grown hgrow4 (by simp; omega) (own_block HO2.out)
              have HO4 := Lib.hid (show w4.ownsRow w43.heap.size 5 1 v4 (k + 1) ((manyK (k + 1)).map (Value.int .u8)) by rw [HT.out, List.map_append]; exact hown4)
              clear hown4 hgrow4 HO2 HO
              go_wp2_with fail
              go_roundw
              case rel => exact ⟨k + 1, by go_num, by omega, HO4, hB4⟩
              case measure => simp [intOf]; omega
            · obtain rfl : k = 41 := by omega
              obtain ⟨a24, c24, rfl, hc1, hc2⟩ := own_sl HO.out
              have HM := Lib.hid (IsL.own HO.out (manyK_len 41).symm)
              have hB50 := below_thru hB43 hB
              clear HO hB hB43 hlt hk hs
              have mk39 : ∀ W : World, (Instr.makeSlice 33 (.int .i64 39) (.int .i64 39)).run Try.prog W = .ok (.slice (some ⟨W.heap.size, 0, none⟩) 39 39) (W.alloc (.cells (zb 39) 5)) := fun W => make_bytes 39 (by omega) W
              have mk40 : ∀ W : World, (Instr.makeSlice 33 (.int .i64 40) (.int .i64 40)).run Try.prog W = .ok (.slice (some ⟨W.heap.size, 0, none⟩) 40 40) (W.alloc (.cells (zb 40) 5)) := fun W => make_bytes 40 (by omega) W
              have mk7 : ∀ W : World, (Instr.makeSlice 33 (.int .i64 7) (.int .i64 7)).run Try.prog W = .ok (.slice (some ⟨W.heap.size, 0, none⟩) 7 7) (W.alloc (.cells (zb 7) 5)) := fun W => make_bytes 7 (by omega) W
              have I7 : ∀ (W : World) (b : Nat), b = W.heap.size → IsL (W.alloc (.cells (zb 7) 5)) .u8 (.slice (some ⟨b, 0, none⟩) 7 7) (List.replicate 7 0) := fun W b hb => IsL.built (List.replicate 7 0) hb rfl rfl rfl (by decide)
              have I39 : ∀ W : World, IsL (W.alloc (.cells (zb 39) 5)) .u8 (.slice (some ⟨W.heap.size, 0, none⟩) 39 39) (List.replicate 39 0) := fun W => IsL.built (List.replicate 39 0) rfl rfl rfl rfl (by decide)
              have I40 : ∀ W : World, IsL (W.alloc (.cells (zb 40) 5)) .u8 (.slice (some ⟨W.heap.size, 0, none⟩) 40 40) (List.replicate 40 0) := fun W => IsL.built (List.replicate 40 0) rfl rfl rfl rfl (by decide)
              have TK : ∀ W : World, IsL W .u8 (.slice a24 41 c24) (manyK 41) → IsL W .u8 (.slice a24 40 c24) (manyK 40) := fun W h => by have := h.taken (m := 40) (by decide); rwa [manyK_take] at this
              have R41 := fun (W : World) (a b : Value) (h1 : IsL W .u8 a (manyK 41)) (h2 : IsL W .u8 b []) => read_is W h1 h2 (manyK_byts _) Byts.nil
              rw [r_many] at R41
              have R39 := fun (W : World) (a b : Value) (h1 : IsL W .u8 a (manyK 40)) (h2 : IsL W .u8 b (List.replicate 39 0)) => read_is W h1 h2 (manyK_byts _) (zeros_byts _)
              rw [r_39] at R39
              have R40 := fun (W : World) (a b : Value) (h1 : IsL W .u8 a (manyK 40)) (h2 : IsL W .u8 b (List.replicate 40 0)) => read_is W h1 h2 (manyK_byts _) (zeros_byts _)
              rw [r_40.1] at R40
              have Rk0 := fun (W : World) (a b : Value) (h1 : IsL W .u8 a [0]) (h2 : IsL W .u8 b []) => read_is W h1 h2 (by decide) Byts.nil
              rw [r_k0] at Rk0
              have Rk8 := fun (W : World) (a b : Value) (h1 : IsL W .u8 a [7, 8]) (h2 : IsL W .u8 b []) => read_is W h1 h2 (by decide) Byts.nil
              rw [r_k8] at Rk8
              have Rlf := fun (W : World) (a b : Value) (h1 : IsL W .u8 a []) (h2 : IsL W .u8 b [0]) => read_is W h1 h2 Byts.nil (fun y hy => by simp at hy; omega)
              rw [r_left] at Rlf
              have Rnl := fun (W : World) (a b : Value) (h1 : IsL W .u8 a []) (h2 : IsL W .u8 b []) => read_is W h1 h2 Byts.nil Byts.nil
              rw [r_nil.1] at Rnl
              have l40 := r_40.2
              have lnl := r_nil.2
              obtain ⟨F41, hF41⟩ : ∃ F, reaF (manyK 41) [] = F := ⟨_, rfl⟩
              rw [hF41] at R41
              clear hF41
              obtain ⟨F39, hF39⟩ : ∃ F, reaF (manyK 40) (List.replicate 39 0) = F := ⟨_, rfl⟩
              rw [hF39] at R39
              clear hF39
              obtain ⟨F40, hF40⟩ : ∃ F, reaF (manyK 40) (List.replicate 40 0) = F := ⟨_, rfl⟩
              rw [hF40] at R40 l40
              clear hF40
              obtain ⟨Fk0, hFk0⟩ : ∃ F, reaF [0] [] = F := ⟨_, rfl⟩
              rw [hFk0] at Rk0
              clear hFk0
              obtain ⟨Fk8, hFk8⟩ : ∃ F, reaF [7, 8] [] = F := ⟨_, rfl⟩
              rw [hFk8] at Rk8
              clear hFk8
              obtain ⟨Flf, hFlf⟩ : ∃ F, reaF [] [0] = F := ⟨_, rfl⟩
              rw [hFlf] at Rlf
              clear hFlf
              obtain ⟨Fnl, hFnl⟩ : ∃ F, reaF [] [] = F := ⟨_, rfl⟩
              rw [hFnl] at Rnl lnl
              clear hFnl
              have Q1 := fun (W : World) (a b : Value) (h1 : IsL W .u8 a [2]) (h2 : IsL W .u8 b [1, 2, 3]) => first_is W h1 h2 (by decide) (fun y hy => by simp at hy; omega) (by decide)
              rw [f_one.1, f_one.2] at Q1
              have Q2 := fun (W : World) (a b : Value) (h1 : IsL W .u8 a [5]) (h2 : IsL W .u8 b (List.replicate 7 0)) => first_is W h1 h2 (by decide) (zeros_byts _) (by decide)
              rw [f_less] at Q2
              obtain ⟨FQ, hFQ⟩ : ∃ F, firF [2] [1, 2, 3] = F := ⟨_, rfl⟩
              rw [hFQ] at Q1
              obtain ⟨FP, hFP⟩ : ∃ F, firF [5] (List.replicate 7 0) = F := ⟨_, rfl⟩
              obtain ⟨BP, hBP⟩ : ∃ F, firR [5] (List.replicate 7 0) = F := ⟨_, rfl⟩
              rw [hFP, hBP] at Q2
              clear hFQ hFP hBP
              obtain ⟨K41, hK41⟩ : ∃ K, manyK 41 = K := ⟨_, rfl⟩
              obtain ⟨K40, hK40⟩ : ∃ K, manyK 40 = K := ⟨_, rfl⟩
              rw [hK41] at HM TK R41
              rw [hK40] at TK R39 R40
              clear hK41 hK40
              obtain ⟨Z39, hZ39⟩ : ∃ K, List.replicate 39 (0 : Int) = K := ⟨_, rfl⟩
              obtain ⟨C39, hC39⟩ : ∃ K, zb 39 = K := ⟨_, rfl⟩
              rw [hZ39] at I39 R39
              rw [hC39] at I39 mk39
              clear hZ39 hC39
              obtain ⟨Z40, hZ40⟩ : ∃ K, List.replicate 40 (0 : Int) = K := ⟨_, rfl⟩
              obtain ⟨C40, hC40⟩ : ∃ K, zb 40 = K := ⟨_, rfl⟩
              rw [hZ40] at I40 R40
              rw [hC40] at I40 mk40
              clear hZ40 hC40
              obtain ⟨Z7, hZ7⟩ : ∃ K, List.replicate 7 (0 : Int) = K := ⟨_, rfl⟩
              obtain ⟨C7, hC7⟩ : ∃ K, zb 7 = K := ⟨_, rfl⟩
              rw [hZ7] at I7 Q2
              rw [hC7] at I7 mk7
              clear hZ7 hC7
              have i40 : (40 : Int) ≤ (c24 : Int) := by omega
              go_wp2_with fail
              refine (R41 _ _ _ HM.out IsL.none).mono ?_
              rintro e w51 ⟨v41r, rfl, _, hb⟩
              have hB51 := below_thru hB50 hb
              have HM := Lib.hid (show IsL w51 .u8 (.slice a24 41 c24) K41 from HM.out.below hb)
              clear hB50 hb
              clear R41
              go_upto_region 29 with fail
              refine wp_region_held_drew (S := fun _ => True) (by kernel_rfl) trivial (fun _ => ?_)
              refine F_drew (F := fun W => wpAnyH _ _ _ _ _ _ _ _ W) ?_
              intro W0p hb0
              refine takeH 0 168 (v := ?vp0_1) rfl (by rfl) (by kernel_rfl) (by kernel_rfl) (by kernel_rfl) (fun _ _ _ h => h) (Or.inl ⟨by rfl, ?_⟩) (trivial) ?_
              rotate_left
              · intro wq hSq
                go_simp
                exact rfl
              try simp only [Act.put, List.setIfInBounds_toArray, List.set_cons_zero, List.set_cons_succ]
              refine takeH 1 169 (v := ?vp1_2) rfl (by rfl) (by kernel_rfl) (by kernel_rfl) (by kernel_rfl) (fun _ _ _ h => h) (Or.inl ⟨by rfl, ?_⟩) (trivial) ?_
              rotate_left
              · intro wq hSq
                go_simp
                exact rfl
              try simp only [Act.put, List.setIfInBounds_toArray, List.set_cons_zero, List.set_cons_succ]
              refine wpAnyH_ready (rs := [2]) (by kernel_rfl) (by simp) (AllReadyH.cons rfl (fun K hK => ?_) AllReadyH.nil)
              refine step_makeH 170 rfl rfl _ _ _ rfl (mk39 _) ?_
              refine hK.out _ _ trivial (fun _ => ?_); clear hK K
              refine wpAnyH_ready (rs := [3]) (by kernel_rfl) (by simp) (AllReadyH.cons rfl (fun K hK => ?_) AllReadyH.nil)
              go_simp
              refine (R39 _ _ _ (((TK _ (HM.out.below hb0)).alloc _)) (I39 _)).mono ?_
              rintro e Wp ⟨v29, rfl, ho, hb⟩
              have hb := below_thru (below_thru hb0 ((Below.refl _ _).alloc (Nat.le_refl _) _)) hb
              refine hK.out _ _ trivial (fun _ => ?_); clear hK K
              refine takeH 4 167 (v := ?vp4_5) rfl (by rfl) (by kernel_rfl) (by kernel_rfl) (by kernel_rfl) (fun _ _ _ h => h) (Or.inl ⟨by rfl, ?_⟩) (trivial) ?_
              rotate_left
              · intro wq hSq
                go_simp
                exact rfl
              try simp only [Act.put, List.setIfInBounds_toArray, List.set_cons_zero, List.set_cons_succ]
              refine takeH 5 172 (v := ?vp5_6) rfl (by rfl) (by kernel_rfl) (by kernel_rfl) (by kernel_rfl) (fun _ _ _ h => h) (Or.inl ⟨by rfl, ?_⟩) (trivial) ?_
              rotate_left
              · intro wq hSq
                go_simp
                exact rfl
              try simp only [Act.put, List.setIfInBounds_toArray, List.set_cons_zero, List.set_cons_succ]
              refine takeH 6 173 (v := ?vp6_7) rfl (by rfl) (by kernel_rfl) (by kernel_rfl) (by kernel_rfl) (fun _ _ _ h => h) (Or.inl ⟨by rfl, ?_⟩) (trivial) ?_
              rotate_left
              · intro wq hSq
                go_simp
                exact rfl
              try simp only [Act.put, List.setIfInBounds_toArray, List.set_cons_zero, List.set_cons_succ]
              refine takeH 7 28 (v := ?vp7_8) rfl (by rfl) (by kernel_rfl) (by kernel_rfl) (by kernel_rfl) (fun _ _ _ h => h) (Or.inl ⟨by rfl, ?_⟩) (trivial) ?_
              rotate_left
              · intro wq hSq
                go_simp
                exact rfl
              try simp only [Act.put, List.setIfInBounds_toArray, List.set_cons_zero, List.set_cons_succ]
              refine takeH 8 29 (v := ?vp8_9) rfl (by rfl) (by kernel_rfl) (by kernel_rfl) (by kernel_rfl) (fun _ _ _ h => h) (Or.inl ⟨by rfl, ?_⟩) (trivial) ?_
              rotate_left
              · intro wq hSq
                go_simp
                exact rfl
              try simp only [Act.put, List.setIfInBounds_toArray, List.set_cons_zero, List.set_cons_succ]
              refine wpAnyH_done (by kernel_rfl) ?_ _
              skip
              clear hb0 ho
              have hB52 := below_thru hB51 hb
              have HM := Lib.hid (show IsL Wp .u8 (.slice a24 41 c24) K41 from HM.out.below hb)
              clear hB51 hb
              clear R39 mk39 I39
              go_upto_region 30 with fail
              refine wp_region_held_drew (S := fun _ => True) (by kernel_rfl) trivial (fun _ => ?_)
              refine F_drew (F := fun W => wpAnyH _ _ _ _ _ _ _ _ W) ?_
              intro W0q hb0
              refine takeH 0 175 (v := ?vq0_1) rfl (by rfl) (by kernel_rfl) (by kernel_rfl) (by kernel_rfl) (fun _ _ _ h => h) (Or.inl ⟨by rfl, ?_⟩) (trivial) ?_
              rotate_left
              · intro wq hSq
                go_simp
                exact rfl
              try simp only [Act.put, List.setIfInBounds_toArray, List.set_cons_zero, List.set_cons_succ]
              refine takeH 1 176 (v := ?vq1_2) rfl (by rfl) (by kernel_rfl) (by kernel_rfl) (by kernel_rfl) (fun _ _ _ h => h) (Or.inl ⟨by rfl, ?_⟩) (trivial) ?_
              rotate_left
              · intro wq hSq
                go_simp
                exact rfl
              try simp only [Act.put, List.setIfInBounds_toArray, List.set_cons_zero, List.set_cons_succ]
              refine wpAnyH_ready (rs := [2]) (by kernel_rfl) (by simp) (AllReadyH.cons rfl (fun K hK => ?_) AllReadyH.nil)
              refine step_makeH 177 rfl rfl _ _ _ rfl (mk40 _) ?_
              refine hK.out _ _ trivial (fun _ => ?_); clear hK K
              refine wpAnyH_ready (rs := [3]) (by kernel_rfl) (by simp) (AllReadyH.cons rfl (fun K hK => ?_) AllReadyH.nil)
              go_simp
              refine (R40 _ _ _ (((TK _ (HM.out.below hb0)).alloc _)) (I40 _)).mono ?_
              rintro e Wq ⟨v30, rfl, ho, hb⟩
              have hb := below_thru (below_thru hb0 ((Below.refl _ _).alloc (Nat.le_refl _) _)) hb
              refine hK.out _ _ trivial (fun _ => ?_); clear hK K
              refine takeH 4 174 (v := ?vq4_5) rfl (by rfl) (by kernel_rfl) (by kernel_rfl) (by kernel_rfl) (fun _ _ _ h => h) (Or.inl ⟨by rfl, ?_⟩) (trivial) ?_
              rotate_left
              · intro wq hSq
                go_simp
                exact rfl
              try simp only [Act.put, List.setIfInBounds_toArray, List.set_cons_zero, List.set_cons_succ]
              refine takeH 5 179 (v := ?vq5_6) rfl (by rfl) (by kernel_rfl) (by kernel_rfl) (by kernel_rfl) (fun _ _ _ h => h) (Or.inl ⟨by rfl, ?_⟩) (trivial) ?_
              rotate_left
              · intro wq hSq
                go_simp
                exact rfl
              try simp only [Act.put, List.setIfInBounds_toArray, List.set_cons_zero, List.set_cons_succ]
              refine takeH 6 180 (v := ?vq6_7) rfl (by rfl) (by kernel_rfl) (by kernel_rfl) (by kernel_rfl) (fun _ _ _ h => h) (Or.inl ⟨by rfl, ?_⟩) (trivial) ?_
              rotate_left
              · intro wq hSq
                go_simp
                exact rfl
              try simp only [Act.put, List.setIfInBounds_toArray, List.set_cons_zero, List.set_cons_succ]
              refine takeH 7 30 (v := ?vq7_8) rfl (by rfl) (by kernel_rfl) (by kernel_rfl) (by kernel_rfl) (fun _ _ _ h => h) (Or.inl ⟨by rfl, ?_⟩) (trivial) ?_
              rotate_left
              · intro wq hSq
                go_simp
                exact rfl
              try simp only [Act.put, List.setIfInBounds_toArray, List.set_cons_zero, List.set_cons_succ]
              refine takeH 8 31 (v := ?vq8_9) rfl (by rfl) (by kernel_rfl) (by kernel_rfl) (by kernel_rfl) (fun _ _ _ h => h) (Or.inl ⟨by rfl, ?_⟩) (trivial) ?_
              rotate_left
              · intro wq hSq
                go_simp
                exact rfl
              try simp only [Act.put, List.setIfInBounds_toArray, List.set_cons_zero, List.set_cons_succ]
              refine wpAnyH_done (by kernel_rfl) ?_ _
              skip
              obtain ⟨a30, c30, e30, _⟩ := IsR.own ho rfl rfl; rw [l40] at e30; subst e30
              clear hb0 ho
              have hB53 := below_thru hB52 hb
              have HM := Lib.hid (show IsL Wq .u8 (.slice a24 41 c24) K41 from HM.out.below hb)
              clear hB52 hb
              clear R40 mk40 I40 TK HM l40 i40 hc1 hc2
              have hs := hB53.size
              go_wp2_with fail
              refine (Rk0 _ _ _ (IsL.built [0] rfl rfl rfl rfl (by simp)) IsL.none).mono ?_
              rintro e w54 ⟨v31, rfl, _, hb⟩
              have hb : Below Wq.heap.size Wq w54 := below_thru (by go_grown) hb
              clear hs
              have hB54 := below_thru hB53 hb
              clear hB53 hb
              have hs := hB54.size
              go_wp2_with fail
              refine (Rk8 _ _ _ (IsL.built [7, 8] rfl rfl rfl rfl (by simp)) IsL.none).mono ?_
              rintro e w55 ⟨v32, rfl, _, hb⟩
              have hb : Below w54.heap.size w54 w55 := below_thru (by go_grown) hb
              clear hs
              have hB55 := below_thru hB54 hb
              clear hB54 hb
              have hs := hB55.size
              go_wp2_with fail
              refine (Rlf _ _ _ IsL.none (IsL.built [0] rfl rfl rfl rfl (by simp))).mono ?_
              rintro e w56 ⟨v33, rfl, _, hb⟩
              have hb : Below w55.heap.size w55 w56 := below_thru (by go_grown) hb
              clear hs
              have hB56 := below_thru hB55 hb
              clear hB55 hb
              have hs := hB56.size
              go_wp2_with fail
              refine (Rnl _ _ _ IsL.none IsL.none).mono ?_
              rintro e w57 ⟨v34, rfl, ho, hb⟩
              have hb : Below w56.heap.size w56 w57 := below_thru (by go_grown) hb
              obtain ⟨a34, c34, e34, _⟩ := IsR.own ho rfl rfl; rw [lnl] at e34; subst e34; clear ho
              clear hs
              have hB57 := below_thru hB56 hb
              clear hB56 hb
              clear Rk0 Rk8 Rlf Rnl lnl
              have hs := hB57.size
              go_wp2_with fail
              refine (Q1 _ _ _ (IsL.alloc (IsL.built [2] rfl rfl rfl rfl (by simp)) _) (IsL.built [1, 2, 3] (World.size_alloc _ _).symm rfl rfl rfl (by simp))).mono ?_
              rintro e w58 ⟨v35, u35, rfl, _, hu, hb⟩
              have hb : Below w57.heap.size w57 w58 := below_thru (by go_grown) hb
              have HU := Lib.hid (IsL.own hu rfl); clear hu
              clear hs
              have hB58 := below_thru hB57 hb
              clear hB57 hb
              have hs := hB58.size
              go_wp2_with fail
              refine (Q2 _ _ _ (IsL.alloc (IsL.built [5] rfl rfl rfl rfl (by simp)) _) (I7 _ _ (World.size_alloc _ _).symm)).mono ?_
              rintro e w59 ⟨v36, u36, rfl, _, _, hb⟩
              have hb : Below w58.heap.size w58 w59 := below_thru (by go_grown) hb
              clear hs
              have hB59 := below_thru hB58 hb
              have HU := Lib.hid (show IsL w59 .u8 u35 [2, 3] from HU.out.below hb)
              clear hB58 hb
              clear Q1 Q2 mk7 I7
              have hs := hB59.size
              go_wp2_with fail
              refine (sameb_tt _ (HU.out.alloc _) (IsL.built [2, 3] rfl rfl rfl rfl (by simp))).mono ?_
              rintro e wy ⟨rfl, hb⟩
              have hBy := below_thru (hB59.alloc hs _) hb
              go_wp2_with fail
              refine (alive_is _).mono ?_
              rintro e wz ⟨rfl, hb2⟩
              go_wp2_with fail
              go_returns
              exact ⟨rfl, below_thru hBy hb2⟩

end Go.Proofs.Ytpjonhfphfkdiaa
