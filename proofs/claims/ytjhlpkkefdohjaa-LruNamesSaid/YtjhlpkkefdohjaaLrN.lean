/-
  LruNames, walked.
-/
import Derived.Test.YtjhlpkkefdohjaaLrN0
namespace Go.Proofs.Ytjhlpkkefdohjaa
open Go.RowKit

set_option maxRecDepth 100000 in
set_option maxHeartbeats 6400000 in
theorem names15_is (w : World) : Calls Try.prog 4 #[] w fun e w' => e = .returned (.bool true) ∧ Below w.heap.size w w' := by
  have AL := fun W => alive15_is W
  have hB0 := Below.refl w.heap.size w
  have hs0 := hB0.size
  go_enter Try.func4, Try.ntmps4
  go_upto_region 2 with fail
  refine F_gen (F := fun W => Code.wp _ _ _ _ W) (J := fun W => Hid (IsR LI W (.slice (some ⟨w.heap.size, 0, none⟩) 2 2) [-1, -1]) ∧ Below w.heap.size w W) (And.intro (Lib.hid (IsR.built [-1, -1] rfl rfl rfl rfl (by decide))) ((Below.refl _ _).alloc (Nat.le_refl _) _)) ?_
  intro wT ⟨HT, hBT⟩; have hsT := hBT.size; clear hB0 hs0
  obtain ⟨gT, hgT⟩ : ∃ g, w.heap.size = g := ⟨_, rfl⟩; rw [hgT] at HT ⊢; clear hgT
  have CT := HT.out.getI (i := 0) (x := -1) rfl
  obtain ⟨gb, go, eg, ct⟩ := CT; cases eg; have HC := Lib.hid (show wT.cell? ⟨gT, 0, none⟩ = some (.int .i64 (-1)) from ct); clear ct
  refine wp_region_iny (I := fun D a W => ∃ us : Nat → Value, a = { tmps := #[.bool false, .slice (some ⟨gT, 0, none⟩) 2 2, us 34, undef, undef, undef, undef, undef, undef, undef, undef, undef, undef, undef, undef, undef, undef, undef, undef, undef, undef, undef, undef, undef, undef, undef, undef, undef, undef, .slice (some ⟨gT, 0, none⟩) 2 2, us 0, us 1, us 2, us 3, us 4, us 5, us 6, us 7, us 8, us 9, us 10, us 11, us 12, us 13, us 14, us 15, us 16, us 17, us 18, us 19, us 20, us 21, us 22, us 23, us 24, us 25, us 26, us 27, us 28, us 29, us 30, us 31, us 32, us 33, undef, undef, undef, undef, undef, undef, undef, undef, undef, undef, undef, undef, undef, undef, undef, undef, undef, undef, undef, undef, undef, undef, undef, undef, undef, undef, undef, undef, undef, undef, undef, undef, undef, undef, undef, undef, undef, undef, undef, undef, undef, undef, undef, undef, undef, undef, undef, undef, undef, undef, undef, undef, undef, undef, undef, undef, undef, undef, undef, undef, undef, undef, undef, undef, undef, undef, undef, undef, undef, undef, undef, undef, undef, undef, undef, undef, undef, undef, undef, undef, undef, undef, undef, undef, undef, undef, undef, undef, undef, undef, undef, undef, undef, undef, undef, undef, undef, undef, undef, undef, undef, undef, undef, undef, undef, undef, undef, undef, undef, undef, undef, undef, undef, undef, undef, undef, undef, undef, undef, undef, undef, undef, undef, undef, undef, undef, undef, undef, undef, undef, undef, undef, undef, undef, undef, undef, undef, undef, undef, undef], defers := [] } ∧ Below wT.heap.size wT W ∧ ∀ j, D j → Sp15 gT j (us j) W) (by kernel_rfl) ?ac ⟨fun _ => undef, rfl, Below.drew (Below.refl _ _), fun j h => h.elim⟩ ?st ?fi
  case ac =>
    exact ac_of_booly (by kernel_rfl)
  case st =>
    refine StepsIn.cons rfl ?_ (StepsIn.cons rfl ?_ (StepsIn.cons rfl ?_ (StepsIn.cons rfl ?_ (StepsIn.cons rfl ?_ (StepsIn.cons rfl ?_ (StepsIn.cons rfl ?_ (StepsIn.cons rfl ?_ (StepsIn.cons rfl ?_ (StepsIn.cons rfl ?_ (StepsIn.cons rfl ?_ (StepsIn.cons rfl ?_ (StepsIn.cons rfl ?_ (StepsIn.cons rfl ?_ (StepsIn.cons rfl ?_ (StepsIn.cons rfl ?_ (StepsIn.cons rfl ?_ (StepsIn.cons rfl ?_ (StepsIn.cons rfl ?_ (StepsIn.cons rfl ?_ (StepsIn.cons rfl ?_ (StepsIn.cons rfl ?_ (StepsIn.cons rfl ?_ (StepsIn.cons rfl ?_ (StepsIn.cons rfl ?_ (StepsIn.cons rfl ?_ (StepsIn.cons rfl ?_ (StepsIn.cons rfl ?_ (StepsIn.cons rfl ?_ (StepsIn.cons rfl ?_ (StepsIn.cons rfl ?_ (StepsIn.cons rfl ?_ (StepsIn.cons rfl ?_ (StepsIn.cons rfl ?_ (StepsIn.cons rfl ?_ StepsIn.nil))))))))))))))))))))))))))))))))))
    · rintro D a W ⟨us, rfl, hB, hS⟩ hn9 he K hK
      clear hn9
      have HSP := Lib.hid (isO_agg (w := W) (x := 0) (y := 0) IsR.none IsR.none)
      have HS := Lib.hid hS; have HE := Lib.hid (And.intro trivial trivial)
      clear he hS 
      go_simp
      exact hK.out _ _ ⟨fun k => if k = 0 then _ else us k, rfl, hB, sq_next HS.out (Below.refl _ _) (sq_a rfl rfl rfl rfl HSP.out)⟩
    · rintro D a W ⟨us, rfl, hB, hS⟩ hn9 he K hK
      clear hn9
      have HSP := Lib.hid (isO_agg (w := W) (x := (-1)) (y := (-1)) IsR.none IsR.none)
      have HS := Lib.hid hS; have HE := Lib.hid (And.intro trivial trivial)
      clear he hS 
      go_simp
      exact hK.out _ _ ⟨fun k => if k = 1 then _ else us k, rfl, hB, sq_next HS.out (Below.refl _ _) (sq_a rfl rfl rfl rfl HSP.out)⟩
    · rintro D a W ⟨us, rfl, hB, hS⟩ hn9 he K hK
      clear hn9
      have hm := make_l17 W
      clear he
      go_simp
      exact hK.out _ _ ⟨fun k => if k = 2 then _ else us k, rfl, hB.alloc (by have := hB.size; omega) _, sq_next hS ((Below.refl _ _).alloc (Nat.le_refl _) _) (sq_i rfl rfl rfl rfl (isR_newL (nk 17 0) 17 _ rfl rfl (by decide)))⟩
    · rintro D a W ⟨us, rfl, hB, hS⟩ hn9 he K hK
      clear hn9
      have hm := make_l17 W
      clear he
      go_simp
      exact hK.out _ _ ⟨fun k => if k = 3 then _ else us k, rfl, hB.alloc (by have := hB.size; omega) _, sq_next hS ((Below.refl _ _).alloc (Nat.le_refl _) _) (sq_i rfl rfl rfl rfl (isR_newL (nk 17 0) 17 _ rfl rfl (by decide)))⟩
    · rintro D a W ⟨us, rfl, hB, hS⟩ hn9 he K hK
      clear hn9
      have ha := (hS 2 (he ⟨2, .data⟩ (by simp) rfl)).i _ rfl; obtain ⟨pa, ca, ea, hra⟩ := id ha
      have hb := (hS 3 (he ⟨3, .data⟩ (by simp) rfl)).i _ rfl; obtain ⟨pb, cb, eb, hrb⟩ := id hb
      have HSP := Lib.hid (isO_agg (w := W) (x := 0) (y := 0) ha hb)
      rw [ea] at HSP ⊢
      rw [eb] at HSP ⊢
      have HS := Lib.hid hS; have HE := Lib.hid (And.intro ea eb)
      clear he hS ha hra ea hb hrb eb
      go_simp
      exact hK.out _ _ ⟨fun k => if k = 4 then _ else us k, by simp [HE.out.1, HE.out.2], hB, sq_next HS.out (Below.refl _ _) (sq_a rfl rfl rfl rfl HSP.out)⟩
    · rintro D a W ⟨us, rfl, hB, hS⟩ hn9 he K hK
      clear hn9
      have H2 := HT.out.below hB; clear he; have HS := Lib.hid hS; clear hS
      go_simp
      exact hK.out _ _ ⟨fun k => if k = 5 then .slice (some ⟨gT, 0, none⟩) 2 2 else us k, rfl, hB, sq_next HS.out (Below.refl _ _) (sq_t rfl rfl rfl H2)⟩
    · rintro D a W ⟨us, rfl, hB, hS⟩ hn9 he K hK
      clear hn9
      have H2 := HT.out.below hB; clear he; have HS := Lib.hid hS; clear hS
      go_simp
      exact hK.out _ _ ⟨fun k => if k = 6 then .slice (some ⟨gT, 0, none⟩) 2 2 else us k, rfl, hB, sq_next HS.out (Below.refl _ _) (sq_t rfl rfl rfl H2)⟩
    · rintro D a W ⟨us, rfl, hB, hS⟩ hn9 he K hK
      clear hn9
      have e6 := (hS 6 (he ⟨6, .data⟩ (by simp) rfl)).t rfl
      have H2 := isR_one (c := 2) (cell_below hB HC.out) (by decide) (by decide); have HS := Lib.hid hS; have HE := Lib.hid e6; clear he hS
      rw [e6]; clear e6
      go_simp
      exact hK.out _ _ ⟨fun k => if k = 7 then .slice (some ⟨gT, 0, none⟩) 1 2 else us k, by simp [HE.out], hB, sq_next HS.out (Below.refl _ _) (sq_i rfl rfl rfl rfl H2)⟩
    · rintro D a W ⟨us, rfl, hB, hS⟩ hn9 he K hK
      clear hn9
      have ha := (hS 5 (he ⟨5, .data⟩ (by simp) rfl)).i _ rfl; obtain ⟨pa, ca, ea, hra⟩ := id ha
      have hb := (hS 7 (he ⟨7, .data⟩ (by simp) rfl)).i _ rfl; obtain ⟨pb, cb, eb, hrb⟩ := id hb
      have HSP := Lib.hid (isO_agg (w := W) (x := (-1)) (y := (-1)) ha hb)
      rw [ea] at HSP ⊢
      rw [eb] at HSP ⊢
      have HS := Lib.hid hS; have HE := Lib.hid (And.intro ea eb)
      clear he hS ha hra ea hb hrb eb
      go_simp
      exact hK.out _ _ ⟨fun k => if k = 8 then _ else us k, by simp [HE.out.1, HE.out.2], hB, sq_next HS.out (Below.refl _ _) (sq_a rfl rfl rfl rfl HSP.out)⟩
    · rintro D a W ⟨us, rfl, hB, hS⟩ hn9 he K hK
      clear hn9
      have H2 := HT.out.below hB; clear he; have HS := Lib.hid hS; clear hS
      go_simp
      exact hK.out _ _ ⟨fun k => if k = 9 then .slice (some ⟨gT, 0, none⟩) 2 2 else us k, rfl, hB, sq_next HS.out (Below.refl _ _) (sq_t rfl rfl rfl H2)⟩
    · rintro D a W ⟨us, rfl, hB, hS⟩ hn9 he K hK
      clear hn9
      have H2 := HT.out.below hB; clear he; have HS := Lib.hid hS; clear hS
      go_simp
      exact hK.out _ _ ⟨fun k => if k = 10 then .slice (some ⟨gT, 0, none⟩) 2 2 else us k, rfl, hB, sq_next HS.out (Below.refl _ _) (sq_t rfl rfl rfl H2)⟩
    · rintro D a W ⟨us, rfl, hB, hS⟩ hn9 he K hK
      clear hn9
      have ha := (hS 9 (he ⟨9, .data⟩ (by simp) rfl)).i _ rfl; obtain ⟨pa, ca, ea, hra⟩ := id ha
      have hb := (hS 10 (he ⟨10, .data⟩ (by simp) rfl)).i _ rfl; obtain ⟨pb, cb, eb, hrb⟩ := id hb
      have HSP := Lib.hid (isO_agg (w := W) (x := 0) (y := 0) ha hb)
      rw [ea] at HSP ⊢
      rw [eb] at HSP ⊢
      have HS := Lib.hid hS; have HE := Lib.hid (And.intro ea eb)
      clear he hS ha hra ea hb hrb eb
      go_simp
      exact hK.out _ _ ⟨fun k => if k = 11 then _ else us k, by simp [HE.out.1, HE.out.2], hB, sq_next HS.out (Below.refl _ _) (sq_a rfl rfl rfl rfl HSP.out)⟩
    · rintro D a W ⟨us, rfl, hB, hS⟩ hn9 he K hK
      clear hn9
      have H2 := HT.out.below hB; clear he; have HS := Lib.hid hS; clear hS
      go_simp
      exact hK.out _ _ ⟨fun k => if k = 12 then .slice (some ⟨gT, 0, none⟩) 2 2 else us k, rfl, hB, sq_next HS.out (Below.refl _ _) (sq_t rfl rfl rfl H2)⟩
    · rintro D a W ⟨us, rfl, hB, hS⟩ hn9 he K hK
      clear hn9
      have H2 := HT.out.below hB; clear he; have HS := Lib.hid hS; clear hS
      go_simp
      exact hK.out _ _ ⟨fun k => if k = 13 then .slice (some ⟨gT, 0, none⟩) 2 2 else us k, rfl, hB, sq_next HS.out (Below.refl _ _) (sq_t rfl rfl rfl H2)⟩
    · rintro D a W ⟨us, rfl, hB, hS⟩ hn9 he K hK
      clear hn9
      have ha := (hS 12 (he ⟨12, .data⟩ (by simp) rfl)).i _ rfl; obtain ⟨pa, ca, ea, hra⟩ := id ha
      have hb := (hS 13 (he ⟨13, .data⟩ (by simp) rfl)).i _ rfl; obtain ⟨pb, cb, eb, hrb⟩ := id hb
      have HSP := Lib.hid (isO_agg (w := W) (x := 2) (y := 2) ha hb)
      rw [ea] at HSP ⊢
      rw [eb] at HSP ⊢
      have HS := Lib.hid hS; have HE := Lib.hid (And.intro ea eb)
      clear he hS ha hra ea hb hrb eb
      go_simp
      exact hK.out _ _ ⟨fun k => if k = 14 then _ else us k, by simp [HE.out.1, HE.out.2], hB, sq_next HS.out (Below.refl _ _) (sq_a rfl rfl rfl rfl HSP.out)⟩
    · rintro D a W ⟨us, rfl, hB, hS⟩ hn9 he K hK
      clear hn9
      have H2 := HT.out.below hB; clear he; have HS := Lib.hid hS; clear hS
      go_simp
      exact hK.out _ _ ⟨fun k => if k = 15 then .slice (some ⟨gT, 0, none⟩) 2 2 else us k, rfl, hB, sq_next HS.out (Below.refl _ _) (sq_t rfl rfl rfl H2)⟩
    · rintro D a W ⟨us, rfl, hB, hS⟩ hn9 he K hK
      clear hn9
      have H2 := HT.out.below hB; clear he; have HS := Lib.hid hS; clear hS
      go_simp
      exact hK.out _ _ ⟨fun k => if k = 16 then .slice (some ⟨gT, 0, none⟩) 2 2 else us k, rfl, hB, sq_next HS.out (Below.refl _ _) (sq_t rfl rfl rfl H2)⟩
    · rintro D a W ⟨us, rfl, hB, hS⟩ hn9 he K hK
      clear hn9
      have ha := (hS 15 (he ⟨15, .data⟩ (by simp) rfl)).i _ rfl; obtain ⟨pa, ca, ea, hra⟩ := id ha
      have hb := (hS 16 (he ⟨16, .data⟩ (by simp) rfl)).i _ rfl; obtain ⟨pb, cb, eb, hrb⟩ := id hb
      have HSP := Lib.hid (isO_agg (w := W) (x := (-2)) (y := (-1)) ha hb)
      rw [ea] at HSP ⊢
      rw [eb] at HSP ⊢
      have HS := Lib.hid hS; have HE := Lib.hid (And.intro ea eb)
      clear he hS ha hra ea hb hrb eb
      go_simp
      exact hK.out _ _ ⟨fun k => if k = 17 then _ else us k, by simp [HE.out.1, HE.out.2], hB, sq_next HS.out (Below.refl _ _) (sq_a rfl rfl rfl rfl HSP.out)⟩
    · rintro D a W ⟨us, rfl, hB, hS⟩ hn9 he K hK
      clear hn9
      have H2 := HT.out.below hB; clear he; have HS := Lib.hid hS; clear hS
      go_simp
      exact hK.out _ _ ⟨fun k => if k = 18 then .slice (some ⟨gT, 0, none⟩) 2 2 else us k, rfl, hB, sq_next HS.out (Below.refl _ _) (sq_t rfl rfl rfl H2)⟩
    · rintro D a W ⟨us, rfl, hB, hS⟩ hn9 he K hK
      clear hn9
      have H2 := HT.out.below hB; clear he; have HS := Lib.hid hS; clear hS
      go_simp
      exact hK.out _ _ ⟨fun k => if k = 19 then .slice (some ⟨gT, 0, none⟩) 2 2 else us k, rfl, hB, sq_next HS.out (Below.refl _ _) (sq_t rfl rfl rfl H2)⟩
    · rintro D a W ⟨us, rfl, hB, hS⟩ hn9 he K hK
      clear hn9
      have ha := (hS 18 (he ⟨18, .data⟩ (by simp) rfl)).i _ rfl; obtain ⟨pa, ca, ea, hra⟩ := id ha
      have hb := (hS 19 (he ⟨19, .data⟩ (by simp) rfl)).i _ rfl; obtain ⟨pb, cb, eb, hrb⟩ := id hb
      have HSP := Lib.hid (isO_agg (w := W) (x := 0) (y := 1) ha hb)
      rw [ea] at HSP ⊢
      rw [eb] at HSP ⊢
      have HS := Lib.hid hS; have HE := Lib.hid (And.intro ea eb)
      clear he hS ha hra ea hb hrb eb
      go_simp
      exact hK.out _ _ ⟨fun k => if k = 20 then _ else us k, by simp [HE.out.1, HE.out.2], hB, sq_next HS.out (Below.refl _ _) (sq_a rfl rfl rfl rfl HSP.out)⟩
    · rintro D a W ⟨us, rfl, hB, hS⟩ hn9 he K hK
      clear hn9
      have H2 := HT.out.below hB; clear he; have HS := Lib.hid hS; clear hS
      go_simp
      exact hK.out _ _ ⟨fun k => if k = 21 then .slice (some ⟨gT, 0, none⟩) 2 2 else us k, rfl, hB, sq_next HS.out (Below.refl _ _) (sq_t rfl rfl rfl H2)⟩
    · rintro D a W ⟨us, rfl, hB, hS⟩ hn9 he K hK
      clear hn9
      clear he
      go_simp
      exact hK.out _ _ ⟨fun k => if k = 22 then _ else us k, rfl, hB.alloc (by have := hB.size; omega) _, sq_next hS ((Below.refl _ _).alloc (Nat.le_refl _) _) (sq_i rfl rfl rfl rfl (isR_newL ([1, -1]) 2 _ rfl rfl (by decide)))⟩
    · rintro D a W ⟨us, rfl, hB, hS⟩ hn9 he K hK
      clear hn9
      have ha := (hS 21 (he ⟨21, .data⟩ (by simp) rfl)).i _ rfl; obtain ⟨pa, ca, ea, hra⟩ := id ha
      have hb := (hS 22 (he ⟨22, .data⟩ (by simp) rfl)).i _ rfl; obtain ⟨pb, cb, eb, hrb⟩ := id hb
      have HSP := Lib.hid (isO_agg (w := W) (x := 0) (y := 1) ha hb)
      rw [ea] at HSP ⊢
      rw [eb] at HSP ⊢
      have HS := Lib.hid hS; have HE := Lib.hid (And.intro ea eb)
      clear he hS ha hra ea hb hrb eb
      go_simp
      exact hK.out _ _ ⟨fun k => if k = 23 then _ else us k, by simp [HE.out.1, HE.out.2], hB, sq_next HS.out (Below.refl _ _) (sq_a rfl rfl rfl rfl HSP.out)⟩
    · rintro D a W ⟨us, rfl, hB, hS⟩ hn9 he K hK
      clear hn9
      clear he
      go_simp
      exact hK.out _ _ ⟨fun k => if k = 24 then _ else us k, rfl, hB.alloc (by have := hB.size; omega) _, sq_next hS ((Below.refl _ _).alloc (Nat.le_refl _) _) (sq_i rfl rfl rfl rfl (isR_newL ([-1, 0]) 2 _ rfl rfl (by decide)))⟩
    · rintro D a W ⟨us, rfl, hB, hS⟩ hn9 he K hK
      clear hn9
      clear he
      go_simp
      exact hK.out _ _ ⟨fun k => if k = 25 then _ else us k, rfl, hB.alloc (by have := hB.size; omega) _, sq_next hS ((Below.refl _ _).alloc (Nat.le_refl _) _) (sq_i rfl rfl rfl rfl (isR_newL ([1, 0]) 2 _ rfl rfl (by decide)))⟩
    · rintro D a W ⟨us, rfl, hB, hS⟩ hn9 he K hK
      clear hn9
      have ha := (hS 24 (he ⟨24, .data⟩ (by simp) rfl)).i _ rfl; obtain ⟨pa, ca, ea, hra⟩ := id ha
      have hb := (hS 25 (he ⟨25, .data⟩ (by simp) rfl)).i _ rfl; obtain ⟨pb, cb, eb, hrb⟩ := id hb
      have HSP := Lib.hid (isO_agg (w := W) (x := 0) (y := 1) ha hb)
      rw [ea] at HSP ⊢
      rw [eb] at HSP ⊢
      have HS := Lib.hid hS; have HE := Lib.hid (And.intro ea eb)
      clear he hS ha hra ea hb hrb eb
      go_simp
      exact hK.out _ _ ⟨fun k => if k = 26 then _ else us k, by simp [HE.out.1, HE.out.2], hB, sq_next HS.out (Below.refl _ _) (sq_a rfl rfl rfl rfl HSP.out)⟩
    · rintro D a W ⟨us, rfl, hB, hS⟩ hn9 he K hK
      clear hn9
      clear he
      go_simp
      exact hK.out _ _ ⟨fun k => if k = 27 then _ else us k, rfl, hB.alloc (by have := hB.size; omega) _, sq_next hS ((Below.refl _ _).alloc (Nat.le_refl _) _) (sq_i rfl rfl rfl rfl (isR_newL ([-1, 0]) 2 _ rfl rfl (by decide)))⟩
    · rintro D a W ⟨us, rfl, hB, hS⟩ hn9 he K hK
      clear hn9
      have H2 := HT.out.below hB; clear he; have HS := Lib.hid hS; clear hS
      go_simp
      exact hK.out _ _ ⟨fun k => if k = 28 then .slice (some ⟨gT, 0, none⟩) 2 2 else us k, rfl, hB, sq_next HS.out (Below.refl _ _) (sq_t rfl rfl rfl H2)⟩
    · rintro D a W ⟨us, rfl, hB, hS⟩ hn9 he K hK
      clear hn9
      have ha := (hS 27 (he ⟨27, .data⟩ (by simp) rfl)).i _ rfl; obtain ⟨pa, ca, ea, hra⟩ := id ha
      have hb := (hS 28 (he ⟨28, .data⟩ (by simp) rfl)).i _ rfl; obtain ⟨pb, cb, eb, hrb⟩ := id hb
      have HSP := Lib.hid (isO_agg (w := W) (x := 0) (y := 0) ha hb)
      rw [ea] at HSP ⊢
      rw [eb] at HSP ⊢
      have HS := Lib.hid hS; have HE := Lib.hid (And.intro ea eb)
      clear he hS ha hra ea hb hrb eb
      go_simp
      exact hK.out _ _ ⟨fun k => if k = 29 then _ else us k, by simp [HE.out.1, HE.out.2], hB, sq_next HS.out (Below.refl _ _) (sq_a rfl rfl rfl rfl HSP.out)⟩
    · rintro D a W ⟨us, rfl, hB, hS⟩ hn9 he K hK
      clear hn9
      have H2 := HT.out.below hB; clear he; have HS := Lib.hid hS; clear hS
      go_simp
      exact hK.out _ _ ⟨fun k => if k = 30 then .slice (some ⟨gT, 0, none⟩) 2 2 else us k, rfl, hB, sq_next HS.out (Below.refl _ _) (sq_t rfl rfl rfl H2)⟩
    · rintro D a W ⟨us, rfl, hB, hS⟩ hn9 he K hK
      clear hn9
      clear he
      go_simp
      exact hK.out _ _ ⟨fun k => if k = 31 then _ else us k, rfl, hB.alloc (by have := hB.size; omega) _, sq_next hS ((Below.refl _ _).alloc (Nat.le_refl _) _) (sq_i rfl rfl rfl rfl (isR_newL ([-1, 1]) 2 _ rfl rfl (by decide)))⟩
    · rintro D a W ⟨us, rfl, hB, hS⟩ hn9 he K hK
      clear hn9
      have ha := (hS 30 (he ⟨30, .data⟩ (by simp) rfl)).i _ rfl; obtain ⟨pa, ca, ea, hra⟩ := id ha
      have hb := (hS 31 (he ⟨31, .data⟩ (by simp) rfl)).i _ rfl; obtain ⟨pb, cb, eb, hrb⟩ := id hb
      have HSP := Lib.hid (isO_agg (w := W) (x := 0) (y := 0) ha hb)
      rw [ea] at HSP ⊢
      rw [eb] at HSP ⊢
      have HS := Lib.hid hS; have HE := Lib.hid (And.intro ea eb)
      clear he hS ha hra ea hb hrb eb
      go_simp
      exact hK.out _ _ ⟨fun k => if k = 32 then _ else us k, by simp [HE.out.1, HE.out.2], hB, sq_next HS.out (Below.refl _ _) (sq_a rfl rfl rfl rfl HSP.out)⟩
    · rintro D a W ⟨us, rfl, hB, hS⟩ hn9 he K hK
      clear hn9
      obtain ⟨Z0, e0, l0, o0, h0⟩ := (hS 0 (he ⟨0, .data⟩ (by simp) rfl)).a _ rfl
      obtain ⟨Z1, e1, l1, o1, h1⟩ := (hS 1 (he ⟨1, .data⟩ (by simp) rfl)).a _ rfl
      obtain ⟨Z2, e2, l2, o2, h2⟩ := (hS 4 (he ⟨4, .data⟩ (by simp) rfl)).a _ rfl
      obtain ⟨Z3, e3, l3, o3, h3⟩ := (hS 8 (he ⟨8, .data⟩ (by simp) rfl)).a _ rfl
      obtain ⟨Z4, e4, l4, o4, h4⟩ := (hS 11 (he ⟨11, .data⟩ (by simp) rfl)).a _ rfl
      obtain ⟨Z5, e5, l5, o5, h5⟩ := (hS 14 (he ⟨14, .data⟩ (by simp) rfl)).a _ rfl
      obtain ⟨Z6, e6, l6, o6, h6⟩ := (hS 17 (he ⟨17, .data⟩ (by simp) rfl)).a _ rfl
      obtain ⟨Z7, e7, l7, o7, h7⟩ := (hS 20 (he ⟨20, .data⟩ (by simp) rfl)).a _ rfl
      obtain ⟨Z8, e8, l8, o8, h8⟩ := (hS 23 (he ⟨23, .data⟩ (by simp) rfl)).a _ rfl
      obtain ⟨Z9, e9, l9, o9, h9⟩ := (hS 26 (he ⟨26, .data⟩ (by simp) rfl)).a _ rfl
      obtain ⟨Z10, e10, l10, o10, h10⟩ := (hS 29 (he ⟨29, .data⟩ (by simp) rfl)).a _ rfl
      obtain ⟨Z11, e11, l11, o11, h11⟩ := (hS 32 (he ⟨32, .data⟩ (by simp) rfl)).a _ rfl
      have HB9 := Lib.hid (show ∀ (k : Nat) (V : V4), ([⟨Z0, l0, o0⟩, ⟨Z1, l1, o1⟩, ⟨Z2, l2, o2⟩, ⟨Z3, l3, o3⟩, ⟨Z4, l4, o4⟩, ⟨Z5, l5, o5⟩, ⟨Z6, l6, o6⟩, ⟨Z7, l7, o7⟩, ⟨Z8, l8, o8⟩, ⟨Z9, l9, o9⟩, ⟨Z10, l10, o10⟩, ⟨Z11, l11, o11⟩] : List V4)[k]? = some V → ∃ O, bad15[k]? = some O ∧ OrdV W (.agg V.v.toArray) O from fun k V hV => by
        match k, hV with
        | 0, hV => cases hV; exact ⟨_, rfl, Z0, rfl, l0, o0, by rw [← e0]; exact h0⟩
        | 1, hV => cases hV; exact ⟨_, rfl, Z1, rfl, l1, o1, by rw [← e1]; exact h1⟩
        | 2, hV => cases hV; exact ⟨_, rfl, Z2, rfl, l2, o2, by rw [← e2]; exact h2⟩
        | 3, hV => cases hV; exact ⟨_, rfl, Z3, rfl, l3, o3, by rw [← e3]; exact h3⟩
        | 4, hV => cases hV; exact ⟨_, rfl, Z4, rfl, l4, o4, by rw [← e4]; exact h4⟩
        | 5, hV => cases hV; exact ⟨_, rfl, Z5, rfl, l5, o5, by rw [← e5]; exact h5⟩
        | 6, hV => cases hV; exact ⟨_, rfl, Z6, rfl, l6, o6, by rw [← e6]; exact h6⟩
        | 7, hV => cases hV; exact ⟨_, rfl, Z7, rfl, l7, o7, by rw [← e7]; exact h7⟩
        | 8, hV => cases hV; exact ⟨_, rfl, Z8, rfl, l8, o8, by rw [← e8]; exact h8⟩
        | 9, hV => cases hV; exact ⟨_, rfl, Z9, rfl, l9, o9, by rw [← e9]; exact h9⟩
        | 10, hV => cases hV; exact ⟨_, rfl, Z10, rfl, l10, o10, by rw [← e10]; exact h10⟩
        | 11, hV => cases hV; exact ⟨_, rfl, Z11, rfl, l11, o11, by rw [← e11]; exact h11⟩
        | k + 12, hV => simp at hV)
      obtain ⟨ti, hin, hz0, hz1, hz2⟩ := info_parts info_od
      have HR := run_bsliceN (P := Try.prog) W 47 24 ti _ 4 Try.underlying47 hin hz0 hz1 rfl (n := 12) [Z0, Z1, Z2, Z3, Z4, Z5, Z6, Z7, Z8, Z9, Z10, Z11] (by simp [l0, l1, l2, l3, l4, l5, l6, l7, l8, l9, l10, l11]) (by decide) (by simp) #[(0, us 0), (1, us 1), (2, us 4), (3, us 8), (4, us 11), (5, us 14), (6, us 17), (7, us 20), (8, us 23), (9, us 26), (10, us 29), (11, us 32)] (by rw [e0, e1, e2, e3, e4, e5, e6, e7, e8, e9, e10, e11]; rfl) rfl (by decide)
      refine step_bsliceH 63 rfl rfl _ _ _ rfl (us := #[(0, us 0), (1, us 1), (2, us 4), (3, us 8), (4, us 11), (5, us 14), (6, us 17), (7, us 20), (8, us 23), (9, us 26), (10, us 29), (11, us 32)]) (by rfl) HR ?_
      exact hK.out _ _ ⟨fun k => if k = 33 then _ else us k, rfl, hB.alloc (by have := hB.size; omega) _, sq_next hS ((Below.refl _ _).alloc (Nat.le_refl _) _) (sq_r rfl rfl rfl ⟨W.heap.size, [⟨Z0, l0, o0⟩, ⟨Z1, l1, o1⟩, ⟨Z2, l2, o2⟩, ⟨Z3, l3, o3⟩, ⟨Z4, l4, o4⟩, ⟨Z5, l5, o5⟩, ⟨Z6, l6, o6⟩, ⟨Z7, l7, o7⟩, ⟨Z8, l8, o8⟩, ⟨Z9, l9, o9⟩, ⟨Z10, l10, o10⟩, ⟨Z11, l11, o11⟩], rfl, rfl, Box.newc (by unfold flatR; rw [List.flatMap_def]; rfl) rfl, fun k V hV => let ⟨O, e, h4⟩ := HB9.out k V hV; ⟨O, e, h4.below ((Below.refl _ _).alloc (Nat.le_refl _) _)⟩⟩)⟩
    · rintro D a W ⟨us, rfl, hB, hS⟩ hn9 he K hK
      clear hn9
      have hr := (hS 33 (he ⟨33, .data⟩ (by simp) rfl)).r rfl; clear he; have HS := Lib.hid hS; clear hS
      go_simp
      exact hK.out _ _ ⟨fun k => if k = 34 then us 33 else us k, rfl, hB, sq_next HS.out (Below.refl _ _) (sq_r rfl rfl rfl hr)⟩
  case fi =>
    rintro D a W hD ⟨us, rfl, hB, hS⟩
    obtain ⟨g, Vs, e28, hl, xg, hV⟩ := (hS 34 (hD 34 (by decide))).r rfl; rw [e28]; clear hS hD e28
    have HV := Lib.hid hV; have HL := Lib.hid hl; clear hV hl HC HT
    have hB5 := below_thru hBT hB; have hs5 := hB5.size; clear hB hBT hsT
    go_wp2_with fail
    go_loopw [3] (fun i wr => ∃ k : Nat, k ≤ 12 ∧ i = .int .i64 k ∧ Box wr g (flatR LV4 Vs) ∧ Below W.heap.size W wr ∧ Below w.heap.size w wr) (fun i _ => 12 - (intOf i).toNat)
    case atStart => exact ⟨0, Nat.zero_le _, rfl, xg, Below.refl _ _, hB5⟩
    case round =>
      clear xg hB5 hs5
      obtain ⟨k, hk, rfl, x_g, hBW, hB⟩ := hrel
      by_cases hlt : k < 12
      case pos =>
        obtain ⟨U, hU⟩ : ∃ U, Vs[k]? = some U := ⟨_, List.getElem?_eq_getElem (by rw [HL.out]; exact hlt)⟩
        obtain ⟨O, hO, V, ev, l4, o4, hI⟩ := HV.out k U hU
        have HI := Lib.hid hI; have R : wr.rangeAt g (k * 4) U.v := fun j v hv => by
          have := x_g.c _ _ (flatR_at (L := LV4) hU hv)
          exact this
        have SU := Lib.hid (show (Try.prog.info? 24).map (·.size) = some U.v.length by rw [U.len]; exact size_od (.bool true) (.bool true) (.bool true) (.bool true))
        obtain ⟨F, hF⟩ : ∃ F, U.v = F := ⟨_, rfl⟩; rw [hF] at HI R SU; clear hF hI hU ev l4 o4 V
        have i0 : (0 : Int) ≤ (k : Int) := (by omega); have i1 : (k : Int) < 12 := (by omega)
        by_cases hk4 : k = 4
        case pos =>
          have hV4 : VO O [0] := bad_yes (by rw [← hk4]; exact hO)
          have LA := fun (W : World) (u : Value) (h : IsO W u O) => pllast_is (Or.inr ⟨[0], hV4, Or.inr ⟨rfl, by simp, rfl⟩⟩) W h; have CK := fun (W : World) (u : Value) (h : IsO W u O) => plchk_is W h (ChkO.good hV4)
          have d4 : ((k : Int) != 4) = false := by rw [bne_eq_false_iff_eq]; omega
          clear hO hk4 hV4
          have x_g20 := x_g; have hB20 := hB; have K_W_20 := hBW; clear x_g hB hBW; have hs20 := hB20.size
          have K_wr_20 : Below wr.heap.size wr wr := Below.refl _ _
          go_wp2_with (refine wpList_load_rangew rfl _ _ rfl R rfl Try.underlying24 rfl SU.out ?_)
          refine (LA _ _ (HI.out.below K_W_20)).mono ?_
          rintro e w21 ⟨rfl, hb⟩
          have K_W_21 : Below W.heap.size W w21 := below_thru K_W_20 hb
          have K_wr_21 : Below wr.heap.size wr w21 := below_thru K_wr_20 hb
          clear K_W_20 K_wr_20
          have hB21 : Below w.heap.size w w21 := below_thru hB20 hb
          have hs21 := hB21.size
          have x_g21 : Box w21 (g) (flatR LV4 Vs) := Box.below x_g20 hb
          clear hB20 hs20 x_g20
          clear hb
          have R2 := range_below R K_wr_21; clear R
          clear K_wr_21
          go_wp2_with (refine wpList_load_rangew rfl _ _ rfl R2 rfl Try.underlying24 rfl SU.out ?_)
          refine (CK _ _ (HI.out.below K_W_21)).mono ?_
          rintro e w22 ⟨rfl, hb⟩
          have K_W_22 : Below W.heap.size W w22 := below_thru K_W_21 hb
          clear K_W_21
          have hB22 : Below w.heap.size w w22 := below_thru hB21 hb
          have hs22 := hB22.size
          have x_g22 : Box w22 (g) (flatR LV4 Vs) := Box.below x_g21 hb
          clear hB21 hs21 x_g21
          clear hb
          clear R2
          go_wp2_with fail
          go_roundw
          case rel => exact ⟨k + 1, by omega, by go_num, x_g22, K_W_22, hB22⟩
          case measure => simp [intOf]; omega
        case neg =>
          have hN := bad_no hO hk4
          have LA := fun (W : World) (u : Value) (h : IsO W u O) => pllast_is (Or.inl ⟨rfl, hN, rfl⟩) W h; have CK := fun (W : World) (u : Value) (h : IsO W u O) => plchk_is W h (ChkO.bad hN)
          have d4 : ((k : Int) != 4) = true := by rw [bne_iff_ne]; omega
          clear hO hk4 hN
          have x_g20 := x_g; have hB20 := hB; have K_W_20 := hBW; clear x_g hB hBW; have hs20 := hB20.size
          have K_wr_20 : Below wr.heap.size wr wr := Below.refl _ _
          go_wp2_with (refine wpList_load_rangew rfl _ _ rfl R rfl Try.underlying24 rfl SU.out ?_)
          refine (LA _ _ (HI.out.below K_W_20)).mono ?_
          rintro e w21 ⟨rfl, hb⟩
          have K_W_21 : Below W.heap.size W w21 := below_thru K_W_20 hb
          have K_wr_21 : Below wr.heap.size wr w21 := below_thru K_wr_20 hb
          clear K_W_20 K_wr_20
          have hB21 : Below w.heap.size w w21 := below_thru hB20 hb
          have hs21 := hB21.size
          have x_g21 : Box w21 (g) (flatR LV4 Vs) := Box.below x_g20 hb
          clear hB20 hs20 x_g20
          clear hb
          have R2 := range_below R K_wr_21; clear R
          clear K_wr_21
          go_wp2_with (refine wpList_load_rangew rfl _ _ rfl R2 rfl Try.underlying24 rfl SU.out ?_)
          refine (CK _ _ (HI.out.below K_W_21)).mono ?_
          rintro e w22 ⟨rfl, hb⟩
          have K_W_22 : Below W.heap.size W w22 := below_thru K_W_21 hb
          clear K_W_21
          have hB22 : Below w.heap.size w w22 := below_thru hB21 hb
          have hs22 := hB22.size
          have x_g22 : Box w22 (g) (flatR LV4 Vs) := Box.below x_g21 hb
          clear hB21 hs21 x_g21
          clear hb
          clear R2
          go_wp2_with fail
          go_roundw
          case rel => exact ⟨k + 1, by omega, by go_num, x_g22, K_W_22, hB22⟩
          case measure => simp [intOf]; omega
      case neg =>
        have hd : decide ((k : Int) < 12) = false := decide_eq_false (by omega)
        clear x_g hBW HV HL
        have hB30 := hB; have hs30 := hB30.size; clear hB
        have N0 := fun W => plnew_is n0_15 W; have N17 := fun W => plnew_is n17_15 W; have N16 := fun W => plnew_is n16_15 W; have BI := fun W => build_od0 W
        have TA := fun (W : World) (u : Value) (h : IsO W u (ofL 16 [])) => pltouch_is ta16_15 W h
        have TB := fun (W : World) (u : Value) (h : IsO W u (ofL 16 [])) => pltouch_is tb16_15 W h
        have RA := fun (W : World) (u : Value) (h : IsO W u (ofL 16 [])) => plremove_is ra16_15 W h
        have RB := fun (W : World) (u : Value) (h : IsO W u (ofL 16 [])) => plremove_is rb16_15 W h
        have LA := fun (W : World) (u : Value) (h : IsO W u (ofL 16 [])) => pllast_is la16_15 W h
        have LB := fun (W : World) (u : Value) (h : IsO W u (ofL 16 [])) => pllist_is lb16_15 W h
        have TZ := fun (W : World) (u : Value) (h : IsO W u (Od.zero)) => pltouch_is tz_15 W h
        have LZ := fun (W : World) (u : Value) (h : IsO W u (Od.zero)) => pllist_is lz_15 W h
        have L16 := Lib.hid (show (ofL 16 []).pv.length = 16 from ofL_pv _ _); obtain ⟨A16, hA16⟩ : ∃ A, ofL 16 [] = A := ⟨_, rfl⟩; rw [hA16] at N16 TA TB RA RB LA LB L16; clear hA16; have HZ := fun W => isO_zero W; obtain ⟨Z, hZ⟩ : ∃ A, Od.zero = A := ⟨_, rfl⟩; rw [hZ] at N0 N17 TA TB RA RB TZ LZ HZ; clear hZ
        go_wp2_with fail
        refine (N0 _).mono ?_
        rintro e w31 ⟨va, rfl, hI, hF, hb⟩
        obtain ⟨xa, ya, rfl, rx, ry⟩ := id hI; obtain ⟨pa, ca, rfl, hrx⟩ := id rx; obtain ⟨qa, da, rfl, hry⟩ := id ry; clear hrx hry rx ry hF
        have hB31 : Below w.heap.size w w31 := below_thru hB30 hb
        have hs31 := hB31.size
        clear hB30 hs30
        clear hb
        have K_w31_31 : Below w31.heap.size w31 w31 := Below.refl _ _
        have Ia : Hid (IsO w31 (.agg [.slice pa Z.pv.length ca, .slice qa Z.nx.length da, .int .i64 Z.hd, .int .i64 Z.tl].toArray) Z) := Lib.hid hI; clear hI
        have d_a_0 := hs31
        go_upto_region 11 with (refine wpList_store_box (cs := [.slice pa Z.pv.length ca, .slice qa Z.nx.length da, .int .i64 Z.hd, .int .i64 Z.tl]) rfl _ _ _ rfl (Box.newc (l := od0) rfl rfl) rfl rfl (size_od _ _ _ _) rfl (one_od _ _ _ _ _ _ _ _) ?_; intro W31_0 hW31_0)
        have hN : Below w31.heap.size w31 W31_0 := (hW31_0.below _ _ (by omega) ((Below.refl _ w31).alloc (Nat.le_refl _) _))
        have x_a32 : Box W31_0 (w31.heap.size) ([.slice pa Z.pv.length ca, .slice qa Z.nx.length da, .int .i64 Z.hd, .int .i64 Z.tl]) := hW31_0.box
        have K_w31_32 : Below w31.heap.size w31 W31_0 := below_thru K_w31_31 hN
        clear K_w31_31
        have hB32 : Below w.heap.size w W31_0 := below_thru hB31 hN
        have hs32 := hB32.size
        clear hB31 hs31
        clear hN hW31_0
        clear K_w31_32
        clear x_a32
        clear hd hlt
        go_wp2_with fail
        refine (N17 _).mono ?_
        rintro e w33 ⟨vb, rfl, hI, hF, hb⟩
        obtain ⟨xb, yb, rfl, rx, ry⟩ := id hI; obtain ⟨pb, cb, rfl, hrx⟩ := id rx; obtain ⟨qb, db, rfl, hry⟩ := id ry; clear hrx hry rx ry hF
        have hB33 : Below w.heap.size w w33 := below_thru hB32 hb
        have hs33 := hB33.size
        clear hB32 hs32
        clear hb
        have K_w33_33 : Below w33.heap.size w33 w33 := Below.refl _ _
        have Ib : Hid (IsO w33 (.agg [.slice pb Z.pv.length cb, .slice qb Z.nx.length db, .int .i64 Z.hd, .int .i64 Z.tl].toArray) Z) := Lib.hid hI; clear hI
        have d_b_0 := hs33
        go_upto_region 12 with (refine wpList_store_box (cs := [.slice pb Z.pv.length cb, .slice qb Z.nx.length db, .int .i64 Z.hd, .int .i64 Z.tl]) rfl _ _ _ rfl (Box.newc (l := od0) rfl rfl) rfl rfl (size_od _ _ _ _) rfl (one_od _ _ _ _ _ _ _ _) ?_; intro W33_0 hW33_0)
        have hN : Below w33.heap.size w33 W33_0 := (hW33_0.below _ _ (by omega) ((Below.refl _ w33).alloc (Nat.le_refl _) _))
        have x_b34 : Box W33_0 (w33.heap.size) ([.slice pb Z.pv.length cb, .slice qb Z.nx.length db, .int .i64 Z.hd, .int .i64 Z.tl]) := hW33_0.box
        have K_w33_34 : Below w33.heap.size w33 W33_0 := below_thru K_w33_33 hN
        clear K_w33_33
        have hB34 : Below w.heap.size w W33_0 := below_thru hB33 hN
        have hs34 := hB34.size
        clear hB33 hs33
        clear hN hW33_0
        clear K_w33_34
        clear x_b34
        go_wp2_with fail
        refine (N16 _).mono ?_
        rintro e w35 ⟨vm, rfl, hI, hF, hb⟩
        obtain ⟨xm, ym, rfl, rx, ry⟩ := id hI; obtain ⟨pm, cm, rfl, hrx⟩ := id rx; obtain ⟨qm, dm, rfl, hry⟩ := id ry; clear hrx hry rx ry hF
        have hB35 : Below w.heap.size w w35 := below_thru hB34 hb
        have hs35 := hB35.size
        clear hB34 hs34
        clear hb
        have K_w35_35 : Below w35.heap.size w35 w35 := Below.refl _ _
        have Im : Hid (IsO w35 (.agg [.slice pm A16.pv.length cm, .slice qm A16.nx.length dm, .int .i64 A16.hd, .int .i64 A16.tl].toArray) A16) := Lib.hid hI; clear hI
        have d_m_0 := hs35
        go_upto_region 13 with (refine wpList_store_box (cs := [.slice pm A16.pv.length cm, .slice qm A16.nx.length dm, .int .i64 A16.hd, .int .i64 A16.tl]) rfl _ _ _ rfl (Box.newc (l := od0) rfl rfl) rfl rfl (size_od _ _ _ _) rfl (one_od _ _ _ _ _ _ _ _) ?_; intro W35_0 hW35_0)
        have hN : Below w35.heap.size w35 W35_0 := (hW35_0.below _ _ (by omega) ((Below.refl _ w35).alloc (Nat.le_refl _) _))
        have x_m36 : Box W35_0 (w35.heap.size) ([.slice pm A16.pv.length cm, .slice qm A16.nx.length dm, .int .i64 A16.hd, .int .i64 A16.tl]) := hW35_0.box
        have K_w35_36 : Below w35.heap.size w35 W35_0 := below_thru K_w35_35 hN
        clear K_w35_35
        have hB36 : Below w.heap.size w W35_0 := below_thru hB35 hN
        have hs36 := hB36.size
        clear hB35 hs35
        clear hN hW35_0
        go_wp2_with (refine wpList_load_box9 rfl _ _ rfl x_m36 rfl Try.underlying24 rfl (size_od _ _ _ _) ?_)
        refine (TA _ _ (Im.out.below K_w35_36)).mono ?_
        rintro e w37 ⟨vb0, rfl, hI, hF, hb⟩
        obtain ⟨xb0, yb0, rfl, rx, ry⟩ := id hI; obtain ⟨pb0, cb0, rfl, hrx⟩ := id rx; obtain ⟨qb0, db0, rfl, hry⟩ := id ry; clear hrx hry rx ry hF
        have K_w35_37 : Below w35.heap.size w35 w37 := below_thru K_w35_36 hb
        clear K_w35_36
        have hB37 : Below w.heap.size w w37 := below_thru hB36 hb
        have hs37 := hB37.size
        have x_m37 : Box w37 (w35.heap.size) ([.slice pm A16.pv.length cm, .slice qm A16.nx.length dm, .int .i64 A16.hd, .int .i64 A16.tl]) := Box.below x_m36 hb
        clear hB36 hs36 x_m36
        clear hb
        have K_w37_37 : Below w37.heap.size w37 w37 := Below.refl _ _
        have Ib0 : Hid (IsO w37 (.agg [.slice pb0 Z.pv.length cb0, .slice qb0 Z.nx.length db0, .int .i64 Z.hd, .int .i64 Z.tl].toArray) Z) := Lib.hid hI; clear hI
        have d_b0_m := (x_m37).lt
        have d_b0_0 := hs37
        go_upto_region 14 with (refine wpList_store_box (cs := [.slice pb0 Z.pv.length cb0, .slice qb0 Z.nx.length db0, .int .i64 Z.hd, .int .i64 Z.tl]) rfl _ _ _ rfl (Box.newc (l := od0) rfl rfl) rfl rfl (size_od _ _ _ _) rfl (one_od _ _ _ _ _ _ _ _) ?_; intro W37_0 hW37_0)
        have hN : Below w37.heap.size w37 W37_0 := (hW37_0.below _ _ (by omega) ((Below.refl _ w37).alloc (Nat.le_refl _) _))
        have x_b038 : Box W37_0 (w37.heap.size) ([.slice pb0 Z.pv.length cb0, .slice qb0 Z.nx.length db0, .int .i64 Z.hd, .int .i64 Z.tl]) := hW37_0.box
        have K_w35_38 : Below w35.heap.size w35 W37_0 := below_thru K_w35_37 hN
        have K_w37_38 : Below w37.heap.size w37 W37_0 := below_thru K_w37_37 hN
        clear K_w35_37 K_w37_37
        have hB38 : Below w.heap.size w W37_0 := below_thru hB37 hN
        have hs38 := hB38.size
        have x_m38 : Box W37_0 (w35.heap.size) ([.slice pm A16.pv.length cm, .slice qm A16.nx.length dm, .int .i64 A16.hd, .int .i64 A16.tl]) := Box.below x_m37 hN
        clear hB37 hs37 x_m37
        clear hN hW37_0
        clear K_w37_38
        clear x_b038
        go_wp2_with (refine wpList_load_box9 rfl _ _ rfl x_m38 rfl Try.underlying24 rfl (size_od _ _ _ _) ?_)
        refine (TB _ _ (Im.out.below K_w35_38)).mono ?_
        rintro e w39 ⟨vb1, rfl, hI, hF, hb⟩
        obtain ⟨xb1, yb1, rfl, rx, ry⟩ := id hI; obtain ⟨pb1, cb1, rfl, hrx⟩ := id rx; obtain ⟨qb1, db1, rfl, hry⟩ := id ry; clear hrx hry rx ry hF
        have K_w35_39 : Below w35.heap.size w35 w39 := below_thru K_w35_38 hb
        clear K_w35_38
        have hB39 : Below w.heap.size w w39 := below_thru hB38 hb
        have hs39 := hB39.size
        have x_m39 : Box w39 (w35.heap.size) ([.slice pm A16.pv.length cm, .slice qm A16.nx.length dm, .int .i64 A16.hd, .int .i64 A16.tl]) := Box.below x_m38 hb
        clear hB38 hs38 x_m38
        clear hb
        have K_w39_39 : Below w39.heap.size w39 w39 := Below.refl _ _
        have Ib1 : Hid (IsO w39 (.agg [.slice pb1 Z.pv.length cb1, .slice qb1 Z.nx.length db1, .int .i64 Z.hd, .int .i64 Z.tl].toArray) Z) := Lib.hid hI; clear hI
        have d_b1_m := (x_m39).lt
        have d_b1_0 := hs39
        go_upto_region 15 with (refine wpList_store_box (cs := [.slice pb1 Z.pv.length cb1, .slice qb1 Z.nx.length db1, .int .i64 Z.hd, .int .i64 Z.tl]) rfl _ _ _ rfl (Box.newc (l := od0) rfl rfl) rfl rfl (size_od _ _ _ _) rfl (one_od _ _ _ _ _ _ _ _) ?_; intro W39_0 hW39_0)
        have hN : Below w39.heap.size w39 W39_0 := (hW39_0.below _ _ (by omega) ((Below.refl _ w39).alloc (Nat.le_refl _) _))
        have x_b140 : Box W39_0 (w39.heap.size) ([.slice pb1 Z.pv.length cb1, .slice qb1 Z.nx.length db1, .int .i64 Z.hd, .int .i64 Z.tl]) := hW39_0.box
        have K_w35_40 : Below w35.heap.size w35 W39_0 := below_thru K_w35_39 hN
        have K_w39_40 : Below w39.heap.size w39 W39_0 := below_thru K_w39_39 hN
        clear K_w35_39 K_w39_39
        have hB40 : Below w.heap.size w W39_0 := below_thru hB39 hN
        have hs40 := hB40.size
        have x_m40 : Box W39_0 (w35.heap.size) ([.slice pm A16.pv.length cm, .slice qm A16.nx.length dm, .int .i64 A16.hd, .int .i64 A16.tl]) := Box.below x_m39 hN
        clear hB39 hs39 x_m39
        clear hN hW39_0
        clear K_w39_40
        clear x_b140
        go_wp2_with (refine wpList_load_box9 rfl _ _ rfl x_m40 rfl Try.underlying24 rfl (size_od _ _ _ _) ?_)
        refine (RA _ _ (Im.out.below K_w35_40)).mono ?_
        rintro e w41 ⟨vb2, rfl, hI, hF, hb⟩
        obtain ⟨xb2, yb2, rfl, rx, ry⟩ := id hI; obtain ⟨pb2, cb2, rfl, hrx⟩ := id rx; obtain ⟨qb2, db2, rfl, hry⟩ := id ry; clear hrx hry rx ry hF
        have K_w35_41 : Below w35.heap.size w35 w41 := below_thru K_w35_40 hb
        clear K_w35_40
        have hB41 : Below w.heap.size w w41 := below_thru hB40 hb
        have hs41 := hB41.size
        have x_m41 : Box w41 (w35.heap.size) ([.slice pm A16.pv.length cm, .slice qm A16.nx.length dm, .int .i64 A16.hd, .int .i64 A16.tl]) := Box.below x_m40 hb
        clear hB40 hs40 x_m40
        clear hb
        have K_w41_41 : Below w41.heap.size w41 w41 := Below.refl _ _
        have Ib2 : Hid (IsO w41 (.agg [.slice pb2 Z.pv.length cb2, .slice qb2 Z.nx.length db2, .int .i64 Z.hd, .int .i64 Z.tl].toArray) Z) := Lib.hid hI; clear hI
        have d_b2_m := (x_m41).lt
        have d_b2_0 := hs41
        go_upto_region 16 with (refine wpList_store_box (cs := [.slice pb2 Z.pv.length cb2, .slice qb2 Z.nx.length db2, .int .i64 Z.hd, .int .i64 Z.tl]) rfl _ _ _ rfl (Box.newc (l := od0) rfl rfl) rfl rfl (size_od _ _ _ _) rfl (one_od _ _ _ _ _ _ _ _) ?_; intro W41_0 hW41_0)
        have hN : Below w41.heap.size w41 W41_0 := (hW41_0.below _ _ (by omega) ((Below.refl _ w41).alloc (Nat.le_refl _) _))
        have x_b242 : Box W41_0 (w41.heap.size) ([.slice pb2 Z.pv.length cb2, .slice qb2 Z.nx.length db2, .int .i64 Z.hd, .int .i64 Z.tl]) := hW41_0.box
        have K_w35_42 : Below w35.heap.size w35 W41_0 := below_thru K_w35_41 hN
        have K_w41_42 : Below w41.heap.size w41 W41_0 := below_thru K_w41_41 hN
        clear K_w35_41 K_w41_41
        have hB42 : Below w.heap.size w W41_0 := below_thru hB41 hN
        have hs42 := hB42.size
        have x_m42 : Box W41_0 (w35.heap.size) ([.slice pm A16.pv.length cm, .slice qm A16.nx.length dm, .int .i64 A16.hd, .int .i64 A16.tl]) := Box.below x_m41 hN
        clear hB41 hs41 x_m41
        clear hN hW41_0
        clear K_w41_42
        clear x_b242
        go_wp2_with (refine wpList_load_box9 rfl _ _ rfl x_m42 rfl Try.underlying24 rfl (size_od _ _ _ _) ?_)
        refine (RB _ _ (Im.out.below K_w35_42)).mono ?_
        rintro e w43 ⟨vb3, rfl, hI, hF, hb⟩
        obtain ⟨xb3, yb3, rfl, rx, ry⟩ := id hI; obtain ⟨pb3, cb3, rfl, hrx⟩ := id rx; obtain ⟨qb3, db3, rfl, hry⟩ := id ry; clear hrx hry rx ry hF
        have K_w35_43 : Below w35.heap.size w35 w43 := below_thru K_w35_42 hb
        clear K_w35_42
        have hB43 : Below w.heap.size w w43 := below_thru hB42 hb
        have hs43 := hB43.size
        have x_m43 : Box w43 (w35.heap.size) ([.slice pm A16.pv.length cm, .slice qm A16.nx.length dm, .int .i64 A16.hd, .int .i64 A16.tl]) := Box.below x_m42 hb
        clear hB42 hs42 x_m42
        clear hb
        have K_w43_43 : Below w43.heap.size w43 w43 := Below.refl _ _
        have Ib3 : Hid (IsO w43 (.agg [.slice pb3 Z.pv.length cb3, .slice qb3 Z.nx.length db3, .int .i64 Z.hd, .int .i64 Z.tl].toArray) Z) := Lib.hid hI; clear hI
        have d_b3_m := (x_m43).lt
        have d_b3_0 := hs43
        go_upto_region 17 with (refine wpList_store_box (cs := [.slice pb3 Z.pv.length cb3, .slice qb3 Z.nx.length db3, .int .i64 Z.hd, .int .i64 Z.tl]) rfl _ _ _ rfl (Box.newc (l := od0) rfl rfl) rfl rfl (size_od _ _ _ _) rfl (one_od _ _ _ _ _ _ _ _) ?_; intro W43_0 hW43_0)
        have hN : Below w43.heap.size w43 W43_0 := (hW43_0.below _ _ (by omega) ((Below.refl _ w43).alloc (Nat.le_refl _) _))
        have x_b344 : Box W43_0 (w43.heap.size) ([.slice pb3 Z.pv.length cb3, .slice qb3 Z.nx.length db3, .int .i64 Z.hd, .int .i64 Z.tl]) := hW43_0.box
        have K_w35_44 : Below w35.heap.size w35 W43_0 := below_thru K_w35_43 hN
        have K_w43_44 : Below w43.heap.size w43 W43_0 := below_thru K_w43_43 hN
        clear K_w35_43 K_w43_43
        have hB44 : Below w.heap.size w W43_0 := below_thru hB43 hN
        have hs44 := hB44.size
        have x_m44 : Box W43_0 (w35.heap.size) ([.slice pm A16.pv.length cm, .slice qm A16.nx.length dm, .int .i64 A16.hd, .int .i64 A16.tl]) := Box.below x_m43 hN
        clear hB43 hs43 x_m43
        clear hN hW43_0
        clear K_w43_44
        clear x_b344
        go_wp2_with (refine wpList_load_box9 rfl _ _ rfl x_m44 rfl Try.underlying24 rfl (size_od _ _ _ _) ?_)
        refine (LA _ _ (Im.out.below K_w35_44)).mono ?_
        rintro e w45 ⟨rfl, hb⟩
        have K_w35_45 : Below w35.heap.size w35 w45 := below_thru K_w35_44 hb
        clear K_w35_44
        have hB45 : Below w.heap.size w w45 := below_thru hB44 hb
        have hs45 := hB45.size
        have x_m45 : Box w45 (w35.heap.size) ([.slice pm A16.pv.length cm, .slice qm A16.nx.length dm, .int .i64 A16.hd, .int .i64 A16.tl]) := Box.below x_m44 hb
        clear hB44 hs44 x_m44
        clear hb
        go_wp2_with (refine wpList_load_box9 rfl _ _ rfl x_m45 rfl Try.underlying24 rfl (size_od _ _ _ _) ?_)
        refine (LB _ _ (Im.out.below K_w35_45)).mono ?_
        rintro e w46 ⟨un, rfl, hI, hF, hb⟩
        have K_w35_46 : Below w35.heap.size w35 w46 := below_thru K_w35_45 hb
        clear K_w35_45
        have hB46 : Below w.heap.size w w46 := below_thru hB45 hb
        have hs46 := hB46.size
        have x_m46 : Box w46 (w35.heap.size) ([.slice pm A16.pv.length cm, .slice qm A16.nx.length dm, .int .i64 A16.hd, .int .i64 A16.tl]) := Box.below x_m45 hb
        clear hB45 hs45 x_m45
        clear hb hF; obtain ⟨ua, uc, rfl, hru⟩ := hI; clear hru; have e0 : (nums []).length = 0 := rfl; rw [e0]; clear e0
        clear K_w35_46
        go_wp2_with (refine wpList_build9 rfl 24 _ rfl (us := #[]) (by rfl) (BI _) ?_)
        refine (TZ _ _ (HZ _)).mono ?_
        rintro e w47 ⟨vz, rfl, hI, hF, hb⟩
        obtain ⟨xz, yz, rfl, rx, ry⟩ := id hI; obtain ⟨pz, cz, rfl, hrx⟩ := id rx; obtain ⟨qz, dz, rfl, hry⟩ := id ry; clear hrx hry rx ry hF
        have hB47 : Below w.heap.size w w47 := below_thru hB46 hb
        have hs47 := hB47.size
        have x_m47 : Box w47 (w35.heap.size) ([.slice pm A16.pv.length cm, .slice qm A16.nx.length dm, .int .i64 A16.hd, .int .i64 A16.tl]) := Box.below x_m46 hb
        clear hB46 hs46 x_m46
        clear hb
        have K_w47_47 : Below w47.heap.size w47 w47 := Below.refl _ _
        have Iz : Hid (IsO w47 (.agg [.slice pz Z.pv.length cz, .slice qz Z.nx.length dz, .int .i64 Z.hd, .int .i64 Z.tl].toArray) Z) := Lib.hid hI; clear hI
        have d_z_m := (x_m47).lt
        have d_z_0 := hs47
        go_upto_region 20 with (refine wpList_store_box (cs := [.slice pz Z.pv.length cz, .slice qz Z.nx.length dz, .int .i64 Z.hd, .int .i64 Z.tl]) rfl _ _ _ rfl (Box.newc (l := od0) rfl rfl) rfl rfl (size_od _ _ _ _) rfl (one_od _ _ _ _ _ _ _ _) ?_; intro W47_0 hW47_0)
        have hN : Below w47.heap.size w47 W47_0 := (hW47_0.below _ _ (by omega) ((Below.refl _ w47).alloc (Nat.le_refl _) _))
        have x_z48 : Box W47_0 (w47.heap.size) ([.slice pz Z.pv.length cz, .slice qz Z.nx.length dz, .int .i64 Z.hd, .int .i64 Z.tl]) := hW47_0.box
        have K_w47_48 : Below w47.heap.size w47 W47_0 := below_thru K_w47_47 hN
        clear K_w47_47
        have hB48 : Below w.heap.size w W47_0 := below_thru hB47 hN
        have hs48 := hB48.size
        have x_m48 : Box W47_0 (w35.heap.size) ([.slice pm A16.pv.length cm, .slice qm A16.nx.length dm, .int .i64 A16.hd, .int .i64 A16.tl]) := Box.below x_m47 hN
        clear hB47 hs47 x_m47
        clear hN hW47_0
        clear K_w47_48
        clear x_z48
        go_wp2_with (refine wpList_build9 rfl 24 _ rfl (us := #[]) (by rfl) (BI _) ?_)
        refine (LZ _ _ (HZ _)).mono ?_
        rintro e w49 ⟨uz, rfl, hI, hF, hb⟩
        have hB49 : Below w.heap.size w w49 := below_thru hB48 hb
        have hs49 := hB49.size
        have x_m49 : Box w49 (w35.heap.size) ([.slice pm A16.pv.length cm, .slice qm A16.nx.length dm, .int .i64 A16.hd, .int .i64 A16.tl]) := Box.below x_m48 hb
        clear hB48 hs48 x_m48
        clear hb hF hI
        go_wp2_with fail
        refine (AL _).mono ?_
        rintro e w50 ⟨rfl, hb⟩
        have hB50 : Below w.heap.size w w50 := below_thru hB49 hb
        have hs50 := hB50.size
        have x_m50 : Box w50 (w35.heap.size) ([.slice pm A16.pv.length cm, .slice qm A16.nx.length dm, .int .i64 A16.hd, .int .i64 A16.tl]) := Box.below x_m49 hb
        clear hB49 hs49 x_m49
        clear hb
        have cb9 := (x_m50).c 0 _ rfl
        have zb9 := (x_m50).lt
        rw [L16.out] at cb9
        go_wp2_with fail
        go_returns
        exact ⟨rfl, hB50⟩


end Go.Proofs.Ytjhlpkkefdohjaa
