/-
  The reference of layer 5: Write, Finish.
-/
import Derived.Test.YtlddlkapabmoeaaDoorRf05E
namespace Go.Proofs.YtlddlkapabmoeaaDoor
open Go.RowKit

/-- What Write gives: a hash whose rest lies in memory that was made since. -/
def Wr (T : W8) (rs : List Int) (n c : Int) (w : World) (e : Ending) (w' : World) : Prop :=
  ∃ at0 cap, e = .returned (.tuple #[.agg (hashV T (.slice at0 rs.length cap) n).toArray, .int .i64 c]) ∧ IsL w' .u8 (.slice at0 rs.length cap) rs ∧ (∀ g, (Value.slice at0 rs.length cap).ownBlock = some g → w.heap.size ≤ g ∧ g < w'.heap.size) ∧ Below w.heap.size w w'
theorem build_hash3 (T : W8) (a : Option Addr) (l c : Nat) (n : Int) (w : World) : (Instr.build 36 #[(0, .agg (hv T).toArray), (1, .slice a l c), (2, .int .i64 n)]).run Tryd.prog w = .ok (.agg (hashV T (.slice a l c) n).toArray) w := by kernel_rfl
theorem exec_build3 {a : Act} {o : Oper} (x y z : Operand) (ho : o.op = .build 36 #[(0, x), (1, y), (2, z)]) (T : W8) (sa : Option Addr) (l c : Nat) (n : Int) (hx : a.eval x = .agg (hv T).toArray) (hy : a.eval y = .slice sa l c) (hz : a.eval z = .int .i64 n) (w : World) :
    (execOp a.eval o).run Tryd.prog w = .ok (.value (.agg (hashV T (.slice sa l c) n).toArray)) w := by
  have hb := build_hash3 T sa l c n w
  generalize hashV T (.slice sa l c) n = L at *
  unfold execOp
  simp only [ho, List.map_toArray, List.map, hx, hy, hz, Sem.run_bind, hb, Result.andThen_ok, Sem.run_pure]
theorem rvalid_v (h : W8) (at0 : Option Addr) (len cap : Nat) (n : Int) (b : Bool) (hb : Hid (vldH n len = b)) (w : World) (h1 : -9223372036854775808 ≤ n) (h2 : n ≤ 9223372036854775807) (hm : len ≤ 9223372036854775807) :
    Calls Tryd.prog 36 #[.agg (hashV h (.slice at0 len cap) n).toArray] w fun e w' => e = .returned (.bool b) ∧ Below w.heap.size w w' := rvalid_any h at0 len cap n b hb w h1 h2 hm
theorem IsL.lowR {w : World} {k : IntKind} {a : Option Addr} {n c : Nat} {xs : List Int} (h : IsL w k (.slice a n c) xs) (m : Nat) (hm : m ≤ n) :
    IsL w k (.slice (if c = m then a else a.map (·.add m)) (n - m) (c - m)) (xs.drop m) := by
  obtain ⟨a', c', e, hi, h0⟩ := h
  injection e with e1 e2 e3
  subst e1 e2 e3
  have hr := hi.room
  have hx := hi.most
  refine ⟨_, c - m, by rw [List.length_drop], ⟨by rw [List.length_drop]; omega, by omega, fun hp => ?_⟩, fun q => ?_⟩
  · rw [List.length_drop] at hp
    obtain ⟨b, off, rfl, hc⟩ := hi.cells (by omega)
    rw [if_neg (by omega)]
    refine ⟨b, off + m, by simp [Go.WideShapes.add_plain], fun i hj => ?_⟩
    rw [List.length_drop] at hj
    rw [nth_drop, show off + m + i = off + (m + i) by omega]
    exact hc (m + i) (by omega)
  · split at q
    · omega
    · have := h0 (by simpa using q)
      omega
theorem own_low (a : Option Addr) (n c m n' c' : Nat) (g : Nat) (h : (Value.slice (if c = m then a else a.map (·.add m)) n' c').ownBlock = some g) : (Value.slice a n c).ownBlock = some g := by
  cases a with
  | none => split at h <;> cases h
  | some ad =>
    split at h
    · exact h
    · rw [← h]
      obtain ⟨b, off, spot⟩ := ad
      simp only [Option.map, Value.ownBlock, Addr.add]
      split <;> rfl
theorem Box.own {w w' : World} {b B : Nat} {vs : List Value} (h : Box w b vs) (hb : Below B w w') (hB : b < B) : Box w' b vs := by
  have hk := hb.block b hB
  refine ⟨fun i v e => ?_, fun i v e => ?_, Nat.lt_of_lt_of_le h.lt hb.size⟩
  · rw [World.cell?_of_block (a := ⟨b, i, none⟩) hk]
    exact h.c i v e
  · rw [World.frozen?_of_block (a := ⟨b, i, none⟩) hk]
    exact h.f i v e
theorem below_own {w0 w w' : World} {B : Nat} (h : Below w0.heap.size w0 w) (hb : Below B w w') (hB : w0.heap.size ≤ B) : Below w0.heap.size w0 w' := h.trans (hb.mono hB)
theorem F_own {F : World → Prop} {w : World} (h : ∀ W, W.ownsRow w.heap.size 5 1 (.slice (some ⟨w.heap.size, 0, none⟩) 0 0) ([] : List Int).length (([] : List Int).map (Value.int .u8)) → Below w.heap.size w W → F W) : F (w.alloc (.cells #[] 5)) :=
  h _ (owns_built (w := w) (base := w.heap.size) (e := 5) [] (Nat.le_refl _) (by simp)) ((Below.refl _ _).alloc (Nat.le_refl _) _)
theorem step_append_isl {P : Program} {w : World} {ops : Array Oper} {o : Oper} {a : Act} {K : Act → World → Prop} {Q : Exit → Act → World → Prop} {E : Prop} (hgd : o.guard = none) (s x : Operand) (t : TypeId)
    (ho : o.op = .call { callee := .builtin .append, args := #[s, x], argTypes := #[t, t] })
    (base : Nat) (e : TypeId) (i : TypeInfo) (z : Value) (bytes : Nat) (k : IntKind) (ht : P.underlying t = some (.slice e)) (hi : P.info? e = some i) (hz : i.zero = some z)
    (hsize : i.size = 1) (hby : i.bytes = bytes) (hzs : z.cells.size = 1)
    (v : Value) (ys xs : List Int) (v2 : Value) (hs : a.eval s = v) (hx : a.eval x = v2) (hown : w.ownsRow base e 1 v ys.length (ys.map (Value.int k))) (hin : IsL w k v2 xs)
    (h63 : ys.length + xs.length ≤ maxLen) (hbytes : (ys.length + xs.length) * bytes ≤ 140737488355328) (hbase : base ≤ w.heap.size)
    (h : ∀ v' w', w'.ownsRow base e 1 v' (ys ++ xs).length ((ys ++ xs).map (Value.int k)) → Below base w w' → K (a.put o.dst v') w') : if Region.wanted o (yielded ops a.tmps) = true then Oper.wp P o a w K Q else E := by
  rw [if_pos (by simp [Region.wanted, hgd])]
  obtain ⟨a2, c2, rfl, hi2, h02⟩ := hin
  refine wp_append_ints s x t ho base e i z bytes k ht hi hz hsize hby hzs v ys.length _ hs hown a2 c2 xs hx hi2 h02 h63 hbytes hbase (fun v' w' h1 h2 => h v' w' ?_ ?_)
  · rw [List.length_append, List.map_append]
    exact h1
  · exact (Below.refl _ w).grown h2 hbase (own_block hown)
set_option maxRecDepth 100000 in
theorem rwrite_bad (h : W8) (at0 : Option Addr) (len cap : Nat) (n : Int) (v2 : Value) (w : World) (hn : i64n n) (hl : len ≤ 9223372036854775807) (hvd : Hid (vldH n len = false)) :
    Calls Tryd.prog 20 #[.agg (hashV h (.slice at0 len cap) n).toArray, v2] w (Wr zeroW [] 0 8 w) := by
  obtain ⟨v1, hv1⟩ : ∃ v1, v1 = Value.slice at0 len cap := ⟨_, rfl⟩
  rw [← hv1]
  have hc := fun W => rvalid_v h at0 len cap n false hvd W hn.1 hn.2 hl
  rw [← hv1] at hc
  obtain ⟨V, hV⟩ : ∃ V, V = hashV h v1 n := ⟨_, rfl⟩
  rw [← hV]
  have HV := Lib.hid hV
  have HV1 := Lib.hid hv1
  clear hV hv1
  go_enter Tryd.func20, Tryd.ntmps20
  go_upto_region 0 with fail
  go_cut [2, 4, 5] (fun p q r wx => p = .pointer (some ⟨w.heap.size, 0, none⟩) ∧ q = .pointer (some ⟨w.heap.size + 1, 0, none⟩) ∧ r = .int .i64 0 ∧ Box wx w.heap.size (hashV h v1 n) ∧ Box wx (w.heap.size + 1) zero10 ∧ Below w.heap.size w wx)
  case first =>
    go_wp2_with fail
    go_meet
    exact ⟨rfl, rfl, rfl, Box.alloc (Box.newc (by rw [HV.out]) rfl) _, Box.newc rfl (by simp), by go_grown⟩
  case rest =>
    obtain ⟨rfl, rfl, rfl, hxh, hxr, hB⟩ := hcut
    obtain ⟨w1, rfl⟩ : ∃ u : World, u = wc := ⟨_, rfl⟩
    go_wp2_with (refine wpList_load_box rfl _ _ rfl hxh rfl Tryd.underlying36 rfl size10 ?_)
    refine (hc _).mono ?_
    rintro e w2 ⟨rfl, hb⟩
    have hB2 := below_thru hB hb
    have hxh2 := hxh.below hb
    have hxr2 := hxr.below hb
    have hs2 := hB2.size
    have hz2 := hxr2.lt
    clear hb hB hxh hxr hc
    go_wp2_with (refine wpList_store_box (cs := zero10) rfl _ _ _ rfl hxr2 rfl rfl size10 rfl zero10_one ?_; intro W3 hW3)
    exact bodyPost_ret (v := .tuple #[.agg zero10.toArray, .int .i64 8]) (results_box2 Tryd.results20 hW3.box rfl rfl Tryd.underlying36 rfl size10) rfl ⟨none, 0, rfl, IsL.none, (fun g hg => by cases hg), hW3.below _ _ (Nat.le_succ _) hB2⟩
set_option maxRecDepth 100000 in
theorem rwrite_many (h : W8) (at0 : Option Addr) (len cap : Nat) (n : Int) (a2 : Option Addr) (l2 c2 : Nat) (w : World) (hn : 0 ≤ n) (hn2 : n ≤ 128000) (hl : len ≤ 9223372036854775807) (hl2 : l2 ≤ 9223372036854775807) (hvd : Hid (vldH n len = true)) (hm : 128000 - n < (l2 : Int)) :
    Calls Tryd.prog 20 #[.agg (hashV h (.slice at0 len cap) n).toArray, .slice a2 l2 c2] w (Wr zeroW [] 0 4 w) := by
  have _ := hl2
  obtain ⟨v1, hv1⟩ : ∃ v1, v1 = Value.slice at0 len cap := ⟨_, rfl⟩
  rw [← hv1]
  have hc := fun W => rvalid_v h at0 len cap n true hvd W (by omega) (by omega) hl
  rw [← hv1] at hc
  obtain ⟨V, hV⟩ : ∃ V, V = hashV h v1 n := ⟨_, rfl⟩
  rw [← hV]
  have HV := Lib.hid hV
  have HV1 := Lib.hid hv1
  clear hV hv1
  go_enter Tryd.func20, Tryd.ntmps20
  go_upto_region 0 with fail
  go_cut [2, 4, 5] (fun p q r wx => p = .pointer (some ⟨w.heap.size, 0, none⟩) ∧ q = .pointer (some ⟨w.heap.size + 1, 0, none⟩) ∧ r = .int .i64 0 ∧ Box wx w.heap.size (hashV h v1 n) ∧ Box wx (w.heap.size + 1) zero10 ∧ Below w.heap.size w wx)
  case first =>
    go_wp2_with fail
    go_meet
    exact ⟨rfl, rfl, rfl, Box.alloc (Box.newc (by rw [HV.out]) rfl) _, Box.newc rfl (by simp), by go_grown⟩
  case rest =>
    obtain ⟨rfl, rfl, rfl, hxh, hxr, hB⟩ := hcut
    obtain ⟨w1, rfl⟩ : ∃ u : World, u = wc := ⟨_, rfl⟩
    go_wp2_with (refine wpList_load_box rfl _ _ rfl hxh rfl Tryd.underlying36 rfl size10 ?_)
    refine (hc _).mono ?_
    rintro e w2 ⟨rfl, hb⟩
    have hB2 := below_thru hB hb
    have hxh2 := hxh.below hb
    have hxr2 := hxr.below hb
    have hs2 := hB2.size
    have hz2 := hxr2.lt
    clear hb hB hxh hxr hc
    have c9 : w2.cell? ⟨w.heap.size, 9, none⟩ = some (.int .i64 n) := hxh2.c 9 _ rfl
    go_wp2_with (refine wpList_store_box (cs := zero10) rfl _ _ _ rfl hxr2 rfl rfl size10 rfl zero10_one ?_; intro W3 hW3)
    exact bodyPost_ret (v := .tuple #[.agg zero10.toArray, .int .i64 4]) (results_box2 Tryd.results20 hW3.box rfl rfl Tryd.underlying36 rfl size10) rfl ⟨none, 0, rfl, IsL.none, (fun g hg => by cases hg), hW3.below _ _ (Nat.le_succ _) hB2⟩
set_option maxRecDepth 100000 in
set_option maxHeartbeats 3200000 in
theorem rwrite_ok (h : W8) (at0 a2 : Option Addr) (cap c2 : Nat) (rs ys : List Int) (n : Int) (w : World) (hi : Hid (IsL w .u8 (.slice at0 rs.length cap) rs)) (hy : Hid (IsL w .u8 (.slice a2 ys.length c2) ys)) (hn : 0 ≤ n) (hn2 : n ≤ 128000) (hvd : Hid (vldH n rs.length = true)) (hm : n + (ys.length : Int) ≤ 128000)
    (hbr : Hid (bytesL rs)) (hby : Hid (bytesL ys)) :
    Calls Tryd.prog 20 #[.agg (hashV h (.slice at0 rs.length cap) n).toArray, .slice a2 ys.length c2] w (Wr (after h (rs ++ ys)) (restOf (rs ++ ys)) (n + ys.length) 0 w) := by
  have m0 := hi.out.room
  have m1 := m0.2.1
  have m2 := m0.2.2
  have m3 := hy.out.room
  have m4 := m3.2.1
  have m5 := m3.2.2
  have hlr : rs.length ≤ 64 := by
    have := hvd.out
    simp only [vldH, Bool.and_eq_true, decide_eq_true_eq] at this
    omega
  obtain ⟨A, hA⟩ : ∃ A, rs ++ ys = A := ⟨_, rfl⟩
  obtain ⟨T, hT⟩ : ∃ T, after h A = T := ⟨_, rfl⟩
  obtain ⟨zs, hz⟩ : ∃ zs, restOf A = zs := ⟨_, rfl⟩
  obtain ⟨nn, hnn⟩ : ∃ nn, A.length / 64 * 64 = nn := ⟨_, rfl⟩
  have hAl : A.length = rs.length + ys.length := by rw [← hA, List.length_append]
  have HT := Lib.hid hT
  have AL := Lib.hid hAl
  have AE := Lib.hid hA
  have HAB := Lib.hid (show bytesL A by rw [← hA]; exact hbr.out.append hby.out)
  have HZL := Lib.hid (show A.length - nn = zs.length by rw [← hz, restOf_len]; omega)
  have HZD := Lib.hid (show A.drop nn = zs by rw [← hz, ← hnn]; rfl)
  have E10 := Lib.hid (show (A.length : Int) / 64 * 64 = (nn : Int) by omega)
  have hnl : nn ≤ A.length := by omega
  have qm : ¬ (128000 : Int) - n < (ys.length : Int) := by omega
  obtain ⟨ti, hin, hz0, hz1, hz2q⟩ := info8
  rw [hA, hT, hz]
  clear hA hT hz hnn hAl m0 m3
  obtain ⟨v1, hv1⟩ : ∃ v1, v1 = Value.slice at0 rs.length cap := ⟨_, rfl⟩
  rw [← hv1]
  have hc := fun W => rvalid_v h at0 rs.length cap n true hvd W (by omega) (by omega) (by omega)
  rw [← hv1] at hc
  obtain ⟨V, hV⟩ : ∃ V, V = hashV h v1 n := ⟨_, rfl⟩
  rw [← hV]
  have HV := Lib.hid hV
  have HV1 := Lib.hid hv1
  clear hV hv1
  go_enter Tryd.func20, Tryd.ntmps20
  go_upto_region 0 with fail
  go_cut [2, 4, 5] (fun p q r wx => p = .pointer (some ⟨w.heap.size, 0, none⟩) ∧ q = .pointer (some ⟨w.heap.size + 1, 0, none⟩) ∧ r = .int .i64 0 ∧ Box wx w.heap.size (hashV h v1 n) ∧ Box wx (w.heap.size + 1) zero10 ∧ Below w.heap.size w wx)
  case first =>
    go_wp2_with fail
    go_meet
    exact ⟨rfl, rfl, rfl, Box.alloc (Box.newc (by rw [HV.out]) rfl) _, Box.newc rfl (by simp), by go_grown⟩
  case rest =>
    obtain ⟨rfl, rfl, rfl, hxh, hxr, hB⟩ := hcut
    obtain ⟨w1, rfl⟩ : ∃ u : World, u = wc := ⟨_, rfl⟩
    go_wp2_with (refine wpList_load_box rfl _ _ rfl hxh rfl Tryd.underlying36 rfl size10 ?_)
    refine (hc _).mono ?_
    rintro e w2 ⟨rfl, hb⟩
    have hB2 := below_thru hB hb
    have hxh2 := hxh.below hb
    have hxr2 := hxr.below hb
    have hs2 := hB2.size
    have hz2 := hxr2.lt
    clear hb hB hxh hxr hc
    have c9 : w2.cell? ⟨w.heap.size, 9, none⟩ = some (.int .i64 n) := hxh2.c 9 _ rfl
    have c8 : w2.cell? ⟨w.heap.size, 8, none⟩ = some v1 := hxh2.c 8 _ rfl
    rw [HV1.out] at c8
    have c8a : (w2.alloc (.cells #[] 5)).cell? ⟨w.heap.size, 8, none⟩ = some (.slice at0 rs.length cap) := cell_alloc c8
    go_upto_region 6 with (first
      | (at_builtin; refine wpList_append_built rfl _ _ 28 rfl 5 ti (.int .u8 0) 1 .u8 Tryd.underlying28 hin hz0 hz1 hz2q rfl [] rs _ (.slice at0 rs.length cap) _ _ _ rfl rfl rfl rfl rfl rfl (IsL.below hi.out hB2) (by unfold maxLen; simp <;> omega) (by simp <;> omega) ?_; intro va wa howa hba)
      | (at_builtin; refine wpList_append_onto rfl _ _ 28 rfl w2.heap.size 5 ti (.int .u8 0) 1 .u8 Tryd.underlying28 hin hz0 hz1 hz2q rfl va ([] ++ rs) ys (.slice a2 ys.length c2) rfl rfl howa (IsL.below hy.out (below_thru hB2 hba)) (by unfold maxLen; simp <;> omega) (by simp <;> omega) hba.size ?_; intro vb wb howb hbb))
    have hBq : Below w2.heap.size w2 wb := hba.trans hbb
    have hBc : Below w.heap.size w wb := below_thru hB2 hBq
    have hxh : Box wb w.heap.size (hashV h v1 n) := hxh2.below hBq
    have hxr : Box wb (w.heap.size + 1) zero10 := hxr2.below hBq
    have hRG0 : ∀ g, vb.ownBlock = some g → w2.heap.size ≤ g ∧ g < wb.heap.size := fun g hg => howb.lt g hg
    have HA := Lib.hid (show IsL wb .u8 vb A by rw [← AE.out]; exact IsL.own howb rfl)
    obtain ⟨aA, cA, ec, iA, jA⟩ := id HA.out
    subst ec
    have rA := iA.room
    have mA := iA.most
    obtain ⟨SA, hSA⟩ : ∃ SA, (if cA = nn then aA else aA.map (·.add nn)) = SA := ⟨_, rfl⟩
    obtain ⟨SC, hSC⟩ : ∃ SC, cA - nn = SC := ⟨_, rfl⟩
    have HZ := Lib.hid (show IsL wb .u8 (.slice SA zs.length SC) zs by rw [← HZL.out, ← HZD.out, ← hSA, ← hSC]; exact HA.out.lowR nn hnl)
    have RG := Lib.hid (show ∀ g, (Value.slice SA zs.length SC).ownBlock = some g → w2.heap.size ≤ g ∧ g < wb.heap.size from fun g hg => hRG0 g (own_low aA A.length cA nn zs.length SC g (by rw [hSA]; exact hg)))
    have HSL := Lib.hid hSA
    have HSC := Lib.hid hSC
    have hszb := hBq.size
    clear hba hbb howa howb hBq hB2 hxh2 hxr2 hRG0 iA jA hSA hSC hin hz0 hz1 hz2q c8 c9 c8a qm
    refine wp_region_held_drew (S := fun w' => Box w' w.heap.size (hashV h v1 n)) (by kernel_rfl) (Box.drew hxh) (fun _ => ?_)
    refine F_drew (F := fun W => wpAnyH _ _ _ _ _ _ _ _ W) ?_
    intro W0 hb0
    have hx0 : Box W0 w.heap.size (hashV h v1 n) := Box.below hxh hb0
    have hr0 := Box.below hxr hb0
    have hB0 := below_thru hBc hb0
    have HA0 := Lib.hid (IsL.below HA.out hb0)
    have HZ0 := Lib.hid (IsL.below HZ.out hb0)
    have sz0 := hr0.lt
    have sz1 := hb0.size
    clear hxh hxr hBc HA HZ hb0
    refine takeH 0 24 (v := ?vw0_1) rfl (by rfl) (by kernel_rfl) (by kernel_rfl) (by kernel_rfl) (fun _ _ _ h => h) (Or.inl ⟨by rfl, ?_⟩) (hx0) ?_
    rotate_left
    · intro wq hSq
      go_simp
      exact rfl
    try simp only [Act.put, List.setIfInBounds_toArray, List.set_cons_zero, List.set_cons_succ]
    refine takeH 2 26 (v := ?vw2_2) rfl (by rfl) (by kernel_rfl) (by kernel_rfl) (by kernel_rfl) (fun _ _ _ h => h) (Or.inl ⟨by rfl, ?_⟩) (hx0) ?_
    rotate_left
    · intro wq hSq
      go_simp
      exact rfl
    try simp only [Act.put, List.setIfInBounds_toArray, List.set_cons_zero, List.set_cons_succ]
    refine takeH 4 28 (v := ?vw4_3) rfl (by rfl) (by kernel_rfl) (by kernel_rfl) (by kernel_rfl) (fun _ _ _ h => h) (Or.inl ⟨by rfl, ?_⟩) (hx0) ?_
    rotate_left
    · intro wq hSq
      go_simp
      exact rfl
    try simp only [Act.put, List.setIfInBounds_toArray, List.set_cons_zero, List.set_cons_succ]
    refine takeH 5 29 (v := ?vw5_4) rfl (by rfl) (by kernel_rfl) (by kernel_rfl) (by kernel_rfl) (fun _ _ _ h => h) (Or.inl ⟨by rfl, ?_⟩) (hx0) ?_
    rotate_left
    · intro wq hSq
      go_simp
      exact rfl
    try simp only [Act.put, List.setIfInBounds_toArray, List.set_cons_zero, List.set_cons_succ]
    refine takeH 6 30 (v := ?vw6_5) rfl (by rfl) (by kernel_rfl) (by kernel_rfl) (by kernel_rfl) (fun _ _ _ h => h) (Or.inl ⟨by rfl, ?_⟩) (hx0) ?_
    rotate_left
    · intro wq hSq
      go_simp
      exact rfl
    try simp only [Act.put, List.setIfInBounds_toArray, List.set_cons_zero, List.set_cons_succ]
    refine takeH 7 31 (v := ?vw7_6) rfl (by rfl) (by kernel_rfl) (by kernel_rfl) (by kernel_rfl) (fun _ _ _ h => h) (Or.inl ⟨by rfl, ?_⟩) (hx0) ?_
    rotate_left
    · intro wq hSq
      go_simp
      exact rfl
    try simp only [Act.put, List.setIfInBounds_toArray, List.set_cons_zero, List.set_cons_succ]
    refine takeH 10 34 (v := ?vw10_7) rfl (by rfl) (by kernel_rfl) (by kernel_rfl) (by kernel_rfl) (fun _ _ _ h => h) (Or.inl ⟨by rfl, ?_⟩) (hx0) ?_
    rotate_left
    · intro wq hSq
      go_simp
      exact rfl
    try simp only [Act.put, List.setIfInBounds_toArray, List.set_cons_zero, List.set_cons_succ]
    refine takeH 12 36 (v := ?vw12_8) rfl (by rfl) (by kernel_rfl) (by kernel_rfl) (by kernel_rfl) (fun _ _ _ h => h) (Or.inl ⟨by rfl, ?_⟩) (hx0) ?_
    rotate_left
    · intro wq hSq
      go_simp
      exact rfl
    try simp only [Act.put, List.setIfInBounds_toArray, List.set_cons_zero, List.set_cons_succ]
    refine takeH 13 37 (v := ?vw13_9) rfl (by rfl) (by kernel_rfl) (by kernel_rfl) (by kernel_rfl) (fun _ _ _ h => h) (Or.inl ⟨by rfl, ?_⟩) (hx0) ?_
    rotate_left
    · intro wq hSq
      go_simp
      exact rfl
    try simp only [Act.put, List.setIfInBounds_toArray, List.set_cons_zero, List.set_cons_succ]
    refine takeH 1 25 (v := .agg (hv h).toArray) rfl (by rfl) (by kernel_rfl) (by kernel_rfl) (by kernel_rfl) (fun _ _ _ h => h) (yieldsIf_load_mid (by rfl) _ _ rfl _ 0 rfl (hv h) _ (fun wq hq => Box.left (l := hv h) (r := [v1, .int .i64 n]) hq) Tryd.underlying32 rfl size8) (hx0) ?_
    try simp only [Act.put, List.setIfInBounds_toArray, List.set_cons_zero, List.set_cons_succ]
    refine takeH 8 32 (v := .int .i64 (nn : Int)) rfl (by rfl) (by kernel_rfl) (by kernel_rfl) (by kernel_rfl) (fun _ _ _ h => h) (Or.inl ⟨by rfl, ?_⟩) (hx0) ?_
    · intro wq hSq
      have e10 := E10.out
      have a1 : IntKind.i64.wrap ((A.length : Int) / 64) = (A.length : Int) / 64 := IntWalk.i64_in _ (by have := AL.out; omega)
      go_simp
      exact IntWalk.i64_in _ (by have := AL.out; omega)
    try simp only [Act.put, List.setIfInBounds_toArray, List.set_cons_zero, List.set_cons_succ]
    refine takeH 9 33 (v := .slice SA zs.length SC) rfl (by rfl) (by kernel_rfl) (by kernel_rfl) (by kernel_rfl) (fun _ _ _ h => h) (Or.inl ⟨by rfl, ?_⟩) (hx0) ?_
    · intro wq hSq
      have eq := HSL.out
      have ez := HZL.out
      have ec := HSC.out
      go_simp
    try simp only [Act.put, List.setIfInBounds_toArray, List.set_cons_zero, List.set_cons_succ]
    refine takeH 11 35 (v := .int .i64 n) rfl (by rfl) (by kernel_rfl) (by kernel_rfl) (by kernel_rfl) (fun _ _ _ h => h) (Or.inl ⟨by rfl, ?_⟩) (hx0) ?_
    · intro wq hSq
      have cq := hSq.c 9 _ rfl
      go_simp
    try simp only [Act.put, List.setIfInBounds_toArray, List.set_cons_zero, List.set_cons_succ]
    refine takeH 14 38 (v := .int .i64 (n + (ys.length : Int))) rfl (by rfl) (by kernel_rfl) (by kernel_rfl) (by kernel_rfl) (fun _ _ _ h => h) (Or.inl ⟨by rfl, ?_⟩) (hx0) ?_
    · intro wq hSq
      go_simp
      try exact IntWalk.i64_in _ (by omega)
    try simp only [Act.put, List.setIfInBounds_toArray, List.set_cons_zero, List.set_cons_succ]
    refine wpAnyH_ready (rs := [3]) (by kernel_rfl) (by simp) (AllReadyH.cons rfl (fun K hK => ?_) AllReadyH.nil)
    go_simp
    refine (rafter_is _ (by have := AL.out; omega) HT HA0 HAB).mono ?_
    rintro e W10 ⟨rfl, hb10⟩
    have hx10 : Box W10 w.heap.size (hashV h v1 n) := Box.below hx0 hb10
    have hr10 := Box.below hr0 hb10
    have hB10 := below_thru hB0 hb10
    have hZ10 := Lib.hid (IsL.below (Hid.out HZ0) hb10)
    have sz10 := hb10.size
    refine hK.out _ _ (hx10) (fun _ => ?_); clear hK K
    refine takeH 15 39 (v := .agg (hashV T (.slice SA zs.length SC) (n + (ys.length : Int))).toArray) rfl (by rfl) (by kernel_rfl) (by kernel_rfl) (by kernel_rfl) (fun _ _ _ h => h) (Or.inl ⟨by rfl, ?_⟩) (hx10) ?_
    · intro wq hSq
      exact exec_build3 _ _ _ rfl T SA zs.length SC (n + (ys.length : Int)) rfl rfl rfl wq
    try simp only [Act.put, List.setIfInBounds_toArray, List.set_cons_zero, List.set_cons_succ]
    refine wpAnyH_ready (rs := [16]) (by kernel_rfl) (by simp) (AllReadyH.cons rfl (fun K hK => ?_) AllReadyH.nil)
    refine step_store_box0 (cs := hashV T (.slice SA zs.length SC) (n + (ys.length : Int))) rfl rfl _ _ _ rfl hr10 rfl rfl size10 rfl (hash_one _ _ _ _ _) ?_
    intro W11 hW11
    have hx11 : Box W11 w.heap.size (hashV h v1 n) := hW11.past _ _ (by omega) hx10
    refine hK.out _ _ (hx11) (fun _ => ?_); clear hK K
    refine takeH 17 5 (v := ?vw17_12) rfl (by rfl) (by kernel_rfl) (by kernel_rfl) (by kernel_rfl) (fun _ _ _ h => h) (Or.inl ⟨by rfl, ?_⟩) (hx11) ?_
    rotate_left
    · intro wq hSq
      go_simp
      exact rfl
    try simp only [Act.put, List.setIfInBounds_toArray, List.set_cons_zero, List.set_cons_succ]
    refine wpAnyH_done (by kernel_rfl) ?_ _
    go_wp2_with fail
    exact bodyPost_ret (v := .tuple #[.agg (hashV T (.slice SA zs.length SC) (n + (ys.length : Int))).toArray, .int .i64 0]) (results_box2 Tryd.results20 hW11.box rfl rfl Tryd.underlying36 rfl size10) rfl ⟨SA, SC, rfl, IsL.stored (Hid.out hZ10) hW11 (fun g hg => by have := RG.out g hg; omega), fun g hg => by have := RG.out g hg; have := hW11.size; omega, hW11.below _ _ (Nat.le_succ _) hB10⟩
set_option maxRecDepth 100000 in
theorem rfinish_bad (h : W8) (at0 : Option Addr) (len cap : Nat) (n : Int) (w : World) (hn : i64n n) (hl : len ≤ 9223372036854775807) (hvd : Hid (vldH n len = false)) :
    Calls Tryd.prog 21 #[.agg (hashV h (.slice at0 len cap) n).toArray] w fun e w' => e = .returned (.tuple #[zeroD, .int .i64 8]) ∧ Below w.heap.size w w' := by
  obtain ⟨v1, hv1⟩ : ∃ v1, v1 = Value.slice at0 len cap := ⟨_, rfl⟩
  rw [← hv1]
  have hc := fun W => rvalid_v h at0 len cap n false hvd W hn.1 hn.2 hl
  rw [← hv1] at hc
  obtain ⟨V, hV⟩ : ∃ V, V = hashV h v1 n := ⟨_, rfl⟩
  rw [← hV]
  have HV := Lib.hid hV
  have HV1 := Lib.hid hv1
  clear hV hv1
  go_enter Tryd.func21, Tryd.ntmps21
  go_upto_region 0 with fail
  go_cut [1, 2, 3] (fun p q r wx => p = .pointer (some ⟨w.heap.size, 0, none⟩) ∧ q = .pointer (some ⟨w.heap.size + 1, 0, none⟩) ∧ r = .int .i64 0 ∧ Box wx w.heap.size (hashV h v1 n) ∧ Box wx (w.heap.size + 1) zero32 ∧ Below w.heap.size w wx)
  case first =>
    go_wp2_with fail
    go_meet
    exact ⟨rfl, rfl, rfl, Box.alloc (Box.newc (by rw [HV.out]) rfl) _, Box.newc rfl (by simp), by go_grown⟩
  case rest =>
    obtain ⟨rfl, rfl, rfl, hxh, hxr, hB⟩ := hcut
    obtain ⟨w1, rfl⟩ : ∃ u : World, u = wc := ⟨_, rfl⟩
    go_wp2_with (refine wpList_load_box rfl _ _ rfl hxh rfl Tryd.underlying36 rfl size10 ?_)
    refine (hc _).mono ?_
    rintro e w2 ⟨rfl, hb⟩
    have hB2 := below_thru hB hb
    have hxh2 := hxh.below hb
    have hxr2 := hxr.below hb
    have hs2 := hB2.size
    have hz2 := hxr2.lt
    clear hb hB hxh hxr hc
    go_wp2_with (refine wpList_store_box (cs := zero32) rfl _ _ _ rfl hxr2 rfl rfl size32 rfl (oneCell_ints _) ?_; intro W3 hW3)
    exact bodyPost_ret (v := .tuple #[.agg zero32.toArray, .int .i64 8]) (results_box2 Tryd.results21 hW3.box rfl rfl Tryd.underlying24 rfl size32) rfl ⟨rfl, hW3.below _ _ (Nat.le_succ _) hB2⟩
set_option maxRecDepth 100000 in
set_option maxHeartbeats 3200000 in
theorem rfinish_ok (h : W8) (at0 : Option Addr) (cap : Nat) (rs D : List Int) (n : Int) (N : Nat) (w : World) (HN : Hid (n = (N : Int))) (hN : N ≤ 128000) (HI : Hid (IsL w .u8 (.slice at0 rs.length cap) rs)) (hvd : Hid (vldH n rs.length = true)) (hbr : Hid (bytesL rs)) (hD : Hid (dig (after h (rs ++ padL N)) = D)) :
    Calls Tryd.prog 21 #[.agg (hashV h (.slice at0 rs.length cap) n).toArray] w fun e w' => e = .returned (.tuple #[dv D, .int .i64 0]) ∧ Below w.heap.size w w' := by
  have m0 := HI.out.room
  have m1 := m0.2.1
  have m2 := m0.2.2
  have hnN := HN.out
  have hlr : rs.length ≤ 64 := by
    have := hvd.out
    simp only [vldH, Bool.and_eq_true, decide_eq_true_eq] at this
    omega
  obtain ⟨P, hP⟩ : ∃ P, padL N = P := ⟨_, rfl⟩
  obtain ⟨T, hT⟩ : ∃ T, after h (([] ++ rs) ++ P) = T := ⟨_, rfl⟩
  have hpl : P.length ≤ 72 := by rw [← hP, padL_len]; omega
  have HP := Lib.hid hP
  have HT := Lib.hid hT
  have HAB := Lib.hid (show bytesL (([] ++ rs) ++ P) by rw [← hP, List.nil_append]; exact hbr.out.append (padL_bytes _))
  have HD := Lib.hid (show dig T = D by rw [← hT, ← hP, List.nil_append]; exact hD.out)
  have hdl := Lib.hid (show (D.map (Value.int .u8)).length = 32 by rw [← hD.out, List.length_map, dig_len])
  have I32 := Lib.hid (show (Tryd.prog.info? 24).map (·.size) = some (D.map (Value.int .u8)).length by rw [hdl.out]; exact size32)
  have HLL := Lib.hid (show zero32.length = (D.map (Value.int .u8)).length by rw [hdl.out]; rfl)
  obtain ⟨ti, hin, hz0, hz1, hz2q⟩ := info8
  clear hP hT m0 hnN
  obtain ⟨v1, hv1⟩ : ∃ v1, v1 = Value.slice at0 rs.length cap := ⟨_, rfl⟩
  rw [← hv1]
  have hc := fun W => rvalid_v h at0 rs.length cap n true hvd W (by have := HN.out; omega) (by have := HN.out; omega) (by omega)
  rw [← hv1] at hc
  obtain ⟨V, hV⟩ : ∃ V, V = hashV h v1 n := ⟨_, rfl⟩
  rw [← hV]
  have HV := Lib.hid hV
  have HV1 := Lib.hid hv1
  clear hV hv1
  go_enter Tryd.func21, Tryd.ntmps21
  go_upto_region 0 with fail
  go_cut [1, 2, 3] (fun p q r wx => p = .pointer (some ⟨w.heap.size, 0, none⟩) ∧ q = .pointer (some ⟨w.heap.size + 1, 0, none⟩) ∧ r = .int .i64 0 ∧ Box wx w.heap.size (hashV h v1 n) ∧ Box wx (w.heap.size + 1) zero32 ∧ Below w.heap.size w wx)
  case first =>
    go_wp2_with fail
    go_meet
    exact ⟨rfl, rfl, rfl, Box.alloc (Box.newc (by rw [HV.out]) rfl) _, Box.newc rfl (by simp), by go_grown⟩
  case rest =>
    obtain ⟨rfl, rfl, rfl, hxh, hxr, hB⟩ := hcut
    obtain ⟨w1, rfl⟩ : ∃ u : World, u = wc := ⟨_, rfl⟩
    go_wp2_with (refine wpList_load_box rfl _ _ rfl hxh rfl Tryd.underlying36 rfl size10 ?_)
    refine (hc _).mono ?_
    rintro e w2 ⟨rfl, hb⟩
    have hB2 := below_thru hB hb
    have hxh2 := hxh.below hb
    have hxr2 := hxr.below hb
    have hs2 := hB2.size
    have hz2 := hxr2.lt
    clear hb hB hxh hxr hc
    rw [← HV1.out] at HI
    go_upto_region 3 with fail
    have hxh := hxh2
    have hxr := hxr2
    have hBc := hB2
    have hz2 := hz2q
    clear hxh2 hxr2 hB2 hz2q
    refine wp_region_held_drew (S := fun w' => Box w' w.heap.size (hashV h v1 n)) (by kernel_rfl) (Box.drew hxh) (fun _ => ?_)
    refine F_drew (F := fun W => wpAnyH _ _ _ _ _ _ _ _ W) ?_
    intro W0 hb0
    have hx0 : Box W0 w.heap.size (hashV h v1 n) := Box.below hxh hb0
    have hr0 := Box.below hxr hb0
    have hB0 := below_thru hBc hb0
    have HI0 := Lib.hid (IsL.below HI.out (below_thru hBc hb0))
    have sz0 := hr0.lt
    have szw := hB0.size
    clear hxh hxr hBc hb0
    refine takeH 0 8 (v := ?vf0_1) rfl (by rfl) (by kernel_rfl) (by kernel_rfl) (by kernel_rfl) (fun _ _ _ h => h) (Or.inl ⟨by rfl, ?_⟩) (hx0) ?_
    rotate_left
    · intro wq hSq
      go_simp
      exact rfl
    try simp only [Act.put, List.setIfInBounds_toArray, List.set_cons_zero, List.set_cons_succ]
    refine takeH 3 11 (v := ?vf3_2) rfl (by rfl) (by kernel_rfl) (by kernel_rfl) (by kernel_rfl) (fun _ _ _ h => h) (Or.inl ⟨by rfl, ?_⟩) (hx0) ?_
    rotate_left
    · intro wq hSq
      go_simp
      exact rfl
    try simp only [Act.put, List.setIfInBounds_toArray, List.set_cons_zero, List.set_cons_succ]
    refine takeH 6 14 (v := ?vf6_3) rfl (by rfl) (by kernel_rfl) (by kernel_rfl) (by kernel_rfl) (fun _ _ _ h => h) (Or.inl ⟨by rfl, ?_⟩) (hx0) ?_
    rotate_left
    · intro wq hSq
      go_simp
      exact rfl
    try simp only [Act.put, List.setIfInBounds_toArray, List.set_cons_zero, List.set_cons_succ]
    refine takeH 1 9 (v := .agg (hv h).toArray) rfl (by rfl) (by kernel_rfl) (by kernel_rfl) (by kernel_rfl) (fun _ _ _ h => h) (yieldsIf_load_mid (by rfl) _ _ rfl _ 0 rfl (hv h) _ (fun wq hq => Box.left (l := hv h) (r := [v1, .int .i64 n]) hq) Tryd.underlying32 rfl size8) (hx0) ?_
    try simp only [Act.put, List.setIfInBounds_toArray, List.set_cons_zero, List.set_cons_succ]
    refine takeH 4 12 (v := v1) rfl (by rfl) (by kernel_rfl) (by kernel_rfl) (by kernel_rfl) (fun _ _ _ h => h) (Or.inl ⟨by rfl, ?_⟩) (hx0) ?_
    · intro wq hSq
      have cq := hSq.c 8 _ rfl
      go_simp
    try simp only [Act.put, List.setIfInBounds_toArray, List.set_cons_zero, List.set_cons_succ]
    refine takeH 7 15 (v := .int .i64 (N : Int)) rfl (by rfl) (by kernel_rfl) (by kernel_rfl) (by kernel_rfl) (fun _ _ _ h => h) (Or.inl ⟨by rfl, ?_⟩) (hx0) ?_
    · intro wq hSq
      have cq := hSq.c 9 _ rfl
      have en := HN.out
      go_simp
    try simp only [Act.put, List.setIfInBounds_toArray, List.set_cons_zero, List.set_cons_succ]
    refine wpAnyH_ready (rs := [2]) (by kernel_rfl) (by simp) (AllReadyH.cons rfl (fun K hK => ?_) AllReadyH.nil)
    go_simp
    refine hK.out _ _ (Box.alloc hx0 _) (fun _ => ?_); clear hK K
    refine F_own (F := fun W => wpAnyH _ _ _ _ _ _ _ _ W) ?_
    intro W4 own4 hb4
    have hx4 : Box W4 w.heap.size (hashV h v1 n) := Box.below hx0 hb4
    have hr4 := Box.below hr0 hb4
    have hB4 := below_thru hB0 hb4
    have hI4 := Lib.hid (IsL.below (Hid.out HI0) hb4)
    have sz4 := hb4.size
    refine wpAnyH_ready (rs := [5]) (by kernel_rfl) (by simp) (AllReadyH.cons rfl (fun K hK => ?_) AllReadyH.nil)
    refine step_append_isl rfl _ _ 28 (by rfl) W0.heap.size 5 ti (.int .u8 0) 1 .u8 Tryd.underlying28 hin hz0 hz1 hz2 rfl _ ([]) (rs) _ (by rfl) (by rfl) own4 (Hid.out hI4) (by unfold maxLen; simp <;> omega) (by simp <;> omega) (sz4) ?_
    intro v5 W5 own5 hb5
    have hx5 : Box W5 w.heap.size (hashV h v1 n) := Box.own hx4 hb5 (by omega)
    have hr5 := Box.own hr4 hb5 (by omega)
    have hB5 := below_own hB4 hb5 (by omega)
    have sz5 := hb5.size
    refine hK.out _ _ (hx5) (fun _ => ?_); clear hK K
    refine wpAnyH_ready (rs := [8]) (by kernel_rfl) (by simp) (AllReadyH.cons rfl (fun K hK => ?_) AllReadyH.nil)
    go_simp
    refine (rpadding_any N _ hN).mono ?_
    rintro e W6 ⟨vp6, rfl, hp6, hb6⟩
    rw [HP.out] at hp6
    have hP6 := Lib.hid hp6
    have hx6 : Box W6 w.heap.size (hashV h v1 n) := Box.below hx5 hb6
    have hr6 := Box.below hr5 hb6
    have hB6 := below_thru hB5 hb6
    have own6 := own_below own5 hb6
    have sz6 := hb6.size
    refine hK.out _ _ (hx6) (fun _ => ?_); clear hK K
    refine wpAnyH_ready (rs := [9]) (by kernel_rfl) (by simp) (AllReadyH.cons rfl (fun K hK => ?_) AllReadyH.nil)
    refine step_append_isl rfl _ _ 28 (by rfl) W0.heap.size 5 ti (.int .u8 0) 1 .u8 Tryd.underlying28 hin hz0 hz1 hz2 rfl _ ([] ++ rs) (P) _ (by rfl) (by rfl) own6 (Hid.out hP6) (by unfold maxLen; simp <;> omega) (by simp <;> omega) (by omega) ?_
    intro v7 W7 own7 hb7
    have hx7 : Box W7 w.heap.size (hashV h v1 n) := Box.own hx6 hb7 (by omega)
    have hr7 := Box.own hr6 hb7 (by omega)
    have hB7 := below_own hB6 hb7 (by omega)
    have sz7 := hb7.size
    refine hK.out _ _ (hx7) (fun _ => ?_); clear hK K
    refine wpAnyH_ready (rs := [10]) (by kernel_rfl) (by simp) (AllReadyH.cons rfl (fun K hK => ?_) AllReadyH.nil)
    go_simp
    refine (rafter_is _ (by simp; omega) HT (Lib.hid (IsL.own (xs := ([] ++ rs) ++ P) own7 rfl)) HAB).mono ?_
    rintro e W8 ⟨rfl, hb8⟩
    have hx8 : Box W8 w.heap.size (hashV h v1 n) := Box.below hx7 hb8
    have hr8 := Box.below hr7 hb8
    have hB8 := below_thru hB7 hb8
    refine hK.out _ _ (hx8) (fun _ => ?_); clear hK K
    refine wpAnyH_ready (rs := [11]) (by kernel_rfl) (by simp) (AllReadyH.cons rfl (fun K hK => ?_) AllReadyH.nil)
    go_simp
    refine (rdigest_is _ HD).mono ?_
    rintro e W9 ⟨rfl, hb9⟩
    have hx9 : Box W9 w.heap.size (hashV h v1 n) := Box.below hx8 hb9
    have hr9 := Box.below hr8 hb9
    have hB9 := below_thru hB8 hb9
    refine hK.out _ _ (hx9) (fun _ => ?_); clear hK K
    refine wpAnyH_ready (rs := [12]) (by kernel_rfl) (by simp) (AllReadyH.cons rfl (fun K hK => ?_) AllReadyH.nil)
    refine step_store_box0 (cs := D.map (Value.int .u8)) rfl rfl _ _ _ rfl hr9 rfl rfl I32.out HLL.out (oneCell_ints _) ?_
    intro W10 hW10
    have hx10 : Box W10 w.heap.size (hashV h v1 n) := hW10.past _ _ (by omega) hx9
    refine hK.out _ _ (hx10) (fun _ => ?_); clear hK K
    refine takeH 13 3 (v := ?vf13_11) rfl (by rfl) (by kernel_rfl) (by kernel_rfl) (by kernel_rfl) (fun _ _ _ h => h) (Or.inl ⟨by rfl, ?_⟩) (hx10) ?_
    rotate_left
    · intro wq hSq
      go_simp
      exact rfl
    try simp only [Act.put, List.setIfInBounds_toArray, List.set_cons_zero, List.set_cons_succ]
    refine wpAnyH_done (by kernel_rfl) ?_ _
    go_wp2_with fail
    exact bodyPost_ret (v := .tuple #[dv D, .int .i64 0]) (results_box2 Tryd.results21 hW10.box rfl rfl Tryd.underlying24 rfl I32.out) rfl ⟨rfl, hW10.below _ _ (Nat.le_succ _) hB9⟩

end Go.Proofs.YtlddlkapabmoeaaDoor
