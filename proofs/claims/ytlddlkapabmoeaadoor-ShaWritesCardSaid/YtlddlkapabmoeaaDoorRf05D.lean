/-
  The reference of layer 5: valid hashes, Pad, Block, Of, Sum, Start; and what both answer, in one form.
-/
import Derived.Test.YtlddlkapabmoeaaDoorRf05C
namespace Go.Proofs.YtlddlkapabmoeaaDoor
open Go.RowKit

set_option maxRecDepth 100000 in
theorem rvalid_any (h : W8) (at0 : Option Addr) (len cap : Nat) (n : Int) (b : Bool) (hb : Hid (vldH n len = b)) (w : World) (h1 : -9223372036854775808 ≤ n) (h2 : n ≤ 9223372036854775807) (hm : len ≤ 9223372036854775807) :
    Calls Tryd.prog 36 #[.agg #[.int .u32 (un h.a), .int .u32 (un h.b), .int .u32 (un h.c), .int .u32 (un h.d), .int .u32 (un h.e), .int .u32 (un h.f), .int .u32 (un h.g), .int .u32 (un h.z), .slice at0 len cap, .int .i64 n]] w fun e w' =>
      e = .returned (.bool b) ∧ Below w.heap.size w w' := by
  have _ := hm
  have _ := h1
  have _ := h2
  by_cases a : 0 ≤ n
  · by_cases c : n ≤ 128000
    · by_cases e : (len : Int) = n % 64
      · obtain rfl : b = true := by rw [← hb.out]; simp [vldH, cntB, a, c, e]
        go_enter Tryd.func36, Tryd.ntmps36
        go_wp2
        go_returns
        exact ⟨rfl, (Below.refl _ _).alloc (Nat.le_refl _) _⟩
      · obtain rfl : b = false := by rw [← hb.out]; simp [vldH, cntB, a, c, e]
        have e' : ((len : Int) == n % 64) = false := by simpa using e
        clear e
        go_enter Tryd.func36, Tryd.ntmps36
        go_wp2
        go_returns
        exact ⟨rfl, (Below.refl _ _).alloc (Nat.le_refl _) _⟩
    · obtain rfl : b = false := by rw [← hb.out]; simp [vldH, cntB, c]
      have c' : decide (n ≤ 128000) = false := decide_eq_false c
      clear c
      go_enter Tryd.func36, Tryd.ntmps36
      go_wp2
      go_returns
      exact ⟨rfl, (Below.refl _ _).alloc (Nat.le_refl _) _⟩
  · obtain rfl : b = false := by rw [← hb.out]; simp [vldH, cntB, a]
    have a' : decide (0 ≤ n) = false := decide_eq_false a
    clear a
    go_enter Tryd.func36, Tryd.ntmps36
    go_wp2
    go_returns
    exact ⟨rfl, (Below.refl _ _).alloc (Nat.le_refl _) _⟩

/-- What Pad answers. -/
def padOut (n : Int) : List Int × Int := if cntB n = true then (padL n.toNat, 0) else ([], 2)
theorem pad_any {n : Int} {zs : List Int} {c : Int} (w : World) (h1 : -9223372036854775808 ≤ n) (h2 : n ≤ 9223372036854775807) (h : Hid (padOut n = (zs, c))) : Calls Tryd.prog 11 #[.int .i64 n] w (GivesB zs c w) := by
  have e := h.out
  unfold padOut at e
  split at e
  · rename_i hc
    have hn : 0 ≤ n ∧ n ≤ 128000 := by simpa [cntB] using hc
    injection e with e1 e2
    subst e1 e2
    have := pad_ok n.toNat w (by omega)
    rw [show ((n.toNat : Nat) : Int) = n by omega] at this
    exact this
  · rename_i hc
    injection e with e1 e2
    subst e1 e2
    exact pad_no n w h1 h2 (Lib.hid (by simpa using hc))
set_option maxRecDepth 100000 in
theorem rpad_any {n : Int} {zs : List Int} {c : Int} (w : World) (h1 : -9223372036854775808 ≤ n) (h2 : n ≤ 9223372036854775807) (h : Hid (padOut n = (zs, c))) : Calls Tryd.prog 17 #[.int .i64 n] w (GivesB zs c w) := by
  have e := h.out
  have _ := h1
  have _ := h2
  unfold padOut at e
  split at e
  · rename_i hc
    have hn : 0 ≤ n ∧ n ≤ 128000 := by simpa [cntB] using hc
    injection e with e1 e2
    subst e1 e2
    have a1 := hn.1
    have a2 := hn.2
    have hp := fun W => rpadding_any n.toNat W (by omega)
    rw [show ((n.toNat : Nat) : Int) = n by omega] at hp
    clear hn hc h
    go_enter Tryd.func17, Tryd.ntmps17
    go_wp2_with fail
    refine (hp _).mono ?_
    rintro e w1 ⟨v, rfl, hv, hb⟩
    clear hp
    go_wp2_with fail
    go_returns
    exact ⟨v, rfl, hv, hb⟩
  · rename_i hc
    injection e with e1 e2
    subst e1 e2
    clear h
    by_cases a : n < 0
    · go_enter Tryd.func17, Tryd.ntmps17
      go_wp2_with fail
      go_returns
      exact ⟨_, rfl, IsL.none, Below.refl _ _⟩
    · have b : 128000 < n := by
        simp [cntB] at hc
        omega
      go_enter Tryd.func17, Tryd.ntmps17
      go_wp2_with fail
      go_returns
      exact ⟨_, rfl, IsL.none, Below.refl _ _⟩
/-- What Block answers. -/
def blockOut (T : W8) (xs : List Int) : W8 × Int := if xs.length = 64 then (taken T xs, 0) else (zeroW, 2)
theorem block_any2 {T T1 : W8} {v : Value} {xs : List Int} {c : Int} (w : World) (hi : Hid (IsL w .u8 v xs)) (hx : Hid (bytesL xs)) (hL : Hid (LaidS w)) (h : Hid (blockOut T xs = (T1, c))) :
    Calls Tryd.prog 12 #[.agg (hv T).toArray, v] w fun e w' => e = .returned (.tuple #[.agg (hv T1).toArray, .int .i64 c]) ∧ Below w.heap.size w w' := by
  have e := h.out
  unfold blockOut at e
  split at e
  · rename_i hl
    injection e with e1 e2
    subst e1 e2
    exact bBlock_is w (Lib.hid rfl) hi (Lib.hid hl) hx hL
  · rename_i hl
    injection e with e1 e2
    subst e1 e2
    obtain ⟨a0, c0, rfl, hin, _⟩ := hi.out
    exact bBlock_no T a0 xs.length c0 w hl (by have := hin.room; have := hin.most; omega)
set_option maxRecDepth 100000 in
theorem rblock_any2 {T T1 : W8} {v : Value} {xs : List Int} {c : Int} (w : World) (hi : Hid (IsL w .u8 v xs)) (hx : Hid (bytesL xs)) (h : Hid (blockOut T xs = (T1, c))) :
    Calls Tryd.prog 18 #[.agg (hv T).toArray, v] w fun e w' => e = .returned (.tuple #[.agg (hv T1).toArray, .int .i64 c]) ∧ Below w.heap.size w w' := by
  have e := h.out
  unfold blockOut at e
  obtain ⟨a0, c0, rfl, hin, h0⟩ := id hi.out
  have m1 := hin.room
  have m2 := hin.most
  clear hin h0
  obtain ⟨V, hV⟩ : ∃ V, V = hv T := ⟨_, rfl⟩
  rw [← hV]
  have HV := Lib.hid hV
  clear hV
  split at e
  · rename_i hl
    injection e with e1 e2
    subst e2
    have HTT := Lib.hid e1
    clear e1
    have hl' : ((xs.length : Int) != 64) = false := by rw [hl]; rfl
    have HL := Lib.hid hl
    clear hl h
    go_enter Tryd.func18, Tryd.ntmps18
    go_upto_region 3 with fail
    go_wp2_with (refine wpList_load_box rfl _ _ rfl (Box.alloc (Box.newc (l := hv T) (by rw [HV.out]) rfl) _) rfl Tryd.underlying32 rfl size8 ?_)
    refine (rtaken_is _ HTT ((hi.out.alloc _).alloc _) HL hx).mono ?_
    rintro e w1 ⟨rfl, hb⟩
    have hB1 : Below w.heap.size w w1 := below_thru (by go_grown) hb
    have hxr : Box w1 (w.heap.size + 1) zero8 := Box.below (Box.newc rfl (by simp)) hb
    clear hb
    go_wp2_with (refine wpList_store_box (cs := hv T1) rfl _ _ _ rfl hxr rfl rfl size8 rfl (hv_one _) ?_; intro W3 hW3)
    exact bodyPost_ret (v := .tuple #[.agg (hv T1).toArray, .int .i64 0]) (results_box2 Tryd.results18 hW3.box rfl rfl Tryd.underlying32 rfl size8) rfl ⟨rfl, hW3.below _ _ (Nat.le_succ _) hB1⟩
  · rename_i hl
    injection e with e1 e2
    subst e1 e2
    have hl' : ((xs.length : Int) != 64) = true := by simpa using (show (xs.length : Int) ≠ 64 by omega)
    clear hl h
    go_enter Tryd.func18, Tryd.ntmps18
    go_wp2_with fail
    refine bodyPost_ret (v := .tuple #[.agg (hv zeroW).toArray, .int .i64 2]) (by simp [results, Tryd.results18, go_sem, hv, zeroW, un]) rfl ⟨rfl, ?_⟩
    go_grown
theorem rdigest_is {h : W8} {D : List Int} (w : World) (hD : Hid (dig h = D)) : Calls Tryd.prog 38 #[.agg (hv h).toArray] w fun e w' => e = .returned (dv D) ∧ Below w.heap.size w w' := by
  rw [← hD.out]; exact rdigest_any h w
theorem rafter_is {T0 T : W8} {v : Value} {xs : List Int} (w : World) (q0 : xs.length ≤ 1000000) (hT : Hid (after T0 xs = T)) (i0 : Hid (IsL w .u8 v xs)) (b0 : Hid (bytesL xs)) :
    Calls Tryd.prog 37 #[.agg (hv T0).toArray, v] w fun e w' => e = .returned (.agg (hv T).toArray) ∧ Below w.heap.size w w' := by
  obtain ⟨a0, c0, rfl, hi, h0⟩ := id i0.out
  exact rafter_any w q0 hT i0 b0
theorem build_hash0 (T : W8) (w : World) : (Instr.build 36 #[(0, .agg (hv T).toArray)]).run Tryd.prog w = .ok (.agg (hashV T (.slice none 0 0) 0).toArray) w := by kernel_rfl
theorem wpList_build_hash0 {ops : Array Oper} {rest : List Oper} {o : Oper} {a : Act} {w : World} {Q : Exit → Act → World → Prop} (hgd : o.guard = none) (x : Operand) (ho : o.op = .build 36 #[(0, x)]) (T : W8)
    (hx : a.eval x = .agg (hv T).toArray)
    (h : wpList Tryd.prog ops Q rest (a.put o.dst (.agg (hashV T (.slice none 0 0) 0).toArray)) w) : wpList Tryd.prog ops Q (o :: rest) a w :=
  wpList_plain hgd fun kb hK => by
    have hb := build_hash0 T w
    have hK2 := hK _ _ h
    generalize hashV T (.slice none 0 0) 0 = L at *
    unfold Oper.wp execOp
    simp only [ho, List.map_toArray, List.map, hx, Sem.run_bind, hb, Result.andThen_ok, Sem.run_pure]
    exact hK2
set_option maxRecDepth 100000 in
theorem rstart_any (w : World) : Calls Tryd.prog 24 #[] w fun e w' => e = .returned (.agg (hashV first (.slice none 0 0) 0).toArray) ∧ Below w.heap.size w w' := by
  have hfc := fun W => rfirst_is W
  generalize first = h at hfc ⊢
  go_enter Tryd.func24, Tryd.ntmps24
  go_wp2_with fail
  refine (hfc _).mono ?_
  rintro e w1 ⟨rfl, hb⟩
  have hB1 : Below w.heap.size w w1 := below_thru (by go_grown) hb
  have hxr : Box w1 w.heap.size zero10 := Box.below (Box.newc rfl rfl) hb
  clear hb hfc
  go_wp2_with (first | (refine wpList_build_hash0 rfl _ rfl h rfl ?_) | (refine wpList_store_box (cs := hashV h (.slice none 0 0) 0) rfl _ _ _ rfl hxr rfl rfl size10 rfl (hash_one _ _ _ _ _) ?_; intro W3 hW3))
  exact bodyPost_ret (v := .agg (hashV h (.slice none 0 0) 0).toArray) (results_box Tryd.results24 hW3.box rfl Tryd.underlying36 rfl size10) rfl ⟨rfl, hW3.below _ _ (Nat.le_refl _) hB1⟩

end Go.Proofs.YtlddlkapabmoeaaDoor
