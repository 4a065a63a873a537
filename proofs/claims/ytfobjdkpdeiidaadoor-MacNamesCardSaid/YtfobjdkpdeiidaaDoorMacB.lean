/-
  Package mac: a key's block, a pad.
-/
import Derived.Test.YtfobjdkpdeiidaaDoorMacM
import Derived.Test.YtfobjdkpdeiidaaDoorMacA
import Derived.Test.YtfobjdkpdeiidaaDoorHash05
namespace Go.Proofs.YtfobjdkpdeiidaaDoor
open Go.RowKit

theorem size_b64 : (Tryd.prog.info? 26).map (·.size) = some 64 := by kernel_rfl
theorem size8u : (Tryd.prog.info? 5).map (·.size) = some 1 := by kernel_rfl
def zeros64 : List Int := List.replicate 64 0
def zero64 : List Value := zeros64.map (Value.int .u8)
def av (xs : List Int) : Value := .agg (xs.map (Value.int .u8)).toArray
theorem size_of64 {B : List Int} (h : B.length = 64) : (Tryd.prog.info? 26).map (·.size) = some (B.map (Value.int .u8)).length := by rw [List.length_map, h]; exact size_b64
theorem len_of64 {B : List Int} (h : B.length = 64) : zero64.length = (B.map (Value.int .u8)).length := by rw [List.length_map, h]; rfl
theorem Box.keep {w w' : World} {b : Nat} {vs : List Value} (h : Box w b vs) (hh : w'.heap[b]? = w.heap[b]?) (hs : w.heap.size ≤ w'.heap.size) : Box w' b vs :=
  ⟨fun i v e => by have := h.c i v e; simpa [World.cell?, hh] using this, fun i v e => by have := h.f i v e; simpa [World.frozen?, hh] using this, Nat.lt_of_lt_of_le h.lt hs⟩
theorem Box.keepB {w w' : World} {b B : Nat} {vs : List Value} (h : Box w b vs) (hb : Below B w w') (hB : b < B) : Box w' b vs := h.keep (hb.block b hB) hb.size
theorem Box.row {w : World} {b : Nat} {l : List Value} {t : TypeId} (h : w.heap[b]? = some (.cells l.toArray t (0, 0))) : Box w b l := by
  have hb := (Array.getElem?_eq_some_iff.1 h).1
  exact ⟨fun i v e => by simp [World.cell?, h, e], fun i v e => by simp [World.frozen?, h], hb⟩
theorem isl_src {w : World} {v : Value} {xs : List Int} (h : IsL w .u8 v xs) : ∃ (sp : Option Addr) (c : Nat), v = .slice sp xs.length c ∧ (0 < (xs.map (Value.int .u8)).length → ∃ ad, sp = some ad ∧ ∀ j u, (xs.map (Value.int .u8))[j]? = some u → w.cell? (ad.add j) = some u) := by
  obtain ⟨a, c, rfl, hi, h0⟩ := h
  refine ⟨a, c, rfl, fun hp => ?_⟩
  rw [List.length_map] at hp
  obtain ⟨b, off, rfl, hc⟩ := hi.cells hp
  refine ⟨_, rfl, fun j u hu => ?_⟩
  have hj : j < xs.length := by
    have := (List.getElem?_eq_some_iff.1 hu).1
    simpa using this
  rw [nth_at j hj] at hu
  cases hu
  rw [Go.WideShapes.add_plain]
  exact hc j hj
theorem oneCells {k : IntKind} (xs : List Int) : ∀ v ∈ xs.map (Value.int k), v.oneCell' = true := fun v hv => by
  obtain ⟨x, _, rfl⟩ := List.mem_map.1 hv
  rfl
set_option maxRecDepth 100000 in
set_option maxHeartbeats 1600000 in
theorem block_many {a0 : Option Addr} {n c0 : Nat} (w : World) (hl : 200 < n) (hm : n ≤ 9223372036854775807) :
    Calls Tryd.prog 23 #[.slice a0 n c0] w fun e w' => e = .returned (.tuple #[av zeros64, .int .i64 4]) ∧ Below w.heap.size w w' := by
  go_enter Tryd.func23, Tryd.ntmps23
  go_wp2_with (first
    | (refine wpList_load_box rfl _ _ rfl (Box.newc (l := zero64) rfl (by simp)) rfl Tryd.underlying26 rfl size_b64 ?_)
    | (refine wpList_store_box (cs := zero64) rfl _ _ _ rfl (Box.alloc (Box.newc (l := zero64) rfl rfl) _) rfl rfl size_b64 rfl (oneCell_ints _) ?_; intro W3 hW3))
  exact bodyPost_ret (v := .tuple #[.agg zero64.toArray, .int .i64 4]) (results_box2 Tryd.results23 hW3.box rfl rfl Tryd.underlying26 rfl size_b64) rfl ⟨rfl, hW3.below _ _ (Nat.le_refl _) (by go_grown)⟩

set_option maxRecDepth 100000 in
set_option maxHeartbeats 1600000 in
theorem block_short {v : Value} {K B : List Int} (w : World) (hi : Hid (IsL w .u8 v K)) (hl : K.length ≤ 64) (hB : Hid (blk K = B)) :
    Calls Tryd.prog 23 #[v] w fun e w' => e = .returned (.tuple #[av B, .int .i64 0]) ∧ Below w.heap.size w w' := by
  have hbl : B.length = 64 := by rw [← hB.out, blk_len]
  have I64 := Lib.hid (size_of64 hbl)
  have HLL := Lib.hid (len_of64 hbl)
  have hr := hi.out
  obtain ⟨a0, c0, rfl, hin, _⟩ := id hr
  have r1 := hin.room
  have r2 := hin.most
  clear hr hin
  have HSP := Lib.hid (show splice zero64 0 (K.map (Value.int .u8)) = B.map (Value.int .u8) by rw [← hB.out, blk_short hl]; exact splice_block _ K)
  have HM := Lib.hid (show (K.map (Value.int .u8)).length = Nat.min K.length 64 by rw [List.length_map]; exact (Nat.min_eq_left hl).symm)
  have HL64 := Lib.hid (show 0 + (K.map (Value.int .u8)).length ≤ zero64.length by rw [List.length_map, Nat.zero_add]; exact hl)
  clear hbl hB
  go_enter Tryd.func23, Tryd.ntmps23
  go_upto_region 1 with fail
  go_cut [2, 4] (fun p q wx => p = .pointer (some ⟨w.heap.size, 0, none⟩) ∧ q = .pointer (some ⟨w.heap.size + 1, 0, none⟩) ∧ Box wx w.heap.size zero64 ∧ wx.heap[w.heap.size + 1]? = some (.cells zero64.toArray 26 (0, 0)) ∧ Below w.heap.size w wx)
  case first =>
    go_wp2_with fail
    go_meet
    exact ⟨rfl, rfl, Box.alloc (Box.newc rfl rfl) _, by rw [← show (w.alloc _).heap.size = w.heap.size + 1 from by simp]; exact heap_alloc_new _ _, by go_grown⟩
  case rest =>
    obtain ⟨rfl, rfl, hx, hg, hB⟩ := hcut
    obtain ⟨w1, rfl⟩ : ∃ u : World, u = wc := ⟨_, rfl⟩
    obtain ⟨sp, c, ev, hsrc⟩ := isl_src (hi.out.below hB)
    injection ev with e1 e2 e3
    subst e1 e3
    have HS := Lib.hid hsrc
    have hz := (Array.getElem?_eq_some_iff.1 hg).1
    clear hsrc e2
    go_upto_region 8 with (with_reducible refine wpList_copy_splice rfl (.tmp 20) (.tmp 21) 23 23 rfl 5 Tryd.underlying23 size8u (some ⟨w.heap.size + 1, 0, none⟩) a0 64 64 K.length c0 rfl rfl (w.heap.size + 1) 0 zero64 26 hg (K.map (Value.int .u8)) HM.out (fun hp => ⟨rfl, HS.out hp⟩) HL64.out (oneCells K) (w.heap.size + 1) w1 (Below.refl _ _) (Nat.le_refl _) ?_; intro w2 hg2 hb2)
    have hg3 := hg2.out
    rw [HSP.out] at hg3
    have hxb : Box w2 (w.heap.size + 1) (B.map (Value.int .u8)) := Box.row hg3
    have hx2 := hx.keepB hb2 (by omega)
    have hBq : Below w.heap.size w w2 := hB.trans (hb2.mono (by omega))
    clear hg3 hg2 hb2
    go_wp2_with (first
      | (refine wpList_load_box rfl _ _ rfl hxb rfl Tryd.underlying26 rfl I64.out ?_)
      | (refine wpList_store_box (cs := B.map (Value.int .u8)) rfl _ _ _ rfl hx2 rfl rfl I64.out HLL.out (oneCell_ints _) ?_; intro W3 hW3))
    exact bodyPost_ret (v := .tuple #[.agg (B.map (Value.int .u8)).toArray, .int .i64 0]) (results_box2 Tryd.results23 hW3.box rfl rfl Tryd.underlying26 rfl I64.out) rfl ⟨rfl, hW3.below _ _ (Nat.le_refl _) hBq⟩

set_option maxRecDepth 100000 in
set_option maxHeartbeats 1600000 in
theorem block_long {v : Value} {K B : List Int} (w : World) (hi : Hid (IsL w .u8 v K)) (hl : 64 < K.length) (hl2 : K.length ≤ 200) (hk : Hid (bytesL K)) (hB : Hid (blk K = B)) (hL : Hid (LaidS w)) :
    Calls Tryd.prog 23 #[v] w fun e w' => e = .returned (.tuple #[av B, .int .i64 0]) ∧ Below w.heap.size w w' := by
  have hbl : B.length = 64 := by rw [← hB.out, blk_len]
  have I64 := Lib.hid (size_of64 hbl)
  have HLL := Lib.hid (len_of64 hbl)
  have hr := hi.out
  obtain ⟨a0, c0, rfl, hin, _⟩ := id hr
  have r1 := hin.room
  have r2 := hin.most
  clear hr hin
  obtain ⟨D, hD⟩ : ∃ D, shaOf K = D := ⟨_, rfl⟩
  have HD := Lib.hid hD
  have hDl : D.length = 32 := by rw [← hD, shaOf_len]
  have HSP := Lib.hid (show splice zero64 0 (D.map (Value.int .u8)) = B.map (Value.int .u8) by rw [← hB.out, blk_long hl hD]; exact splice_block _ D)
  have HM := Lib.hid (show (D.map (Value.int .u8)).length = Nat.min 32 64 by rw [List.length_map, hDl]; rfl)
  have HL64 := Lib.hid (show 0 + (D.map (Value.int .u8)).length ≤ zero64.length by rw [List.length_map, hDl]; decide)
  have I32 := Lib.hid (show (Tryd.prog.info? 31).map (·.size) = some (D.map (Value.int .u8)).length by rw [List.length_map, hDl]; exact size32)
  have H32 := Lib.hid (show zero32.length = (D.map (Value.int .u8)).length by rw [List.length_map, hDl]; rfl)
  have HDl := Lib.hid hDl
  clear hbl hB hD hDl
  go_enter Tryd.func23, Tryd.ntmps23
  go_upto_region 1 with fail
  go_cut [2, 4] (fun p q wx => p = .pointer (some ⟨w.heap.size, 0, none⟩) ∧ q = .pointer (some ⟨w.heap.size + 1, 0, none⟩) ∧ Box wx w.heap.size zero64 ∧ wx.heap[w.heap.size + 1]? = some (.cells zero64.toArray 26 (0, 0)) ∧ Below w.heap.size w wx)
  case first =>
    go_wp2_with fail
    go_meet
    exact ⟨rfl, rfl, Box.alloc (Box.newc rfl rfl) _, by rw [← show (w.alloc _).heap.size = w.heap.size + 1 from by simp]; exact heap_alloc_new _ _, by go_grown⟩
  case rest =>
    obtain ⟨rfl, rfl, hx, hg, hB⟩ := hcut
    obtain ⟨w1, rfl⟩ : ∃ u : World, u = wc := ⟨_, rfl⟩
    have hz := (Array.getElem?_eq_some_iff.1 hg).1
    have HG := Lib.hid hg
    clear hg
    go_wp2_with fail
    refine (sum_ok _ (Lib.hid (hi.out.below hB)) (by omega) hk HD (Lib.hid (hL.out.below hB))).mono ?_
    rintro e w2 ⟨rfl, hb⟩
    have hB2 : Below w.heap.size w w2 := below_thru hB hb
    have hx2 := hx.below hb
    have hs2 := hB2.size
    have hs3 := hb.size
    have HG2 := Lib.hid (show w2.heap[w.heap.size + 1]? = some (.cells zero64.toArray 26 (0, 0)) by rw [hb.block _ hz]; exact HG.out)
    clear hb hB hx HG hi
    go_upto_region 6 with (refine wpList_store_box (cs := D.map (Value.int .u8)) rfl _ _ _ rfl (Box.newc (l := zero32) rfl rfl) rfl rfl I32.out H32.out (oneCell_ints _) ?_; intro w3 hW)
    have hB3 : Below w.heap.size w w3 := hW.below _ _ hs2 (hB2.alloc hs2 _)
    have hx3 : Box w3 w.heap.size zero64 := hW.past _ _ (by omega) (hx2.alloc _)
    have hxd := hW.box
    have hg3 : w3.heap[w.heap.size + 1]? = some (.cells zero64.toArray 26 (0, 0)) := by
      rw [hW.block _ (by omega), heap_alloc_old _ _ (by omega)]
      exact HG2.out
    have HS := Lib.hid (fun (_ : 0 < (D.map (Value.int .u8)).length) => (⟨_, rfl, fun j u hu => by rw [Go.WideShapes.add_plain, Nat.zero_add]; exact hxd.c j u hu⟩ : ∃ ad, (some (⟨w2.heap.size, 0, none⟩ : Addr)) = some ad ∧ ∀ j u, (D.map (Value.int .u8))[j]? = some u → w3.cell? (ad.add j) = some u))
    clear hW hB2 hx2 HG2 hxd
    go_upto_region 8 with (with_reducible refine wpList_copy_splice rfl (.tmp 20) (.tmp 21) 23 23 rfl 5 Tryd.underlying23 size8u (some ⟨w.heap.size + 1, 0, none⟩) (some ⟨w2.heap.size, 0, none⟩) 64 64 32 32 rfl rfl (w.heap.size + 1) 0 zero64 26 hg3 (D.map (Value.int .u8)) HM.out (fun hp => ⟨rfl, HS.out hp⟩) HL64.out (oneCells D) (w.heap.size + 1) w3 (Below.refl _ _) (Nat.le_refl _) ?_; intro w4 hg2 hb2)
    have hg3 := hg2.out
    rw [HSP.out] at hg3
    have hxb : Box w4 (w.heap.size + 1) (B.map (Value.int .u8)) := Box.row hg3
    have hx2 := hx3.keepB hb2 (by omega)
    have hBq : Below w.heap.size w w4 := hB3.trans (hb2.mono (by omega))
    clear hg3 hg2 hb2
    go_wp2_with (first
      | (refine wpList_load_box rfl _ _ rfl hxb rfl Tryd.underlying26 rfl I64.out ?_)
      | (refine wpList_store_box (cs := B.map (Value.int .u8)) rfl _ _ _ rfl hx2 rfl rfl I64.out HLL.out (oneCell_ints _) ?_; intro W3 hW3))
    exact bodyPost_ret (v := .tuple #[.agg (B.map (Value.int .u8)).toArray, .int .i64 0]) (results_box2 Tryd.results23 hW3.box rfl rfl Tryd.underlying26 rfl I64.out) rfl ⟨rfl, hW3.below _ _ (Nat.le_refl _) hBq⟩

theorem block_ok {v : Value} {K B : List Int} (w : World) (hi : Hid (IsL w .u8 v K)) (hl : K.length ≤ 200) (hk : Hid (bytesL K)) (hB : Hid (blk K = B)) (hL : Hid (LaidS w)) :
    Calls Tryd.prog 23 #[v] w fun e w' => e = .returned (.tuple #[av B, .int .i64 0]) ∧ Below w.heap.size w w' := by
  rcases Nat.lt_or_ge 64 K.length with q | q
  · exact block_long w hi q hl hk hB hL
  · exact block_short w hi q hB

end Go.Proofs.YtfobjdkpdeiidaaDoor
