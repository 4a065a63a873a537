/-
  Package frame, walked: message, Before, requestBytes.
-/
import Derived.Test.YtpccahdbienjeaaFmF
import Derived.Test.YtpccahdbienjeaaGQ7
namespace Go.Proofs.Ytpccahdbienjeaa
open Go.RowKit

set_option maxRecDepth 100000 in
set_option maxHeartbeats 1600000 in
theorem msg_is (c : Cmd) (hw : c.wd) (w : World) : Calls Try.prog 54 #[.agg (ccell c).toArray] w (GivesL c.msg w) := by
  have SV := Lib.hid (size_cmd c)
  have MR := fun W => mrow_is c hw W
  have WR := fun (W : World) (v : Value) (h : IsR LF W v (crow c)) => fwrite_is W h
  rw [rowV_ok (crow_e hw), crow_e hw, crow_b hw] at WR
  obtain ⟨V, hV⟩ : ∃ V, ccell c = V := ⟨_, rfl⟩
  rw [hV] at SV MR ⊢
  clear hV hw
  go_enter Try.func54, Try.ntmps54
  go_upto_region 1 with fail
  refine F_gen (F := fun W => Code.wp _ _ _ _ W) (J := fun W => Box W (w.heap.size) (V) ∧ Below w.heap.size w W) (And.intro (Box.newc rfl rfl) (by go_grown)) ?_
  intro w0 ⟨e_c, hB0⟩
  have hs0 := hB0.size
  have x_c0 := e_c; clear e_c
  go_wp2_with (refine wpList_load_box9 rfl _ _ rfl x_c0 rfl Try.underlying39 rfl SV.out ?_)
  refine (MR _).mono ?_
  rintro e w1 ⟨vr, rfl, hr, hb1⟩
  have hB1 := below_thru hB0 hb1
  go_wp2_with fail
  refine (WR _ _ hr).mono ?_
  rintro e w2 ⟨vm, rfl, hm, hb2⟩
  have hB2 := below_thru hB1 hb2
  clear hr
  go_wp2_with fail
  go_returns
  exact ⟨vm, rfl, hm, hB2⟩

def GivesE (xs : List Int) (q : Int) (w : World) (e : Ending) (w' : World) : Prop := ∃ v, e = .returned (.tuple #[v, .int .i64 q]) ∧ IsL w' .u8 v xs ∧ Below w.heap.size w w'
set_option maxRecDepth 100000 in
set_option maxHeartbeats 1600000 in
theorem bef_t (c : Cmd) (h : c.Ok) (w : World) : Calls Try.prog 44 #[.agg (ccell c).toArray] w (GivesE c.msg 0 w) := by
  have SV := Lib.hid (size_cmd c)
  have IC := fun W => isc_is c (q := true) (Lib.hid ⟨fun _ => rfl, fun _ => h⟩) W
  have MR := fun W => msg_is c (Cmd.ok_wd h) W
  obtain ⟨V, hV⟩ : ∃ V, ccell c = V := ⟨_, rfl⟩
  rw [hV] at SV MR IC ⊢
  clear hV h
  go_enter Try.func44, Try.ntmps44
  go_upto_region 1 with fail
  refine F_gen (F := fun W => Code.wp _ _ _ _ W) (J := fun W => Box W (w.heap.size) (V) ∧ Below w.heap.size w W) (And.intro (Box.newc rfl rfl) (by go_grown)) ?_
  intro w0 ⟨e_c, hB0⟩
  have hs0 := hB0.size
  have x_c0 := e_c; clear e_c
  go_wp2_with (refine wpList_load_box9 rfl _ _ rfl x_c0 rfl Try.underlying39 rfl SV.out ?_)
  refine (IC _).mono ?_
  rintro e w1 ⟨rfl, hb⟩
  clear IC
  have hB1 : Below w.heap.size w w1 := below_thru hB0 hb
  have hs1 := hB1.size
  have x_c1 : Box w1 (w.heap.size) (V) := Box.below x_c0 hb
  clear hB0 hs0 x_c0
  clear hb
  go_wp2_with (refine wpList_load_box9 rfl _ _ rfl x_c1 rfl Try.underlying39 rfl SV.out ?_)
  refine (MR _).mono ?_
  rintro e w2 ⟨vr, rfl, hr, hb2⟩
  have hB2 := below_thru hB1 hb2
  go_wp2_with fail
  go_returns
  exact ⟨vr, rfl, hr, hB2⟩

set_option maxRecDepth 100000 in
set_option maxHeartbeats 1600000 in
theorem bef_f (c : Cmd) (h : ¬ c.Ok) (w : World) : Calls Try.prog 44 #[.agg (ccell c).toArray] w (GivesE [] 8 w) := by
  have SV := Lib.hid (size_cmd c)
  have IC := fun W => isc_is c (q := false) (Lib.hid ⟨fun g => absurd g h, fun g => by cases g⟩) W
  obtain ⟨V, hV⟩ : ∃ V, ccell c = V := ⟨_, rfl⟩
  rw [hV] at SV IC ⊢
  clear hV h
  go_enter Try.func44, Try.ntmps44
  go_upto_region 1 with fail
  refine F_gen (F := fun W => Code.wp _ _ _ _ W) (J := fun W => Box W (w.heap.size) (V) ∧ Below w.heap.size w W) (And.intro (Box.newc rfl rfl) (by go_grown)) ?_
  intro w0 ⟨e_c, hB0⟩
  have hs0 := hB0.size
  have x_c0 := e_c; clear e_c
  go_wp2_with (refine wpList_load_box9 rfl _ _ rfl x_c0 rfl Try.underlying39 rfl SV.out ?_)
  refine (IC _).mono ?_
  rintro e w1 ⟨rfl, hb⟩
  clear IC
  have hB1 : Below w.heap.size w w1 := below_thru hB0 hb
  have hs1 := hB1.size
  have x_c1 : Box w1 (w.heap.size) (V) := Box.below x_c0 hb
  clear hB0 hs0 x_c0
  clear hb
  go_wp2_with fail
  go_returns
  exact ⟨_, rfl, IsL.none, hB1⟩

theorem bef_is (c : Cmd) {xs : List Int} {q : Int} (h : (q = 0 ∧ c.Ok ∧ xs = c.msg) ∨ (q = 8 ∧ ¬ c.Ok ∧ xs = [])) (w : World) : Calls Try.prog 44 #[.agg (ccell c).toArray] w (GivesE xs q w) := by
  rcases h with ⟨rfl, h, rfl⟩ | ⟨rfl, h, rfl⟩
  · exact bef_t c h w
  · exact bef_f c h w

theorem fd3_bs {n : Int} (h : 0 ≤ n ∧ n ≤ 65535) : (fdN 3 n).bs = be 2 n := fdN_bs (by decide) (by omega) (by decide)
theorem fd3_ok {n : Int} (h : 0 ≤ n ∧ n ≤ 65535) : (fdN 3 n).ok = true := fdN_ok (by decide) (by omega) (by decide) h.2
theorem one8 : (0 : Int) ≤ 1 ∧ (1 : Int) ≤ 255 := by decide
theorem row1_e : rowE [fdN 2 1] = 0 := rowE_ok (by decide) (fun f hf => by simp at hf; rw [hf]; exact fd2_ok one8)
theorem row1_b : rowB [fdN 2 1] = [1] := by
  show (fdN 2 1).bs ++ [] = [1]
  rw [fd2_bs one8]
  rfl
theorem row2_e (r : Req) : rowE [fdN 3 r.ep, fdN 4 r.co] = 0 := rowE_ok (by show 2 ≤ 40; decide) (fun f hf => by
  simp at hf
  rcases hf with rfl | rfl
  · exact fd3_ok r.hep
  · exact fd4_ok r.hco)
theorem row2_b (r : Req) : rowB [fdN 3 r.ep, fdN 4 r.co] = be 2 r.ep ++ be 4 r.co := by
  show (fdN 3 r.ep).bs ++ ((fdN 4 r.co).bs ++ []) = _
  rw [fd3_bs r.hep, fd4_bs r.hco, List.append_nil]
theorem rcell_t (r : Req) : (rcell r).drop 0 = tcell r.k r.g ++ [.int .u16 r.ep, .int .u32 r.co] := rfl
theorem rcell_ep (r : Req) : (rcell r)[36]? = some (.int .u16 r.ep) := by
  unfold rcell
  rw [List.getElem?_append_right (by rw [tcell_len r.k r.hg]; decide), tcell_len r.k r.hg]
  rfl
theorem rcell_co (r : Req) : (rcell r)[37]? = some (.int .u32 r.co) := by
  unfold rcell
  rw [List.getElem?_append_right (by rw [tcell_len r.k r.hg]; decide), tcell_len r.k r.hg]
  rfl
theorem own_sl9 {w : World} {B e : Nat} {v : Value} {n : Nat} {l : List Value} (h : w.ownsRow B e 1 v n l) : ∃ a c, v = .slice a n c := by
  rcases h.2 with ⟨rfl, rfl⟩ | ⟨g, cap, cur, rfl, _⟩
  · exact ⟨none, 0, rfl⟩
  · exact ⟨_, _, rfl⟩

end Go.Proofs.Ytpccahdbienjeaa
