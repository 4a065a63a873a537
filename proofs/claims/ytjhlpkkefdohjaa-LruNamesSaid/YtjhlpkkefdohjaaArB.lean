/-
  Arenas of the call's own: slices.Clone, copied, the reference's Twin.
-/
import Derived.Test.YtjhlpkkefdohjaaArA
namespace Go.Proofs.Ytjhlpkkefdohjaa
open Go.RowKit

/-- An arena of the call's own. -/
def GivesA (A : Ar) (w : World) (e : Ending) (w' : World) : Prop := ∃ a b, e = .returned (.agg #[a, b, .int .i64 A.fr]) ∧ w'.ownsRow w.heap.size 3 1 a A.nx.length (flatR LI A.nx) ∧ w'.ownsRow w.heap.size 4 1 b A.us.length (flatR LB A.us) ∧ Below w.heap.size w w'
theorem own_split {w : World} {B e B' e' s s' n n' g h : Nat} {c d : Nat} {l l' : List Value} (h1 : w.ownsRow B e s (.slice (some ⟨g, 0, none⟩) n c) n l) (h2 : w.ownsRow B' e' s' (.slice (some ⟨h, 0, none⟩) n' d) n' l') (hne : e ≠ e') : g ≠ h := by
  rcases h1.2 with ⟨q, _⟩ | ⟨g1, c1, u1, q, _, hb, _⟩
  · cases q
  · rcases h2.2 with ⟨q', _⟩ | ⟨g2, c2, u2, q', _, hb', _⟩
    · cases q'
    · cases q
      cases q'
      intro e
      subst e
      rw [hb] at hb'
      cases hb'
      exact hne rfl
/-- The rows of an arena of the call's own, as boxes. -/
theorem own_arena {w : World} {B : Nat} {a b : Value} {A : Ar} (h1 : w.ownsRow B 3 1 a A.nx.length (flatR LI A.nx)) (h2 : w.ownsRow B 4 1 b A.us.length (flatR LB A.us)) (hp : 1 ≤ A.nx.length) (hu : A.us.length = A.nx.length) :
    ∃ g c h d, a = .slice (some ⟨g, 0, none⟩) A.nx.length c ∧ b = .slice (some ⟨h, 0, none⟩) A.nx.length d ∧ B ≤ g ∧ B ≤ h ∧ g ≠ h ∧ (A.nx.length ≤ c ∧ c ≤ 9223372036854775807) ∧ (A.nx.length ≤ d ∧ d ≤ 9223372036854775807) ∧ Box w g (A.nx.map (Value.int .i64)) ∧ Box w h (A.us.map Value.bool) := by
  obtain ⟨g, c, rfl, hg, n1, n2, xg⟩ := own_box h1 (by omega)
  obtain ⟨h, d, rfl, hh, n3, n4, xh⟩ := own_box h2 (by omega)
  have := own_split h1 h2 (by decide)
  rw [flatI] at xg
  rw [flatB] at xh
  rw [hu] at n3 ⊢
  exact ⟨g, c, h, d, rfl, rfl, hg, hh, this, ⟨n1, n2⟩, ⟨n3, n4⟩, xg, xh⟩
/-- Boxes that read as an arena. -/
theorem IsA.boxes {w : World} {g c h d n : Nat} {A : Ar} {x : Int} (xg : Box w g (A.nx.map (Value.int .i64))) (xh : Box w h (A.us.map Value.bool)) (hx : x = A.fr) (h1 : A.nx.length = n) (h2 : A.us.length = n) (hc : n ≤ c ∧ c ≤ 9223372036854775807) (hd : n ≤ d ∧ d ≤ 9223372036854775807) :
    IsA w (.agg #[.slice (some ⟨g, 0, none⟩) n c, .slice (some ⟨h, 0, none⟩) n d, .int .i64 x]) A := by
  subst hx
  exact ⟨_, _, rfl, IsR.ofBoxc xg (flatI _).symm h1.symm hc.1 hc.2, IsR.ofBoxc xh (flatB _).symm h2.symm hd.1 hd.2⟩
/-- The blocks of an arena are new. -/
def Fresh (n : Nat) (v : Value) : Prop := ∃ a b c, v = .agg #[a, b, c] ∧ (∀ k, a.ownBlock = some k → n ≤ k) ∧ (∀ k, b.ownBlock = some k → n ≤ k)
/-- What Take, Give and New answer. -/
def ResA (B : Ar) (w : World) (v : Value) (w' : World) : Prop := IsA w' v B ∧ Fresh w.heap.size v ∧ Below w.heap.size w w'
theorem isA_zero (w : World) : IsA w (.agg ar0.toArray) Ar.zero := ⟨_, _, rfl, IsR.none, IsR.none⟩
theorem fresh_zero (n : Nat) : Fresh n (.agg ar0.toArray) := ⟨_, _, _, rfl, fun k h => by (cases h), fun k h => by (cases h)⟩
theorem fresh_boxes {n g h a b c d : Nat} {x : Value} (hg : n ≤ g) (hh : n ≤ h) : Fresh n (.agg #[.slice (some ⟨g, 0, none⟩) a b, .slice (some ⟨h, 0, none⟩) c d, x]) :=
  ⟨_, _, _, rfl, fun k e => by cases e; exact hg, fun k e => by cases e; exact hh⟩
theorem one_ar0 : ar0.toArray.all (·.oneCell') = true := one_ar _ _ _ _ _ _ _

theorem pcli_neq (W : World) : (binOp .eql 22 (.slice none 0 0) (.slice none 0 0)).run Try.prog W = .ok (.bool true) W := by kernel_rfl
theorem pcli_seq (ad : Addr) (n c : Nat) (W : World) : (binOp .eql 22 (.slice (some ad) n c) (.slice none 0 0)).run Try.prog W = .ok (.bool false) W := by kernel_rfl
set_option maxRecDepth 100000 in
set_option maxHeartbeats 6400000 in
theorem pcli_n {xs : List Int} (hl : xs.length ≤ 200) (w : World) (h1 : IsR LI w (.slice none 0 0) xs) : Calls Try.prog 37 #[.slice none 0 0] w fun e w' => ∃ a, e = .returned a ∧ w'.ownsRow w.heap.size 3 1 a xs.length (flatR LI xs) ∧ Below w.heap.size w w' := by
  have e1 : xs = [] := List.eq_nil_of_length_eq_zero h1.room.1.symm; subst e1; clear h1 hl
  have hB0 := Below.refl w.heap.size w; have hq := pcli_neq
  go_enter Try.func37, Try.ntmps37
  go_wp2_with fail
  go_returns
  exact ⟨_, rfl, ownR_none, hB0⟩

set_option maxRecDepth 100000 in
set_option maxHeartbeats 6400000 in
theorem pcli_s {ad : Addr} {c : Nat} {xs : List Int} (hl : xs.length ≤ 200) (w : World) (h1 : IsR LI w (.slice (some ad) xs.length c) xs) : Calls Try.prog 37 #[.slice (some ad) xs.length c] w fun e w' => ∃ a, e = .returned a ∧ w'.ownsRow w.heap.size 3 1 a xs.length (flatR LI xs) ∧ Below w.heap.size w w' := by
  obtain ⟨ti, hin, hz0, hz1, hz2⟩ := info_parts info_in
  have hq := pcli_seq ad xs.length c
  have H1 := Lib.hid h1; clear h1
  have HL := Lib.hid hl; clear hl
  have LE : (w.alloc (.cells #[] 3)).ownsRow w.heap.size 3 1 (.slice (some ⟨w.heap.size, 0, none⟩) 0 0) 0 [] := ownR_built (L := LI) (c := #[]) (n := 0) (m := 0) [] rfl rfl rfl rfl rfl (by decide)
  have XS : IsR LI (w.alloc (.cells #[] 3)) (.slice (some ad) xs.length c) xs := H1.out.alloc _
  go_enter Try.func37, Try.ntmps37
  go_wp2_with (at_builtin; refine wpList_append_rows rfl LI _ _ 22 rfl w.heap.size 3 ti (.int .i64 0) 1 8 rfl Try.underlying22 hin hz0 hz1 hz2 rfl _ 0 _ rfl LE _ xs rfl XS (by have := HL.out; unfold maxLen; omega) (by have := HL.out; omega) (by simp) ?_; intro v40 w40 own4 gr4)
  go_returns
  refine ⟨_, rfl, ?_, ?_⟩
  · have := own4
    rw [Nat.zero_add, List.nil_append] at this
    exact this
  · exact ((Below.refl _ w).alloc (Nat.le_refl _) _).grown gr4 (by simp) (ownR_block LE)

theorem pcli_is {v : Value} {xs : List Int} (hl : xs.length ≤ 200) (w : World) (h1 : IsR LI w v xs) : Calls Try.prog 37 #[v] w fun e w' => ∃ a, e = .returned a ∧ w'.ownsRow w.heap.size 3 1 a xs.length (flatR LI xs) ∧ Below w.heap.size w w' := by
  obtain ⟨a, c, rfl, hr⟩ := id h1
  cases a with
  | none =>
    have hc := hr.nil rfl
    have := hr.room
    have e : xs = [] := List.eq_nil_of_length_eq_zero (by omega)
    subst e
    subst hc
    exact pcli_n hl w h1
  | some ad => exact pcli_s hl w h1

theorem pclb_neq (W : World) : (binOp .eql 59 (.slice none 0 0) (.slice none 0 0)).run Try.prog W = .ok (.bool true) W := by kernel_rfl
theorem pclb_seq (ad : Addr) (n c : Nat) (W : World) : (binOp .eql 59 (.slice (some ad) n c) (.slice none 0 0)).run Try.prog W = .ok (.bool false) W := by kernel_rfl
end Go.Proofs.Ytjhlpkkefdohjaa
