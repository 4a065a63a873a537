/-
  Putting into a table, the mathematics of IdealExact and IdealOrder.
-/
import Derived.Test.YtpccahdbienjeaaIdPut
import Derived.Test.YtpccahdbienjeaaIdLaw
namespace Go.Proofs.Ytpccahdbienjeaa
open Go.RowKit

theorem ex_bool12 (p : Prop) : ∃ b : Bool, b = true ↔ p := by
  by_cases h : p
  · exact ⟨true, fun _ => h, fun _ => rfl⟩
  · exact ⟨false, fun e => (Bool.false_ne_true e).elim, fun e => absurd e h⟩
theorem Dst.inj12 {α β : Type} {f : α → β} {l : List α} (h : Dst f l l.length) {x y : α} (hx : x ∈ l) (hy : y ∈ l) (e : f x = f y) : x = y := by
  obtain ⟨i, hi, ei⟩ := List.getElem_of_mem hx
  obtain ⟨j, hj, ej⟩ := List.getElem_of_mem hy
  have e1 : l[i]? = some x := by rw [List.getElem?_eq_getElem hi, ei]
  have e2 : l[j]? = some y := by rw [List.getElem?_eq_getElem hj, ej]
  rcases Nat.lt_trichotomy i j with q | q | q
  · exact absurd e (h i j x y q hj e1 e2)
  · subst q; rw [e1] at e2; injection e2
  · exact absurd e.symm (h j i y x q hi e2 e1)
theorem ChkD.z12 {ts : List Tk} {cs : List Cmd} (h : ChkD ts cs 0) : ts.length + cs.length ≤ 100 ∧ GoodT ts ∧ GoodC cs ∧ DstT ts ∧ DstC cs := by
  rcases h with ⟨h, _⟩ | ⟨h, _⟩ | ⟨h, _⟩ | ⟨_, h⟩
  · cases h
  · cases h
  · cases h
  · exact h
/-- An element that is there already. -/
theorem PutX.mem12 {α β : Type} {f : α → β} {good : Prop} {l : List α} {m : Nat} {x : α} {r : Option (List α)} {q : Int} (h : PutX f good l m x r q) (hd : Dst f l l.length) (hg : good) (hx : x ∈ l) : q = 0 ∧ r = some l := by
  rcases h with ⟨_, n, _⟩ | ⟨_, ⟨_, ⟨u, hu, e, n⟩, _⟩ | ⟨h, _, e⟩ | ⟨n, _⟩⟩
  · exact absurd hg n
  · exact absurd (hd.inj12 hu hx e) n
  · exact ⟨h, e⟩
  · exact absurd rfl (n x hx)
theorem PutX.clash12 {α β : Type} {f : α → β} {good : Prop} {l : List α} {m : Nat} {x : α} {r : Option (List α)} {q : Int} (h : PutX f good l m x r q) (hg : good) (hx : x ∉ l) (hu : ∃ u ∈ l, f u = f x) : q = 14 ∧ r = none := by
  rcases h with ⟨_, n, _⟩ | ⟨_, ⟨h, _, e⟩ | ⟨_, h, _⟩ | ⟨n, _⟩⟩
  · exact absurd hg n
  · exact ⟨h, e⟩
  · exact absurd h hx
  · obtain ⟨u, hu, e⟩ := hu; exact absurd e (n u hu)
theorem PutX.full12 {α β : Type} {f : α → β} {good : Prop} {l : List α} {m : Nat} {x : α} {r : Option (List α)} {q : Int} (h : PutX f good l m x r q) (hg : good) (hu : ∀ u ∈ l, f u ≠ f x) : (100 ≤ m → q = 4 ∧ r = none) ∧ (m < 100 → q = 0 ∧ r = some (l ++ [x])) := by
  rcases h with ⟨_, n, _⟩ | ⟨_, ⟨_, ⟨u, hm, e, _⟩, _⟩ | ⟨_, h, _⟩ | ⟨_, ⟨h, hm, e⟩ | ⟨h, hm, e⟩⟩⟩
  · exact absurd hg n
  · exact absurd e (hu u hm)
  · exact absurd rfl (hu x h)
  · exact ⟨fun _ => ⟨h, e⟩, fun n => by omega⟩
  · exact ⟨fun n => by omega, fun _ => ⟨h, e⟩⟩
/-- What was put in, where the answer is no error. -/
theorem PutX.ok12 {α β : Type} {f : α → β} {good : Prop} {l : List α} {m : Nat} {x : α} {r : Option (List α)} (h : PutX f good l m x r 0) : good ∧ ((x ∈ l ∧ r = some l) ∨ ((∀ u ∈ l, f u ≠ f x) ∧ m < 100 ∧ r = some (l ++ [x]))) := by
  rcases h with ⟨n, _⟩ | ⟨g, ⟨n, _⟩ | ⟨_, h, e⟩ | ⟨hn, ⟨n, _⟩ | ⟨_, hm, e⟩⟩⟩
  · cases n
  · cases n
  · exact ⟨g, Or.inl ⟨h, e⟩⟩
  · cases n
  · exact ⟨g, Or.inr ⟨hn, hm, e⟩⟩
theorem PutX.no12 {α β : Type} {f : α → β} {good : Prop} {l : List α} {m : Nat} {x : α} {r : Option (List α)} {q : Int} (h : PutX f good l m x r q) (hd : Dst f l l.length) (hg : x ∈ l → good) (hq : q ≠ 0) : (q = 8 ∨ q = 14 ∨ q = 4) ∧ x ∉ l := by
  refine ⟨?_, fun hx => hq (h.mem12 hd (hg hx) hx).1⟩
  rcases h with ⟨h, _⟩ | ⟨_, ⟨h, _⟩ | ⟨h, _⟩ | ⟨_, ⟨h, _⟩ | ⟨h, _⟩⟩⟩
  · exact Or.inl h
  · exact Or.inr (Or.inl h)
  · exact absurd h hq
  · exact Or.inr (Or.inr h)
  · exact absurd h hq
theorem PutT.core12 {ts : List Tk} {cs : List Cmd} {t : Tk} {us : List Tk} {ds : List Cmd} {q : Int} (h : PutT ts cs t us ds q) (hc : ChkD ts cs 0) : ∃ r, PutX Tk.bare (t.k.t < 16) ts (ts.length + cs.length) t r q ∧ ((r = none ∧ us = [] ∧ ds = []) ∨ (r = some us ∧ ds = cs)) := by
  rcases h with ⟨n, h, _⟩ | ⟨_, h⟩
  · exact absurd (h.uniq hc) n
  · exact h
theorem PutC.core12 {ts : List Tk} {cs : List Cmd} {c : Cmd} {us : List Tk} {ds : List Cmd} {q : Int} (h : PutC ts cs c us ds q) (hc : ChkD ts cs 0) : ∃ r, PutX Cmd.bare c.Ok cs (ts.length + cs.length) c r q ∧ ((r = none ∧ us = [] ∧ ds = []) ∨ (r = some ds ∧ us = ts)) := by
  rcases h with ⟨n, h, _⟩ | ⟨_, h⟩
  · exact absurd (h.uniq hc) n
  · exact h
theorem PutT.ok12 {ts : List Tk} {cs : List Cmd} {t : Tk} {us : List Tk} {ds : List Cmd} (h : PutT ts cs t us ds 0) (hc : ChkD ts cs 0) : ds = cs ∧ t.k.t < 16 ∧ ((t ∈ ts ∧ us = ts) ∨ ((∀ u ∈ ts, u.bare ≠ t.bare) ∧ ts.length + cs.length < 100 ∧ us = ts ++ [t])) := by
  obtain ⟨r, hp, hr⟩ := h.core12 hc
  obtain ⟨g, hp⟩ := hp.ok12
  rcases hp with ⟨hm, e⟩ | ⟨hn, hm, e⟩ <;> rcases hr with ⟨n, _⟩ | ⟨n, hd⟩
  · rw [e] at n; cases n
  · rw [e] at n; injection n with n; exact ⟨hd, g, Or.inl ⟨hm, n.symm⟩⟩
  · rw [e] at n; cases n
  · rw [e] at n; injection n with n; exact ⟨hd, g, Or.inr ⟨hn, hm, n.symm⟩⟩
theorem PutC.ok12 {ts : List Tk} {cs : List Cmd} {c : Cmd} {us : List Tk} {ds : List Cmd} (h : PutC ts cs c us ds 0) (hc : ChkD ts cs 0) : us = ts ∧ c.Ok ∧ ((c ∈ cs ∧ ds = cs) ∨ ((∀ u ∈ cs, u.bare ≠ c.bare) ∧ ts.length + cs.length < 100 ∧ ds = cs ++ [c])) := by
  obtain ⟨r, hp, hr⟩ := h.core12 hc
  obtain ⟨g, hp⟩ := hp.ok12
  rcases hp with ⟨hm, e⟩ | ⟨hn, hm, e⟩ <;> rcases hr with ⟨n, _⟩ | ⟨n, hd⟩
  · rw [e] at n; cases n
  · rw [e] at n; injection n with n; exact ⟨hd, g, Or.inl ⟨hm, n.symm⟩⟩
  · rw [e] at n; cases n
  · rw [e] at n; injection n with n; exact ⟨hd, g, Or.inr ⟨hn, hm, n.symm⟩⟩
/-- The table behind a token that was put in: valid, it holds the token, nothing else is new, and putting it in again changes nothing. -/
theorem PutT.then12 {ts : List Tk} {cs : List Cmd} {t : Tk} {us : List Tk} {ds : List Cmd} (h : PutT ts cs t us ds 0) (hc : ChkD ts cs 0) : ChkD us ds 0 ∧ ds = cs ∧ (∀ x, x ∈ us ↔ x ∈ ts ∨ x = t) ∧ ∀ {us2 : List Tk} {ds2 : List Cmd} {q : Int}, PutT us ds t us2 ds2 q → q = 0 ∧ us2 = us ∧ ds2 = ds := by
  obtain ⟨rfl, g, h⟩ := h.ok12 hc
  have key : ChkD us ds 0 ∧ t ∈ us ∧ ∀ x, x ∈ us ↔ x ∈ ts ∨ x = t := by
    rcases h with ⟨hm, rfl⟩ | ⟨hn, hm, rfl⟩
    · exact ⟨hc, hm, fun x => ⟨Or.inl, fun h => h.elim id fun e => e ▸ hm⟩⟩
    · have := hc.put_t g hn
      rw [if_pos hm] at this
      exact ⟨this, by simp, fun x => by simp⟩
  refine ⟨key.1, rfl, key.2.2, fun h2 => ?_⟩
  obtain ⟨r, hp, hr⟩ := h2.core12 key.1
  obtain ⟨e, er⟩ := hp.mem12 key.1.z12.2.2.2.1 g key.2.1
  rcases hr with ⟨n, _⟩ | ⟨n, hd⟩
  · rw [er] at n; cases n
  · rw [er] at n; injection n with n; exact ⟨e, n.symm, hd⟩
theorem PutC.then12 {ts : List Tk} {cs : List Cmd} {c : Cmd} {us : List Tk} {ds : List Cmd} (h : PutC ts cs c us ds 0) (hc : ChkD ts cs 0) : ChkD us ds 0 ∧ us = ts ∧ (∀ x, x ∈ ds ↔ x ∈ cs ∨ x = c) ∧ ∀ {us2 : List Tk} {ds2 : List Cmd} {q : Int}, PutC us ds c us2 ds2 q → q = 0 ∧ us2 = us ∧ ds2 = ds := by
  obtain ⟨rfl, g, h⟩ := h.ok12 hc
  have key : ChkD us ds 0 ∧ c ∈ ds ∧ ∀ x, x ∈ ds ↔ x ∈ cs ∨ x = c := by
    rcases h with ⟨hm, rfl⟩ | ⟨hn, hm, rfl⟩
    · exact ⟨hc, hm, fun x => ⟨Or.inl, fun h => h.elim id fun e => e ▸ hm⟩⟩
    · have := hc.put_c g hn
      rw [if_pos hm] at this
      exact ⟨this, by simp, fun x => by simp⟩
  refine ⟨key.1, rfl, key.2.2, fun h2 => ?_⟩
  obtain ⟨r, hp, hr⟩ := h2.core12 key.1
  obtain ⟨e, er⟩ := hp.mem12 key.1.z12.2.2.2.2 g key.2.1
  rcases hr with ⟨n, _⟩ | ⟨n, hd⟩
  · rw [er] at n; cases n
  · rw [er] at n; injection n with n; exact ⟨e, hd, n.symm⟩
/-- A token that was refused. -/
theorem PutT.no12 {ts : List Tk} {cs : List Cmd} {t : Tk} {us : List Tk} {ds : List Cmd} {q : Int} (h : PutT ts cs t us ds q) (hc : ChkD ts cs 0) (hq : q ≠ 0) : (q = 8 ∨ q = 14 ∨ q = 4) ∧ t ∉ ts := by
  obtain ⟨r, hp, _⟩ := h.core12 hc
  exact hp.no12 hc.z12.2.2.2.1 (fun hx => hc.z12.2.1 t hx) hq
theorem PutC.no12 {ts : List Tk} {cs : List Cmd} {c : Cmd} {us : List Tk} {ds : List Cmd} {q : Int} (h : PutC ts cs c us ds q) (hc : ChkD ts cs 0) (hq : q ≠ 0) : (q = 8 ∨ q = 14 ∨ q = 4) ∧ c ∉ cs := by
  obtain ⟨r, hp, _⟩ := h.core12 hc
  exact hp.no12 hc.z12.2.2.2.2 (fun hx => hc.z12.2.2.1 c hx) hq
theorem PutT.mem13 {ts : List Tk} {cs : List Cmd} {t : Tk} {us : List Tk} {ds : List Cmd} {q : Int} (h : PutT ts cs t us ds q) (hc : ChkD ts cs 0) (g : t.k.t < 16) (hm : t ∈ ts) : q = 0 ∧ us = ts ∧ ds = cs := by
  obtain ⟨r, hp, hr⟩ := h.core12 hc
  obtain ⟨e, er⟩ := hp.mem12 hc.z12.2.2.2.1 g hm
  rcases hr with ⟨n, _⟩ | ⟨n, hd⟩
  · rw [er] at n; cases n
  · rw [er] at n; injection n with n; exact ⟨e, n.symm, hd⟩
theorem PutT.clash13 {ts : List Tk} {cs : List Cmd} {t : Tk} {us : List Tk} {ds : List Cmd} {q : Int} (h : PutT ts cs t us ds q) (hc : ChkD ts cs 0) (g : t.k.t < 16) (hm : t ∉ ts) (hu : ∃ u ∈ ts, u.bare = t.bare) : q = 14 := by
  obtain ⟨r, hp, _⟩ := h.core12 hc
  exact (hp.clash12 g hm hu).1
theorem PutT.full13 {ts : List Tk} {cs : List Cmd} {t : Tk} {us : List Tk} {ds : List Cmd} {q : Int} (h : PutT ts cs t us ds q) (hc : ChkD ts cs 0) (g : t.k.t < 16) (hu : ∀ u ∈ ts, u.bare ≠ t.bare) : (100 ≤ ts.length + cs.length → q = 4) ∧ (ts.length + cs.length < 100 → q = 0 ∧ us = ts ++ [t] ∧ ds = cs) := by
  obtain ⟨r, hp, hr⟩ := h.core12 hc
  obtain ⟨h1, h2⟩ := hp.full12 g hu
  refine ⟨fun hm => (h1 hm).1, fun hm => ?_⟩
  obtain ⟨e, er⟩ := h2 hm
  rcases hr with ⟨n, _⟩ | ⟨n, hd⟩
  · rw [er] at n; cases n
  · rw [er] at n; injection n with n; exact ⟨e, n.symm, hd⟩
/-- Two tokens, in either order. -/
theorem PutT.order12 {ts : List Tk} {cs : List Cmd} {t u : Tk} {a b x y : List Tk} {da db dx dy : List Cmd} {h i : Int} (hc : ChkD ts cs 0) (ha : PutT ts cs t a da 0) (hb : PutT ts cs u b db 0) (hx : PutT a da u x dx h) (hy : PutT b db t y dy i) : h = i ∧ (h = 0 → dx = dy ∧ ∀ v, v ∈ x ↔ v ∈ y) := by
  obtain ⟨ka, rfl, ma, _⟩ := ha.then12 hc
  obtain ⟨kb, rfl, mb, _⟩ := hb.then12 hc
  obtain ⟨_, gt, oa⟩ := ha.ok12 hc
  obtain ⟨_, gu, ob⟩ := hb.ok12 hc
  by_cases hu : u ∈ a
  · obtain ⟨rfl, rfl, rfl⟩ := hx.mem13 ka gu hu
    have ht : t ∈ b ∨ (t ∉ b ∧ u ∈ ts) := by
      by_cases ht : t ∈ b
      · exact Or.inl ht
      · exact Or.inr ⟨ht, ((ma u).1 hu).resolve_right fun e => ht ((mb t).2 (Or.inr e.symm))⟩
    rcases ht with ht | ⟨ht, hu2⟩
    · obtain ⟨rfl, rfl, rfl⟩ := hy.mem13 kb gt ht
      refine ⟨rfl, fun _ => ⟨rfl, fun v => ?_⟩⟩
      rw [ma, mb]
      have q1 := (ma u).1 hu
      have q2 := (mb t).1 ht
      constructor
      · rintro (q | rfl)
        · exact Or.inl q
        · exact q2
      · rintro (q | rfl)
        · exact Or.inl q
        · exact q1
    · have eb : b = ts := by
        rcases ob with ⟨_, e⟩ | ⟨n, _⟩
        · exact e
        · exact absurd rfl (n u hu2)
      subst eb
      rcases oa with ⟨hm, _⟩ | ⟨hn, hl, e⟩
      · exact absurd hm ht
      · obtain ⟨rfl, rfl, rfl⟩ := (hy.full13 hc gt hn).2 hl
        exact ⟨rfl, fun _ => ⟨rfl, fun v => by rw [e]⟩⟩
  · have hu2 : u ∉ ts := fun q => hu ((ma u).2 (Or.inl q))
    have hut : u ≠ t := fun q => hu ((ma u).2 (Or.inr q))
    obtain ⟨hn, hl, eb⟩ : (∀ v ∈ ts, v.bare ≠ u.bare) ∧ ts.length + db.length < 100 ∧ b = ts ++ [u] := ob.resolve_left fun q => hu2 q.1
    by_cases ht : t ∈ ts
    · have ea : a = ts := by
        rcases oa with ⟨_, e⟩ | ⟨n, _⟩
        · exact e
        · exact absurd rfl (n t ht)
      subst ea
      obtain ⟨rfl, rfl, rfl⟩ := (hx.full13 hc gu hn).2 hl
      obtain ⟨rfl, rfl, rfl⟩ := hy.mem13 kb gt ((mb t).2 (Or.inl ht))
      exact ⟨rfl, fun _ => ⟨rfl, fun v => by rw [eb]⟩⟩
    · obtain ⟨hn2, _, ea⟩ : (∀ v ∈ ts, v.bare ≠ t.bare) ∧ ts.length + db.length < 100 ∧ a = ts ++ [t] := oa.resolve_left fun q => ht q.1
      have htb : t ∉ b := fun q => ((mb t).1 q).elim ht fun e => hut e.symm
      by_cases hbr : t.bare = u.bare
      · have h1 := hx.clash13 ka gu hu ⟨t, (ma t).2 (Or.inr rfl), hbr⟩
        have h2 := hy.clash13 kb gt htb ⟨u, (mb u).2 (Or.inr rfl), hbr.symm⟩
        rw [h1, h2]
        exact ⟨rfl, fun n => absurd n (by decide)⟩
      · have f1 := hx.full13 ka gu (fun v hv => by
          rcases (ma v).1 hv with q | rfl
          · exact hn v q
          · exact hbr)
        have f2 := hy.full13 kb gt (fun v hv => by
          rcases (mb v).1 hv with q | rfl
          · exact hn2 v q
          · exact fun e => hbr e.symm)
        have la : a.length = ts.length + 1 := by rw [ea]; simp
        have lb : b.length = ts.length + 1 := by rw [eb]; simp
        by_cases hm : ts.length + 1 + db.length < 100
        · obtain ⟨rfl, rfl, rfl⟩ := f1.2 (by omega)
          obtain ⟨rfl, rfl, rfl⟩ := f2.2 (by omega)
          refine ⟨rfl, fun _ => ⟨rfl, fun v => ?_⟩⟩
          rw [List.mem_append, List.mem_append, List.mem_singleton, List.mem_singleton, ma, mb]
          constructor
          · rintro ((q | q) | q)
            · exact Or.inl (Or.inl q)
            · exact Or.inr q
            · exact Or.inl (Or.inr q)
          · rintro ((q | q) | q)
            · exact Or.inl (Or.inl q)
            · exact Or.inr q
            · exact Or.inl (Or.inr q)
        · rw [f1.1 (by omega), f2.1 (by omega)]
          exact ⟨rfl, fun n => absurd n (by decide)⟩
end Go.Proofs.Ytpccahdbienjeaa
