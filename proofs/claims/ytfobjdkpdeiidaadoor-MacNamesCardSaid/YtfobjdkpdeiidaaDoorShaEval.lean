/-
  SHA-256 of three known strings, reckoned by the kernel: the same words with every step forced to a number.
-/
import Derived.Test.YtfobjdkpdeiidaaDoorShaMath
namespace Go.Proofs.YtfobjdkpdeiidaaDoor

def force {α : Type} (n : Nat) (f : Nat → α) : α :=
  match n with
  | 0 => f 0
  | m + 1 => f (m + 1)
theorem force_eq {α : Type} (n : Nat) (f : Nat → α) : force n f = f n := by cases n <;> rfl
def forceU {α : Type} (x : UInt32) (f : UInt32 → α) : α := force x.toNat fun n => f (UInt32.ofNat n)
theorem forceU_eq {α : Type} (x : UInt32) (f : UInt32 → α) : forceU x f = f x := by
  unfold forceU
  rw [force_eq, UInt32.ofNat_toNat]
def rndF {α : Type} (s : W8) (k w : UInt32) (c : W8 → α) : α :=
  forceU (s.z + tri s.e 6 11 25 + ((s.e &&& s.f) ^^^ (~~~ s.e &&& s.g)) + k + w) fun p =>
    forceU (p + (tri s.a 2 13 22 + ((s.a &&& s.b) ^^^ (s.a &&& s.c) ^^^ (s.b &&& s.c)))) fun a =>
      forceU (s.d + p) fun e => c ⟨a, s.a, s.b, s.c, e, s.e, s.f, s.g⟩
theorem rndF_eq {α : Type} (s : W8) (k w : UInt32) (c : W8 → α) : rndF s k w c = c (rnd s k w) := by
  unfold rndF
  rw [forceU_eq, forceU_eq, forceU_eq]
  rfl
def roundsF : List UInt32 → List UInt32 → W8 → W8
  | k :: ks, w :: ws, s => rndF s k w (roundsF ks ws)
  | _, _, s => s
theorem roundsF_at (ws : List UInt32) (s : W8) (hw : ws.length = 64) (t : Nat) (ht : t ≤ 64) : roundsF shaK ws s = roundsF (shaK.drop t) (ws.drop t) (rounds ws s t) := by
  induction t with
  | zero => rfl
  | succ t ih =>
    have hk := shaK_len
    rw [ih (by omega), List.drop_eq_getElem_cons (by omega : t < shaK.length), List.drop_eq_getElem_cons (by omega : t < ws.length)]
    rw [roundsF, rndF_eq]
    show _ = roundsF _ _ (rnd (rounds ws s t) (shaK.getD t 0) (ws.getD t 0))
    rw [List.getD_eq_getElem?_getD, List.getD_eq_getElem?_getD, List.getElem?_eq_getElem (by omega), List.getElem?_eq_getElem (by omega)]
    rfl
theorem roundsF_eq (ws : List UInt32) (s : W8) (hw : ws.length = 64) : roundsF shaK ws s = rounds ws s 64 := by
  rw [roundsF_at ws s hw 64 (by omega), List.drop_eq_nil_of_le (by rw [shaK_len]; omega)]
  rfl
def forceL {α : Type} : List UInt32 → (List UInt32 → α) → α
  | [], f => f []
  | x :: xs, f => forceU x fun y => forceL xs fun ys => f (y :: ys)
theorem forceL_eq {α : Type} : ∀ (l : List UInt32) (f : List UInt32 → α), forceL l f = f l
  | [], _ => rfl
  | x :: xs, f => by rw [forceL, forceU_eq, forceL_eq xs]
def schedF {α : Type} : Nat → List UInt32 → (List UInt32 → α) → α
  | 0, l, c => c l
  | n + 1, l, c => forceU (next l) fun x => schedF n (l ++ [x]) c
theorem schedF_eq {α : Type} (b : List Int) (c : List UInt32 → α) : ∀ (n m : Nat), schedF n (sched b m) c = c (sched b (m + n))
  | 0, m => rfl
  | n + 1, m => by
    rw [schedF, forceU_eq]
    have := schedF_eq b c n (m + 1)
    rw [show m + 1 + n = m + (n + 1) by omega] at this
    exact this
def forceW {α : Type} (s : W8) (c : W8 → α) : α :=
  forceU s.a fun a => forceU s.b fun b => forceU s.c fun c' => forceU s.d fun d => forceU s.e fun e => forceU s.f fun f => forceU s.g fun g => forceU s.z fun z => c ⟨a, b, c', d, e, f, g, z⟩
theorem forceW_eq {α : Type} (s : W8) (c : W8 → α) : forceW s c = c s := by
  unfold forceW
  simp only [forceU_eq]
def takenF {α : Type} (h : W8) (b : List Int) (c : W8 → α) : α :=
  forceL ((List.range 16).map (wordAt b)) fun l => schedF 48 l fun ws => forceW (plus h (roundsF shaK ws h)) c
theorem takenF_eq {α : Type} (h : W8) (b : List Int) (c : W8 → α) : takenF h b c = c (taken h b) := by
  unfold takenF
  rw [forceL_eq]
  have := schedF_eq b (fun ws => forceW (plus h (roundsF shaK ws h)) c) 48 0
  rw [show sched b 0 = (List.range 16).map (wordAt b) from rfl] at this
  rw [this, forceW_eq, roundsF_eq _ _ (by rw [sched_len])]
  rfl
def aftF : Nat → W8 → List Int → W8
  | 0, h, _ => h
  | n + 1, h, b => takenF h (b.take 64) fun h' => aftF n h' (b.drop 64)
theorem aftF_eq : ∀ (n : Nat) (h : W8) (b : List Int), aftF n h b = aft n h b
  | 0, _, _ => rfl
  | n + 1, h, b => by
    rw [aftF, takenF_eq, aftF_eq n]
    rfl

def msg3 : List Int := [97, 98, 99]
def msg56 : List Int := [97, 98, 99, 100, 98, 99, 100, 101, 99, 100, 101, 102, 100, 101, 102, 103, 101, 102, 103, 104, 102, 103, 104, 105, 103, 104, 105, 106, 104, 105, 106, 107, 105, 106, 107, 108, 106, 107, 108, 109, 107, 108, 109, 110, 108, 109, 110, 111, 109, 110, 111, 112, 110, 111, 112, 113]
theorem words0 : (aftF 1 first (padL 0)).l.map UInt32.toNat = [3820012610, 2566659092, 2600203464, 2574235940, 665731556, 1687917388, 2761267483, 2018687061] := by decide +kernel
theorem words3 : (aftF 1 first (msg3 ++ padL 3)).l.map UInt32.toNat = [3128432319, 2399260650, 1094795486, 1571693091, 2953011619, 2518121116, 3021012833, 4060091821] := by decide +kernel
theorem words56 : (aftF 2 first (msg56 ++ padL 56)).l.map UInt32.toNat = [613247585, 3523623096, 3854575251, 205414457, 2738676825, 1694441831, 4142722516, 433784513] := by decide +kernel
theorem after_of {n : Nat} {b : List Int} (hl : b.length / 64 = n) {h : W8} {l : List Nat} (hw : (aftF n h b).l.map UInt32.toNat = l) : (after h b).l.map UInt32.toNat = l := by
  unfold after
  rw [hl, ← aftF_eq]
  exact hw
theorem nth_dig (h : W8) (i : Nat) (hi : i < 32) : nth (dig h) i = digB h i := by
  unfold nth dig
  rw [List.getD_eq_getElem?_getD, List.getElem?_map, List.getElem?_range hi]
  rfl
/-- The first bytes of a digest, and its last one, out of the words. -/
theorem dig_of {h : W8} {a b c d e f g z : Nat} (hw : h.l.map UInt32.toNat = [a, b, c, d, e, f, g, z]) :
    nth (dig h) 0 = (a : Int) / 16777216 % 256 ∧ nth (dig h) 1 = (a : Int) / 65536 % 256 ∧ nth (dig h) 2 = (a : Int) / 256 % 256 ∧ nth (dig h) 3 = (a : Int) % 256 ∧ nth (dig h) 31 = (z : Int) % 256 := by
  have ha : un h.a = a := by unfold un; have := congrArg (fun l => l.getD 0 0) hw; simp [W8.l] at this; omega
  have hz : un h.z = z := by unfold un; have := congrArg (fun l => l.getD 7 0) hw; simp [W8.l] at this; omega
  have e0 : digB h 0 = un h.a / 2 ^ 24 % 256 := rfl
  have e1 : digB h 1 = un h.a / 2 ^ 16 % 256 := rfl
  have e2 : digB h 2 = un h.a / 2 ^ 8 % 256 := rfl
  have e3 : digB h 3 = un h.a / 2 ^ 0 % 256 := rfl
  have e31 : digB h 31 = un h.z / 2 ^ 0 % 256 := rfl
  rw [nth_dig _ _ (by omega), nth_dig _ _ (by omega), nth_dig _ _ (by omega), nth_dig _ _ (by omega), nth_dig _ _ (by omega), e0, e1, e2, e3, e31, ha, hz]
  simp
/-- What a digest begins with and ends with. -/
def digIs (b : List Int) (p q r s t : Int) : Prop := nth (shaOf b) 0 = p ∧ nth (shaOf b) 1 = q ∧ nth (shaOf b) 2 = r ∧ nth (shaOf b) 3 = s ∧ nth (shaOf b) 31 = t
theorem dig0 : digIs [] 0xe3 0xb0 0xc4 0x42 0x55 := by
  have := dig_of (after_of (by decide) words0)
  unfold digIs shaOf
  exact this
theorem dig3 : digIs msg3 0xba 0x78 0x16 0xbf 0xad := by
  have := dig_of (after_of (by decide +kernel) words3)
  unfold digIs shaOf
  exact this
theorem dig56 : digIs msg56 0x24 0x8d 0x6a 0x61 0xc1 := by
  have := dig_of (after_of (by decide +kernel) words56)
  unfold digIs shaOf
  exact this
end Go.Proofs.YtfobjdkpdeiidaaDoor
