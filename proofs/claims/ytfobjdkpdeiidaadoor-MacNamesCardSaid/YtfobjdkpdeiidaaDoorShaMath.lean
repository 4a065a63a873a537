/-
  SHA-256 as plain mathematics: words, rounds, blocks, paddings, digests; and the walk's words in it.
-/
import Derived.Laws.BitsAllLaws
import Derived.Test.YtfobjdkpdeiidaaDoorSlices
namespace Go.Proofs.YtfobjdkpdeiidaaDoor

/-- The number of a word. -/
def un (x : UInt32) : Int := (x.toNat : Int)
theorem un_lt (x : UInt32) : 0 ≤ un x ∧ un x < 4294967296 := by
  unfold un
  have := x.toNat_lt
  omega
theorem un_inj {x y : UInt32} (h : un x = un y) : x = y := UInt32.toNat_inj.1 (by unfold un at h; omega)
theorem un_xor (a b : UInt32) : bits .xor .u32 (un a) (un b) = un (a ^^^ b) := by
  unfold un
  rw [u32_xor_nat _ _ a.toNat_lt b.toNat_lt, UInt32.toNat_xor]
theorem un_and (a b : UInt32) : bits .and .u32 (un a) (un b) = un (a &&& b) := by
  unfold un
  rw [u32_and_nat _ _ a.toNat_lt b.toNat_lt, UInt32.toNat_and]
theorem un_or (a b : UInt32) : bits .or .u32 (un a) (un b) = un (a ||| b) := by
  unfold un
  rw [u32_or_nat _ _ a.toNat_lt b.toNat_lt, UInt32.toNat_or]
theorem un_not (b : UInt32) : bits .xor .u32 4294967295 (un b) = un (~~~ b) := by
  have h : (4294967295 : Int) = un 4294967295 := rfl
  rw [h, un_xor]
  refine congrArg un (UInt32.toBitVec_inj.1 ?_)
  rw [UInt32.toBitVec_xor, UInt32.toBitVec_not]
  exact BitVec.allOnes_xor
theorem un_add (a b : UInt32) : IntKind.u32.wrap (un a + un b) = un (a + b) := by
  unfold un
  rw [IntKind.wrap_u32', UInt32.toNat_add]
  omega
theorem un_shl (a : UInt32) (n : Nat) (h : n < 32) : IntKind.u32.wrap (un a * 2 ^ n) = un (a <<< UInt32.ofNat n) := by
  unfold un
  rw [IntKind.wrap_u32', UInt32.toNat_shiftLeft, Nat.shiftLeft_eq]
  have e : (UInt32.ofNat n).toNat % 32 = n := by simp; omega
  rw [e]
  simp
theorem un_shr (a : UInt32) (n : Nat) (h : n < 32) : un a / 2 ^ n = un (a >>> UInt32.ofNat n) := by
  unfold un
  rw [UInt32.toNat_shiftRight, Nat.shiftRight_eq_div_pow]
  have e : (UInt32.ofNat n).toNat % 32 = n := by simp; omega
  rw [e]
  simp

def rotr (x : UInt32) (n : Nat) : UInt32 := (x <<< UInt32.ofNat (32 - n)) ||| (x >>> UInt32.ofNat n)
theorem un_rotr (x : UInt32) (n : Nat) (h0 : 0 < n) (h : n < 32) : bits .or .u32 (IntKind.u32.wrap (un x * 2 ^ (32 - n))) (un x / 2 ^ n) = un (rotr x n) := by
  rw [un_shl _ _ (by omega), un_shr _ _ h, un_or]
  rfl
theorem un_rotr' (x : UInt32) (n : Nat) (h0 : 0 < n) (h : n < 32) : bits .or .u32 (un x / 2 ^ n) (IntKind.u32.wrap (un x * 2 ^ (32 - n))) = un (rotr x n) := by
  rw [un_shl _ _ (by omega), un_shr _ _ h, un_or]
  unfold rotr
  rw [UInt32.or_comm]
theorem un_addm (a b : UInt32) : (un a + un b) % 4294967296 = un (a + b) := by rw [← un_add, IntKind.wrap_u32']
theorem un_shlm (a : UInt32) (n : Nat) (h : n < 32) : un a * 2 ^ n % 4294967296 = un (a <<< UInt32.ofNat n) := by rw [← un_shl _ _ h, IntKind.wrap_u32']
theorem un_rotm (x : UInt32) (n : Nat) (h0 : 0 < n) (h : n < 32) : bits .or .u32 (un x * 2 ^ (32 - n) % 4294967296) (un x / 2 ^ n) = un (rotr x n) := by
  rw [un_shlm _ _ (by omega), un_shr _ _ h, un_or]
  rfl
theorem un_rotm' (x : UInt32) (n : Nat) (h0 : 0 < n) (h : n < 32) : bits .or .u32 (un x / 2 ^ n) (un x * 2 ^ (32 - n) % 4294967296) = un (rotr x n) := by
  rw [un_shlm _ _ (by omega), un_shr _ _ h, un_or]
  unfold rotr
  rw [UInt32.or_comm]
def tri (x : UInt32) (i j k : Nat) : UInt32 := rotr x i ^^^ rotr x j ^^^ rotr x k
def sg0 (x : UInt32) : UInt32 := rotr x 7 ^^^ rotr x 18 ^^^ (x >>> 3)
def sg1 (x : UInt32) : UInt32 := rotr x 17 ^^^ rotr x 19 ^^^ (x >>> 10)

/-- Eight words. -/
structure W8 where
  (a b c d e f g z : UInt32)
def W8.l (h : W8) : List UInt32 := [h.a, h.b, h.c, h.d, h.e, h.f, h.g, h.z]

/-- The constants, and the first words. -/
def shaK : List UInt32 := [1116352408, 1899447441, 3049323471, 3921009573, 961987163, 1508970993, 2453635748, 2870763221, 3624381080, 310598401, 607225278, 1426881987, 1925078388, 2162078206, 2614888103, 3248222580, 3835390401, 4022224774, 264347078, 604807628, 770255983, 1249150122, 1555081692, 1996064986, 2554220882, 2821834349, 2952996808, 3210313671, 3336571891, 3584528711, 113926993, 338241895, 666307205, 773529912, 1294757372, 1396182291, 1695183700, 1986661051, 2177026350, 2456956037, 2730485921, 2820302411, 3259730800, 3345764771, 3516065817, 3600352804, 4094571909, 275423344, 430227734, 506948616, 659060556, 883997877, 958139571, 1322822218, 1537002063, 1747873779, 1955562222, 2024104815, 2227730452, 2361852424, 2428436474, 2756734187, 3204031479, 3329325298]
def first : W8 := ⟨1779033703, 3144134277, 1013904242, 2773480762, 1359893119, 2600822924, 528734635, 1541459225⟩

/-- One round. -/
def rnd (s : W8) (k w : UInt32) : W8 :=
  ⟨(s.z + tri s.e 6 11 25 + ((s.e &&& s.f) ^^^ (~~~ s.e &&& s.g)) + k + w) + (tri s.a 2 13 22 + ((s.a &&& s.b) ^^^ (s.a &&& s.c) ^^^ (s.b &&& s.c))), s.a, s.b, s.c,
    s.d + (s.z + tri s.e 6 11 25 + ((s.e &&& s.f) ^^^ (~~~ s.e &&& s.g)) + k + w), s.e, s.f, s.g⟩
def rounds (w : List UInt32) (s : W8) : Nat → W8
  | 0 => s
  | t + 1 => rnd (rounds w s t) (shaK.getD t 0) (w.getD t 0)

/-- The words of a block. -/
def byteW (x : Int) : UInt32 := UInt32.ofNat x.toNat
theorem byteW_un (x : Int) (h0 : 0 ≤ x) (h : x < 256) : un (byteW x) = x := by
  unfold un byteW
  rw [UInt32.toNat_ofNat']
  omega
def part (b : List Int) (j : Nat) : Nat → UInt32
  | 0 => 0
  | m + 1 => (part b j m <<< 8) ||| byteW (nth b (4 * j + m))
def wordAt (b : List Int) (j : Nat) : UInt32 := part b j 4
/-- The words, k bytes of the block read. -/
def fill (b : List Int) (k : Nat) : List UInt32 := (List.range 64).map fun j => part b j (min 4 (k - 4 * j))
theorem fill_len (b : List Int) (k : Nat) : (fill b k).length = 64 := by simp [fill]
theorem fill_zero (b : List Int) : fill b 0 = List.replicate 64 0 := by
  unfold fill
  rw [List.eq_replicate_iff]
  refine ⟨by simp, fun x hx => ?_⟩
  obtain ⟨j, _, rfl⟩ := List.mem_map.1 hx
  simp [part]
theorem fill_get (b : List Int) (k j : Nat) (h : j < 64) : (fill b k).getD j 0 = part b j (min 4 (k - 4 * j)) := by
  simp [fill, List.getD, h]
theorem fill_succ (b : List Int) (k : Nat) (h : k < 64) : (fill b k).set (k / 4) (((fill b k).getD (k / 4) 0 <<< 8) ||| byteW (nth b k)) = fill b (k + 1) := by
  have _ := h
  apply List.ext_getElem
  · simp [fill]
  · intro j h1 h2
    have hj : j < 64 := by simpa [fill] using h2
    rw [List.getElem_set]
    split
    · rename_i e
      subst e
      rw [fill_get _ _ _ (by omega)]
      simp only [fill, List.getElem_map, List.getElem_range]
      rw [show min 4 (k - 4 * (k / 4)) = k % 4 by omega, show min 4 (k + 1 - 4 * (k / 4)) = k % 4 + 1 by omega]
      show _ = (part b (k / 4) (k % 4) <<< 8) ||| byteW (nth b (4 * (k / 4) + k % 4))
      rw [show 4 * (k / 4) + k % 4 = k by omega]
    · rename_i e
      simp only [fill, List.getElem_map, List.getElem_range]
      congr 1
      omega
def next (l : List UInt32) : UInt32 := l.getD (l.length - 16) 0 + l.getD (l.length - 7) 0 + sg0 (l.getD (l.length - 15) 0) + sg1 (l.getD (l.length - 2) 0)
def sched (b : List Int) : Nat → List UInt32
  | 0 => (List.range 16).map (wordAt b)
  | n + 1 => sched b n ++ [next (sched b n)]
theorem sched_len (b : List Int) (n : Nat) : (sched b n).length = n + 16 := by
  induction n with
  | zero => simp [sched]
  | succ n ih => simp [sched, ih]
/-- The array, n words behind the first sixteen reckoned. -/
def grown (b : List Int) (n : Nat) : List UInt32 := sched b n ++ List.replicate (48 - n) 0
theorem grown_len (b : List Int) (n : Nat) (h : n ≤ 48) : (grown b n).length = 64 := by simp [grown, sched_len]; omega
theorem fill_all (b : List Int) : fill b 64 = grown b 0 := by
  apply List.ext_getElem
  · simp [fill, grown, sched]
  · intro j h1 h2
    have hj : j < 64 := by simpa [fill] using h1
    simp only [fill, List.getElem_map, List.getElem_range, grown, sched, List.getElem_append, List.length_map, List.length_range, List.getElem_replicate]
    split
    · rw [show min 4 (64 - 4 * j) = 4 by omega]; rfl
    · rw [show min 4 (64 - 4 * j) = 0 by omega]
      simp [part]
theorem grown_get (b : List Int) (n j : Nat) (h : j < n + 16) : (grown b n).getD j 0 = (sched b n).getD j 0 := by
  have := sched_len b n
  unfold grown
  rw [List.getD_eq_getElem?_getD, List.getD_eq_getElem?_getD, List.getElem?_append_left (by omega)]
theorem grown_succ (b : List Int) (n : Nat) (h : n < 48) : (grown b n).set (n + 16) (next (sched b n)) = grown b (n + 1) := by
  have hl := sched_len b n
  unfold grown
  rw [List.set_append_right _ _ (by omega), hl, Nat.sub_self, show 48 - n = (48 - (n + 1)) + 1 by omega, List.replicate_succ, List.set_cons_zero]
  show _ = sched b n ++ [next (sched b n)] ++ _
  simp
theorem grown_all (b : List Int) : grown b 48 = sched b 48 := by simp [grown]
def plus (h s : W8) : W8 := ⟨h.a + s.a, h.b + s.b, h.c + s.c, h.d + s.d, h.e + s.e, h.f + s.f, h.g + s.g, h.z + s.z⟩
def taken (h : W8) (b : List Int) : W8 := plus h (rounds (sched b 48) h 64)

/-- All whole blocks, taken in; the bytes behind them. -/
def aft : Nat → W8 → List Int → W8
  | 0, h, _ => h
  | n + 1, h, b => aft n (taken h (b.take 64)) (b.drop 64)
def after (h : W8) (b : List Int) : W8 := aft (b.length / 64) h b
def restOf (b : List Int) : List Int := b.drop (b.length / 64 * 64)
/-- The padding, the digest. -/
def padB (n : Nat) (i : Nat) : Int := ((8 * n / 2 ^ (8 * (7 - i)) % 256 : Nat) : Int)
def padL (n : Nat) : List Int := 128 :: (List.replicate (63 - (n + 8) % 64) 0 ++ (List.range 8).map (padB n))
def digB (h : W8) (i : Nat) : Int := un (h.l.getD (i / 4) 0) / 2 ^ (24 - i % 4 * 8) % 256
def dig (h : W8) : List Int := (List.range 32).map (digB h)
def shaOf (b : List Int) : List Int := dig (after first (b ++ padL b.length))

theorem shaK_len : shaK.length = 64 := by decide +kernel
theorem W8.len (h : W8) : h.l.length = 8 := rfl
theorem dig_len (h : W8) : (dig h).length = 32 := by simp [dig]
theorem shl8 (v : UInt32) (x : Int) (h0 : 0 ≤ x) (h : x < 256) : bits .or .u32 (un v * 256 % 4294967296) x = un ((v <<< 8) ||| byteW x) := by
  have e : un v * (256 : Int) % (4294967296 : Int) = un (v <<< 8) := un_shlm v 8 (by decide)
  rw [e]
  exact (congrArg (bits .or .u32 _) (byteW_un x h0 h).symm).trans (un_or _ _)
theorem getD_map_wv {α : Type} (f : UInt32 → α) (l : List UInt32) (i : Nat) (h : i < l.length) : (l.map f)[i]? = some (f (l.getD i 0)) := by
  rw [List.getElem?_map, List.getElem?_eq_getElem h, List.getD_eq_getElem?_getD, List.getElem?_eq_getElem h]
  rfl
theorem padL_len (n : Nat) : (padL n).length = 72 - (n + 8) % 64 := by
  have : (n + 8) % 64 < 64 := Nat.mod_lt _ (by decide)
  simp [padL]; omega
/-- The padding under way: k of its last eight bytes written. -/
def byteOf (n i : Nat) : Int := ((8 * n / 2 ^ (8 * i) % 256 : Nat) : Int)
def padS (z n k : Nat) : List Int := (List.range (1 + z + 8)).map fun j => if j = 0 then 128 else if 1 + z + 8 ≤ j + k then byteOf n (z + 8 - j) else 0
theorem byteOf_is (n k : Nat) : (n : Int) * 8 / 2 ^ (8 * k) % 256 = byteOf n k := by
  unfold byteOf
  rw [Nat.mul_comm 8 n]
  simp
theorem padS_len (z n k : Nat) : (padS z n k).length = 1 + z + 8 := by simp [padS]
theorem padS_zero (z n : Nat) : (List.replicate (1 + z + 8) (0 : Int)).set 0 128 = padS z n 0 := by
  apply List.ext_getElem
  · simp [padS]
  · intro j h1 h2
    have hj : j < 1 + z + 8 := by simpa [padS] using h2
    rw [List.getElem_set]
    simp only [padS, List.getElem_map, List.getElem_range, List.getElem_replicate]
    by_cases h : j = 0
    · rw [if_pos h.symm, if_pos h]
    · rw [if_neg (fun e => h e.symm), if_neg h, if_neg (by omega)]
theorem padS_succ (z n k : Nat) (hk : k < 8) : (padS z n k).set (1 + z + 7 - k) (byteOf n k) = padS z n (k + 1) := by
  apply List.ext_getElem
  · simp [padS]
  · intro j h1 h2
    have hj : j < 1 + z + 8 := by simpa [padS] using h2
    rw [List.getElem_set]
    simp only [padS, List.getElem_map, List.getElem_range]
    by_cases h : 1 + z + 7 - k = j
    · rw [if_pos h, if_neg (by omega), if_pos (by omega), show z + 8 - j = k by omega]
    · rw [if_neg h]
      by_cases h0 : j = 0
      · rw [if_pos h0, if_pos h0]
      · rw [if_neg h0, if_neg h0]
        by_cases h3 : 1 + z + 8 ≤ j + k
        · rw [if_pos h3, if_pos (by omega)]
        · rw [if_neg h3, if_neg (by omega)]
theorem padS_all (z n : Nat) (hz : z = 63 - (n + 8) % 64) : padS z n 8 = padL n := by
  have hm : (n + 8) % 64 < 64 := Nat.mod_lt _ (by decide)
  unfold padL
  rw [← hz]
  apply List.ext_getElem
  · simp [padS]; omega
  · intro j h1 h2
    have hj : j < 1 + z + 8 := by simpa [padS] using h1
    simp only [padS, List.getElem_map, List.getElem_range]
    by_cases h0 : j = 0
    · subst h0
      rfl
    · obtain ⟨i, rfl⟩ : ∃ i, j = i + 1 := ⟨j - 1, by omega⟩
      rw [if_neg h0, List.getElem_cons_succ, List.getElem_append]
      by_cases h3 : i < z
      · rw [dif_pos (by simpa using h3), if_neg (by omega), List.getElem_replicate]
      · rw [dif_neg (by simpa using h3), if_pos (by omega), List.getElem_map, List.getElem_range]
        unfold padB byteOf
        rw [List.length_replicate, show z + 8 - (i + 1) = 7 - (i - z) by omega]
def digS (h : W8) (k : Nat) : List Int := (List.range 32).map fun j => if j < k then digB h j else 0
theorem digS_len (h : W8) (k : Nat) : (digS h k).length = 32 := by simp [digS]
theorem digS_zero (h : W8) : digS h 0 = List.replicate 32 0 := by
  rw [List.eq_replicate_iff]
  refine ⟨by simp [digS], fun x hx => ?_⟩
  obtain ⟨j, _, rfl⟩ := List.mem_map.1 hx
  rfl
theorem digS_succ (h : W8) (k : Nat) (hk : k < 32) : (digS h k).set k (digB h k) = digS h (k + 1) := by
  apply List.ext_getElem
  · simp [digS]
  · intro j h1 h2
    rw [List.getElem_set]
    simp only [digS, List.getElem_map, List.getElem_range]
    have _ := hk
    by_cases e : k = j
    · subst e
      rw [if_pos rfl, if_pos (by omega)]
    · rw [if_neg e]
      by_cases q : j < k
      · rw [if_pos q, if_pos (by omega)]
      · rw [if_neg q, if_neg (by omega)]
theorem digS_all (h : W8) : digS h 32 = dig h := by
  unfold digS dig
  apply List.map_congr_left
  intro j hj
  rw [if_pos (List.mem_range.1 hj)]
theorem nth_get {xs : List Int} {k : IntKind} (i : Nat) (h : i < xs.length) : (xs.map (Value.int k))[i]? = some (.int k (nth xs i)) := by
  rw [List.getElem?_map, List.getElem?_eq_getElem h]
  unfold nth
  rw [List.getD_eq_getElem?_getD, List.getElem?_eq_getElem h]
  rfl
theorem restOf_len (b : List Int) : (restOf b).length = b.length % 64 := by
  simp [restOf]; omega

theorem aft_append (m n : Nat) : ∀ (h : W8) (x y : List Int), x.length = 64 * m → aft (m + n) h (x ++ y) = aft n (aft m h x) y := by
  induction m with
  | zero => intro h x y hx; obtain rfl : x = [] := List.eq_nil_of_length_eq_zero (by omega); simp [aft]
  | succ m ih =>
    intro h x y hx
    rw [show m + 1 + n = (m + n) + 1 by omega]
    show aft (m + n) (taken h ((x ++ y).take 64)) ((x ++ y).drop 64) = _
    rw [List.take_append_of_le_length (by omega), List.drop_append_of_le_length (by omega), ih _ _ _ (by simp; omega)]
    rfl
theorem aft_take (n : Nat) : ∀ (h : W8) (b : List Int), aft n h b = aft n h (b.take (64 * n)) := by
  induction n with
  | zero => intro h b; rfl
  | succ n ih =>
    intro h b
    show aft n (taken h (b.take 64)) (b.drop 64) = aft n (taken h ((b.take (64 * (n + 1))).take 64)) ((b.take (64 * (n + 1))).drop 64)
    rw [List.take_take, Nat.min_eq_left (by omega), ih, ih _ ((b.take (64 * (n + 1))).drop 64), List.drop_take]
    rw [show 64 * (n + 1) - 64 = 64 * n by omega, List.take_take, Nat.min_self]
/-- Going on behind the rest is going on behind all. -/
theorem after_append (h : W8) (x y : List Int) : after h (x ++ y) = after (after h x) (restOf x ++ y) := by
  have hx : x.take (x.length / 64 * 64) ++ restOf x = x := List.take_append_drop _ _
  have h1 : (x.take (x.length / 64 * 64)).length = 64 * (x.length / 64) := by simp; omega
  have e0 : x ++ y = x.take (x.length / 64 * 64) ++ (restOf x ++ y) := by rw [← List.append_assoc, hx]
  have e1 : after h x = aft (x.length / 64) h (x.take (x.length / 64 * 64)) := by
    unfold after
    rw [aft_take, show 64 * (x.length / 64) = x.length / 64 * 64 by omega]
  have hr := restOf_len x
  rw [e1]
  conv => lhs; rw [e0]
  unfold after
  rw [show (x.take (x.length / 64 * 64) ++ (restOf x ++ y)).length / 64 = x.length / 64 + (restOf x ++ y).length / 64 by simp only [List.length_append, h1]; omega]
  exact aft_append _ _ _ _ _ h1
theorem restOf_append (x y : List Int) : restOf (x ++ y) = restOf (restOf x ++ y) := by
  have hx : x.take (x.length / 64 * 64) ++ restOf x = x := List.take_append_drop _ _
  have h1 : (x.take (x.length / 64 * 64)).length = x.length / 64 * 64 := by simp; omega
  have hr := restOf_len x
  have e0 : x ++ y = x.take (x.length / 64 * 64) ++ (restOf x ++ y) := by rw [← List.append_assoc, hx]
  show (x ++ y).drop ((x ++ y).length / 64 * 64) = (restOf x ++ y).drop ((restOf x ++ y).length / 64 * 64)
  conv => lhs; rw [e0]
  generalize restOf x = r at *
  generalize x.take (x.length / 64 * 64) = X at *
  rw [List.drop_append, List.drop_eq_nil_of_le (by simp only [List.length_append, h1]; omega), List.nil_append]
  congr 1
  simp only [List.length_append, h1]
  omega
theorem restOf_append_len (x y : List Int) : (restOf x ++ y).length = x.length % 64 + y.length := by rw [List.length_append, restOf_len]
end Go.Proofs.YtfobjdkpdeiidaaDoor
