/-
  Patterns broken, by the kit's plain sort.
-/
import Derived.Test.YtgjlpiljacecpaaZD
namespace Go.Proofs.Ytgjlpiljacecpaa
open Go Go.RowKit
set_option linter.unusedVariables false
set_option linter.unusedSectionVars false
set_option linter.unusedSimpArgs false
theorem log_half (n : Nat) (h : 2 ≤ n) : n.log2 = (n / 2).log2 + 1 := by
  rw [Nat.log2_def, if_pos h]
theorem log_256 (n : Nat) (h : 256 ≤ n) : n.log2 = (n / 256).log2 + 8 := by
  rw [log_half n (by omega), log_half (n / 2) (by omega), log_half (n / 2 / 2) (by omega), log_half (n / 2 / 2 / 2) (by omega), log_half (n / 2 / 2 / 2 / 2) (by omega), log_half (n / 2 / 2 / 2 / 2 / 2) (by omega), log_half (n / 2 / 2 / 2 / 2 / 2 / 2) (by omega), log_half (n / 2 / 2 / 2 / 2 / 2 / 2 / 2) (by omega), show n / 2 / 2 / 2 / 2 / 2 / 2 / 2 / 2 = n / 256 by omega]
theorem len_256 (n : Nat) (h : 256 ≤ n) : Sort.bitsLen n = Sort.bitsLen (n / 256) + 8 := by
  unfold Sort.bitsLen
  rw [if_neg (by omega), if_neg (by omega), log_256 n h]
theorem tab_at : ∀ y : Fin 256, ix (strL tab_zLen64) ((y.val : Nat) : Int) = some ((Sort.bitsLen y.val : Nat) : Int) := by decide +kernel
theorem len_le (n : Nat) (h : n ≤ 400000000) : Sort.bitsLen n ≤ 40 := by
  unfold Sort.bitsLen
  split
  · omega
  · rename_i h0
    have h1 := Nat.log2_self_le h0
    have : n.log2 < 39 := by
      rcases Nat.lt_or_ge n.log2 39 with x | x
      · exact x
      · have h2 : 2 ^ 39 ≤ 2 ^ n.log2 := Nat.pow_le_pow_right (by omega) x
        have h3 : (2 : Nat) ^ 39 = 549755813888 := by decide
        omega
    omega
theorem zLen_eq (N n : Nat) (h : n ≤ 400000000) : zLen N (n : Int) = some ((Sort.bitsLen n : Nat) : Int) := by
  unfold zLen zLen64
  rw [if_neg (by omega), Option.bind_some]
  simp only
  have hw : ∀ y : Nat, y < 256 → IntKind.u8.wrap (y : Int) = (y : Int) := fun y hy => by rw [IntKind.wrap_u8]; omega
  have tab : ∀ y : Nat, y < 256 → ix (strL tab_zLen64) (y : Int) = some ((Sort.bitsLen y : Nat) : Int) := fun y hy => tab_at ⟨y, hy⟩
  have fd : ∀ (x c : Nat), Int.fdiv (x : Int) (c : Int) = ((x / c : Nat) : Int) := fun x c => by rw [Int.fdiv_eq_ediv_of_nonneg _ (by omega)]; simp
  have lb := len_le n h
  by_cases h1 : n ≥ 65536
  · rw [if_pos (by omega), Option.bind_some]
    simp only
    have f1 : Int.fdiv (n : Int) 65536 = ((n / 65536 : Nat) : Int) := fd n 65536
    rw [f1]
    have e1 := len_256 n (by omega)
    have e2 := len_256 (n / 256) (by omega)
    rw [show n / 256 / 256 = n / 65536 by omega] at e2
    by_cases h2 : n / 65536 ≥ 256
    · rw [if_pos (by omega), Option.bind_some]
      simp only
      have f2 : Int.fdiv ((n / 65536 : Nat) : Int) 256 = ((n / 65536 / 256 : Nat) : Int) := fd (n / 65536) 256
      have e3 := len_256 (n / 65536) h2
      rw [f2, hw _ (by omega), tab _ (by omega), Option.bind_some, Option.bind_some]
      congr 1
      rw [zw64 (x := ((0 : Int) + 16)) (by omega) (by omega), zw64 (x := ((0 : Int) + 16 + 8)) (by omega) (by omega), zw64 (x := ((Sort.bitsLen (n / 65536 / 256) : Nat) : Int)) (by omega) (by omega), zw64 (by omega) (by omega)]
      omega
    · rw [if_neg (by omega), Option.bind_some]
      simp only
      rw [hw _ (by omega), tab _ (by omega), Option.bind_some, Option.bind_some]
      congr 1
      rw [zw64 (x := ((0 : Int) + 16)) (by omega) (by omega), zw64 (x := ((Sort.bitsLen (n / 65536) : Nat) : Int)) (by omega) (by omega), zw64 (by omega) (by omega)]
      omega
  · rw [if_neg (by omega), Option.bind_some]
    simp only
    by_cases h2 : n ≥ 256
    · rw [if_pos (by omega), Option.bind_some]
      simp only
      have f2 : Int.fdiv (n : Int) 256 = ((n / 256 : Nat) : Int) := fd n 256
      have e3 := len_256 n h2
      rw [f2, hw _ (by omega), tab _ (by omega), Option.bind_some, Option.bind_some]
      congr 1
      rw [zw64 (x := ((0 : Int) + 8)) (by omega) (by omega), zw64 (x := ((Sort.bitsLen (n / 256) : Nat) : Int)) (by omega) (by omega), zw64 (by omega) (by omega)]
      omega
    · rw [if_neg (by omega), Option.bind_some]
      simp only
      rw [hw _ (by omega), tab _ (by omega), Option.bind_some, Option.bind_some]
      congr 1
      rw [zw64 (x := ((Sort.bitsLen n : Nat) : Int)) (by omega) (by omega), zw64 (by omega) (by omega)]
      omega
theorem u64e {x : Int} (h0 : 0 ≤ x) (h1 : x < 18446744073709551616) : IntKind.u64.wrap x = x := by rw [IntKind.wrap_u64]; omega
theorem pow_eq (N n : Nat) (h : n ≤ 400000000) : zPow N (n : Int) = some (((1 <<< Sort.bitsLen n : Nat)) : Int) := by
  unfold zPow
  have hb := len_le n h
  rw [u64e (by omega) (by omega), zLen_eq N n h, Option.bind_some, if_neg (by omega)]
  unfold ishl
  have hp : (2 : Nat) ^ Sort.bitsLen n ≤ 2 ^ 40 := Nat.pow_le_pow_right (by omega) hb
  have h40 : (2 : Nat) ^ 40 = 1099511627776 := by decide
  rw [Int.toNat_natCast, Nat.min_eq_left (by show Sort.bitsLen n ≤ 64; omega), Int.one_mul, Nat.one_shiftLeft]
  have : ((2 : Int) ^ Sort.bitsLen n) = ((2 ^ Sort.bitsLen n : Nat) : Int) := by push_cast; rfl
  rw [this]
  generalize (2 : Nat) ^ Sort.bitsLen n = P at hp ⊢
  rw [u64e (by omega) (by omega)]
theorem bv_of (a : BitVec 64) : BitVec.ofInt 64 ((a.toNat : Nat) : Int) = a := by
  apply BitVec.eq_of_toNat_eq
  have := a.isLt
  simp
theorem ixor_bv (a b : BitVec 64) : ixor .u64 ((a.toNat : Nat) : Int) ((b.toNat : Nat) : Int) = (((a ^^^ b).toNat : Nat) : Int) := by
  unfold ixor
  show IntKind.u64.wrap (((BitVec.ofInt 64 _ ^^^ BitVec.ofInt 64 _).toNat : Nat) : Int) = _
  rw [bv_of, bv_of, u64e (by omega) (by have := (a ^^^ b).isLt; omega)]
theorem iand_bv (a b : BitVec 64) : iand .u64 ((a.toNat : Nat) : Int) ((b.toNat : Nat) : Int) = (((a &&& b).toNat : Nat) : Int) := by
  unfold iand
  show IntKind.u64.wrap (((BitVec.ofInt 64 _ &&& BitVec.ofInt 64 _).toNat : Nat) : Int) = _
  rw [bv_of, bv_of, u64e (by omega) (by have := (a &&& b).isLt; omega)]
theorem shl_bv (a : BitVec 64) (k : Nat) : IntKind.u64.wrap (((a.toNat : Nat) : Int) * ((2 ^ k : Nat) : Int)) = (((a <<< k).toNat : Nat) : Int) := by
  rw [IntKind.wrap_u64, BitVec.toNat_shiftLeft, Nat.shiftLeft_eq, Int.natCast_emod, Int.natCast_mul]
  rfl
theorem shr_bv (a : BitVec 64) (k : Nat) : Int.fdiv ((a.toNat : Nat) : Int) ((2 ^ k : Nat) : Int) = (((a >>> k).toNat : Nat) : Int) := by
  rw [BitVec.toNat_ushiftRight, Nat.shiftRight_eq_div_pow, Int.fdiv_eq_ediv_of_nonneg _ (Int.natCast_nonneg _), Int.natCast_ediv]
theorem xor_eq (N : Nat) (u : UInt64) : zXor N ((u.toNat : Nat) : Int) = some ((((Sort.xorNext u).toNat : Nat) : Int), (((Sort.xorNext u).toNat : Nat) : Int)) := by
  have hn : (Sort.xorNext u).toBitVec = ((u.toBitVec ^^^ (u.toBitVec <<< 13)) ^^^ ((u.toBitVec ^^^ (u.toBitVec <<< 13)) >>> 7)) ^^^ (((u.toBitVec ^^^ (u.toBitVec <<< 13)) ^^^ ((u.toBitVec ^^^ (u.toBitVec <<< 13)) >>> 7)) <<< 17) := rfl
  have ht : (Sort.xorNext u).toNat = (Sort.xorNext u).toBitVec.toNat := rfl
  rw [ht, hn]
  unfold zXor
  have hu : u.toNat = u.toBitVec.toNat := rfl
  rw [hu]
  generalize u.toBitVec = a
  have s1 : IntKind.u64.wrap (((a.toNat : Nat) : Int) * 8192) = (((a <<< 13).toNat : Nat) : Int) := shl_bv a 13
  rw [s1, ixor_bv]
  generalize a ^^^ a <<< 13 = c
  have s2 : Int.fdiv ((c.toNat : Nat) : Int) 128 = (((c >>> 7).toNat : Nat) : Int) := shr_bv c 7
  rw [s2, ixor_bv]
  generalize c ^^^ c >>> 7 = e
  have s3 : IntKind.u64.wrap (((e.toNat : Nat) : Int) * 131072) = (((e <<< 17).toNat : Nat) : Int) := shl_bv e 17
  rw [s3, ixor_bv]
theorem brk_step (N a b k idx : Nat) (u : UInt64) (l : List Int) (m : Nat) (hm : m = 1 <<< Sort.bitsLen (b - a)) (h8 : b - a ≥ 8) (hb : b ≤ l.length) (hl : l.length ≤ 400000000) (hi : idx ≤ a + (b - a) / 4 * 2 + 1) :
    ∃ l', zBreak_L1 N (a : Int) (b : Int) (m : Int) (k + 1) ((u.toNat : Nat) : Int) l (idx : Int) = zBreak_L1 N (a : Int) (b : Int) (m : Int) k (((Sort.xorNext u).toNat : Nat) : Int) l' ((idx + 1 : Nat) : Int) ∧ Sort.breakStep a (b - a) m (u, l.toArray) idx = (Sort.xorNext u, l'.toArray) ∧ l'.length = l.length := by
  unfold Sort.breakStep
  dsimp only
  have q : IntKind.i64.wrap (Int.tdiv ((b - a : Nat) : Int) 4) = (((b - a) / 4 : Nat) : Int) := by
    rw [Int.tdiv_eq_ediv_of_nonneg (by omega), zw64 (by omega) (by omega)]; omega
  have q2 : IntKind.i64.wrap ((((b - a) / 4 : Nat) : Int) * 2) = (((b - a) / 4 * 2 : Nat) : Int) := by rw [zw64 (by omega) (by omega)]; omega
  have hm0 : m = 2 ^ Sort.bitsLen (b - a) := by rw [hm, Nat.one_shiftLeft]
  have hbl := len_le (b - a) (by omega)
  have hp : (2 : Nat) ^ Sort.bitsLen (b - a) ≤ 2 ^ 40 := Nat.pow_le_pow_right (by omega) hbl
  have h40 : (2 : Nat) ^ 40 = 1099511627776 := by decide
  have hm1 : 1 ≤ m := by rw [hm0]; exact Nat.one_le_two_pow
  have hm2 : m ≤ 2 * (b - a) := by
    rw [hm0]
    unfold Sort.bitsLen
    rw [if_neg (by omega), Nat.pow_succ]
    have := Nat.log2_self_le (n := b - a) (by omega)
    omega
  -- the other one
  have hand : iand .u64 (((Sort.xorNext u).toNat : Nat) : Int) (IntKind.u64.wrap ((m : Int) - 1)) = (((Sort.xorNext u).toNat &&& (m - 1) : Nat) : Int) := by
    have hw : IntKind.u64.wrap ((m : Int) - 1) = (((BitVec.ofNat 64 (m - 1)).toNat : Nat) : Int) := by
      rw [u64e (by omega) (by omega), BitVec.toNat_ofNat, Nat.mod_eq_of_lt (by omega)]
      omega
    rw [hw]
    have ht : (Sort.xorNext u).toNat = (Sort.xorNext u).toBitVec.toNat := rfl
    rw [ht, iand_bv, BitVec.toNat_and, BitVec.toNat_ofNat, Nat.mod_eq_of_lt (by omega)]
  have hlt : (Sort.xorNext u).toNat &&& (m - 1) ≤ m - 1 := Nat.and_le_right
  generalize (Sort.xorNext u).toNat &&& (m - 1) = o at hand hlt ⊢
  have mid : ((if ((o : Nat) : Int) ≥ ((b - a : Nat) : Int) then some (IntKind.i64.wrap (((o : Nat) : Int) - ((b - a : Nat) : Int))) else some ((o : Nat) : Int)) : Option Int) = some (((if o ≥ b - a then o - (b - a) else o : Nat)) : Int) := by
    by_cases h : o ≥ b - a
    · rw [if_pos (by omega), if_pos h, zmm o (b - a) (by omega) h]
    · rw [if_neg (by omega), if_neg h]
  have ho : (if o ≥ b - a then o - (b - a) else o) < b - a := by split <;> omega
  generalize (if o ≥ b - a then o - (b - a) else o) = o2 at mid ho ⊢
  refine ⟨swL l idx (a + o2), ?_, by rw [sw_arr], swL_len ..⟩
  conv => lhs; unfold zBreak_L1
  rw [zmm b a (by omega) (by omega), q, q2, zpp a _ (by omega) (by omega), zwp _ (by omega), if_pos (by omega), xor_eq, Option.bind_some]
  simp only
  rw [hand, zw64 (x := ((o : Nat) : Int)) (by omega) (by omega)]
  refine zto mid ?_
  rw [zpp a o2 (by omega) (by omega), zwp idx (by omega)]
  exact sw_run (l := l) (i := idx) (j := a + o2) (by omega) (by omega) _
theorem brk_eq (N a b : Nat) (l : List Int) (hab : a < b) (hb : b ≤ l.length) (hN : 4 < N) (hl : l.length ≤ 400000000) : ∃ l', zBreak N l (a : Int) (b : Int) = some l' ∧ Sort.breakPatterns l.toArray a b = l'.toArray ∧ l'.length = l.length := by
  unfold zBreak Sort.breakPatterns
  dsimp only
  rw [zmm b a (by omega) (by omega)]
  by_cases h8 : b - a ≥ 8
  · have q : IntKind.i64.wrap (Int.tdiv ((b - a : Nat) : Int) 4) = (((b - a) / 4 : Nat) : Int) := by
      rw [Int.tdiv_eq_ediv_of_nonneg (by omega), zw64 (by omega) (by omega)]; omega
    have q2 : IntKind.i64.wrap ((((b - a) / 4 : Nat) : Int) * 2) = (((b - a) / 4 * 2 : Nat) : Int) := by rw [zw64 (by omega) (by omega)]; omega
    rw [if_pos (by omega), if_pos h8, pow_eq N (b - a) (by omega), Option.bind_some, q, q2, zpp a _ (by omega) (by omega), zwm _ (by omega) (by omega)]
    have hu : IntKind.u64.wrap ((b - a : Nat) : Int) = (((UInt64.ofNat (b - a)).toNat : Nat) : Int) := by
      rw [u64e (by omega) (by omega), UInt64.toNat_ofNat', Nat.mod_eq_of_lt (by omega)]
    rw [hu]
    obtain ⟨K, rfl⟩ : ∃ K, N = K + 4 := ⟨N - 4, by omega⟩
    generalize hM : 1 <<< Sort.bitsLen (b - a) = m
    obtain ⟨l1, e1, f1, g1⟩ := brk_step (K + 4) a b (K + 3) (a + (b - a) / 4 * 2 - 1) (UInt64.ofNat (b - a)) l m hM.symm h8 hb hl (by omega)
    obtain ⟨l2, e2, f2, g2⟩ := brk_step (K + 4) a b (K + 2) (a + (b - a) / 4 * 2 - 1 + 1) (Sort.xorNext (UInt64.ofNat (b - a))) l1 m hM.symm h8 (by omega) (by omega) (by omega)
    obtain ⟨l3, e3, f3, g3⟩ := brk_step (K + 4) a b (K + 1) (a + (b - a) / 4 * 2 - 1 + 1 + 1) (Sort.xorNext (Sort.xorNext (UInt64.ofNat (b - a)))) l2 m hM.symm h8 (by omega) (by omega) (by omega)
    refine ⟨l3, ?_, ?_, by omega⟩
    · rw [e1, e2, e3]
      unfold zBreak_L1
      rw [zmm b a (by omega) (by omega), q, q2, zpp a _ (by omega) (by omega), zwp _ (by omega), if_neg (by omega)]
    · rw [f1, f2, show a + (b - a) / 4 * 2 - 1 + 2 = a + (b - a) / 4 * 2 - 1 + 1 + 1 from rfl, f3]
  · rw [if_neg (by omega), if_neg h8]
    exact ⟨l, rfl, rfl, rfl⟩
end Go.Proofs.Ytgjlpiljacecpaa
