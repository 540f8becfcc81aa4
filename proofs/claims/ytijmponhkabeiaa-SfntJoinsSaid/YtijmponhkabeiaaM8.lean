/-
  Several texts in one: JnL, Open5, Ga.
-/
import Derived.Test.YtijmponhkabeiaaM5
import Derived.Test.YtijmponhkabeiaaTabP
import Derived.Laws.CopyOwn
import Derived.Test.YtijmponhkabeiaaM0
import Derived.Deep.Matrix
import Derived.Handed
import Derived.SizedLaws
import Derived.Test.YtijmponhkabeiaaProg
import Derived.WalkKit
import Derived.KernelRfl
import Derived.OrdersHeld
import Derived.OrdersIn
import Derived.TacticsIn
import Derived.CallsIn
namespace Go.Proofs.Ytijmponhkabeiaa
open Go Go.RowKit

/-- the whole row, what is not told yet as noughts -/
def padJ (j : JoinS) (n S : Nat) : List Int := j.recs ++ (List.replicate (12 + 16 * n - j.recs.length) 0 ++ (j.rest ++ List.replicate (S - j.place) 0))

theorem splice_map {α β : Type} (f : α → β) (L : List α) (o : Nat) (cs : List α) : (splice L o cs).map f = splice (L.map f) o (cs.map f) := by
  unfold splice
  simp [List.map_take, List.map_drop]

theorem splice_pad (A R cs : List Int) (k : Nat) (h : cs.length ≤ k) : splice (A ++ (List.replicate k 0 ++ R)) A.length cs = (A ++ cs) ++ (List.replicate (k - cs.length) 0 ++ R) := by
  unfold splice
  rw [List.take_left' rfl, List.drop_append, List.drop_of_length_le (by omega), List.nil_append, show A.length + cs.length - A.length = cs.length by omega, List.drop_append_of_le_length (by simp; exact h), List.drop_replicate, List.append_assoc]

theorem putR_len : ∀ (l : List Int) (p : List Nat) (b : List Int), putR l p = some b → b.length = ((l.zip p).map fun x => sizeC x.2).sum
  | [], p, b, h => by simp only [putR, Option.some.injEq] at h; subst h; simp
  | _ :: _, [], b, h => by simp [putR] at h
  | n :: l, c :: p, b, h => by
    obtain ⟨_, b', rfl, hr⟩ := putR_cons h
    simp only [List.length_append, lowB_len, List.zip_cons_cons, List.map_cons, List.sum_cons]
    rw [putR_len l p b' hr]

/-- numbers that fit are put -/
theorem put_three (a b c : Int) (ha : 0 ≤ a ∧ a ≤ 4294967295) (hb : 0 ≤ b ∧ b ≤ 4294967295) (hc : 0 ≤ c ∧ c ≤ 4294967295) : (putA [a, b, c] ⟨#[73, 73, 73]⟩).2.length = 12 := by
  have hp : plan ⟨#[73, 73, 73]⟩ = [73, 73, 73] := rfl
  have hs : (⟨#[73, 73, 73]⟩ : ByteArray).size = 3 := rfl
  unfold putA
  rw [hs, hp]
  simp [putR, fitsC, sizeC, lowB_len, ha, hb, hc]

theorem put_one (a : Int) (ha : 0 ≤ a ∧ a ≤ 4294967295) : (putA [a] ⟨#[73]⟩).2.length = 4 := by
  have hp : plan ⟨#[73]⟩ = [73] := rfl
  have hs : (⟨#[73]⟩ : ByteArray).size = 1 := rfl
  unfold putA
  rw [hs, hp]
  simp [putR, fitsC, sizeC, lowB_len, ha]

theorem headL_len (n : Nat) (h1 : 1 ≤ n) (h2 : n ≤ 64) : (headL n).length = 12 := by
  have hpn : 2 ^ Nat.log2 n ≤ n := (Nat.le_log2 (by omega)).1 (Nat.le_refl _)
  have he6 : Nat.log2 n < 7 := (Nat.log2_lt (by omega)).2 (by omega)
  have hp : plan ⟨#[73, 72, 72, 72, 72]⟩ = [73, 72, 72, 72, 72] := rfl
  have hs : (⟨#[73, 72, 72, 72, 72]⟩ : ByteArray).size = 5 := rfl
  unfold headL putA
  rw [hs, hp]
  generalize 2 ^ Nat.log2 n = p at hpn ⊢
  have e1 : ((n : Nat) : Int) ≤ 65535 := by omega
  have e2 : ((16 * p : Nat) : Int) ≤ 65535 := by omega
  have e3 : ((Nat.log2 n : Nat) : Int) ≤ 65535 := by omega
  have e4 : ((16 * n - 16 * p : Nat) : Int) ≤ 65535 := by omega
  have f1 : (0 : Int) ≤ ((n : Nat) : Int) := Int.natCast_nonneg _
  have f2 : (0 : Int) ≤ ((16 * p : Nat) : Int) := Int.natCast_nonneg _
  have f3 : (0 : Int) ≤ ((Nat.log2 n : Nat) : Int) := Int.natCast_nonneg _
  have f4 : (0 : Int) ≤ ((16 * n - 16 * p : Nat) : Int) := Int.natCast_nonneg _
  generalize ((16 * p : Nat) : Int) = x2 at e2 f2 ⊢
  generalize ((16 * n - 16 * p : Nat) : Int) = x4 at e4 f4 ⊢
  generalize ((Nat.log2 n : Nat) : Int) = x3 at e3 f3 ⊢
  generalize ((n : Nat) : Int) = x1 at e1 f1 ⊢
  simp [putR, fitsC, sizeC, lowB_len, e1, e2, e3, e4, f1, f2, f3, f4]

theorem sumTag_b (t b : List Int) : 0 ≤ sumTag t b ∧ sumTag t b ≤ 4294967295 := by
  unfold sumTag sumS
  omega

/-- how it stands after the first i tables -/
theorem joinL_facts (ts bs : List (List Int)) (hlen : ts.length = bs.length) (h1 : 1 ≤ ts.length) (h64 : ts.length ≤ 64) (h4 : ∀ t ∈ ts, t.length = 4) (hsz : sizeJ bs bs.length ≤ 1000000) : ∀ i, i ≤ ts.length → ∃ j, joinL ts bs ts.length i = some j ∧ j.recs.length = 12 + 16 * i ∧ j.place = sizeJ bs i ∧ j.rest.length + (12 + 16 * ts.length) = j.place ∧ j.place % 4 = 0
  | 0, _ => ⟨⟨headL ts.length, [], 12 + 16 * ts.length, none⟩, rfl, by simp [headL_len _ h1 h64], by simp [sizeJ, hlen], by simp, by simp; omega⟩
  | i + 1, hi => by
    obtain ⟨j, hj, hr, hp, hre, hm⟩ := joinL_facts ts bs hlen h1 h64 h4 hsz i (by omega)
    have hle := sizeJ_le bs (i + 1) (bs.length - (i + 1))
    rw [show i + 1 + (bs.length - (i + 1)) = bs.length by omega] at hle
    have hup := upN_le (bs.getD i []).length
    have hstep : sizeJ bs (i + 1) = sizeJ bs i + upN (bs.getD i []).length := rfl
    have ht : (ts.getD i []).length = 4 := by
      rw [List.getD_eq_getElem?_getD, List.getElem?_eq_getElem (by omega)]
      exact h4 _ (List.getElem_mem _)
    have hs := sumTag_b (ts.getD i []) (bs.getD i [])
    have hput := put_three (sumTag (ts.getD i []) (bs.getD i [])) (j.place : Int) ((bs.getD i []).length : Int) hs (by omega) (by omega)
    have e : joinL ts bs ts.length (i + 1) = joinOne j (ts.getD i []) (bs.getD i []) := by
      show (joinL ts bs ts.length i).bind _ = _
      rw [hj]; rfl
    rw [e]
    unfold joinOne
    rw [if_neg (by omega)]
    refine ⟨_, rfl, ?_, ?_, ?_, ?_⟩
    · simp only [List.length_append, hput, ht, hr]; omega
    · simp only []; omega
    · simp only [List.length_append, List.length_replicate]; omega
    · simp only []; omega
end Go.Proofs.Ytijmponhkabeiaa

namespace Go.Proofs.Ytijmponhkabeiaa
open Go Go.ChangeShapes Go.WideShapes Go.ChangeAt Go.RowKit

theorem bytesOf8b : Try.prog.bytesOf 5 = 1 := by kernel_rfl

theorem weightsAll_mem {H : Type} {P : Program} {e : TypeId} : ∀ {elems : List (DataW H)} {d : DataW H}, d ∈ elems → ∀ n ∈ d.weights P e, n ∈ DataW.weightsAll P e elems
  | x :: r, d, hd, n, hn => by
    simp only [DataW.weightsAll, List.mem_append]
    rcases List.mem_cons.1 hd with rfl | hd
    · exact .inl hn
    · exact .inr (weightsAll_mem hd n hn)

/-- bodies that came in -/
theorem bods_in {H : Type} {enc : TypeId × Value → H} {W : World} {a0 : Option Addr} {len0 cap0 : Nat} {d : DataW H} {ps : List MemPlace} (h0 : DataW.Trod enc Try.prog W 0 (fun _ => true) true 35 (.slice a0 len0 cap0) d ps) :
    ∃ bs, BodsZ W (.slice a0 len0 cap0) bs ∧ ∀ (ts : List TypeId) (ds : List (DataW H)) (j : Nat), (DataW.weightsEach Try.prog ts ds).all (· ≤ reachBytes) = true → ts[j]? = some 35 → ds[j]? = some d → ∀ b ∈ bs, b.length ≤ 140737488355328 := by
  obtain ⟨fuel, hf⟩ := h0
  rcases Deep.open_int_rows Try.underlying35 Try.underlying22 Try.underlying5 (by kernel_rfl) (by kernel_rfl) hf with ⟨hcs, _⟩ | ⟨a, len, cap, A, L, C, Z, hcs, _, hl, hm, hx, hr⟩
  · simp [Value.cells] at hcs
    obtain ⟨rfl, rfl, rfl⟩ := hcs
    exact ⟨[], ⟨none, 0, rfl, Nat.le_refl _, by decide, fun b hb => (by cases hb), fun hne => absurd rfl hne⟩, fun _ _ _ _ _ _ b hb => by cases hb⟩
  · simp [Value.cells] at hcs
    obtain ⟨rfl, rfl, rfl⟩ := hcs
    have hm' : cap0 ≤ 9223372036854775807 := by unfold maxLen at hm; omega
    refine ⟨(List.range len0).map (fun r => (Z r).take (L r)), ⟨some a, cap0, by rw [List.length_map, List.length_range], by rw [List.length_map, List.length_range]; exact hl, hm', ?_, ?_⟩, ?_⟩
    · intro b hb
      obtain ⟨r, hr', rfl⟩ := List.mem_map.1 hb
      obtain ⟨_, _, _, _, hw, _, _⟩ := hr r (by have := List.mem_range.1 hr'; omega)
      exact fun x hx => u8_wf (hw x (List.mem_of_mem_take hx))
    · intro hne
      have hpos : 0 < len0 := by
        rcases Nat.eq_zero_or_pos len0 with h | h
        · rw [h] at hne; exact absurd rfl hne
        · exact h
      obtain ⟨g, off, spot⟩ := a
      have hc0 := (hr 0 (by omega)).1
      have hspot : spot = none := by simpa [Addr.add] using World.cell?_spot hc0
      subst hspot
      refine ⟨g, off, rfl, ?_, fun i hi => ?_⟩
      · rw [add_flat] at hc0
        exact World.block_lt_of_cell? W _ hc0
      · rw [List.length_map, List.length_range] at hi
        obtain ⟨hc, hLC, hCm, hZ, _, hA0, hA⟩ := hr i (by omega)
        rw [add_flat] at hc
        have hZl : ((Z i).take (L i)).length = L i := by rw [List.length_take]; omega
        refine ⟨_, hc, ?_, fun n c' e => ?_⟩
        · simp only [List.getElem_map, List.getElem_range]
          refine ⟨A i, C i, by rw [hZl], by rw [hZl]; exact hLC, by unfold maxLen at hCm; omega, fun hne2 => ?_⟩
          have hLp : 0 < L i := by
            rcases Nat.eq_zero_or_pos (L i) with h | h
            · rw [h] at hne2; exact absurd rfl hne2
            · exact h
          cases hAi : A i with
          | none => have := hA0 hAi; omega
          | some a' =>
            obtain ⟨_, hcell⟩ := hA a' hAi
            obtain ⟨g2, off2, spot2⟩ := a'
            have hd0 := hcell 0 (by omega)
            have hspot2 : spot2 = none := by simpa [Addr.add] using World.cell?_spot hd0
            subst hspot2
            refine ⟨g2, off2, rfl, ?_, fun j hj => ?_⟩
            · rw [add_flat] at hd0
              exact World.block_lt_of_cell? W _ hd0
            · rw [hZl] at hj
              have hd := hcell j (by omega)
              rw [add_flat] at hd
              rw [hd]
              have hjz : j < (Z i).length := by omega
              simp [hjz]
        · injection e with e1 e2 e3
          have := hA0 e1
          omega
    · intro ts ds j hsz ht hd b hb
      obtain ⟨r, hr', rfl⟩ := List.mem_map.1 hb
      have hrl := List.mem_range.1 hr'
      obtain ⟨_, hLC, _, hZ, _, hA0, _⟩ := hr r (by omega)
      have hle : ((Z r).take (L r)).length ≤ (Z r).length := by rw [List.length_take]; omega
      refine Nat.le_trans hle ?_
      cases hAr : A r with
      | none => have := hA0 hAr; omega
      | some a' =>
        have hx1 : d = .slice ((List.range len0).map fun r => Deep.intRow .u8 (A r) (L r) (Z r)) ((List.range (cap0 - len0)).map fun j => Deep.intRow .u8 (A (len0 + j)) (L (len0 + j)) (Z (len0 + j))) := congrArg Prod.fst hx
        have hrow : Deep.intRow (H := H) .u8 (A r) (L r) (Z r) = .slice (lits .u8 ((Z r).take (L r))) (lits .u8 ((Z r).drop (L r))) := by unfold Deep.intRow; rw [hAr]
        have hmem : (Z r).length ∈ (Deep.intRow (H := H) .u8 (A r) (L r) (Z r)).weights Try.prog 22 := by
          rw [hrow]
          simp only [DataW.weights, Try.underlying22]
          rw [bytesOf8b]
          simp [lits]
          left; omega
        have h1 : (Z r).length ∈ d.weights Try.prog 35 := by
          rw [hx1]
          simp only [DataW.weights, Try.underlying35, List.mem_cons, List.mem_append]
          exact .inr (.inl (weightsAll_mem (List.mem_map.2 ⟨r, hr', rfl⟩) _ hmem))
        have h2 := List.all_eq_true.1 hsz _ (DataW.weights_mem_each ht hd _ h1)
        have := reachBytes_lt
        simp only [decide_eq_true_eq] at h2
        omega

/-- names that came in -/
theorem tags_in {H : Type} {enc : TypeId × Value → H} {W : World} {a0 : Option Addr} {len0 cap0 : Nat} {d : DataW H} {ps : List MemPlace} (h0 : DataW.Trod enc Try.prog W 0 (fun _ => true) true 34 (.slice a0 len0 cap0) d ps) :
    ∃ ts, TagsZ W (.slice a0 len0 cap0) ts := by
  obtain ⟨fuel, hf⟩ := h0
  have hc4 : Try.prog.cellsOf 39 = 4 := by kernel_rfl
  have hc1 : Try.prog.cellsOf 5 = 1 := by kernel_rfl
  rcases Deep.open_slice Try.underlying34 hf with ⟨hcs, _⟩ | ⟨a, len, cap, m, n, D, Pl, hcs, _, hl, hm, hmm, _, hr⟩
  · simp [Value.cells] at hcs
    obtain ⟨rfl, rfl, rfl⟩ := hcs
    exact ⟨[], none, 0, rfl, Nat.le_refl _, by decide, fun b hb => (by cases hb), fun hne => absurd rfl hne⟩
  · simp [Value.cells] at hcs
    obtain ⟨rfl, rfl, rfl⟩ := hcs
    simp only [if_true] at hmm
    subst hmm
    rw [hc4] at hr
    have hm' : m ≤ 9223372036854775807 := by unfold maxLen at hm; omega
    have each : ∀ i, i < m → ∃ t : List Int, t.length = 4 ∧ AllB t ∧ ∀ j, j < 4 → W.cell? ((a.add (i * 4)).add j) = some (.int .u8 (t.getD j 0)) := by
      intro i hi
      obtain ⟨cs', h1, h2⟩ := hr i hi
      obtain ⟨_, hlen, hcell⟩ := World.cells?_some h1
      cases n with
      | zero => simp [DataW.trod] at h2
      | succ n =>
        rw [DataW.trod_step] at h2
        unfold DataW.trodStep at h2
        simp only [Try.underlying39, hc1] at h2
        rw [if_pos (by rw [hlen, hc4])] at h2
        simp only [Option.map_eq_some_iff] at h2
        obtain ⟨ys, hy, _⟩ := h2
        match cs', hlen, hcell, hy with
        | [c0, c1, c2, c3], _, hcell, hy =>
          simp only [show List.range 4 = [0, 1, 2, 3] from rfl, List.mapM_cons, List.mapM_nil, bind, Option.bind_eq_some_iff, pure, Option.some.injEq] at hy
          obtain ⟨y0, h0, _, ⟨y1, h1', _, ⟨y2, h2', _, ⟨y3, h3', _⟩, _⟩, _⟩, _⟩ := hy
          obtain ⟨n0, e0, _, w0⟩ := DataW.trod_int Try.underlying5 h0
          obtain ⟨n1, e1, _, w1⟩ := DataW.trod_int Try.underlying5 h1'
          obtain ⟨n2, e2, _, w2⟩ := DataW.trod_int Try.underlying5 h2'
          obtain ⟨n3, e3, _, w3⟩ := DataW.trod_int Try.underlying5 h3'
          simp at e0 e1 e2 e3
          subst e0; subst e1; subst e2; subst e3
          refine ⟨[n0, n1, n2, n3], rfl, fun x hx => ?_, fun j hj => ?_⟩
          · simp only [List.mem_cons, List.not_mem_nil, or_false] at hx
            rcases hx with rfl | rfl | rfl | rfl
            · exact u8_wf w0
            · exact u8_wf w1
            · exact u8_wf w2
            · exact u8_wf w3
          · rw [hcell j hj]
            match j, hj with
            | 0, _ => rfl
            | 1, _ => rfl
            | 2, _ => rfl
            | 3, _ => rfl
    obtain ⟨T, hT⟩ := Deep.choose_lt each
    refine ⟨(List.range len0).map T, some a, m, by rw [List.length_map, List.length_range], by rw [List.length_map, List.length_range]; exact hl, hm', ?_, ?_⟩
    · intro t ht
      obtain ⟨i, hi, rfl⟩ := List.mem_map.1 ht
      have := hT i (by have := List.mem_range.1 hi; omega)
      exact ⟨this.1, this.2.1⟩
    · intro hne
      have hpos : 0 < len0 := by
        rcases Nat.eq_zero_or_pos len0 with h | h
        · rw [h] at hne; exact absurd rfl hne
        · exact h
      obtain ⟨g, off, spot⟩ := a
      have hc0 := (hT 0 (by omega)).2.2 0 (by omega)
      have hspot : spot = none := by simpa [Addr.add] using World.cell?_spot hc0
      subst hspot
      refine ⟨g, off, rfl, ?_, fun i j hi hj => ?_⟩
      · rw [add_flat, add_flat] at hc0
        exact World.block_lt_of_cell? W _ hc0
      · rw [List.length_map, List.length_range] at hi
        have hc := (hT i (by omega)).2.2 j hj
        rw [add_flat, add_flat] at hc
        rw [hc]
        simp
end Go.Proofs.Ytijmponhkabeiaa

namespace Go.Proofs.Ytijmponhkabeiaa
open Go

/-- the widest fence, of an activation or of a round -/
def FW (ro : Option Nat) : Fence := { Fence.wide with round := ro }

/-- no defer statement -/
def plainOp (o : Oper) : Bool := match o.op with | .defer _ => false | _ => true

theorem semAt_fw {ro : Option Nat} {ρ : Operand → Value} {o : Oper} (h : plainOp o = true) : o.semAt ro ρ = execOp ρ o :=
  Oper.semAt_eq ro ρ o (fun c hc => by unfold plainOp at h; rw [hc] at h; cases h)

section
variable {P : Program} {ro : Option Nat} {n : Nat} {ops : Array Oper} {Q : Exit → Act → World → Prop} {S : World → Prop}

theorem held_step {i : Nat} {o : Oper} {v : Value} {a : Act} (hp : plainOp o = true) (hi : ops[i]? = some o) (hy : YieldsIf P ops S o v a) {K : Act → World → Prop} {w : World} (hS : S w) (h : K (a.put o.dst v) w) :
    wpOpIn (FW ro) n P ops Q i K a w := by
  unfold wpOpIn
  simp only [hi]
  rcases hy with ⟨hw, hv⟩ | ⟨hw, rfl⟩
  · rw [if_pos hw]
    refine ⟨fun _ _ => trivial, ?_⟩
    rw [show (FW ro).round = ro from rfl, semAt_fw hp, hv w hS]
    exact h
  · rw [if_neg (by rw [hw]; decide)]
    exact ⟨fun _ _ => trivial, h⟩

/-- two operations that lie apart, the second in the first's place -/
theorem held_swap {j : Nat} {oi oj : Oper} {v : Value} (hp : plainOp oj = true) (hj : ops[j]? = some oj) (hap : oi.apart ops oj = true) (hsi : ∀ cs b, oi.op ≠ .select cs b) (hsj : ∀ cs b, oj.op ≠ .select cs b)
    (hQ : ∀ c a w, Q (.panic c) (a.put oi.dst v) w → Q (.panic c) a w) {K : Act → World → Prop} {a : Act} {w : World} (hy : YieldsIf P ops S oi v a) (h : wpOpIn (FW ro) n P ops Q j K (a.put oi.dst v) w) :
    wpOpIn (FW ro) n P ops Q j (fun a' w' => YieldsIf P ops S oi v a' ∧ K (a'.put oi.dst v) w') a w := by
  obtain ⟨h1, h2, h3⟩ := Oper.apart_spec hap
  have same : ∀ u, YieldsIf P ops S oi v (a.put oj.dst u) := fun u => hy.of_same (execOp_put oi hsi a oj.dst u h3) (wanted_put oi a oj.dst u h3)
  unfold wpOpIn at h ⊢
  simp only [hj] at h ⊢
  rw [wanted_put oj a oi.dst v h1] at h
  by_cases hw : Region.wanted oj (yielded ops a.tmps) = true
  · rw [if_pos hw] at h ⊢
    refine ⟨fun _ _ => trivial, ?_⟩
    have h := h.2
    rw [show (FW ro).round = ro from rfl, semAt_fw hp] at h ⊢
    rw [execOp_put oj hsj a oi.dst v h1] at h
    generalize (execOp a.eval oj).run P w = r at h ⊢
    cases r with
    | ok x w' =>
      cases x with
      | value u =>
        show _ ∧ _
        exact ⟨same u, by have h : K _ _ := h; rw [← Act.put_comm a v u h2]; exact h⟩
      | skip =>
        show _ ∧ _
        exact ⟨same _, by have h : K _ _ := h; rw [← Act.put_comm a v undef h2]; exact h⟩
      | defer d =>
        refine ⟨(hy.of_same rfl rfl : YieldsIf P ops S oi v { a with defers := d :: a.defers }).of_same (execOp_put oi hsi _ oj.dst _ h3) (wanted_put oi _ oj.dst _ h3), ?_⟩
        rw [← Act.put_comm _ v undef h2, ← Act.put_defers]
        exact h
      | enter f args =>
        refine ⟨h.1, CallsIn.mono h.2 fun e w'' he => ?_⟩
        cases e with
        | returned u => exact ⟨same u, by rw [← Act.put_comm a v u h2]; exact he⟩
        | panicked c => exact hQ _ _ _ he
        | outgrown => exact he
      | row row args => exact ⟨h.1, RowsIn.mono h.2 fun u w'' he => ⟨same u, by rw [← Act.put_comm a v u h2]; exact he⟩⟩
      | round l f tmps assign body =>
        refine ⟨h.1, RoundIn.mono h.2 fun e w'' he => ?_⟩
        cases e with
        | returned u => exact ⟨same u, by rw [← Act.put_comm a v u h2]; exact he⟩
        | panicked c => exact hQ _ _ _ he
        | outgrown => exact he
      | _ => exact h
    | halt x w' =>
      cases x with
      | panic u => exact hQ _ _ _ h
      | _ => exact h
  · rw [if_neg hw] at h ⊢
    exact ⟨fun _ _ => trivial, same _, by rw [← Act.put_comm a v undef h2]; exact h.2⟩

/-- whichever comes up, what holds of the world being held -/
def wpHeld (ro : Option Nat) (n : Nat) (P : Program) (ops : Array Oper) (Q : Exit → Act → World → Prop) (S : World → Prop) : Nat → Array Bool → Act → World → Prop
  | 0, listed, a, w => Region.ready .any ops listed = [] ∧ Q .normal a w
  | fuel + 1, listed, a, w => (Region.ready .any ops listed = [] → Q .normal a w) ∧
    ∀ i ∈ Region.ready .any ops listed, wpOpIn (FW ro) n P ops Q i (fun a' w' => S w' ∧ wpHeld ro n P ops Q S fuel (listed.setIfInBounds i true) a' w') a w

theorem wpHeld_any : ∀ (fuel : Nat) (listed : Array Bool) (a : Act) (w : World), wpHeld ro n P ops Q S fuel listed a w → wpAnyIn (FW ro) n P .any ops Q fuel listed a w
  | 0, _, _, _, h => h
  | fuel + 1, _, _, _, h => ⟨h.1, fun i hi => wpOpIn_mono (fun a' w' h' => wpHeld_any fuel _ a' w' h'.2) (h.2 i hi)⟩

theorem wpHeld_done {listed : Array Bool} {a : Act} {w : World} (hr : Region.ready .any ops listed = []) (h : Q .normal a w) : ∀ fuel, wpHeld ro n P ops Q S fuel listed a w
  | 0 => ⟨hr, h⟩
  | _ + 1 => ⟨fun _ => h, by rw [hr]; simp⟩

/-- what yields in every world that is held may be taken first -/
theorem wpHeld_first {i : Nat} {oi : Oper} {v : Value} (hp : ∀ (j : Nat) (o : Oper), ops[j]? = some o → plainOp o = true) (hi : ops[i]? = some oi) (hsel : ∀ (j : Nat) (o : Oper) cs b, ops[j]? = some o → o.op ≠ .select cs b)
    (hQ : ∀ c a w, Q (.panic c) (a.put oi.dst v) w → Q (.panic c) a w) (fuel : Nat) : ∀ (listed : Array Bool) (a : Act) (w : World),
      (∀ j oj, ops[j]? = some oj → j ≠ i → listed.getD j true = false → (∀ e ∈ oj.after, Region.binds .any e = true → e.on ≠ i) → oi.apart ops oj = true) →
      i ∈ Region.ready .any ops listed → YieldsIf P ops S oi v a → S w →
      wpHeld ro n P ops Q S fuel (listed.setIfInBounds i true) (a.put oi.dst v) w → wpHeld ro n P ops Q S (fuel + 1) listed a w := by
  induction fuel with
  | zero =>
    intro listed a w _ hr hy hS H
    refine ⟨fun h => (by rw [h] at hr; cases hr), fun j hj => ?_⟩
    by_cases hji : j = i
    · subst hji; exact held_step (hp _ _ hi) hi hy hS ⟨hS, H⟩
    · have := ready_mono hj hji
      rw [H.1] at this
      cases this
  | succ fuel ih =>
    intro listed a w hfree hr hy hS H
    refine ⟨fun h => (by rw [h] at hr; cases hr), fun j hj => ?_⟩
    by_cases hji : j = i
    · subst hji; exact held_step (hp _ _ hi) hi hy hS ⟨hS, H⟩
    · have h1 := H.2 j (ready_mono hj hji)
      obtain ⟨hjun, oj, hoj, hall⟩ := mem_ready.1 hj
      have hnot : ∀ e ∈ oj.after, Region.binds .any e = true → e.on ≠ i := by
        intro e he hb heq
        have h2 := hall e he hb
        have h0 := (mem_ready.1 hr).1
        rw [heq] at h2
        rcases Nat.lt_or_ge i listed.size with h' | h'
        · simp [h'] at h0 h2; rw [h0] at h2; cases h2
        · simp [Array.getElem?_eq_none h'] at h2
      have h2 := held_swap (hp _ _ hoj) hoj (hfree j oj hoj hji hjun hnot) (fun cs b => hsel i oi cs b hi) (fun cs b => hsel j oj cs b hoj) hQ hy h1
      refine wpOpIn_mono (fun a' w' h3 => ⟨h3.2.1, ih (listed.setIfInBounds j true) a' w' ?_ (ready_mono hr (Ne.symm hji)) h3.1 h3.2.1 ?_⟩) h2
      · intro k ok hk hki hun hno
        refine hfree k ok hk hki ?_ hno
        by_cases hjk : j = k
        · subst hjk; exact hjun
        · rw [getD_set_ne true hjk] at hun; exact hun
      · rw [Array.setIfInBounds_comm _ _ hji]
        exact h3.2.2

theorem wpHeld_take {i : Nat} {oi : Oper} {v : Value} {fuel : Nat} {listed : Array Bool} {a : Act} {w : World} (hp : ops.all plainOp = true) (hi : ops[i]? = some oi) (hs : Region.noSelect ops = true) (hf : Region.free .any ops listed i = true) (hr : (Region.ready .any ops listed).contains i = true)
    (hQ : ∀ c a w, Q (.panic c) (a.put oi.dst v) w → Q (.panic c) a w) (hy : YieldsIf P ops S oi v a) (hS : S w) (h : wpHeld ro n P ops Q S fuel (listed.setIfInBounds i true) (a.put oi.dst v) w) : wpHeld ro n P ops Q S (fuel + 1) listed a w :=
  wpHeld_first (fun j o hj => by
    obtain ⟨hlt, rfl⟩ := Array.getElem?_eq_some_iff.1 hj
    exact (Array.all_eq_true.1 hp) j hlt) hi (Region.noSelect_spec hs) hQ fuel listed a w (Region.free_spec hi hf) (by simpa using hr) hy hS h

/-- one alone may come up -/
theorem wpHeld_one {i : Nat} {oi : Oper} {fuel : Nat} {listed : Array Bool} {a : Act} {w : World} (hi : ops[i]? = some oi) (hr : Region.ready .any ops listed = [i]) (hw : Region.wanted oi (yielded ops a.tmps) = true)
    (h : oi.wpIn (FW ro) n P a w (fun a' w' => S w' ∧ wpHeld ro n P ops Q S fuel (listed.setIfInBounds i true) a' w') Q) : wpHeld ro n P ops Q S (fuel + 1) listed a w := by
  refine ⟨fun h0 => (by rw [hr] at h0; cases h0), fun j hj => ?_⟩
  rw [hr] at hj
  obtain rfl := List.mem_singleton.1 hj
  unfold wpOpIn
  rw [hi]
  show if Region.wanted oi (yielded ops a.tmps) = true then _ else _
  rw [if_pos hw]
  exact h

theorem wpHeld_region {id : Nat} {a : Act} {w : World} (hm : P.follows .mixedOrders = true) (h : wpHeld ro n P ops Q S ops.size (Array.replicate ops.size false) a w.drew) : (Code.region id ops true).wpIn (FW ro) n P Q a w :=
  wpIn_region_any hm (wpHeld_any _ _ _ _ h)
end
end Go.Proofs.Ytijmponhkabeiaa
