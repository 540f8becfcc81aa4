/-
  Names and bodies that came in, as the walks ask them.
-/
import Derived.Test.YtlpnikolnohcaaaOpen4
import Derived.Test.YtlpnikolnohcaaaJnL
import Derived.Deep.Matrix
import Derived.Handed
import Derived.SizedLaws
namespace Go.Proofs.Ytlpnikolnohcaaa
open Go Go.ChangeShapes Go.WideShapes Go.ChangeAt Go.RowKit

theorem bytesOf8b : Try.prog.bytesOf 5 = 1 := by kernel_rfl

theorem weightsAll_mem {H : Type} {P : Program} {e : TypeId} : ∀ {elems : List (DataW H)} {d : DataW H}, d ∈ elems → ∀ n ∈ d.weights P e, n ∈ DataW.weightsAll P e elems
  | x :: r, d, hd, n, hn => by
    simp only [DataW.weightsAll, List.mem_append]
    rcases List.mem_cons.1 hd with rfl | hd
    · exact .inl hn
    · exact .inr (weightsAll_mem hd n hn)

/-- bodies that came in -/
theorem bods_in {H : Type} {enc : TypeId × Value → H} {W : World} {a0 : Option Addr} {len0 cap0 : Nat} {d : DataW H} {ps : List MemPlace} (h0 : DataW.Trod enc Try.prog W 0 (fun _ => true) true 35 (.slice a0 len0 cap0) d ps) :
    ∃ bs, BodsZ W (.slice a0 len0 cap0) bs ∧ ∀ (ts : List TypeId) (ds : List (DataW H)) (j : Nat), (DataW.weightsEach Try.prog ts ds).all (· ≤ reachBytes) = true → ts[j]? = some 35 → ds[j]? = some d → ∀ b ∈ bs, b.length ≤ 140737488355328 := by
  obtain ⟨fuel, hf⟩ := h0
  rcases Deep.open_int_rows Try.underlying35 Try.underlying22 Try.underlying5 (by kernel_rfl) (by kernel_rfl) hf with ⟨hcs, _⟩ | ⟨a, len, cap, A, L, C, Z, hcs, _, hl, hm, hx, hr⟩
  · simp [Value.cells] at hcs
    obtain ⟨rfl, rfl, rfl⟩ := hcs
    exact ⟨[], ⟨none, 0, rfl, Nat.le_refl _, by decide, fun b hb => (by cases hb), fun hne => absurd rfl hne⟩, fun _ _ _ _ _ _ b hb => by cases hb⟩
  · simp [Value.cells] at hcs
    obtain ⟨rfl, rfl, rfl⟩ := hcs
    have hm' : cap0 ≤ 9223372036854775807 := by unfold maxLen at hm; omega
    refine ⟨(List.range len0).map (fun r => (Z r).take (L r)), ⟨some a, cap0, by rw [List.length_map, List.length_range], by rw [List.length_map, List.length_range]; exact hl, hm', ?_, ?_⟩, ?_⟩
    · intro b hb
      obtain ⟨r, hr', rfl⟩ := List.mem_map.1 hb
      obtain ⟨_, _, _, _, hw, _, _⟩ := hr r (by have := List.mem_range.1 hr'; omega)
      exact fun x hx => u8_wf (hw x (List.mem_of_mem_take hx))
    · intro hne
      have hpos : 0 < len0 := by
        rcases Nat.eq_zero_or_pos len0 with h | h
        · rw [h] at hne; exact absurd rfl hne
        · exact h
      obtain ⟨g, off, spot⟩ := a
      have hc0 := (hr 0 (by omega)).1
      have hspot : spot = none := by simpa [Addr.add] using World.cell?_spot hc0
      subst hspot
      refine ⟨g, off, rfl, ?_, fun i hi => ?_⟩
      · rw [add_flat] at hc0
        exact World.block_lt_of_cell? W _ hc0
      · rw [List.length_map, List.length_range] at hi
        obtain ⟨hc, hLC, hCm, hZ, _, hA0, hA⟩ := hr i (by omega)
        rw [add_flat] at hc
        have hZl : ((Z i).take (L i)).length = L i := by rw [List.length_take]; omega
        refine ⟨_, hc, ?_, fun n c' e => ?_⟩
        · simp only [List.getElem_map, List.getElem_range]
          refine ⟨A i, C i, by rw [hZl], by rw [hZl]; exact hLC, by unfold maxLen at hCm; omega, fun hne2 => ?_⟩
          have hLp : 0 < L i := by
            rcases Nat.eq_zero_or_pos (L i) with h | h
            · rw [h] at hne2; exact absurd rfl hne2
            · exact h
          cases hAi : A i with
          | none => have := hA0 hAi; omega
          | some a' =>
            obtain ⟨_, hcell⟩ := hA a' hAi
            obtain ⟨g2, off2, spot2⟩ := a'
            have hd0 := hcell 0 (by omega)
            have hspot2 : spot2 = none := by simpa [Addr.add] using World.cell?_spot hd0
            subst hspot2
            refine ⟨g2, off2, rfl, ?_, fun j hj => ?_⟩
            · rw [add_flat] at hd0
              exact World.block_lt_of_cell? W _ hd0
            · rw [hZl] at hj
              have hd := hcell j (by omega)
              rw [add_flat] at hd
              rw [hd]
              have hjz : j < (Z i).length := by omega
              simp [hjz]
        · injection e with e1 e2 e3
          have := hA0 e1
          omega
    · intro ts ds j hsz ht hd b hb
      obtain ⟨r, hr', rfl⟩ := List.mem_map.1 hb
      have hrl := List.mem_range.1 hr'
      obtain ⟨_, hLC, _, hZ, _, hA0, _⟩ := hr r (by omega)
      have hle : ((Z r).take (L r)).length ≤ (Z r).length := by rw [List.length_take]; omega
      refine Nat.le_trans hle ?_
      cases hAr : A r with
      | none => have := hA0 hAr; omega
      | some a' =>
        have hx1 : d = .slice ((List.range len0).map fun r => Deep.intRow .u8 (A r) (L r) (Z r)) ((List.range (cap0 - len0)).map fun j => Deep.intRow .u8 (A (len0 + j)) (L (len0 + j)) (Z (len0 + j))) := congrArg Prod.fst hx
        have hrow : Deep.intRow (H := H) .u8 (A r) (L r) (Z r) = .slice (lits .u8 ((Z r).take (L r))) (lits .u8 ((Z r).drop (L r))) := by unfold Deep.intRow; rw [hAr]
        have hmem : (Z r).length ∈ (Deep.intRow (H := H) .u8 (A r) (L r) (Z r)).weights Try.prog 22 := by
          rw [hrow]
          simp only [DataW.weights, Try.underlying22]
          rw [bytesOf8b]
          simp [lits]
          left; omega
        have h1 : (Z r).length ∈ d.weights Try.prog 35 := by
          rw [hx1]
          simp only [DataW.weights, Try.underlying35, List.mem_cons, List.mem_append]
          exact .inr (.inl (weightsAll_mem (List.mem_map.2 ⟨r, hr', rfl⟩) _ hmem))
        have h2 := List.all_eq_true.1 hsz _ (DataW.weights_mem_each ht hd _ h1)
        have := reachBytes_lt
        simp only [decide_eq_true_eq] at h2
        omega

/-- names that came in -/
theorem tags_in {H : Type} {enc : TypeId × Value → H} {W : World} {a0 : Option Addr} {len0 cap0 : Nat} {d : DataW H} {ps : List MemPlace} (h0 : DataW.Trod enc Try.prog W 0 (fun _ => true) true 34 (.slice a0 len0 cap0) d ps) :
    ∃ ts, TagsZ W (.slice a0 len0 cap0) ts := by
  obtain ⟨fuel, hf⟩ := h0
  have hc4 : Try.prog.cellsOf 39 = 4 := by kernel_rfl
  have hc1 : Try.prog.cellsOf 5 = 1 := by kernel_rfl
  rcases Deep.open_slice Try.underlying34 hf with ⟨hcs, _⟩ | ⟨a, len, cap, m, n, D, Pl, hcs, _, hl, hm, hmm, _, hr⟩
  · simp [Value.cells] at hcs
    obtain ⟨rfl, rfl, rfl⟩ := hcs
    exact ⟨[], none, 0, rfl, Nat.le_refl _, by decide, fun b hb => (by cases hb), fun hne => absurd rfl hne⟩
  · simp [Value.cells] at hcs
    obtain ⟨rfl, rfl, rfl⟩ := hcs
    simp only [if_true] at hmm
    subst hmm
    rw [hc4] at hr
    have hm' : m ≤ 9223372036854775807 := by unfold maxLen at hm; omega
    have each : ∀ i, i < m → ∃ t : List Int, t.length = 4 ∧ AllB t ∧ ∀ j, j < 4 → W.cell? ((a.add (i * 4)).add j) = some (.int .u8 (t.getD j 0)) := by
      intro i hi
      obtain ⟨cs', h1, h2⟩ := hr i hi
      obtain ⟨_, hlen, hcell⟩ := World.cells?_some h1
      cases n with
      | zero => simp [DataW.trod] at h2
      | succ n =>
        rw [DataW.trod_step] at h2
        unfold DataW.trodStep at h2
        simp only [Try.underlying39, hc1] at h2
        rw [if_pos (by rw [hlen, hc4])] at h2
        simp only [Option.map_eq_some_iff] at h2
        obtain ⟨ys, hy, _⟩ := h2
        match cs', hlen, hcell, hy with
        | [c0, c1, c2, c3], _, hcell, hy =>
          simp only [show List.range 4 = [0, 1, 2, 3] from rfl, List.mapM_cons, List.mapM_nil, bind, Option.bind_eq_some_iff, pure, Option.some.injEq] at hy
          obtain ⟨y0, h0, _, ⟨y1, h1', _, ⟨y2, h2', _, ⟨y3, h3', _⟩, _⟩, _⟩, _⟩ := hy
          obtain ⟨n0, e0, _, w0⟩ := DataW.trod_int Try.underlying5 h0
          obtain ⟨n1, e1, _, w1⟩ := DataW.trod_int Try.underlying5 h1'
          obtain ⟨n2, e2, _, w2⟩ := DataW.trod_int Try.underlying5 h2'
          obtain ⟨n3, e3, _, w3⟩ := DataW.trod_int Try.underlying5 h3'
          simp at e0 e1 e2 e3
          subst e0; subst e1; subst e2; subst e3
          refine ⟨[n0, n1, n2, n3], rfl, fun x hx => ?_, fun j hj => ?_⟩
          · simp only [List.mem_cons, List.not_mem_nil, or_false] at hx
            rcases hx with rfl | rfl | rfl | rfl
            · exact u8_wf w0
            · exact u8_wf w1
            · exact u8_wf w2
            · exact u8_wf w3
          · rw [hcell j hj]
            match j, hj with
            | 0, _ => rfl
            | 1, _ => rfl
            | 2, _ => rfl
            | 3, _ => rfl
    obtain ⟨T, hT⟩ := Deep.choose_lt each
    refine ⟨(List.range len0).map T, some a, m, by rw [List.length_map, List.length_range], by rw [List.length_map, List.length_range]; exact hl, hm', ?_, ?_⟩
    · intro t ht
      obtain ⟨i, hi, rfl⟩ := List.mem_map.1 ht
      have := hT i (by have := List.mem_range.1 hi; omega)
      exact ⟨this.1, this.2.1⟩
    · intro hne
      have hpos : 0 < len0 := by
        rcases Nat.eq_zero_or_pos len0 with h | h
        · rw [h] at hne; exact absurd rfl hne
        · exact h
      obtain ⟨g, off, spot⟩ := a
      have hc0 := (hT 0 (by omega)).2.2 0 (by omega)
      have hspot : spot = none := by simpa [Addr.add] using World.cell?_spot hc0
      subst hspot
      refine ⟨g, off, rfl, ?_, fun i j hi hj => ?_⟩
      · rw [add_flat, add_flat] at hc0
        exact World.block_lt_of_cell? W _ hc0
      · rw [List.length_map, List.length_range] at hi
        have hc := (hT i (by omega)).2.2 j hj
        rw [add_flat, add_flat] at hc
        rw [hc]
        simp
end Go.Proofs.Ytlpnikolnohcaaa
