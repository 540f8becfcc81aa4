/-
  sfnt.joined: the walk.
-/
import Derived.Test.YtijmponhkabeiaaM8
namespace Go.Proofs.Ytijmponhkabeiaa
open Go Go.RowKit

/-- bytes as cells -/
def c8 (l : List Int) : List Value := l.map fun x => Value.int .u8 x
theorem c8_len (l : List Int) : (c8 l).length = l.length := by simp [c8]
theorem c8_one (l : List Int) : ∀ v ∈ c8 l, v.oneCell' = true := by
  intro v hv
  obtain ⟨x, _, rfl⟩ := List.mem_map.1 hv
  rfl
theorem c8_splice (L : List Int) (o : Nat) (s : List Int) : splice (c8 L) o (c8 s) = c8 (splice L o s) := (splice_map _ L o s).symm

theorem num_src {w : World} {A : Option Addr} {n c : Nat} {l : List Int} (h : NumZ .u8 w (.slice A n c) l) : 0 < (c8 l).length → ∃ ad, A = some ad ∧ ∀ j v, (c8 l)[j]? = some v → w.cell? (ad.add j) = some v := by
  intro hl
  rw [c8_len] at hl
  obtain ⟨g, off, rfl, _, hc⟩ := h.cells (by rintro rfl; simp at hl)
  refine ⟨_, rfl, fun j v hj => ?_⟩
  have hj' : j < l.length := by
    rcases Nat.lt_or_ge j l.length with h' | h'
    · exact h'
    · rw [List.getElem?_eq_none (by rw [c8_len]; exact h')] at hj; cases hj
  rw [add_flat, hc j hj', ← hj]
  simp [c8, hj']

theorem row_num {w : World} {g S : Nat} {L : List Int} (h : w.heap[g]? = some (.cells (c8 L).toArray 5 (0, 0))) (hL : L.length = S) (hS : S ≤ 1000000) : NumZ .u8 w (.slice (some ⟨g, 0, none⟩) S S) L := by
  refine ⟨_, _, by rw [hL], by omega, by omega, fun _ => ⟨g, 0, rfl, (Array.getElem?_eq_some_iff.1 h).1, fun j hj => ?_⟩⟩
  rw [Nat.zero_add, cell_of_row _ g j _ _ _ h]
  simp [c8, hj]

theorem infoBy : (Try.prog.info? 5).map (fun i => (i.zero, i.size, i.bytes)) = some (some (.int .u8 0), 1, 1) := by kernel_rfl
theorem sizeBy : (Try.prog.info? 5).map (·.size) = some 1 := by kernel_rfl

theorem made_c8 (n : Nat) : madeCells #[Value.int .u8 0] n = (c8 (List.replicate n 0)).toArray := by
  apply Array.ext_getElem?
  intro j
  by_cases h : j < n
  · rw [made_getI _ n j h]
    simp [c8, h]
  · rw [Array.getElem?_eq_none (by simp [size_madeCells]; omega), Array.getElem?_eq_none (by simp [c8]; omega)]

theorem joinL_b (ts bs : List (List Int)) (n : Nat) (ht : ∀ t ∈ ts, AllB t) (hb : ∀ b ∈ bs, AllB b) : ∀ i j, joinL ts bs n i = some j → AllB j.recs ∧ AllB j.rest
  | 0, j, h => by
    simp only [joinL, Option.some.injEq] at h
    rw [← h]
    exact ⟨putA_b _ _, fun x hx => by cases hx⟩
  | i + 1, j, h => by
    unfold joinL at h
    cases hp : joinL ts bs n i with
    | none => rw [hp] at h; cases h
    | some j0 =>
      rw [hp] at h
      simp only [Option.bind_some] at h
      unfold joinOne at h
      split at h
      · cases h
      · obtain ⟨h1, h2⟩ := joinL_b ts bs n ht hb i j0 hp
        have hd : ∀ (l : List (List Int)) (k : Nat), (∀ t ∈ l, AllB t) → AllB (l.getD k []) := fun l k hl => by
          rw [List.getD_eq_getElem?_getD]
          cases hk : l[k]? with
          | none => intro x hx; cases hx
          | some t => exact hl t (List.mem_of_getElem? hk)
        rw [← Option.some.inj h]
        constructor
        · intro x hx
          rcases List.mem_append.1 hx with hx | hx
          · rcases List.mem_append.1 hx with hx | hx
            · exact h1 x hx
            · exact hd ts i ht x hx
          · exact putA_b _ _ x hx
        · intro x hx
          rcases List.mem_append.1 hx with hx | hx
          · rcases List.mem_append.1 hx with hx | hx
            · exact h2 x hx
            · exact hd bs i hb x hx
          · rw [(List.mem_replicate.1 hx).2]; omega

theorem splice_b {L s : List Int} (hL : AllB L) (hs : AllB s) (o : Nat) : AllB (splice L o s) := by
  intro x hx
  unfold splice at hx
  rcases List.mem_append.1 hx with hx | hx
  · exact hL x (List.mem_of_mem_take hx)
  · rcases List.mem_append.1 hx with hx | hx
    · exact hs x hx
    · exact hL x (List.mem_of_mem_drop hx)

theorem setFour_splice (L : List Int) (p : Nat) (a : List Int) (ha : a.length = 4) : setFour L p a = splice L p a := by
  unfold setFour splice
  have e : a.take 4 = a := List.take_of_length_le (by omega)
  rw [e, ha, List.append_assoc]

theorem splice_twice (L : List Int) (p : Nat) (a b : List Int) (h : a.length = b.length) (hp : p + a.length ≤ L.length) : splice (splice L p a) p b = splice L p b := by
  unfold splice
  have h1 : (L.take p).length = p := by rw [List.length_take]; omega
  rw [List.take_left' h1]
  congr 2
  have h2 : p + b.length = (L.take p ++ a).length := by rw [List.length_append, h1, h]
  rw [← List.append_assoc, h2, List.drop_left' rfl, List.length_append, h1]

theorem setFour_twice (L : List Int) (p : Nat) (a : List Int) (ha : a.length = 4) (hp : p + 4 ≤ L.length) : setFour L p a = splice (setFour L p [0, 0, 0, 0]) p a := by
  rw [setFour_splice L p a ha, setFour_splice L p [0, 0, 0, 0] rfl, splice_twice L p [0, 0, 0, 0] a (by rw [ha]; rfl) hp]

theorem run_clear_four (w : World) (g p d : Nat) (L : List Int) (hg : w.heap[g]? = some (.cells (c8 L).toArray 5 (0, 0))) (hp : p + 4 ≤ L.length) (ty : TypeId) :
    (Builtin.clear_ #[22] ty #[.slice (some ⟨g, p, none⟩) 4 d]).run Try.prog w = .ok (.tuple #[]) (w.setRow g (c8 (splice L p [0, 0, 0, 0])).toArray) := by
  have h := run_storeCells_at (P := Try.prog) g p 5 [.int .u8 0, .int .u8 0, .int .u8 0, .int .u8 0] 0 _ w hg (by rw [List.size_toArray, c8_len]; exact hp) (by simp [Value.oneCell'])
  have hz : ∀ w, (zeroValue 5).run Try.prog w = .ok (.int .u8 0) w := fun w => by kernel_rfl
  have hc : (Builtin.zeroCells (Value.cells (.int .u8 0)) 4).toList = [Value.int .u8 0, .int .u8 0, .int .u8 0, .int .u8 0] := by kernel_rfl
  have e : (c8 (splice L p [0, 0, 0, 0])) = ((c8 L).toArray.toList.take (p + 0) ++ [Value.int .u8 0, .int .u8 0, .int .u8 0, .int .u8 0] ++ (c8 L).toArray.toList.drop (p + 0 + [Value.int .u8 0, .int .u8 0, .int .u8 0, .int .u8 0].length)) := by
    rw [← c8_splice]
    unfold splice
    simp [c8]
  rw [e]
  simp [Builtin.clear_, run_underlying Try.underlying22, hz, hc]
  rw [h]
  simp [Result.andThen]

/-- one table more, by lists -/
theorem pad_step (j : JoinS) (t b PB : List Int) (n S u : Nat) (hr : j.recs.length + 16 ≤ 12 + 16 * n) (ht : t.length = 4) (hPB : PB.length = 12) (hp : j.rest.length + (12 + 16 * n) = j.place) (hu : b.length ≤ u) (hS : j.place + u ≤ S) (j' : JoinS) (e1 : j'.recs = j.recs ++ t ++ PB) (e2 : j'.rest = j.rest ++ b ++ List.replicate (u - b.length) 0) (e3 : j'.place = j.place + u) :
    splice (splice (splice (padJ j n S) j.recs.length t) (j.recs.length + 4) PB) j.place b = padJ j' n S := by
  unfold padJ
  rw [splice_pad _ _ t _ (by omega)]
  have h4 : j.recs.length + 4 = (j.recs ++ t).length := by simp [ht]
  rw [h4, splice_pad _ _ PB _ (by omega)]
  have e : j.recs ++ t ++ PB ++ (List.replicate (12 + 16 * n - j.recs.length - t.length - PB.length) 0 ++ (j.rest ++ List.replicate (S - j.place) 0)) = (j.recs ++ t ++ PB ++ List.replicate (12 + 16 * n - j.recs.length - t.length - PB.length) 0 ++ j.rest) ++ (List.replicate (S - j.place) 0 ++ []) := by simp
  have hl : (j.recs ++ t ++ PB ++ List.replicate (12 + 16 * n - j.recs.length - t.length - PB.length) 0 ++ j.rest).length = j.place := by
    simp only [List.length_append, List.length_replicate]; omega
  rw [e]
  conv => lhs; arg 2; rw [← hl]
  rw [splice_pad _ _ b _ (by omega), e1, e2, e3]
  have h5 : S - j.place - b.length = (u - b.length) + (S - (j.place + u)) := by omega
  rw [h5, ← List.replicate_append_replicate]
  have h6 : 12 + 16 * n - (j.recs ++ t ++ PB).length = 12 + 16 * n - j.recs.length - t.length - PB.length := by simp only [List.length_append]; omega
  rw [h6]
  simp

/-- the place of the sum of the whole, as a slice -/
def lastV (g S : Nat) : Option Nat → Value
  | none => .slice none 0 0
  | some p => .slice (some ⟨g, p, none⟩) 4 (S - p)

def JRel (w : World) (ts bs : List (List Int)) (S g k : Nat) (vr va vl vi : Value) (wr : World) : Prop := ∃ (i : Nat) (j : JoinS), i + k = ts.length ∧ joinL ts bs ts.length i = some j ∧ vr = .int .i64 ((12 + 16 * i : Nat) : Int) ∧ va = .int .i64 (j.place : Int) ∧ vl = lastV g S j.hole ∧ vi = .int .i64 (i : Int) ∧ Below w.heap.size w wr ∧ g < wr.heap.size ∧ wr.heap[g]? = some (.cells (c8 (padJ j ts.length S)).toArray 5 (0, 0)) ∧ (∀ p, j.hole = some p → p + 4 ≤ S)

set_option maxHeartbeats 20000000 in
set_option maxRecDepth 20000 in
theorem joined_any (w : World) (vt vb : Value) (ts bs : List (List Int)) (hvt : TagsZ w vt ts) (hvb : BodsZ w vb bs) (hsz : sizeJ bs bs.length ≤ 1000000) (hlt : ts.length ≤ 1000000) :
    Calls Try.prog 32 #[vt, vb] w fun e w' => Below w.heap.size w w' ∧ ((∃ r g S, (joinS ts bs).2 = 0 ∧ e = .returned r ∧ r = .slice (some ⟨g, 0, none⟩) S S ∧ w.heap.size ≤ g ∧ NumZ .u8 w' r (joinS ts bs).1) ∨ (joinS ts bs = ([], 2) ∧ e = gone 2)) := by
  have HTZ := Lib.hid hvt
  have HBZ := Lib.hid hvb
  have HSZ := Lib.hid hsz
  have HOK := Lib.hid (fun wx => require_ok wx 2)
  have HNO := Lib.hid (fun wx => require_bad wx 2)
  have HRI := Lib.hid (fun wx hx => rising_any wx vt ts (hvt.below hx) hlt)
  have HJS := Lib.hid (fun wx hx => joinedSize_any wx vb bs (hvb.below hx) hsz)
  obtain ⟨At, ct, rfl, _, _, h4, _⟩ := hvt
  obtain ⟨Ab, cb, rfl, _, _, hAb, _⟩ := hvb
  have H4 := Lib.hid h4
  have HAB := Lib.hid hAb
  obtain ⟨q, hq⟩ : ∃ q, q = joinS ts bs := ⟨_, rfl⟩
  have HQ0 := Lib.hid hq
  rw [← hq]
  obtain ⟨N, hN⟩ : ∃ N, N = ts.length := ⟨_, rfl⟩
  obtain ⟨M, hM⟩ : ∃ M, M = bs.length := ⟨_, rfl⟩
  have HN := Lib.hid hN
  have HM := Lib.hid hM
  rw [← hN] at HTZ HRI ⊢
  rw [← hM] at HBZ HJS ⊢
  have HCT : Hid (∀ wx, Calls Try.prog 48 #[.int .i64 (N : Int)] wx fun e w' => e = .returned (.bool (decide (1 ≤ (N : Int)) && decide ((N : Int) ≤ 64))) ∧ wx = w') := Lib.hid (fun wx => countable_any wx N)
  by_cases g1 : N = M
  · have b1 : ((N : Int) == (M : Int)) = true := by simp [g1]
    by_cases g2 : 1 ≤ N ∧ N ≤ 64
    · have e2 : (decide (1 ≤ (N : Int)) && decide ((N : Int) ≤ 64)) = true := by
        rw [Bool.and_eq_true, decide_eq_true_eq, decide_eq_true_eq]; omega
      rw [e2] at HCT
      obtain ⟨ro, hro⟩ : ∃ ro, ro = inOrder ts ts.length := ⟨_, rfl⟩
      have HRO := Lib.hid hro
      rw [hN, ← hro] at HRI
      rw [← hN] at HRI
      cases ro with
      | false =>
        have HQ : Hid (q = ([], 2)) := Lib.hid (by rw [hq]; unfold joinS; rw [if_neg (by omega), if_pos hro.symm])
        clear h4 hAb hq hN hM hsz hlt e2 hro g1 g2
        go_enter Try.func32, Try.ntmps32
        go_wp2_with fail
        refine (HCT.out _).mono ?_
        rintro e wx ⟨rfl, rfl⟩
        go_wp2_with fail
        refine (HRI.out _ (Below.refl _ w)).mono ?_
        rintro e w1 ⟨rfl, hb1⟩
        have HB1 := Lib.hid hb1
        clear hb1
        go_wp2_with fail
        refine (HNO.out _).mono ?_
        rintro e wz ⟨rfl, rfl⟩
        exact ⟨rfl, HB1.out, .inr ⟨HQ.out, rfl⟩⟩
      | true =>
        obtain ⟨S, hS⟩ : ∃ S, S = sizeJ bs M := ⟨_, rfl⟩
        rw [← hS] at HJS
        have hSb : S ≤ 1000000 := by rw [hS, hM]; exact hsz
        have HS := Lib.hid hS
        have HSB := Lib.hid hSb
        have HG := Lib.hid (And.intro g1 g2)
        have HFA := Lib.hid (joinL_facts ts bs (by omega) (by omega) (by omega) (fun t ht => (h4 t ht).1) hsz)
        have hS28 : 12 + 16 * N ≤ S := by rw [hS, g1, hM]; have := sizeJ_le bs 0 bs.length; rwa [Nat.zero_add] at this
        have HS28 := Lib.hid hS28
        clear h4 hAb hq hN hM hsz hlt e2 hro g1 g2 hS
        go_enter Try.func32, Try.ntmps32
        go_wp2_with fail
        refine (HCT.out _).mono ?_
        rintro e wx ⟨rfl, rfl⟩
        go_wp2_with fail
        refine (HRI.out _ (Below.refl _ w)).mono ?_
        rintro e w1 ⟨rfl, hb1⟩
        have HB1 := Lib.hid hb1
        clear hb1
        go_wp2_with fail
        refine (HOK.out _).mono ?_
        rintro e wx ⟨rfl, rfl⟩
        go_wp2_with fail
        refine (HJS.out _ HB1.out).mono ?_
        rintro e w2 ⟨rfl, hb2⟩
        have HB2 := Lib.hid (HB1.out.trans (hb2.mono HB1.out.size))
        clear hb2
        obtain ⟨w3, hw3⟩ : ∃ w3, w2.alloc (.cells (madeCells #[.int .u8 0] S) 5) = w3 := ⟨_, rfl⟩
        obtain ⟨g, hg⟩ : ∃ g, g = w2.heap.size := ⟨_, rfl⟩
        have hmk : (Instr.makeSlice 22 (.int .i64 (S : Int)) (.int .i64 (S : Int))).run Try.prog w2 = .ok (.slice (some ⟨g, 0, none⟩) S S) w3 := by
          rw [← hw3, hg]
          exact run_make_row' (P := Try.prog) 22 5 (.int .u8 0) 1 Try.underlying22 infoBy rfl .i64 .i64 S (by omega) (by omega) w2
        have HB3 : Hid (Below w.heap.size w w3) := Lib.hid (by rw [← hw3]; exact HB2.out.alloc HB2.out.size _)
        have HGE : Hid (w.heap.size ≤ g) := Lib.hid (by rw [hg]; exact HB2.out.size)
        have HR3 : Hid (w3.heap[g]? = some (.cells (c8 (List.replicate S 0)).toArray 5 (0, 0))) := Lib.hid (by rw [← hw3, hg, ← made_c8]; exact heap_alloc_new w2 _)
        have HGL3 : Hid (g < w3.heap.size) := Lib.hid (by rw [← hw3, hg]; exact heap_more _ _)
        clear hw3 hg hSb hS28
        go_wp2_with fail
        clear hmk
        have HOP := Lib.hid (fun wx => opening_any wx N HG.out.2.1 HG.out.2.2)
        have HBG : Hid (∀ wx, Calls Try.prog 49 #[.int .i64 (N : Int)] wx fun e w' => e = .returned (.int .i64 ((12 + 16 * N : Nat) : Int)) ∧ wx = w') := Lib.hid (fun wx => begin_any wx N (by have := HG.out.2; omega))
        refine (HOP.out _).mono ?_
        rintro e w4 ⟨hb4, rv, Bo, rfl, hBo, how⟩
        obtain ⟨⟨Ao, co, hrv⟩, _⟩ := ownB_cases how
        have hz4 := how.read
        have hl12 : (headL N).length = 12 := headL_len N HG.out.2.1 HG.out.2.2
        rw [hl12] at hrv
        subst hrv
        have HB4 := Lib.hid (HB3.out.trans (hb4.mono HB3.out.size))
        have HR4 : Hid (w4.heap[g]? = some (.cells (c8 (List.replicate S 0)).toArray 5 (0, 0))) := Lib.hid ((hb4.block g HGL3.out).trans HR3.out)
        obtain ⟨hc, hhc⟩ : ∃ hc, hc = headL N := ⟨_, rfl⟩
        have HHC := Lib.hid hhc
        rw [← hhc] at hz4 hl12
        have HSRC := Lib.hid (num_src hz4)
        have hcl : (c8 hc).length = 12 := by rw [c8_len, hl12]
        have HCL := Lib.hid hcl
        have HS28b := HS28.out
        have hmin : (c8 hc).length = Nat.min 12 S := by rw [hcl]; show 12 = min 12 S; omega
        have hfit : 0 + (c8 hc).length ≤ (c8 (List.replicate S 0)).length := by rw [hcl, c8_len, List.length_replicate]; omega
        have HMIN := Lib.hid hmin
        have HFIT := Lib.hid hfit
        clear hb4 hBo how hz4 hhc hmin hfit HS28b hcl
        have HPOS : Hid (0 < (c8 hc).length → (some (⟨g, 0, none⟩ : Addr)) = some ⟨g, 0, none⟩ ∧ ∃ ad, Ao = some ad ∧ ∀ j v, (c8 hc)[j]? = some v → w4.cell? (ad.add j) = some v) := Lib.hid (fun h => ⟨rfl, HSRC.out h⟩)
        have hcl := HCL.out
        go_wp2_with ((with_reducible show wpList _ _ _ _ _ _); refine wpList_copy_splice (o := ⟨some 33, _, _, _, _, _⟩) rfl (.tmp 29) (.tmp 32) 22 22 rfl 5 Try.underlying22 sizeBy _ _ _ _ _ _ rfl rfl g 0 (c8 (List.replicate S 0)) 5 (by exact HR4.out) (c8 hc) (by exact HMIN.out) (by exact (fun _ => ⟨rfl, HSRC.out (by rw [HCL.out]; decide)⟩)) (by exact HFIT.out) (c8_one _) w.heap.size w (by exact HB4.out) (by exact HGE.out) ?_)
        intro w5 hg5 hb5
        have HB5 := Lib.hid hb5
        obtain ⟨j0, hj0, _, hp0, hre0, _⟩ := HFA.out 0 (Nat.zero_le _)
        have hj0e : j0 = ⟨headL ts.length, [], 12 + 16 * ts.length, none⟩ := (Option.some.inj hj0).symm
        have HR5 : Hid (w5.heap[g]? = some (.cells (c8 (padJ j0 ts.length S)).toArray 5 (0, 0))) := Lib.hid (by
          have h := hg5.out
          rw [c8_splice] at h
          rw [h, hj0e]
          congr 3
          unfold padJ
          have hl := HCL.out; rw [c8_len] at hl
          have e : List.replicate S (0 : Int) = [] ++ (List.replicate S 0 ++ []) := by simp
          have h2 := splice_pad [] [] hc S (by have := HS28.out; omega)
          simp only [List.length_nil, List.nil_append, List.append_nil] at h2
          rw [h2, HHC.out, ← HN.out]
          have hl3 : (headL N).length = 12 := by rw [← HHC.out]; exact hl
          simp only [hl3, List.nil_append]
          rw [show S - 12 = (12 + 16 * N - 12) + (S - (12 + 16 * N)) by have := HS28.out; omega, ← List.replicate_append_replicate])
        have HGL5 : Hid (g < w5.heap.size) := Lib.hid (Array.getElem?_eq_some_iff.1 HR5.out).1
        clear hg5 hb5 hcl
        go_wp2_with fail
        refine (HBG.out _).mono ?_
        rintro e w6 ⟨rfl, rfl⟩
        go_wp2_with fail
        go_loopg [6, 7, 8, 39] N (fun k vr va vl vi wr => JRel w ts bs S g k vr va vl vi wr)
        case atStart =>
          refine ⟨0, j0, by rw [← HN.out]; omega, hj0, ?_, ?_, ?_, rfl, HB5.out, HGL5.out, HR5.out, ?_⟩
          · first | rfl | (simp; done)
          · rw [hj0e, ← HN.out]; first | rfl | (simp; done)
          · rw [hj0e]; rfl
          · intro p hp; rw [hj0e] at hp; cases hp
        case round =>
          obtain ⟨i, j, hik, hjl, rfl, rfl, rfl, rfl, hb, hgl, hrow, hhole⟩ := hrel
          have HBW := Lib.hid hb
          have HIK := Lib.hid hik
          have HJ := Lib.hid hjl
          have HROW := Lib.hid hrow
          have HHOLE := Lib.hid hhole
          have HGLW := Lib.hid hgl
          obtain ⟨j2, hj2, hrl, hpl, hrel2, hm4⟩ := HFA.out i (by omega)
          obtain rfl : j2 = j := Option.some.inj (hj2.symm.trans hjl)
          clear hj2 hgl hrow hhole
          by_cases hi : i = N
          · have bi : ((i : Int) < (N : Int)) = False := eq_false (by omega)
            have bi2 : ((i : Int) < (M : Int)) = False := eq_false (by have := HG.out.1; omega)
            have bi3 : (i < M) = False := eq_false (by have := HG.out.1; omega)
            have hpS : j2.place = S := by rw [hpl, hi, HS.out, HG.out.1]
            have hLL : padJ j2 ts.length S = j2.recs ++ j2.rest := by
              unfold padJ
              rw [hrl, hpS, hi, HN.out]
              simp
            have hq : q = (joinEnd j2, 0) := by
              rw [HQ0.out]; unfold joinS
              rw [if_neg (by have := HN.out; have := HM.out; have := HG.out; omega), if_neg (by rw [← HRO.out]; decide)]
              have e : joinL ts bs ts.length ts.length = some j2 := by have h := hjl; rw [hi, HN.out] at h; exact h
              rw [e]
              show (if 16777216 < j2.place then _ else _) = _
              rw [if_neg (by have := HSB.out; omega)]
            have HQE := Lib.hid hq
            rw [hLL] at HROW
            obtain ⟨LL, hLE⟩ : ∃ LL, LL = j2.recs ++ j2.rest := ⟨_, rfl⟩
            rw [← hLE] at HROW
            have hLLl : LL.length = S := by rw [hLE, List.length_append, hrl]; have := HN.out; omega
            have hLLb : AllB LL := by
              obtain ⟨h1, h2⟩ := joinL_b ts bs ts.length (fun t ht => (H4.out t ht).2) HAB.out i j2 hjl
              rw [hLE]; intro x hx
              rcases List.mem_append.1 hx with hx | hx
              · exact h1 x hx
              · exact h2 x hx
            have HLE := Lib.hid hLE
            have HLLL := Lib.hid hLLl
            have HLLB := Lib.hid hLLb
            have HSM : Hid (∀ wx (K : List Int), NumZ .u8 wx (.slice (some ⟨g, 0, none⟩) S S) K → AllB K → K.length = S → Calls Try.prog 21 #[.slice (some ⟨g, 0, none⟩) S S] wx fun e w' => e = .returned (.int .u32 (sumS K)) ∧ Below wx.heap.size wx w') := Lib.hid (fun wx K h1 h2 h3 => sum_any wx _ K h1 h2 (by rw [h3]; exact HSB.out))
            have HNU : Hid (∀ wx vx Y, NumZ .i64 wx vx [Y] → Calls Try.prog 61 #[.string ⟨#[73]⟩, vx] wx fun e w' => Below wx.heap.size wx w' ∧ ∃ r B, e = .returned r ∧ wx.heap.size ≤ B ∧ OwnB B w' r (putA [Y] ⟨#[73]⟩).2) := Lib.hid (fun wx vx Y h => numbers_any wx vx _ _ h (by simp) (by decide))
            obtain ⟨ho, hho⟩ : ∃ ho, ho = j2.hole := ⟨_, rfl⟩
            rw [← hho]
            have HHO := Lib.hid hho
            clear hi hik hjl hrl hpl hrel2 hm4 hpS hLL hq hLE hLLl hLLb hho hb
            cases ho with
            | none =>
              simp only [lastV]
              have hclr0 : ∀ ty W, (Builtin.clear_ #[22] ty #[.slice none 0 0]).run Try.prog W = .ok (.tuple #[]) W := fun ty W => by simp [Builtin.clear_, run_underlying Try.underlying22]
              obtain ⟨X, hX⟩ : ∃ X, X = sumS LL := ⟨_, rfl⟩
              have hXb : 0 ≤ X ∧ X < 4294967296 := by rw [hX]; unfold sumS; omega
              obtain ⟨Y, hY⟩ : ∃ Y, Y = (2981146554 - X) % 4294967296 := ⟨_, rfl⟩
              have qy : IntKind.u32.wrap (2981146554 - X) = Y := by rw [wrap_u32, hY]
              have qz : IntKind.i64.wrap Y = Y := by rw [IntKind.wrap_i64]; omega
              have HS1 := Lib.hid (HSM.out wr LL (row_num HROW.out HLLL.out HSB.out) HLLB.out HLLL.out)
              rw [← hX] at HS1
              have hYb : 0 ≤ Y ∧ Y ≤ 4294967295 := by omega
              have HP4 := Lib.hid (put_one Y hYb)
              clear hX hXb hY hYb
              go_wp2_with fail
              refine (HS1.out).mono ?_
              rintro e w7 ⟨rfl, hb7⟩
              have HB7 := Lib.hid (HBW.out.trans (hb7.mono HBW.out.size))
              have HR7 : Hid (w7.heap[g]? = some (.cells (c8 LL).toArray 5 (0, 0))) := Lib.hid ((hb7.block g HGLW.out).trans HROW.out)
              have HG7 := Lib.hid (Nat.lt_of_lt_of_le HGLW.out hb7.size)
              clear hb7
              go_wp2_with fail
              refine (HNU.out _ _ Y (num_new .i64 w7 [Y] _ (by simp))).mono ?_
              rintro e w8 ⟨hb8, rn, Bn, rfl, hBn, hown⟩
              obtain ⟨⟨An, cn, hrn⟩, _⟩ := ownB_cases hown
              rw [HP4.out] at hrn
              subst hrn
              have HB8 := Lib.hid ((HB7.out.alloc HB7.out.size (.cells #[.int .i64 Y] 3)).trans (hb8.mono (Nat.le_trans HB7.out.size (Nat.le_of_lt (heap_more _ _)))))
              have HR8 : Hid (w8.heap[g]? = some (.cells (c8 LL).toArray 5 (0, 0))) := Lib.hid ((hb8.block g (Nat.lt_trans HG7.out (heap_more _ _))).trans ((((Below.refl _ w7).alloc (Nat.le_refl _) _).block g HG7.out).trans HR7.out))
              have HZ8 := Lib.hid (row_num HR8.out HLLL.out HSB.out)
              have HJE : Hid (joinEnd j2 = LL) := Lib.hid (by unfold joinEnd; rw [← HHO.out]; exact HLE.out.symm)
              clear hb8 hown hBn
              go_wp2_with ((with_reducible show wpList _ _ _ _ _ _); refine wpList_copy_nothing (o := ⟨some 107, _, _, _, _, _⟩) rfl (.tmp 100) (.tmp 106) 22 22 rfl 5 Try.underlying22 sizeBy _ _ _ _ _ _ rfl rfl rfl ?_)
              go_wp2_with fail
              go_ret
              refine ⟨HB8.out, .inl ⟨_, g, S, by rw [HQE.out], rfl, rfl, HGE.out, ?_⟩⟩
              rw [HQE.out]; show NumZ _ _ _ (joinEnd j2); rw [HJE.out]; exact HZ8.out
            | some p =>
              have hp4 := HHOLE.out p HHO.out.symm
              simp only [lastV]
              obtain ⟨dS, hdS⟩ : ∃ dS, dS = S - p := ⟨_, rfl⟩
              rw [← hdS]
              obtain ⟨L4, hL4⟩ : ∃ L4, L4 = splice LL p [0, 0, 0, 0] := ⟨_, rfl⟩
              have hL4l : L4.length = S := by rw [hL4, length_splice _ _ _ (by rw [HLLL.out]; exact hp4), HLLL.out]
              have hL4b : AllB L4 := by rw [hL4]; exact splice_b HLLB.out (fun x hx => by simp at hx; omega) p
              obtain ⟨wk, hwk⟩ : ∃ wk, wk = wr.setRow g (c8 L4).toArray := ⟨_, rfl⟩
              have hclr : ∀ ty, (Builtin.clear_ #[22] ty #[.slice (some ⟨g, p, none⟩) 4 dS]).run Try.prog wr = .ok (.tuple #[]) wk := fun ty => by rw [hwk, hL4]; exact run_clear_four wr g p dS LL HROW.out (by rw [HLLL.out]; exact hp4) ty
              have HRK : Hid (wk.heap[g]? = some (.cells (c8 L4).toArray 5 (0, 0))) := Lib.hid (by rw [hwk]; exact setRow_heap _ _ _ _ _ _ HROW.out)
              have HBK : Hid (Below w.heap.size w wk) := Lib.hid (by rw [hwk]; exact HBW.out.trans ⟨rfl, rfl, rfl, by simp, fun k hk => setRow_other wr g k _ (by have := HGE.out; omega)⟩)
              have HGK : Hid (g < wk.heap.size) := Lib.hid (Array.getElem?_eq_some_iff.1 HRK.out).1
              obtain ⟨X, hX⟩ : ∃ X, X = sumS L4 := ⟨_, rfl⟩
              have hXb : 0 ≤ X ∧ X < 4294967296 := by rw [hX]; unfold sumS; omega
              obtain ⟨Y, hY⟩ : ∃ Y, Y = (2981146554 - X) % 4294967296 := ⟨_, rfl⟩
              have qy : IntKind.u32.wrap (2981146554 - X) = Y := by rw [wrap_u32, hY]
              have qz : IntKind.i64.wrap Y = Y := by rw [IntKind.wrap_i64]; omega
              have HS1 := Lib.hid (HSM.out wk L4 (row_num HRK.out hL4l HSB.out) hL4b hL4l)
              rw [← hX] at HS1
              have hYb : 0 ≤ Y ∧ Y ≤ 4294967295 := by omega
              have HP4 := Lib.hid (put_one Y hYb)
              obtain ⟨PY, hPY⟩ : ∃ PY, PY = (putA [Y] ⟨#[73]⟩).2 := ⟨_, rfl⟩
              have hPYl : PY.length = 4 := by rw [hPY]; exact put_one Y hYb
              have HJE : Hid (joinEnd j2 = splice L4 p PY) := Lib.hid (by
                have e4 : setFour (j2.recs ++ j2.rest) p [0, 0, 0, 0] = L4 := by rw [hL4, ← HLE.out]; exact setFour_splice _ _ _ rfl
                unfold joinEnd
                rw [← HHO.out]
                show setFour _ p (putA [(2981146554 - sumS (setFour _ p [0, 0, 0, 0])) % 4294967296] _).2 = _
                rw [e4, ← hX, ← hY, ← hPY, ← e4, ← HLE.out]
                exact setFour_twice LL p PY hPYl (by rw [HLLL.out]; exact hp4))
              have HMN := Lib.hid (show (c8 PY).length = Nat.min 4 4 by rw [c8_len, hPYl]; rfl)
              have HFT := Lib.hid (show p + (c8 PY).length ≤ (c8 L4).length by rw [c8_len, c8_len, hPYl, hL4l]; exact hp4)
              have HNU2 := Lib.hid (fun wx vx h => HNU.out wx vx Y h)
              rw [← hPY] at HNU2
              have HL5 : Hid ((splice L4 p PY).length = S) := Lib.hid (by rw [length_splice _ _ _ (by rw [hPYl, hL4l]; exact hp4), hL4l])
              have HPL := Lib.hid hPYl
              have hclp : (c8 PY).length = 4 := by rw [c8_len, hPYl]
              clear hX hXb hY hYb hPY hPYl hwk hL4 hL4l hL4b hdS hp4
              go_wp2_with fail
              clear hclr
              refine (HS1.out).mono ?_
              rintro e w7 ⟨rfl, hb7⟩
              have HB7 := Lib.hid (HBK.out.trans (hb7.mono HBK.out.size))
              have HR7 : Hid (w7.heap[g]? = some (.cells (c8 L4).toArray 5 (0, 0))) := Lib.hid ((hb7.block g HGK.out).trans HRK.out)
              have HG7 := Lib.hid (Nat.lt_of_lt_of_le HGK.out hb7.size)
              clear hb7
              go_wp2_with fail
              refine (HNU2.out _ _ (num_new .i64 w7 [Y] _ (by simp))).mono ?_
              rintro e w8 ⟨hb8, rn, Bn, rfl, hBn, hown⟩
              obtain ⟨⟨An, cn, hrn⟩, _⟩ := ownB_cases hown
              have hzn := hown.read
              rw [hrn] at hzn
              rw [HPL.out] at hrn hzn
              subst hrn
              have HNS := Lib.hid (num_src hzn)
              have HB8 := Lib.hid ((HB7.out.alloc HB7.out.size (.cells #[.int .i64 Y] 3)).trans (hb8.mono (Nat.le_trans HB7.out.size (Nat.le_of_lt (heap_more _ _)))))
              have HR8 : Hid (w8.heap[g]? = some (.cells (c8 L4).toArray 5 (0, 0))) := Lib.hid ((hb8.block g (Nat.lt_trans HG7.out (heap_more _ _))).trans ((((Below.refl _ w7).alloc (Nat.le_refl _) _).block g HG7.out).trans HR7.out))
              clear hb8 hown hBn hzn
              go_wp2_with ((with_reducible show wpList _ _ _ _ _ _); refine wpList_copy_splice (o := ⟨some 107, _, _, _, _, _⟩) rfl (.tmp 100) (.tmp 106) 22 22 rfl 5 Try.underlying22 sizeBy _ _ _ _ _ _ rfl rfl g p (c8 L4) 5 (by exact HR8.out) (c8 PY) (by exact HMN.out) (by exact (fun h => ⟨rfl, HNS.out h⟩)) (by exact HFT.out) (c8_one _) w.heap.size w (by exact HB8.out) (by exact HGE.out) ?_)
              intro w9 hg9 hb9
              have HB9 := Lib.hid hb9
              have HZ9 := Lib.hid (row_num (L := splice L4 p PY) (by have h := hg9.out; rw [c8_splice] at h; exact h) HL5.out HSB.out)
              clear hg9 hb9
              go_wp2_with fail
              go_ret
              refine ⟨HB9.out, .inl ⟨_, g, S, by rw [HQE.out], rfl, rfl, HGE.out, ?_⟩⟩
              rw [HQE.out]; show NumZ _ _ _ (joinEnd j2); rw [HJE.out]; exact HZ9.out
          · have bi : ((i : Int) < (N : Int)) = True := eq_true (by have := HN.out; omega)
            have i0 : (0 : Int) ≤ (i : Int) := Int.natCast_nonneg _
            have iN : (i : Int) < (N : Int) := by have := HN.out; omega
            have iM : (i : Int) < (M : Int) := by have := HN.out; have := HG.out.1; omega
            have hit : i < ts.length := by have := HN.out; omega
            have hib : i < bs.length := by have := HN.out; have := HM.out; have := HG.out.1; omega
            obtain ⟨A2, c2, e2, _, _, _, hcs⟩ := HTZ.out
            injection e2 with e3 e4 e5
            subst e3
            clear e4 e5
            obtain ⟨gt, ot, rfl, hgt, hcs⟩ := hcs (by rintro rfl; simp at hit)
            have hx := four_of (H4.out _ (List.getElem_mem hit)).1
            have hxb := (H4.out _ (List.getElem_mem hit)).2
            obtain ⟨x0, hx0⟩ : ∃ z, z = ts[i].getD 0 0 := ⟨_, rfl⟩
            have xc0 := hcs i 0 hit (by omega)
            rw [← hx0] at xc0 hx
            obtain ⟨x1, hx1⟩ : ∃ z, z = ts[i].getD 1 0 := ⟨_, rfl⟩
            have xc1 := hcs i 1 hit (by omega)
            rw [← hx1] at xc1 hx
            obtain ⟨x2, hx2⟩ : ∃ z, z = ts[i].getD 2 0 := ⟨_, rfl⟩
            have xc2 := hcs i 2 hit (by omega)
            rw [← hx2] at xc2 hx
            obtain ⟨x3, hx3⟩ : ∃ z, z = ts[i].getD 3 0 := ⟨_, rfl⟩
            have xc3 := hcs i 3 hit (by omega)
            rw [← hx3] at xc3 hx
            rw [Nat.add_zero] at xc0
            rw [hx] at hxb
            have HT0 : Hid (∀ w', Below w.heap.size w w' → w'.cell? ⟨gt, ot + i * 4, none⟩ = some (.int .u8 x0)) := Lib.hid (fun w' hb => by rw [hb.cell (by exact hgt)]; exact xc0)
            have HT1 : Hid (∀ w', Below w.heap.size w w' → w'.cell? ⟨gt, ot + i * 4 + 1, none⟩ = some (.int .u8 x1)) := Lib.hid (fun w' hb => by rw [hb.cell (by exact hgt)]; exact xc1)
            have HT2 : Hid (∀ w', Below w.heap.size w w' → w'.cell? ⟨gt, ot + i * 4 + 2, none⟩ = some (.int .u8 x2)) := Lib.hid (fun w' hb => by rw [hb.cell (by exact hgt)]; exact xc2)
            have HT3 : Hid (∀ w', Below w.heap.size w w' → w'.cell? ⟨gt, ot + i * 4 + 3, none⟩ = some (.int .u8 x3)) := Lib.hid (fun w' hb => by rw [hb.cell (by exact hgt)]; exact xc3)
            have HTSRC : Hid (∀ w', Below w.heap.size w w' → ∀ k v, (c8 [x0, x1, x2, x3])[k]? = some v → w'.cell? ((⟨gt, ot + i * 4, none⟩ : Addr).add k) = some v) := Lib.hid (fun wq hb k v hk => by
              rw [add_flat]
              match k, hk with
              | 0, hk => rw [Nat.add_zero, HT0.out wq hb]; exact hk
              | 1, hk => rw [HT1.out wq hb]; exact hk
              | 2, hk => rw [HT2.out wq hb]; exact hk
              | 3, hk => rw [HT3.out wq hb]; exact hk
              | k + 4, hk => simp [c8] at hk)
            obtain ⟨A4, c4, e2, _, _, _, hbc⟩ := HBZ.out
            injection e2 with e3 e4 e5
            subst e3
            clear e4 e5
            obtain ⟨gb, ob, rfl, hgb, hbc⟩ := hbc (by rintro rfl; simp at hib)
            obtain ⟨vbi, hvb, hzb, hnb⟩ := hbc i hib
            have hvbw : wr.cell? ⟨gb, ob + i, none⟩ = some vbi := by rw [hb.cell (by exact hgb)]; exact hvb
            have hbA := HAB.out _ (List.getElem_mem hib)
            obtain ⟨bo, hbo⟩ : ∃ bo, bo = bs[i] := ⟨_, rfl⟩
            rw [← hbo] at hzb hbA
            have HZB := Lib.hid hzb
            obtain ⟨Ab2, cb2, hvbe, _, _, _⟩ := hzb
            obtain ⟨m, hm⟩ : ∃ m, m = bo.length := ⟨_, rfl⟩
            rw [← hm] at hvbe
            subst hvbe
            skip
            have hle := sizeJ_le bs (i + 1) (M - (i + 1))
            rw [show i + 1 + (M - (i + 1)) = M by have := HG.out.1; have := HN.out; omega, ← HS.out] at hle
            have hnx : sizeJ bs (i + 1) = sizeJ bs i + upN m := by
              show sizeJ bs i + upN (bs.getD i []).length = _
              rw [List.getD_eq_getElem?_getD, List.getElem?_eq_getElem hib, Option.getD_some, ← hbo, ← hm]
            have hup := upN_le m
            have hSBv := HSB.out
            have hS28v := HS28.out
            obtain ⟨pl, hple⟩ : ∃ pl, pl = j2.place := ⟨_, rfl⟩
            rw [← hple] at hpl hrel2 hm4 ⊢
            obtain ⟨rec, hrec⟩ : ∃ rec, rec = 12 + 16 * i := ⟨_, rfl⟩
            rw [← hrec] at hrl ⊢
            obtain ⟨rec4, hrec4⟩ : ∃ x, x = rec + 4 := ⟨_, rfl⟩
            obtain ⟨d8, hd8⟩ : ∃ x, x = S - rec := ⟨_, rfl⟩
            obtain ⟨d9, hd9⟩ : ∃ x, x = S - rec4 := ⟨_, rfl⟩
            obtain ⟨Z, hZ⟩ : ∃ Z, Z = sumTag [x0, x1, x2, x3] bo := ⟨_, rfl⟩
            have hZb := sumTag_b [x0, x1, x2, x3] bo
            rw [← hZ] at hZb
            obtain ⟨PB, hPB⟩ : ∃ PB, PB = (putA [Z, (pl : Int), (m : Int)] ⟨#[73, 73, 73]⟩).2 := ⟨_, rfl⟩
            have hPBl : PB.length = 12 := by rw [hPB]; exact put_three _ _ _ hZb (by omega) (by omega)
            obtain ⟨L0, hL0⟩ : ∃ L0, L0 = padJ j2 ts.length S := ⟨_, rfl⟩
            have hL0l : L0.length = S := by rw [hL0]; unfold padJ; simp only [List.length_append, List.length_replicate, hrl]; have := HN.out; omega
            obtain ⟨L1, hL1⟩ : ∃ L1, L1 = splice L0 rec [x0, x1, x2, x3] := ⟨_, rfl⟩
            have HL1 := Lib.hid hL1
            have hL1l : L1.length = S := by rw [hL1, length_splice _ _ _ (by simp; have := HN.out; omega), hL0l]
            have HR0 : Hid (wr.drew.heap[g]? = some (.cells (c8 L0).toArray 5 (0, 0))) := Lib.hid (by rw [hL0]; exact HROW.out)
            have HMN8 : Hid ((c8 [x0, x1, x2, x3]).length = Nat.min 4 d8) := Lib.hid (by rw [c8_len]; show 4 = min 4 d8; have := HN.out; omega)
            have HFT8 : Hid (rec + (c8 [x0, x1, x2, x3]).length ≤ (c8 L0).length) := Lib.hid (by rw [c8_len, c8_len, hL0l]; show rec + 4 ≤ S; have := HN.out; omega)
            have HMN9 : Hid ((c8 PB).length = Nat.min 12 d9) := Lib.hid (by rw [c8_len, hPBl]; show 12 = min 12 d9; have := HN.out; omega)
            have HFT9 : Hid (rec4 + (c8 PB).length ≤ (c8 L1).length) := Lib.hid (by rw [c8_len, c8_len, hL1l, hPBl]; have := HN.out; omega)
            have HPL : Hid ((putA [Z, (pl : Int), (m : Int)] ⟨#[73, 73, 73]⟩).2.length = 12) := Lib.hid (by rw [← hPB]; exact hPBl)
            have hcl8 : (c8 [x0, x1, x2, x3]).length = 4 := by rw [c8_len]; rfl
            have hcl9 : (c8 PB).length = 12 := by rw [c8_len, hPBl]
            have hsl8 : ∀ W, (Instr.slice 22 (.slice (some ⟨g, 0, none⟩) S S) (some (.int .i64 (rec : Int))) none none).run Try.prog W = .ok (.slice (some ⟨g, rec, none⟩) d8 d8) W := fun W => by
              rw [run_cut_l W _ S S rec (by have := HN.out; omega)]; unfold cutV; rw [if_neg (by have := HN.out; omega), hd8]; simp [Addr.add]; have := HN.out; omega
            have hsl9 : ∀ W, (Instr.slice 22 (.slice (some ⟨g, 0, none⟩) S S) (some (.int .i64 (rec4 : Int))) none none).run Try.prog W = .ok (.slice (some ⟨g, rec4, none⟩) d9 d9) W := fun W => by
              rw [run_cut_l W _ S S rec4 (by have := HN.out; omega)]; unfold cutV; rw [if_neg (by have := HN.out; omega), hd9]; simp [Addr.add]; have := HN.out; omega
            have q1 : IntKind.i64.wrap ((rec : Int) + 4) = (rec4 : Int) := by rw [IntKind.wrap_i64]; have := HN.out; omega
            obtain ⟨rc2, hrc2⟩ : ∃ x, x = 12 + 16 * (i + 1) := ⟨_, rfl⟩
            have HRC2 := Lib.hid hrc2
            have q2 : IntKind.i64.wrap ((rec4 : Int) + 12) = (rc2 : Int) := by rw [IntKind.wrap_i64]; have := HN.out; omega
            obtain ⟨i1, hi1⟩ : ∃ x, x = i + 1 := ⟨_, rfl⟩
            have HI1 := Lib.hid hi1
            have q3 : IntKind.i64.wrap Z = Z := by rw [IntKind.wrap_i64]; omega
            have q4 : IntKind.i64.wrap ((i : Int) + 1) = (i1 : Int) := by rw [IntKind.wrap_i64]; have := HN.out; omega
            have HSU : Hid (∀ wx, Below w.heap.size w wx → Calls Try.prog 55 #[.agg #[.int .u8 x0, .int .u8 x1, .int .u8 x2, .int .u8 x3], .slice Ab2 m cb2] wx fun e w' => e = .returned (.int .u32 Z) ∧ Below wx.heap.size wx w') := Lib.hid (fun wx hx => by rw [hZ]; exact sumP_any wx _ hxb rfl _ _ (HZB.out.below hx) hbA (by omega))
            have HNU : Hid (∀ wx vx, NumZ .i64 wx vx [Z, (pl : Int), (m : Int)] → Calls Try.prog 61 #[.string ⟨#[73, 73, 73]⟩, vx] wx fun e w' => Below wx.heap.size wx w' ∧ ∃ r B, e = .returned r ∧ wx.heap.size ≤ B ∧ OwnB B w' r PB) := Lib.hid (fun wx vx h => by rw [hPB]; exact numbers_any wx vx _ _ h (by simp) (by decide))
            have HPL2 : Hid (PB.length = 12) := Lib.hid hPBl
            obtain ⟨u, hu⟩ : ∃ u, u = upN m := ⟨_, rfl⟩
            have HU := Lib.hid hu
            obtain ⟨pu, hpu⟩ : ∃ pu, pu = pl + u := ⟨_, rfl⟩
            have HPU := Lib.hid hpu
            obtain ⟨a8, ha8⟩ : ∃ x, x = pl + 8 := ⟨_, rfl⟩
            obtain ⟨a12, ha12⟩ : ∃ x, x = pl + 12 := ⟨_, rfl⟩
            have HA8 := Lib.hid (And.intro ha8 ha12)
            obtain ⟨d10, hd10⟩ : ∃ x, x = S - pl := ⟨_, rfl⟩
            obtain ⟨DP, hDP⟩ : ∃ DP, DP = (if S = pl then (some (⟨g, 0, none⟩ : Addr)) else (some (⟨g, 0, none⟩ : Addr)).map (·.add (pl * 1))) := ⟨_, rfl⟩
            have hplS : pl + u ≤ S := by rw [hu]; omega
            have hmu : m ≤ u := by rw [hu]; omega
            have HDP : Hid (0 < m → DP = some ⟨g, pl, none⟩) := Lib.hid (fun h => by rw [hDP, if_neg (by omega)]; simp [Addr.add]; omega)
            have hsl10 : ∀ W, (Instr.slice 22 (.slice (some ⟨g, 0, none⟩) S S) (some (.int .i64 (pl : Int))) none none).run Try.prog W = .ok (.slice DP d10 d10) W := fun W => by
              rw [run_cut_l W _ S S pl (by omega), hDP, hd10]; rfl
            have q5 : IntKind.i64.wrap ((pl : Int) + (u : Int)) = (pu : Int) := by rw [IntKind.wrap_i64]; omega
            have q6 : IntKind.i64.wrap ((pl : Int) + 8) = (a8 : Int) := by rw [IntKind.wrap_i64]; omega
            have q7 : IntKind.i64.wrap ((pl : Int) + 12) = (a12 : Int) := by rw [IntKind.wrap_i64]; omega
            have HFL : Hid (∀ w, Calls Try.prog 63 #[.int .i64 (m : Int)] w fun e w' => e = .returned (.int .i64 (u : Int)) ∧ w = w') := Lib.hid (fun w => by rw [hu]; exact filled_any w m (by omega))
            obtain ⟨hd, hhd⟩ : ∃ hd, hd = decide ([x0, x1, x2, x3] = headT) := ⟨_, rfl⟩
            have HHD := Lib.hid hhd
            have HIH : Hid (∀ wx, Calls Try.prog 62 #[.agg #[.int .u8 x0, .int .u8 x1, .int .u8 x2, .int .u8 x3]] wx fun e w' => e = .returned (.bool hd) ∧ Below wx.heap.size wx w') := Lib.hid (fun wx => by rw [hhd]; exact isHeadP_any wx _ hxb rfl)
            obtain ⟨L2, hL2⟩ : ∃ L2, L2 = splice L1 rec4 PB := ⟨_, rfl⟩
            have HL2 := Lib.hid hL2
            have hL2l : L2.length = S := by rw [hL2, length_splice _ _ _ (by rw [hPBl, hL1l]; have := HN.out; omega), hL1l]
            obtain ⟨JN, hJN⟩ : ∃ JN : JoinS, JN = ⟨j2.recs ++ [x0, x1, x2, x3] ++ PB, j2.rest ++ bo ++ List.replicate (u - m) 0, pu, if [x0, x1, x2, x3] = headT ∧ 12 ≤ m then some (pl + 8) else j2.hole⟩ := ⟨_, rfl⟩
            have HJNE := Lib.hid hJN
            have HHOL : Hid (([x0, x1, x2, x3] = headT ∧ 12 ≤ m → JN.hole = some (pl + 8)) ∧ (¬ ([x0, x1, x2, x3] = headT ∧ 12 ≤ m) → JN.hole = j2.hole)) := Lib.hid (by rw [hJN]; exact ⟨fun h => if_pos h, fun h => if_neg h⟩)
            have HJNL : Hid (joinL ts bs ts.length (i + 1) = some JN) := Lib.hid (by
              show (joinL ts bs ts.length i).bind _ = _
              have et : ts.getD i [] = [x0, x1, x2, x3] := by rw [List.getD_eq_getElem?_getD, List.getElem?_eq_getElem hit, Option.getD_some]; exact hx
              have eb : bs.getD i [] = bo := by rw [List.getD_eq_getElem?_getD, List.getElem?_eq_getElem hib, Option.getD_some, hbo]
              rw [hjl, Option.bind_some, et, eb]
              unfold joinOne
              rw [if_neg (by rw [← hm, ← hple]; omega), hJN, hPB, hZ, hpu, hu, ← hm, ← hple])
            have HPAD : Hid (splice L2 pl bo = padJ JN ts.length S) := Lib.hid (by
              rw [hL2, hL1, hL0, hrec4, ← hrl, hple]
              exact pad_step j2 _ bo PB ts.length S u (by rw [hrl]; have := HN.out; omega) rfl hPBl (by omega) (by rw [← hm]; exact hmu) (by omega) JN (by rw [hJN]) (by rw [hJN, ← hm]) (by rw [hJN, hpu, ← hple]))
            have HMN10 : Hid ((c8 bo).length = Nat.min m d10) := Lib.hid (by rw [c8_len, ← hm]; show m = min m d10; omega)
            have HFT10 : Hid (pl + (c8 bo).length ≤ (c8 L2).length) := Lib.hid (by rw [c8_len, c8_len, hL2l, ← hm]; omega)
            have hclb : (c8 bo).length = m := by rw [c8_len, hm]
            have HCLB := Lib.hid hclb
            have HSPL := Lib.hid (And.intro hplS hmu)
            have HX := Lib.hid hx
            have HBO := Lib.hid hbo
            have HMM := Lib.hid hm
            have HPBE := Lib.hid hPB
            have HZE := Lib.hid hZ
            have HL0E := Lib.hid hL0
            have HPLE := Lib.hid hple
            have HRECE := Lib.hid (And.intro hrec hrec4)
            have HNUM := Lib.hid (And.intro hle (And.intro hnx (And.intro hup (And.intro hrl (And.intro hrel2 (And.intro hpl hm4))))))
            have HIN := Lib.hid hi
            have HBB := Lib.hid hbA
            have HXB := Lib.hid hxb
            have HIB := Lib.hid hib
            have HIT := Lib.hid hit
            skip
            clear hi hb hik hjl hrl hpl hrel2 hm4 hx hxb hx0 hx1 hx2 hx3 xc0 xc1 xc2 xc3 hcs hgt hbc hvb hnb hbA hbo hm hle hnx hup hSBv hS28v hple hrec hrec4 hd8 hd9 hZ hZb hPB hPBl hL0 hL0l hL1 hL1l hgb hrc2 hi1 hu hpu ha8 ha12 hd10 hDP hplS hmu hhd hL2 hL2l hJN
            go_upto_region 8 with fail
            refine wp_region_held_drew (S := fun w' => Below w.heap.size w w') (by kernel_rfl) (HBW.out.drew) (fun hH0 => ?_)
            change wpAnyH _ _ _ _ _ 11 #[false, false, false, false, false, false, false, false, false, false, false] _ _
            refine wpAnyH_take (i := 0) (oi := { dst := some 44, op := _, type := _, pos := _, after := _, guard := _ }) (v := ?_) rfl (by kernel_rfl) (by kernel_rfl) (by kernel_rfl) (fun _ _ _ h => h) (Or.inl ⟨by kernel_rfl, ?_⟩) hH0 ?_
            rotate_left
            · (intro w hSw; (try dsimp only at hSw); go_simp; first | done | with_reducible rfl)
            try simp only [Act.put, List.setIfInBounds_toArray, List.set_cons_zero, List.set_cons_succ]
            refine wpAnyH_take (i := 1) (oi := { dst := some 45, op := _, type := _, pos := _, after := _, guard := _ }) (v := ?_) rfl (by kernel_rfl) (by kernel_rfl) (by kernel_rfl) (fun _ _ _ h => h) (Or.inl ⟨by kernel_rfl, ?_⟩) hH0 ?_
            rotate_left
            · (intro w hSw; (try dsimp only at hSw); go_simp; first | done | with_reducible rfl)
            try simp only [Act.put, List.setIfInBounds_toArray, List.set_cons_zero, List.set_cons_succ]
            refine wpAnyH_take (i := 2) (oi := { dst := some 46, op := _, type := _, pos := _, after := _, guard := _ }) (v := ?_) rfl (by kernel_rfl) (by kernel_rfl) (by kernel_rfl) (fun _ _ _ h => h) (Or.inl ⟨by kernel_rfl, ?_⟩) hH0 ?_
            rotate_left
            · (intro w hSw; (try dsimp only at hSw); go_simp; first | done | with_reducible rfl)
            try simp only [Act.put, List.setIfInBounds_toArray, List.set_cons_zero, List.set_cons_succ]
            refine wpAnyH_take (i := 3) (oi := { dst := some 47, op := _, type := _, pos := _, after := _, guard := _ }) (v := ?_) rfl (by kernel_rfl) (by kernel_rfl) (by kernel_rfl) (fun _ _ _ h => h) (Or.inl ⟨by kernel_rfl, ?_⟩) hH0 ?_
            rotate_left
            · (intro w hSw; (try dsimp only at hSw); go_simp; first | done | with_reducible rfl)
            try simp only [Act.put, List.setIfInBounds_toArray, List.set_cons_zero, List.set_cons_succ]
            refine wpAnyH_take (i := 4) (oi := { dst := some 48, op := _, type := _, pos := _, after := _, guard := _ }) (v := ?_) rfl (by kernel_rfl) (by kernel_rfl) (by kernel_rfl) (fun _ _ _ h => h) (Or.inl ⟨by kernel_rfl, ?_⟩) hH0 ?_
            rotate_left
            · (intro w hSw; (try dsimp only at hSw); go_simp; first | done | with_reducible rfl)
            try simp only [Act.put, List.setIfInBounds_toArray, List.set_cons_zero, List.set_cons_succ]
            refine wpAnyH_take (i := 5) (oi := { dst := some 49, op := _, type := _, pos := _, after := _, guard := _ }) (v := ?_) rfl (by kernel_rfl) (by kernel_rfl) (by kernel_rfl) (fun _ _ _ h => h) (Or.inl ⟨by kernel_rfl, ?_⟩) hH0 ?_
            rotate_left
            · (intro w hSw; (try dsimp only at hSw); go_simp; first | done | with_reducible rfl)
            try simp only [Act.put, List.setIfInBounds_toArray, List.set_cons_zero, List.set_cons_succ]
            refine wpAnyH_take (i := 6) (oi := { dst := some 50, op := _, type := _, pos := _, after := _, guard := _ }) (v := ?_) rfl (by kernel_rfl) (by kernel_rfl) (by kernel_rfl) (fun _ _ _ h => h) (Or.inl ⟨by kernel_rfl, ?_⟩) hH0 ?_
            rotate_left
            · (intro w hSw; (try dsimp only at hSw); go_simp; first | done | with_reducible rfl)
            try simp only [Act.put, List.setIfInBounds_toArray, List.set_cons_zero, List.set_cons_succ]
            refine wpAnyH_take (i := 7) (oi := { dst := some 51, op := _, type := _, pos := _, after := _, guard := _ }) (v := ?_) rfl (by kernel_rfl) (by kernel_rfl) (by kernel_rfl) (fun _ _ _ h => h) (Or.inl ⟨by kernel_rfl, ?_⟩) hH0 ?_
            rotate_left
            · (intro w hSw; (try dsimp only at hSw); go_simp; first | done | with_reducible rfl)
            try simp only [Act.put, List.setIfInBounds_toArray, List.set_cons_zero, List.set_cons_succ]
            refine wpAnyH_ready (rs := [8]) (by kernel_rfl) (by simp) ?_
            refine AllReadyH.cons (o := { dst := some 52, op := _, type := _, pos := _, after := _, guard := _ }) rfl (fun K hK => ?_) ?_
            · refine step_copy_splice rfl (.tmp 47) (.tmp 51) 22 22 rfl 5 Try.underlying22 sizeBy _ _ _ _ _ _ rfl rfl g rec (c8 L0) 5 (by exact HR0.out) (c8 [x0, x1, x2, x3]) (by exact HMN8.out) (fun _ => ⟨rfl, _, rfl, HTSRC.out _ hH0⟩) (by exact HFT8.out) (c8_one _) w.heap.size w (by exact hH0) (by exact HGE.out) ?_
              intro w8 hg8 hb8
              refine hK.out _ _ (hb8) (fun hH1 => ?_)
              clear hK K
              try simp only [List.setIfInBounds_toArray, List.set_cons_zero, List.set_cons_succ]
              refine wpAnyH_take (i := 9) (oi := { dst := some 53, op := _, type := _, pos := _, after := _, guard := _ }) (v := ?_) rfl (by kernel_rfl) (by kernel_rfl) (by kernel_rfl) (fun _ _ _ h => h) (Or.inl ⟨by kernel_rfl, ?_⟩) hH1 ?_
              rotate_left
              · (intro w hSw; (try dsimp only at hSw); go_simp; first | done | with_reducible rfl)
              try simp only [Act.put, List.setIfInBounds_toArray, List.set_cons_zero, List.set_cons_succ]
              refine wpAnyH_take (i := 10) (oi := { dst := some 6, op := _, type := _, pos := _, after := _, guard := _ }) (v := ?_) rfl (by kernel_rfl) (by kernel_rfl) (by kernel_rfl) (fun _ _ _ h => h) (Or.inl ⟨by kernel_rfl, ?_⟩) hH1 ?_
              rotate_left
              · (intro w hSw; (try dsimp only at hSw); go_simp; first | done | with_reducible rfl)
              try simp only [Act.put, List.setIfInBounds_toArray, List.set_cons_zero, List.set_cons_succ]
              refine wpAnyH_done (by kernel_rfl) ?_ _
              have HB8 := Lib.hid hH1
              have HR8 : Hid (w8.heap[g]? = some (.cells (c8 L1).toArray 5 (0, 0))) := Lib.hid (by have h := hg8.out; rw [c8_splice] at h; rw [HL1.out]; exact h)
              have HGL8 : Hid (g < w8.heap.size) := Lib.hid (Array.getElem?_eq_some_iff.1 HR8.out).1
              clear hb8 hg8
              go_upto_region 9 with fail
              refine wp_region_held_drew (S := fun w' => Below w.heap.size w w' ∧ w'.cell? ⟨gt, ot + i * 4, none⟩ = some (.int .u8 x0) ∧ w'.cell? ⟨gt, ot + i * 4 + 1, none⟩ = some (.int .u8 x1) ∧ w'.cell? ⟨gt, ot + i * 4 + 2, none⟩ = some (.int .u8 x2) ∧ w'.cell? ⟨gt, ot + i * 4 + 3, none⟩ = some (.int .u8 x3)) (by kernel_rfl) (⟨HB8.out.drew, HT0.out _ HB8.out.drew, HT1.out _ HB8.out.drew, HT2.out _ HB8.out.drew, HT3.out _ HB8.out.drew⟩) (fun hH0 => ?_)
              change wpAnyH _ _ _ _ _ 19 #[false, false, false, false, false, false, false, false, false, false, false, false, false, false, false, false, false, false, false] _ _
              refine wpAnyH_take (i := 0) (oi := { dst := some 54, op := _, type := _, pos := _, after := _, guard := _ }) (v := ?_) rfl (by kernel_rfl) (by kernel_rfl) (by kernel_rfl) (fun _ _ _ h => h) (Or.inl ⟨by kernel_rfl, ?_⟩) hH0 ?_
              rotate_left
              · (intro w hSw; (try dsimp only at hSw); go_simp; first | done | with_reducible rfl)
              try simp only [Act.put, List.setIfInBounds_toArray, List.set_cons_zero, List.set_cons_succ]
              refine wpAnyH_take (i := 1) (oi := { dst := some 55, op := _, type := _, pos := _, after := _, guard := _ }) (v := ?_) rfl (by kernel_rfl) (by kernel_rfl) (by kernel_rfl) (fun _ _ _ h => h) (Or.inl ⟨by kernel_rfl, ?_⟩) hH0 ?_
              rotate_left
              · (intro w hSw; (try dsimp only at hSw); go_simp; first | done | with_reducible rfl)
              try simp only [Act.put, List.setIfInBounds_toArray, List.set_cons_zero, List.set_cons_succ]
              refine wpAnyH_take (i := 2) (oi := { dst := some 56, op := _, type := _, pos := _, after := _, guard := _ }) (v := ?_) rfl (by kernel_rfl) (by kernel_rfl) (by kernel_rfl) (fun _ _ _ h => h) (Or.inl ⟨by kernel_rfl, ?_⟩) hH0 ?_
              rotate_left
              · (intro w hSw; (try dsimp only at hSw); go_simp; first | done | with_reducible rfl)
              try simp only [Act.put, List.setIfInBounds_toArray, List.set_cons_zero, List.set_cons_succ]
              refine wpAnyH_take (i := 3) (oi := { dst := some 57, op := _, type := _, pos := _, after := _, guard := _ }) (v := ?_) rfl (by kernel_rfl) (by kernel_rfl) (by kernel_rfl) (fun _ _ _ h => h) (Or.inl ⟨by kernel_rfl, ?_⟩) hH0 ?_
              rotate_left
              · (intro w hSw; (try dsimp only at hSw); go_simp; first | done | with_reducible rfl)
              try simp only [Act.put, List.setIfInBounds_toArray, List.set_cons_zero, List.set_cons_succ]
              refine wpAnyH_take (i := 4) (oi := { dst := some 58, op := _, type := _, pos := _, after := _, guard := _ }) (v := ?_) rfl (by kernel_rfl) (by kernel_rfl) (by kernel_rfl) (fun _ _ _ h => h) (Or.inl ⟨by kernel_rfl, ?_⟩) hH0 ?_
              rotate_left
              · (intro w hSw; (try dsimp only at hSw); go_simp; first | done | with_reducible rfl)
              try simp only [Act.put, List.setIfInBounds_toArray, List.set_cons_zero, List.set_cons_succ]
              refine wpAnyH_take (i := 5) (oi := { dst := some 59, op := _, type := _, pos := _, after := _, guard := _ }) (v := ?_) rfl (by kernel_rfl) (by kernel_rfl) (by kernel_rfl) (fun _ _ _ h => h) (Or.inl ⟨by kernel_rfl, ?_⟩) hH0 ?_
              rotate_left
              · (intro w hSw; (try dsimp only at hSw); go_simp; first | done | with_reducible rfl)
              try simp only [Act.put, List.setIfInBounds_toArray, List.set_cons_zero, List.set_cons_succ]
              refine wpAnyH_take (i := 6) (oi := { dst := some 60, op := _, type := _, pos := _, after := _, guard := _ }) (v := ?_) rfl (by kernel_rfl) (by kernel_rfl) (by kernel_rfl) (fun _ _ _ h => h) (Or.inl ⟨by kernel_rfl, ?_⟩) hH0 ?_
              rotate_left
              · (intro w hSw; (try dsimp only at hSw); go_simp; first | done | with_reducible rfl)
              try simp only [Act.put, List.setIfInBounds_toArray, List.set_cons_zero, List.set_cons_succ]
              refine wpAnyH_take (i := 7) (oi := { dst := some 61, op := _, type := _, pos := _, after := _, guard := _ }) (v := ?_) rfl (by kernel_rfl) (by kernel_rfl) (by kernel_rfl) (fun _ _ _ h => h) (Or.inl ⟨by kernel_rfl, ?_⟩) hH0 ?_
              rotate_left
              · (intro w hSw; (try dsimp only at hSw); go_simp; first | done | with_reducible rfl)
              try simp only [Act.put, List.setIfInBounds_toArray, List.set_cons_zero, List.set_cons_succ]
              refine wpAnyH_take (i := 8) (oi := { dst := some 62, op := _, type := _, pos := _, after := _, guard := _ }) (v := ?_) rfl (by kernel_rfl) (by kernel_rfl) (by kernel_rfl) (fun _ _ _ h => h) (Or.inl ⟨by kernel_rfl, ?_⟩) hH0 ?_
              rotate_left
              · (intro w hSw; (try dsimp only at hSw); go_simp; first | done | with_reducible rfl)
              try simp only [Act.put, List.setIfInBounds_toArray, List.set_cons_zero, List.set_cons_succ]
              refine wpAnyH_take (i := 11) (oi := { dst := some 65, op := _, type := _, pos := _, after := _, guard := _ }) (v := ?_) rfl (by kernel_rfl) (by kernel_rfl) (by kernel_rfl) (fun _ _ _ h => h) (Or.inl ⟨by kernel_rfl, ?_⟩) hH0 ?_
              rotate_left
              · (intro w hSw; (try dsimp only at hSw); go_simp; first | done | with_reducible rfl)
              try simp only [Act.put, List.setIfInBounds_toArray, List.set_cons_zero, List.set_cons_succ]
              refine wpAnyH_take (i := 12) (oi := { dst := some 66, op := _, type := _, pos := _, after := _, guard := _ }) (v := ?_) rfl (by kernel_rfl) (by kernel_rfl) (by kernel_rfl) (fun _ _ _ h => h) (Or.inl ⟨by kernel_rfl, ?_⟩) hH0 ?_
              rotate_left
              · (intro w hSw; (try dsimp only at hSw); go_simp; first | done | with_reducible rfl)
              try simp only [Act.put, List.setIfInBounds_toArray, List.set_cons_zero, List.set_cons_succ]
              refine wpAnyH_take (i := 13) (oi := { dst := some 67, op := _, type := _, pos := _, after := _, guard := _ }) (v := ?_) rfl (by kernel_rfl) (by kernel_rfl) (by kernel_rfl) (fun _ _ _ h => h) (Or.inl ⟨by kernel_rfl, ?_⟩) hH0 ?_
              rotate_left
              · (intro w hSw; (try dsimp only at hSw); go_simp; first | done | with_reducible rfl)
              try simp only [Act.put, List.setIfInBounds_toArray, List.set_cons_zero, List.set_cons_succ]
              refine wpAnyH_ready (rs := [9]) (by kernel_rfl) (by simp) ?_
              refine AllReadyH.cons (o := { dst := some 63, op := _, type := _, pos := _, after := _, guard := _ }) rfl (fun K hK => ?_) ?_
              · rw [if_pos (by kernel_rfl)]
                go_simp
                refine (HSU.out _ hH0.1).mono ?_
                rintro e wy ⟨rfl, hby⟩
                have hbz := hH0.1.trans (hby.mono hH0.1.size)
                have HRY : Hid (wy.heap[g]? = some (.cells (c8 L1).toArray 5 (0, 0))) := Lib.hid ((hby.block g (by exact HGL8.out)).trans HR8.out)
                have HGLY : Hid (g < wy.heap.size) := Lib.hid (Nat.lt_of_lt_of_le HGL8.out hby.size)
                refine hK.out _ _ (⟨hbz, HT0.out _ hbz, HT1.out _ hbz, HT2.out _ hbz, HT3.out _ hbz⟩) (fun hH1 => ?_)
                clear hK K
                try simp only [List.setIfInBounds_toArray, List.set_cons_zero, List.set_cons_succ]
                refine wpAnyH_take (i := 10) (oi := { dst := some 64, op := _, type := _, pos := _, after := _, guard := _ }) (v := ?_) rfl (by kernel_rfl) (by kernel_rfl) (by kernel_rfl) (fun _ _ _ h => h) (Or.inl ⟨by kernel_rfl, ?_⟩) hH1 ?_
                rotate_left
                · (intro w hSw; (try dsimp only at hSw); go_simp; first | done | with_reducible rfl)
                try simp only [Act.put, List.setIfInBounds_toArray, List.set_cons_zero, List.set_cons_succ]
                refine wpAnyH_ready (rs := [14]) (by kernel_rfl) (by simp) ?_
                refine AllReadyH.cons (o := { dst := some 68, op := _, type := _, pos := _, after := _, guard := _ }) rfl (fun K hK => ?_) ?_
                · rw [if_pos (by kernel_rfl)]
                  go_simp
                  have hba := hbz.alloc hbz.size (.cells #[.int .i64 Z, .int .i64 (pl : Int), .int .i64 (m : Int)] 3)
                  refine hK.out _ _ (⟨hba, HT0.out _ hba, HT1.out _ hba, HT2.out _ hba, HT3.out _ hba⟩) (fun hH2 => ?_)
                  clear hK K
                  try simp only [List.setIfInBounds_toArray, List.set_cons_zero, List.set_cons_succ]
                  refine wpAnyH_ready (rs := [15]) (by kernel_rfl) (by simp) ?_
                  refine AllReadyH.cons (o := { dst := some 69, op := _, type := _, pos := _, after := _, guard := _ }) rfl (fun K hK => ?_) ?_
                  · rw [if_pos (by kernel_rfl)]
                    go_simp
                    refine (HNU.out _ _ (num_new .i64 wy [Z, (pl : Int), (m : Int)] _ (by simp))).mono ?_
                    rintro e wn ⟨hbn, rn, Bn, rfl, hBn, hown⟩
                    have hbn2 := hba.trans (hbn.mono hba.size)
                    have HRN : Hid (wn.heap[g]? = some (.cells (c8 L1).toArray 5 (0, 0))) := Lib.hid ((hbn.block g (Nat.lt_trans HGLY.out (heap_more _ _))).trans ((((Below.refl _ wy).alloc (Nat.le_refl _) _).block g HGLY.out).trans HRY.out))
                    obtain ⟨⟨An, cn, hrn⟩, _⟩ := ownB_cases hown
                    have hzn := hown.read
                    rw [HPL2.out] at hrn
                    subst hrn
                    skip
                    have HNS : Hid (0 < (c8 PB).length → ∃ ad, An = some ad ∧ ∀ j v, (c8 PB)[j]? = some v → wn.cell? (ad.add j) = some v) := Lib.hid (num_src hzn)
                    refine hK.out _ _ (⟨hbn2, HT0.out _ hbn2, HT1.out _ hbn2, HT2.out _ hbn2, HT3.out _ hbn2⟩) (fun hH3 => ?_)
                    clear hK K
                    try simp only [List.setIfInBounds_toArray, List.set_cons_zero, List.set_cons_succ]
                    refine wpAnyH_ready (rs := [16]) (by kernel_rfl) (by simp) ?_
                    refine AllReadyH.cons (o := { dst := some 70, op := _, type := _, pos := _, after := _, guard := _ }) rfl (fun K hK => ?_) ?_
                    · refine step_copy_splice rfl (.tmp 57) (.tmp 69) 22 22 rfl 5 Try.underlying22 sizeBy _ _ _ _ _ _ rfl rfl g rec4 (c8 L1) 5 (by exact HRN.out) (c8 PB) (by exact HMN9.out) (fun h => ⟨rfl, HNS.out h⟩) (by exact HFT9.out) (c8_one _) w.heap.size w (by exact hH3.1) (by exact HGE.out) ?_
                      intro w9 hg9 hb9
                      refine hK.out _ _ (⟨hb9, HT0.out _ hb9, HT1.out _ hb9, HT2.out _ hb9, HT3.out _ hb9⟩) (fun hH4 => ?_)
                      clear hK K
                      try simp only [List.setIfInBounds_toArray, List.set_cons_zero, List.set_cons_succ]
                      refine wpAnyH_take (i := 17) (oi := { dst := some 71, op := _, type := _, pos := _, after := _, guard := _ }) (v := ?_) rfl (by kernel_rfl) (by kernel_rfl) (by kernel_rfl) (fun _ _ _ h => h) (Or.inl ⟨by kernel_rfl, ?_⟩) hH4 ?_
                      rotate_left
                      · (intro w hSw; (try dsimp only at hSw); go_simp; first | done | with_reducible rfl)
                      try simp only [Act.put, List.setIfInBounds_toArray, List.set_cons_zero, List.set_cons_succ]
                      refine wpAnyH_take (i := 18) (oi := { dst := some 6, op := _, type := _, pos := _, after := _, guard := _ }) (v := ?_) rfl (by kernel_rfl) (by kernel_rfl) (by kernel_rfl) (fun _ _ _ h => h) (Or.inl ⟨by kernel_rfl, ?_⟩) hH4 ?_
                      rotate_left
                      · (intro w hSw; (try dsimp only at hSw); go_simp; first | done | with_reducible rfl)
                      try simp only [Act.put, List.setIfInBounds_toArray, List.set_cons_zero, List.set_cons_succ]
                      refine wpAnyH_done (by kernel_rfl) ?_ _
                      have HB9 := Lib.hid (hH4.1)
                      have HR9 : Hid (w9.heap[g]? = some (.cells (c8 L2).toArray 5 (0, 0))) := Lib.hid (by have h := hg9.out; rw [c8_splice] at h; rw [HL2.out]; exact h)
                      have HZB9 : Hid (0 < (c8 bo).length → ∃ ad, Ab2 = some ad ∧ ∀ j v, (c8 bo)[j]? = some v → w9.cell? (ad.add j) = some v) := Lib.hid (num_src (HZB.out.below HB9.out))
                      clear hH4 hg9
                      go_wp2_with ((with_reducible show wpList _ _ _ _ _ _); refine wpList_copy_splice (o := ⟨some 76, _, _, _, _, _⟩) rfl (.tmp 74) (.tmp 75) 22 22 rfl 5 Try.underlying22 sizeBy _ _ _ _ _ _ rfl rfl g pl (c8 L2) 5 (by exact HR9.out) (c8 bo) (by exact HMN10.out) (by exact (fun h => ⟨HDP.out (by rw [HCLB.out] at h; exact h), HZB9.out h⟩)) (by exact HFT10.out) (c8_one _) w.heap.size w (by exact HB9.out) (by exact HGE.out) ?_)
                      intro w10 hg10 hb10
                      have HB10 := Lib.hid hb10
                      have HR10 : Hid (w10.heap[g]? = some (.cells (c8 (padJ JN ts.length S)).toArray 5 (0, 0))) := Lib.hid (by have h := hg10.out; rw [c8_splice, HPAD.out] at h; exact h)
                      have HGL10 : Hid (g < w10.heap.size) := Lib.hid (Array.getElem?_eq_some_iff.1 HR10.out).1
                      clear hg10 hb10
                      have t0 := HT0.out _ HB10.out
                      have t1 := HT1.out _ HB10.out
                      have t2 := HT2.out _ HB10.out
                      have t3 := HT3.out _ HB10.out
                      go_wp2_with fail
                      refine (HIH.out _).mono ?_
                      rintro e w11 ⟨rfl, hb11⟩
                      have HB11 := Lib.hid (HB10.out.trans (hb11.mono HB10.out.size))
                      have HR11 : Hid (w11.heap[g]? = some (.cells (c8 (padJ JN ts.length S)).toArray 5 (0, 0))) := Lib.hid ((hb11.block g HGL10.out).trans HR10.out)
                      have HGL11 : Hid (g < w11.heap.size) := Lib.hid (Nat.lt_of_lt_of_le HGL10.out hb11.size)
                      clear hb11 t0 t1 t2 t3
                      have FIN : ∀ vl, vl = lastV g S JN.hole → (∀ p, JN.hole = some p → p + 4 ≤ S) → Hid (JRel w ts bs S g (gk - 1) (.int .i64 (rc2 : Int)) (.int .i64 (pu : Int)) vl (.int .i64 (i1 : Int)) w11) := fun vl h1 h2 => Lib.hid ⟨i + 1, JN, by have := HIK.out; have := HIN.out; have := HN.out; omega, HJNL.out, by rw [HRC2.out], by rw [HJNE.out], h1, by rw [HI1.out], HB11.out, HGL11.out, HR11.out, h2⟩
                      have HFIN := Lib.hid FIN
                      clear FIN
                      cases hd with
                      | false =>
                        have hne : ¬ ([x0, x1, x2, x3] = headT ∧ 12 ≤ m) := fun h => by have := HHD.out; rw [decide_eq_true h.1] at this; cases this
                        have HF := Lib.hid (HFIN.out (lastV g S j2.hole) (by rw [HHOL.out.2 hne]) (by rw [HHOL.out.2 hne]; exact HHOLE.out)).out
                        clear hne
                        go_wp2_with fail
                        refine (HFL.out _).mono ?_
                        rintro e w12 ⟨rfl, rfl⟩
                        go_wp2_with fail
                        go_roundg (gk - 1)
                        case measure => have := HIK.out; have := HIN.out; have := HN.out; omega
                        case rel => exact HF.out
                      | true =>
                        by_cases h12 : 12 ≤ m
                        · have b12 : ((12 : Int) ≤ (m : Int)) = True := eq_true (by omega)
                          have hyes : [x0, x1, x2, x3] = headT ∧ 12 ≤ m := ⟨of_decide_eq_true HHD.out.symm, h12⟩
                          obtain ⟨d12, hd12⟩ : ∃ x, x = S - a8 := ⟨_, rfl⟩
                          have hsl12 : ∀ W, (Instr.slice 22 (.slice (some ⟨g, 0, none⟩) S S) (some (.int .i64 (a8 : Int))) (some (.int .i64 (a12 : Int))) none).run Try.prog W = .ok (.slice (some ⟨g, a8, none⟩) 4 d12) W := fun W => by
                            have h1 := HA8.out; have h2 := HSPL.out
                            rw [run_cut_lh W _ S S a8 a12 (by omega) (by omega)]; unfold cutV; rw [if_neg (by omega), hd12, show a12 - a8 = 4 by omega]; simp [Addr.add]; omega
                          have HF := Lib.hid (HFIN.out (.slice (some ⟨g, a8, none⟩) 4 d12) (by rw [HHOL.out.1 hyes]; show _ = Value.slice (some ⟨g, pl + 8, none⟩) 4 (S - (pl + 8)); rw [hd12, HA8.out.1]) (by rw [HHOL.out.1 hyes]; intro p hp; have h1 := Option.some.inj hp; have h2 := HSPL.out; omega)).out
                          clear hyes h12 hd12
                          go_wp2_with fail
                          refine (HFL.out _).mono ?_
                          rintro e w12 ⟨rfl, rfl⟩
                          go_wp2_with fail
                          go_roundg (gk - 1)
                          case measure => have := HIK.out; have := HIN.out; have := HN.out; omega
                          case rel => exact HF.out
                        · have b12 : ((12 : Int) ≤ (m : Int)) = False := eq_false (by omega)
                          have hne : ¬ ([x0, x1, x2, x3] = headT ∧ 12 ≤ m) := fun h => h12 h.2
                          have HF := Lib.hid (HFIN.out (lastV g S j2.hole) (by rw [HHOL.out.2 hne]) (by rw [HHOL.out.2 hne]; exact HHOLE.out)).out
                          clear hne h12
                          go_wp2_with fail
                          refine (HFL.out _).mono ?_
                          rintro e w12 ⟨rfl, rfl⟩
                          go_wp2_with fail
                          go_roundg (gk - 1)
                          case measure => have := HIK.out; have := HIN.out; have := HN.out; omega
                          case rel => exact HF.out
                    exact AllReadyH.nil
                  exact AllReadyH.nil
                exact AllReadyH.nil
              exact AllReadyH.nil
            exact AllReadyH.nil
    · have e2 : (decide (1 ≤ (N : Int)) && decide ((N : Int) ≤ 64)) = false := by
        rw [Bool.and_eq_false_iff, decide_eq_false_iff_not, decide_eq_false_iff_not]; omega
      rw [e2] at HCT
      have HQ : Hid (q = ([], 2)) := Lib.hid (by rw [hq]; unfold joinS; rw [if_pos (by omega)])
      clear h4 hAb hq hN hM hsz hlt e2 g1 g2
      go_enter Try.func32, Try.ntmps32
      go_wp2_with fail
      refine (HCT.out _).mono ?_
      rintro e wx ⟨rfl, rfl⟩
      go_wp2_with fail
      refine (HNO.out _).mono ?_
      rintro e wz ⟨rfl, rfl⟩
      exact ⟨rfl, Below.refl _ _, .inr ⟨HQ.out, rfl⟩⟩
  · have b1 : ((N : Int) == (M : Int)) = false := by simp; omega
    have HQ : Hid (q = ([], 2)) := Lib.hid (by rw [hq]; unfold joinS; rw [if_pos (by omega)])
    clear h4 hAb hq hN hM hsz hlt g1
    go_enter Try.func32, Try.ntmps32
    go_wp2_with fail
    refine (HNO.out _).mono ?_
    rintro e wz ⟨rfl, rfl⟩
    exact ⟨rfl, Below.refl _ _, .inr ⟨HQ.out, rfl⟩⟩
end Go.Proofs.Ytijmponhkabeiaa
