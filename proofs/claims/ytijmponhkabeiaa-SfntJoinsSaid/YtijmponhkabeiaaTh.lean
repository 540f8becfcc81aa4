/-
  The program's Join and Tables, walked by hand, as the walker's contracts.
-/
import Derived.Test.YtijmponhkabeiaaSj
namespace Go.Proofs.Ytijmponhkabeiaa
open Go Go.RowKit
set_option linter.unusedVariables false

/-- a name's cells -/
def tagC (t : Tg) : List Value := (tagL t).map (Value.int .u8)

theorem each_tags {w : World} {ft : List Nat} : ∀ {vs : List Value} {tags : List Tg}, Each encapiTag w ft vs tags ↔ vs = tags.flatMap tagC
  | _, [] => by simp [Each]
  | vs, t :: tags => by
    constructor
    · rintro ⟨c, d, rfl, ⟨c1, d1, rfl, h1, c2, d2, rfl, h2, c3, d3, rfl, h3, h4⟩, hr⟩
      rw [each_tags.1 hr, List.flatMap_cons, show c1 = [.int .u8 t.1] from h1, show c2 = [.int .u8 t.2.1] from h2, show c3 = [.int .u8 t.2.2.1] from h3, show d3 = [.int .u8 t.2.2.2] from h4]
      rfl
    · intro h
      rw [h, List.flatMap_cons]
      exact ⟨tagC t, _, rfl, ⟨[.int .u8 t.1], _, rfl, rfl, [.int .u8 t.2.1], _, rfl, rfl, [.int .u8 t.2.2.1], _, rfl, rfl, rfl⟩, each_tags.2 rfl⟩

theorem tags_get : ∀ (tags : List Tg) (i j : Nat) (hi : i < tags.length), j < 4 → (tags.flatMap tagC)[i * 4 + j]? = some (.int .u8 ((tagL tags[i]).getD j 0))
  | [], i, j, hi, _ => absurd hi (Nat.not_lt_zero _)
  | t :: tags, 0, j, hi, hj => by
    rw [List.flatMap_cons, List.getElem?_append_left (by show 0 * 4 + j < 4; omega)]
    match j, hj with
    | 0, _ => rfl
    | 1, _ => rfl
    | 2, _ => rfl
    | 3, _ => rfl
  | t :: tags, i + 1, j, hi, hj => by
    rw [List.flatMap_cons, List.getElem?_append_right (by show 4 ≤ _; omega), show (i + 1) * 4 + j - (tagC t).length = i * 4 + j by show (i + 1) * 4 + j - 4 = _; omega]
    rw [tags_get tags i j (by simpa using hi) hj]
    simp

theorem tags_flen (tags : List Tg) : (tags.flatMap tagC).length = 4 * tags.length := by
  induction tags with
  | nil => rfl
  | cons t ts ih => rw [List.flatMap_cons, List.length_append, ih, List.length_cons]; show 4 + _ = _; omega

theorem lies_at {w : World} {A : Option Addr} {vs : List Value} (h : Lies w A vs) (hne : vs ≠ []) : ∃ g off, A = some ⟨g, off, none⟩ ∧ g < w.heap.size ∧ ∀ (j : Nat) v, vs[j]? = some v → w.cell? ⟨g, off + j, none⟩ = some v := by
  obtain ⟨g, off, hA, hc⟩ := h hne
  refine ⟨g, off, hA, ?_, fun j v hv => ?_⟩
  · have h0 : 0 < vs.length := List.length_pos_iff.2 hne
    exact World.block_lt_of_cell? w _ (hc 0 h0)
  · obtain ⟨hj, rfl⟩ := List.getElem?_eq_some_iff.1 hv
    exact hc j hj

theorem tagsZ_of {w : World} {A : Option Addr} {c : Nat} {vs : List Value} {tags : List Tg} {ft : List Nat} (h : (fSl encapiTag A c vs tags).rd w ft) (hb : ∀ t ∈ tags, inB t) : TagsZ w (.slice A tags.length c) (tags.map tagL) := by
  obtain ⟨h1, h2, h3, h4, h5, h6⟩ := h
  obtain rfl := each_tags.1 h4
  refine ⟨A, c, by simp, by simpa using h1, h2, fun t ht => ?_, fun hne => ?_⟩
  · obtain ⟨x, hx, rfl⟩ := List.mem_map.1 ht
    exact ⟨rfl, tagL_b (hb x hx)⟩
  · have hne' : tags.flatMap tagC ≠ [] := by
      intro h0
      have h9 : tags.length = 0 := by have := tags_flen tags; rw [h0, List.length_nil] at this; omega
      exact hne (by rw [List.length_eq_zero_iff.1 h9]; rfl)
    obtain ⟨g, off, hA, hg, hc⟩ := lies_at h5 hne'
    refine ⟨g, off, hA, hg, fun i j hi hj => ?_⟩
    have hi' : i < tags.length := by simpa using hi
    rw [Nat.add_assoc, hc _ _ (tags_get tags i j hi' hj)]
    simp

theorem bodsZ_of {w : World} {A : Option Addr} {c : Nat} {vs : List Value} {bods : List (List Int)} {ft : List Nat} (h : (fSl (rowOf (intE .u8)) A c vs bods).rd w ft) (hb : ∀ b ∈ bods, inBs b) : BodsZ w (.slice A bods.length c) bods := by
  obtain ⟨h1, h2, h3, h4, h5, h6⟩ := h
  refine ⟨A, c, rfl, h1, h2, hb, fun hne => ?_⟩
  have hl : vs.length = bods.length * 1 := h4.len
  have hne' : vs ≠ [] := fun h0 => hne (List.length_eq_zero_iff.1 (by rw [h0] at hl; simp at hl; omega))
  obtain ⟨g, off, hA, hg, hc⟩ := lies_at h5 hne'
  refine ⟨g, off, hA, hg, fun i hi => ?_⟩
  obtain ⟨A', c', vs', he, hr⟩ := h4.at (i := i) (x := bods[i]) (by rw [List.getElem?_eq_getElem hi])
  have hv : vs[i]? = some (.slice A' bods[i].length c') := by
    have h7 : ((vs.drop (i * 1)).take 1)[0]? = some (.slice A' bods[i].length c') := by
      rw [show ((vs.drop (i * 1)).take 1) = [.slice A' bods[i].length c'] from he]; rfl
    rw [List.getElem?_take, if_pos (by omega), List.getElem?_drop] at h7
    simpa using h7
  have hn := fSl_num hr
  refine ⟨_, hc i _ hv, hn.1, fun n c0 e => ?_⟩
  injection e with e1 e2 e3
  exact ⟨by rw [← e2, num_nil hn.1 e1], by rw [← e3]; exact hn.2.1 e1⟩

/-- sfnt.Join, by lists -/
def sJoin (_N : Nat) (p0 : List (Int × Int × Int × Int)) (p1 : List (List Int)) : Option (List Int × Int) :=
  if (∀ t ∈ p0, inB t) ∧ (∀ b ∈ p1, inBs b) ∧ sizeJ p1 p1.length ≤ 1000000 ∧ p0.length ≤ 1000000 then some (joinS (p0.map tagL) p1) else none
def sJoin_R (r : List Int × Int) (w0 : World) (v : Value) (w : World) : Prop := ∃ (A0' : Option Addr) (c0' : Nat) (ft' : List Nat), v = .tuple #[.slice A0' r.1.length c0', .int .i64 r.2] ∧ St [] w0 w [poolE ft' w] ∧ (fSl (intE .u8) A0' c0' (List.map (Value.int .u8) r.1) r.1).rd w ft'
theorem sJoin_ok (N : Nat) (p0 : List (Int × Int × Int × Int)) (p1 : List (List Int)) (A0 : Option Addr) (c0 : Nat) (vs0 : List Value) (ft0 : List Nat) (A1 : Option Addr) (c1 : Nat) (vs1 : List Value) (ft1 : List Nat) (r : List Int × Int) (hF : sJoin N p0 p1 = some r) (w0 : World)
    (hv0 : (fSl encapiTag A0 c0 vs0 p0).rd w0 ft0) (ho0 : Off [] w0 ft0) (hv1 : (fSl (rowOf (intE .u8)) A1 c1 vs1 p1).rd w0 ft1) (ho1 : Off [] w0 ft1) :
    Calls Try.prog 13 #[.slice A0 p0.length c0, .slice A1 p1.length c1] w0 fun e w => ∃ v, e = .returned v ∧ sJoin_R r w0 v w := by
  unfold sJoin at hF
  split at hF
  · rename_i h
    obtain rfl := Option.some.inj hF
    refine (joinP_own w0 _ _ (p0.map tagL) p1 (tagsZ_of hv0 h.1) (bodsZ_of hv1 h.2.1) h.2.2.1 (by simpa using h.2.2.2)).mono ?_
    rintro e w ⟨hb, r, rfl, hnz, hnn, hown⟩
    generalize joinS (p0.map tagL) p1 = q at hnz ⊢
    obtain ⟨A, c, rfl, hc, hc2, hx⟩ := hnz
    have hA0 : A = none → c = 0 := fun e => (hnn _ _ (by rw [e])).2
    by_cases hq : q.1 = []
    · refine ⟨_, rfl, A, c, [], rfl, ?_, hc, hc2, hA0, each_ints.2 rfl, fun hne => absurd (by rw [hq]; rfl) hne, fun p hp hne => absurd (by rw [hq]; rfl) hne⟩
      exact (St.start w0).add hb (poolE [] w) (fun k hk => rfl) (fun k hk => by cases hk)
    · obtain ⟨g, off, hA, hg, hcell⟩ := hx hq
      refine ⟨_, rfl, A, c, [g], rfl, ?_, hc, hc2, hA0, each_ints.2 rfl, fun hne => ⟨g, off, hA, fun j hj => ?_⟩, fun p hp hne => ?_⟩
      · refine (St.start w0).add hb (poolE [g] w) (fun k hk => rfl) (fun k hk => ?_)
        obtain rfl := List.mem_singleton.1 hk
        exact ⟨hown _ _ _ _ (by rw [hA]), hg⟩
      · rw [hcell j (by simpa using hj)]; simp
      · rw [hA] at hp
        rw [← Option.some.inj hp]
        simp
  · cases hF

/-- a table, as data -/
def tabD (t : TabL) : Tg × Int × Int := ((t.1.getD 0 0, t.1.getD 1 0, t.1.getD 2 0, t.1.getD 3 0), t.2.1, t.2.2)

theorem each_tabs {w : World} {ft : List Nat} : ∀ {ts : List TabL}, (∀ t ∈ ts, t.1.length = 4) → Each encsfntTable w ft (ts.flatMap cellsT) (ts.map tabD)
  | [], _ => rfl
  | t :: ts, h => by
    rw [List.flatMap_cons, List.map_cons]
    refine ⟨cellsT t, _, rfl, ?_, each_tabs fun u hu => h u (List.mem_cons_of_mem _ hu)⟩
    have h4 := h t (List.mem_cons_self ..)
    obtain ⟨t1, at_, ln⟩ := t
    match t1, h4 with
    | [a, b, c, d], _ => exact ⟨[.int .u8 a, .int .u8 b, .int .u8 c, .int .u8 d], [.int .i64 at_, .int .i64 ln], rfl, ⟨[.int .u8 a], _, rfl, rfl, [.int .u8 b], _, rfl, rfl, [.int .u8 c], _, rfl, rfl, rfl⟩, [.int .i64 at_], _, rfl, rfl, rfl⟩

/-- sfnt.Tables, by lists -/
def sTables (_N : Nat) (p0 : List Int) : Option (List ((Int × Int × Int × Int) × Int × Int) × Int) :=
  if inBs p0 ∧ p0.length ≤ 1000000 ∧ (∀ t ∈ (tablesS p0).1, t.1.length = 4) then some ((tablesS p0).1.map tabD, (tablesS p0).2) else none
def sTables_R (r : List ((Int × Int × Int × Int) × Int × Int) × Int) (w0 : World) (v : Value) (w : World) : Prop := ∃ (A0' : Option Addr) (c0' : Nat) (vs0' : List Value) (ft' : List Nat), v = .tuple #[.slice A0' r.1.length c0', .int .i64 r.2] ∧
  St [] w0 w [rowG 41 6 (.slice A0' r.1.length c0') r.1.length vs0', poolE ft' w] ∧ (fEach encsfntTable vs0' r.1).rd w ft'
theorem sTables_ok (N : Nat) (p0 : List Int) (A0 : Option Addr) (c0 : Nat) (r : List ((Int × Int × Int × Int) × Int × Int) × Int) (hF : sTables N p0 = some r) (w0 : World) (hv0 : Vw [] .u8 w0 A0 c0 p0) :
    Calls Try.prog 9 #[.slice A0 p0.length c0] w0 fun e w => ∃ v, e = .returned v ∧ sTables_R r w0 v w := by
  unfold sTables at hF
  split at hF
  · rename_i h
    obtain rfl := Option.some.inj hF
    refine (tablesP_any w0 _ p0 hv0.num (vw_nn hv0) h.1 h.2.1).mono ?_
    rintro e w ⟨hb, r, rfl, how⟩
    have h4 := h.2.2
    generalize tablesS p0 = q at how h4 ⊢
    obtain ⟨⟨A, cap, rfl⟩, hB⟩ := ownT_cases how
    have how' : w.ownsRow w0.heap.size 41 6 (.slice A q.1.length cap) q.1.length (q.1.flatMap cellsT) := how
    refine ⟨_, rfl, A, cap, q.1.flatMap cellsT, [], by simp, ?_, each_tabs h4⟩
    have e1 : (rowG 41 6 (.slice A (q.1.map tabD).length cap) (q.1.map tabD).length (q.1.flatMap cellsT)).holds w := by
      rw [List.length_map]
      refine ⟨how'.1, ?_⟩
      rcases how'.2 with h2 | ⟨g, cap2, cur, e, hBg, rest⟩
      · exact .inl h2
      · exact .inr ⟨g, cap2, cur, e, Nat.zero_le _, rest⟩
    have e2 : ∀ k ∈ (rowG 41 6 (.slice A (q.1.map tabD).length cap) (q.1.map tabD).length (q.1.flatMap cellsT)).foot, w0.heap.size ≤ k ∧ k < w.heap.size := by
      intro k hk
      have hk' : (Value.slice A q.1.length cap).ownBlock = some k := by
        simp only [rowG, List.length_map, Option.mem_toList] at hk
        exact hk
      refine ⟨hB k hk', ?_⟩
      rcases how'.2 with ⟨e, _⟩ | ⟨g, cap2, cur, e, hBg, hg, rest⟩
      · injection e with e0; subst e0; simp [Value.ownBlock] at hk'
      · injection e with e0; subst e0; simp [Value.ownBlock] at hk'; subst hk'; exact own_row_lt hg
    exact ((St.start w0).add hb _ e1 e2).add (Below.refl _ w) (poolE [] w) (fun k hk => rfl) (fun k hk => by cases hk)
  · cases hF
end Go.Proofs.Ytijmponhkabeiaa
