/-
  The document's widths.
-/
import Derived.Test.YtlpnikolnohcaaaNumR
namespace Go.Proofs.Ytlpnikolnohcaaa
open Go Go.RowKit

/-- a row of words of the call's own -/
def OwnH (B : Nat) (w : World) (v : Value) (l : List Int) : Prop := w.ownsRow B 43 1 v l.length (l.map fun d : Int => Value.int .u16 d)

theorem infoH : (Try.prog.info? 43).map (fun i => (i.zero, i.size, i.bytes)) = some (some (.int .u16 0), 1, 2) := by kernel_rfl

theorem ownH_cases {B : Nat} {w : World} {v : Value} {ds : List Int} (h : OwnH B w v ds) : (∃ A cap, v = .slice A ds.length cap) ∧ ∀ k, v.ownBlock = some k → B ≤ k := by
  have h1 : w.ownsRow B 43 1 v ds.length (ds.map fun d : Int => Value.int .u16 d) := h
  rcases h1.2 with ⟨rfl, h0⟩ | ⟨g, cap, cur, rfl, hb, hg, rest⟩
  · exact ⟨⟨none, 0, by rw [h0]⟩, fun k hk => by simp [Value.ownBlock] at hk⟩
  · exact ⟨⟨_, cap, rfl⟩, fun k hk => by simp [Value.ownBlock] at hk; omega⟩

theorem ownH_stays {w w' : World} {B : Nat} {v : Value} {xs : List Int} (h : OwnH B w v xs) (hb : Below w.heap.size w w') : OwnH B w' v xs := by
  have h1 : w.ownsRow B 43 1 v xs.length (xs.map fun d : Int => Value.int .u16 d) := h
  refine ⟨h1.1, ?_⟩
  rcases h1.2 with h2 | ⟨g, cap, cur, e, hB, hg, rest⟩
  · exact .inl h2
  · exact .inr ⟨g, cap, cur, e, hB, by rw [hb.block g (own_row_lt hg)]; exact hg, rest⟩

theorem OwnH.read {B : Nat} {w : World} {v : Value} {l : List Int} (h : OwnH B w v l) : NumZ .u16 w v l := by
  have h1 : w.ownsRow B 43 1 v l.length (l.map fun d : Int => Value.int .u16 d) := h
  rcases h1.2 with ⟨rfl, h0⟩ | ⟨g, cap, cur, rfl, hb, hg, hc, hm, hs, ht⟩
  · exact ⟨none, 0, by rw [h0], by omega, by omega, fun hne => absurd (List.length_eq_zero_iff.1 h0) hne⟩
  · refine ⟨some ⟨g, 0, none⟩, cap, rfl, hc, by unfold maxLen at hm; omega, fun _ => ⟨g, 0, rfl, own_row_lt hg, fun j hj => ?_⟩⟩
    have := h1.cells (g := g) rfl j (.int .u16 l[j]) (by simp [hj])
    rwa [add_flat] at this

/-- append(s, x) for words -/
theorem wp_append_h {ops : Array Oper} {rest : List Oper} {o : Oper} {a : Act} {Q : Exit → Act → World → Prop} {w : World} (hgd : o.guard = none) (s x : Operand)
    (ho : o.op = .call { callee := .builtin .append, args := #[s, x], argTypes := #[49, 49] })
    (B : Nat) (vs : Value) (l1 : List Int) (hs : a.eval s = vs) (hown : OwnH B w vs l1) (g : Nat) (n : Int) (hx : a.eval x = .slice (some ⟨g, 0, none⟩) 1 1) (hcell : w.cell? ⟨g, 0, none⟩ = some (.int .u16 n)) (hl : l1.length ≤ 1000000) (hB : B ≤ w.heap.size)
    (h : ∀ v' w', OwnH B w' v' (l1 ++ [n]) → (∀ w0, Below B w0 w → Below B w0 w') → wpList Try.prog ops Q rest (a.put o.dst v') w') :
    wpList Try.prog ops Q (o :: rest) a w := by
  obtain ⟨i0, hi0I, hz0I, hs0I, hb0I⟩ : ∃ i0, Try.prog.info? 43 = some i0 ∧ i0.zero = some (.int .u16 0) ∧ i0.size = 1 ∧ i0.bytes = 2 := by
    have := infoH
    cases hq : Try.prog.info? 43 with
    | none => rw [hq] at this; cases this
    | some i0 =>
      rw [hq] at this
      simp only [Option.map_some, Option.some.injEq, Prod.mk.injEq] at this
      exact ⟨i0, rfl, this.1, this.2.1, this.2.2⟩
  have hge := (ownH_cases hown).2
  refine wpList_append_own_at (P := Try.prog) w hgd s x _ ho B 43 i0 (.int .u16 0) 1 2 Try.underlying49 hi0I hz0I hs0I hb0I rfl (by decide) _ _ _ hs hown ⟨g, 0, none⟩ 1 1 [.int .u16 n] hx rfl ?_ (fun u hu => by obtain rfl := List.mem_singleton.1 hu; rfl) (by unfold maxLen; omega) (by omega) hB ?_
  · intro j u hj
    have hj0 : j = 0 := by
      rcases Nat.lt_or_ge j 1 with h' | h'
      · omega
      · rw [List.getElem?_eq_none (by simpa using h')] at hj; cases hj
    subst hj0
    rw [add_flat, Nat.zero_add, hcell]
    simpa using hj
  · intro v' w' hown' hgrow _ _
    exact h v' w' (by unfold OwnH; rw [List.length_append, List.map_append]; exact hown') (fun w0 hb => hb.grown hgrow hB (fun k hk => hge k hk))

def shortS (a : List Int) : Bool := decide (a.length = 6) && decide (numAt a 0 4 = 20480)
def longS (a : List Int) : Bool := decide (a.length = 32) && decide (numAt a 0 4 = 65536)

/-- are they no tables of widths? -/
def badWidths (a b c : List Int) : Bool :=
  (!shortS a && !longS a) || (decide (numAt a 4 2 < 1) || (decide (b.length ≠ 36) || (decide (numAt b 0 4 ≠ 65536) || (decide (numAt b 34 2 < 1) || (decide (numAt a 4 2 < numAt b 34 2) || decide ((c.length : Int) ≠ 4 * numAt b 34 2 + 2 * (numAt a 4 2 - numAt b 34 2)))))))

/-- the advances of the first k glyphs, m of them told -/
def advL (c : List Int) (m : Nat) (k : Nat) : List Int := (List.range k).map fun i => numAt c ((4 * min i (m - 1) : Nat) : Int) 2

theorem one16 {w : World} {x : Int} : (w.alloc (.cells #[.int .u16 x] 43)).cell? ⟨w.heap.size, 0, none⟩ = some (.int .u16 x) := by
  rw [cell_of_row _ w.heap.size 0 _ _ _ (heap_alloc_new w _)]; rfl

theorem results_tmp4 {fn : Func} {t u v x : Tmp} (h : fn.results = #[.tmp t, .tmp u, .tmp v, .tmp x]) (tmps : Array Value) (P : Program) (w : World) :
    (results fn tmps).run P w = .ok (.tuple #[tmps.getD t undef, tmps.getD u undef, tmps.getD v undef, tmps.getD x undef]) w := by
  simp [results, h]

/-- the advances, the ascent, the descent, the error's number -/
def widthsS (a b c : List Int) : List Int × Int × Int × Int :=
  if badWidths a b c then ([], 0, 0, 50) else (advL c (numAt b 34 2).toNat (numAt a 4 2).toNat, IntKind.i16.wrap (numAt b 4 2), IntKind.i16.wrap (numAt b 6 2), 0)

def WdRel (w1 : World) (c : List Int) (m n k : Nat) (vo vi : Value) (wr : World) : Prop := ∃ (v : Value) (i : Nat), v = vo ∧ i + k = n ∧ vi = .int .i64 (i : Int) ∧ OwnH w1.heap.size wr v (advL c m i) ∧ Below w1.heap.size w1 wr

theorem advL_next (c : List Int) (m i : Nat) : advL c m i ++ [numAt c ((4 * min i (m - 1) : Nat) : Int) 2] = advL c m (i + 1) := by
  unfold advL
  rw [List.range_succ, List.map_append]; rfl

theorem i16_twice (x : Int) : IntKind.i16.wrap (IntKind.i16.wrap x) = IntKind.i16.wrap x := by rw [wrap_i16, wrap_i16]; omega

set_option maxHeartbeats 20000000 in
set_option maxRecDepth 20000 in
theorem refWidths_any (w : World) (va vb vc : Value) (a b c : List Int) (ha : NumZ .u8 w va a) (hb : NumZ .u8 w vb b) (hc : NumZ .u8 w vc c) (hA : AllB a) (hB : AllB b) (hC : AllB c) (la : a.length ≤ 1000000) (lb : b.length ≤ 1000000) (lc : c.length ≤ 1000000) :
    Calls Try.prog 19 #[va, vb, vc] w fun e w' => Below w.heap.size w w' ∧ ∃ r, e = .returned (.tuple #[r, .int .i16 (widthsS a b c).2.1, .int .i16 (widthsS a b c).2.2.1, .int .i64 (widthsS a b c).2.2.2]) ∧ NumZ .u16 w' r (widthsS a b c).1 := by
  have HL : Hid (∀ wx, Below w.heap.size w wx → ∀ v l, (v = va ∧ l = a ∨ v = vb ∧ l = b ∨ v = vc ∧ l = c) → ∀ p, Calls Try.prog 27 #[v, .int .i64 p] wx fun e w' => e = .returned (.int .i64 (numAt l p 4)) ∧ Below wx.heap.size wx w') := Lib.hid (fun wx hx v l h p => by
    rcases h with ⟨rfl, rfl⟩ | ⟨rfl, rfl⟩ | ⟨rfl, rfl⟩
    · exact l_any wx _ _ (ha.below hx) hA la p
    · exact l_any wx _ _ (hb.below hx) hB lb p
    · exact l_any wx _ _ (hc.below hx) hC lc p)
  have HLA := Lib.hid (fun wx hx p => HL.out wx hx va a (.inl ⟨rfl, rfl⟩) p)
  have HLB := Lib.hid (fun wx hx p => HL.out wx hx vb b (.inr (.inl ⟨rfl, rfl⟩)) p)
  have HWA : Hid (∀ wx, Below w.heap.size w wx → ∀ p, Calls Try.prog 25 #[va, .int .i64 p] wx fun e w' => e = .returned (.int .i64 (numAt a p 2)) ∧ Below wx.heap.size wx w') := Lib.hid (fun wx hx p => w_any wx va a (ha.below hx) hA la p)
  have HWB : Hid (∀ wx, Below w.heap.size w wx → ∀ p, Calls Try.prog 25 #[vb, .int .i64 p] wx fun e w' => e = .returned (.int .i64 (numAt b p 2)) ∧ Below wx.heap.size wx w') := Lib.hid (fun wx hx p => w_any wx vb b (hb.below hx) hB lb p)
  have HWC : Hid (∀ wx, Below w.heap.size w wx → ∀ p, Calls Try.prog 25 #[vc, .int .i64 p] wx fun e w' => e = .returned (.int .i64 (numAt c p 2)) ∧ Below wx.heap.size wx w') := Lib.hid (fun wx hx p => w_any wx vc c (hc.below hx) hC lc p)
  have HSB : Hid (∀ wx, Below w.heap.size w wx → ∀ p, Calls Try.prog 45 #[vb, .int .i64 p] wx fun e w' => e = .returned (.int .i64 (IntKind.i16.wrap (numAt b p 2))) ∧ Below wx.heap.size wx w') := Lib.hid (fun wx hx p => s_any wx vb b (hb.below hx) hB lb p)
  clear HL
  obtain ⟨q, hq⟩ : ∃ q, q = widthsS a b c := ⟨_, rfl⟩
  rw [← hq]
  obtain ⟨la0, hla0⟩ : ∃ x, x = numAt a 0 4 := ⟨_, rfl⟩
  obtain ⟨lb0, hlb0⟩ : ∃ x, x = numAt b 0 4 := ⟨_, rfl⟩
  have hnb := numAt_b hA 4 2
  have hmb := numAt_b hB 34 2
  obtain ⟨n, hn⟩ := Int.eq_ofNat_of_zero_le hnb.1
  obtain ⟨m, hm⟩ := Int.eq_ofNat_of_zero_le hmb.1
  rw [hn] at hnb
  rw [hm] at hmb
  obtain ⟨sh, hsh⟩ : ∃ x, x = shortS a := ⟨_, rfl⟩
  obtain ⟨lo, hlo⟩ : ∃ x, x = longS a := ⟨_, rfl⟩
  have hshv : sh = (decide (a.length = 6) && decide (la0 = 20480)) := by rw [hsh, hla0]; rfl
  have hlov : lo = (decide (a.length = 32) && decide (la0 = 65536)) := by rw [hlo, hla0]; rfl
  unfold widthsS badWidths at hq
  rw [← hsh, ← hlo, ← hlb0, hn, hm] at hq
  simp only [Int.toNat_natCast] at hq
  have HNA := Lib.hid hn
  have HMB := Lib.hid hm
  have HLA0 := Lib.hid hla0
  have HLB0 := Lib.hid hlb0
  obtain ⟨Aa, ca, rfl, _, _, _⟩ := ha
  obtain ⟨Ab, cb, rfl, _, _, _⟩ := hb
  obtain ⟨Ac, cc, rfl, _, _, _⟩ := hc
  rename_i g1 g2 g3 g4 g5 g6 g7 g8 g9
  obtain ⟨Na, hNa⟩ : ∃ N, N = a.length := ⟨_, rfl⟩
  obtain ⟨Nb, hNb⟩ : ∃ N, N = b.length := ⟨_, rfl⟩
  obtain ⟨Nc, hNc⟩ : ∃ N, N = c.length := ⟨_, rfl⟩
  rw [← hNa] at HLA HWA hshv hlov ⊢
  rw [← hNb] at HLB HWB HSB hq ⊢
  rw [← hNc] at HWC hq ⊢
  have HQ := Lib.hid hq
  have HB0 := Lib.hid (Below.refl w.heap.size w)
  have LC := Lib.hid lc
  have HCB : Hid (∀ p, 0 ≤ numAt c p 2 ∧ numAt c p 2 < 65536) := Lib.hid (fun p => by have h := numAt_b hC p 2; omega)
  clear g1 g2 g3 g4 g5 g6 g7 g8 g9 hq hn hm hsh hlo hla0 hlb0 hA hB hC la lb lc hNa hNb hNc
  go_enter Try.func19, Try.ntmps19
  go_upto_region 1 with fail
  go_cut [10] from 16 to 99 (fun s wx => s = .bool sh ∧ Below w.heap.size w wx)
  case first =>
    by_cases h1 : Na = 6
    · have b1 : ((Na : Int) == 6) = true := by simp; omega
      obtain ⟨x, hx⟩ : ∃ x, x = (la0 == 20480) := ⟨_, rfl⟩
      have HX : Hid (sh = x) := Lib.hid (by rw [hshv, hx, h1]; rfl)
      have HXE := Lib.hid hx
      clear hshv hlov h1 hx
      go_wp2_with fail
      refine (HLA.out _ HB0.out _).mono ?_
      rintro e w1 ⟨rfl, hb⟩
      rw [← HLA0.out]
      have HB1 := Lib.hid (HB0.out.trans (hb.mono HB0.out.size))
      clear hb
      go_wp2_with fail
      go_meet
      exact ⟨by rw [HX.out, HXE.out], HB1.out⟩
    · have b1 : ((Na : Int) == 6) = false := by simp; omega
      have HX : Hid (sh = false) := Lib.hid (by rw [hshv]; simp [h1])
      clear hshv hlov h1
      go_wp2_with fail
      go_meet
      exact ⟨by rw [HX.out], HB0.out⟩
  case rest =>
  obtain ⟨rfl, hbx⟩ := hcut
  have HBX := Lib.hid hbx
  clear hbx
  go_upto_region 2 with fail
  go_cut [11] from 24 to 99 (fun s wx => s = .bool lo ∧ Below w.heap.size w wx)
  case first =>
    by_cases h1 : Na = 32
    · have b1 : ((Na : Int) == 32) = true := by simp; omega
      obtain ⟨x, hx⟩ : ∃ x, x = (la0 == 65536) := ⟨_, rfl⟩
      have HX : Hid (lo = x) := Lib.hid (by rw [hlov, hx, h1]; rfl)
      have HXE := Lib.hid hx
      clear hshv hlov h1 hx
      go_wp2_with fail
      refine (HLA.out _ HBX.out _).mono ?_
      rintro e w1 ⟨rfl, hb⟩
      rw [← HLA0.out]
      have HB1 := Lib.hid (HBX.out.trans (hb.mono HBX.out.size))
      clear hb
      go_wp2_with fail
      go_meet
      exact ⟨by rw [HX.out, HXE.out], HB1.out⟩
    · have b1 : ((Na : Int) == 32) = false := by simp; omega
      have HX : Hid (lo = false) := Lib.hid (by rw [hlov]; simp [h1])
      clear hshv hlov h1
      go_wp2_with fail
      go_meet
      exact ⟨by rw [HX.out], HBX.out⟩
  case rest =>
  obtain ⟨rfl, hby⟩ := hcut
  have HBY := Lib.hid hby
  clear hby hshv hlov
  go_wp2_with fail
  refine (HWA.out _ HBY.out _).mono ?_
  rintro e w3 ⟨rfl, hb3⟩
  rw [HNA.out]
  have HB3 := Lib.hid (HBY.out.trans (hb3.mono HBY.out.size))
  clear hb3
  go_wp2_with fail
  refine (HWB.out _ HB3.out _).mono ?_
  rintro e w4 ⟨rfl, hb4⟩
  rw [HMB.out]
  have HB4 := Lib.hid (HB3.out.trans (hb4.mono HB3.out.size))
  clear hb4
  obtain ⟨bad, hbad⟩ : ∃ bad, bad = ((!sh && !lo) || (decide ((n : Int) < 1) || (decide (Nb ≠ 36) || (decide (lb0 ≠ 65536) || (decide ((m : Int) < 1) || (decide ((n : Int) < (m : Int)) || decide ((Nc : Int) ≠ 4 * (m : Int) + 2 * ((n : Int) - (m : Int))))))))) := ⟨_, rfl⟩
  have hq := HQ.out
  rw [← hbad] at hq
  have HQ2 := Lib.hid hq
  have HBAD := Lib.hid hbad
  clear HQ hq hbad
  go_upto_region 4 with fail
  go_cut [76] from 36 to 99 (fun s wx => s = .bool bad ∧ Below w.heap.size w wx)
  case first =>
    cases hshc : sh with
    | false =>
      cases hloc : lo with
      | false =>
        subst hshc
        subst hloc
        have HV : Hid (bad = true) := Lib.hid (by rw [HBAD.out]; simp)
        go_wp2_with fail
        go_meet
        exact ⟨by rw [HV.out], HB4.out⟩
      | true =>
        subst hshc
        subst hloc
        by_cases h1 : (n : Int) < 1
        · have p0 : ((n : Int) < 1) = True := eq_true (by omega)
          have p1 : (n < 1) = True := eq_true (by omega)
          have p2 : (n = 0) = True := eq_true (by omega)
          have HV : Hid (bad = true) := Lib.hid (by rw [HBAD.out]; simp [h1])
          clear h1
          go_wp2_with fail
          go_meet
          exact ⟨by rw [HV.out], HB4.out⟩
        · have p0 : ((n : Int) < 1) = False := eq_false (by omega)
          have p1 : (n < 1) = False := eq_false (by omega)
          have p2 : (n = 0) = False := eq_false (by omega)
          by_cases h2 : Nb ≠ 36
          · have r0 : ((Nb : Int) != 36) = true := by simp; omega
            have HV : Hid (bad = true) := Lib.hid (by rw [HBAD.out]; simp [h1, h2])
            clear h1 h2
            go_wp2_with fail
            go_meet
            exact ⟨by rw [HV.out], HB4.out⟩
          · have r0 : ((Nb : Int) != 36) = false := by simp; omega
            by_cases h3 : lb0 ≠ 65536
            · have s0 : (lb0 != 65536) = true := by simp; omega
              have HV : Hid (bad = true) := Lib.hid (by rw [HBAD.out]; simp [h1, h2, h3])
              clear h1 h2 h3
              go_wp2_with fail
              refine (HLB.out _ HB4.out _).mono ?_
              rintro e w5 ⟨rfl, hb5⟩
              rw [← HLB0.out]
              have HB5 := Lib.hid (HB4.out.trans (hb5.mono HB4.out.size))
              clear hb5
              go_wp2_with fail
              go_meet
              exact ⟨by rw [HV.out], HB5.out⟩
            · have s0 : (lb0 != 65536) = false := by simp; omega
              by_cases h4 : (m : Int) < 1
              · have t0 : ((m : Int) < 1) = True := eq_true (by omega)
                have t1 : (m < 1) = True := eq_true (by omega)
                have t2 : (m = 0) = True := eq_true (by omega)
                have HV : Hid (bad = true) := Lib.hid (by rw [HBAD.out]; simp [h1, h2, h3, h4])
                clear h1 h2 h3 h4
                go_wp2_with fail
                refine (HLB.out _ HB4.out _).mono ?_
                rintro e w5 ⟨rfl, hb5⟩
                rw [← HLB0.out]
                have HB5 := Lib.hid (HB4.out.trans (hb5.mono HB4.out.size))
                clear hb5
                go_wp2_with fail
                go_meet
                exact ⟨by rw [HV.out], HB5.out⟩
              · have t0 : ((m : Int) < 1) = False := eq_false (by omega)
                have t1 : (m < 1) = False := eq_false (by omega)
                have t2 : (m = 0) = False := eq_false (by omega)
                by_cases h5 : (n : Int) < (m : Int)
                · have u0 : ((n : Int) < (m : Int)) = True := eq_true (by omega)
                  have u1 : (n < m) = True := eq_true (by omega)
                  have HV : Hid (bad = true) := Lib.hid (by rw [HBAD.out]; simp [h1, h2, h3, h4, h5])
                  clear h1 h2 h3 h4 h5
                  go_wp2_with fail
                  refine (HLB.out _ HB4.out _).mono ?_
                  rintro e w5 ⟨rfl, hb5⟩
                  rw [← HLB0.out]
                  have HB5 := Lib.hid (HB4.out.trans (hb5.mono HB4.out.size))
                  clear hb5
                  go_wp2_with fail
                  go_meet
                  exact ⟨by rw [HV.out], HB5.out⟩
                · have u0 : ((n : Int) < (m : Int)) = False := eq_false (by omega)
                  have u1 : (n < m) = False := eq_false (by omega)
                  obtain ⟨m4, hm4⟩ : ∃ x, x = 4 * m := ⟨_, rfl⟩
                  obtain ⟨dd, hdd⟩ : ∃ x, x = n - m := ⟨_, rfl⟩
                  obtain ⟨d2, hd2⟩ : ∃ x, x = 2 * dd := ⟨_, rfl⟩
                  obtain ⟨ss, hss⟩ : ∃ x, x = m4 + d2 := ⟨_, rfl⟩
                  have q1 : IntKind.i64.wrap (4 * (m : Int)) = (m4 : Int) := by rw [IntKind.wrap_i64]; omega
                  have q2 : IntKind.i64.wrap ((n : Int) - (m : Int)) = (dd : Int) := by rw [IntKind.wrap_i64]; omega
                  have q3 : IntKind.i64.wrap (2 * (dd : Int)) = (d2 : Int) := by rw [IntKind.wrap_i64]; omega
                  have q4 : IntKind.i64.wrap ((m4 : Int) + (d2 : Int)) = (ss : Int) := by rw [IntKind.wrap_i64]; omega
                  by_cases h6 : (Nc : Int) ≠ 4 * (m : Int) + 2 * ((n : Int) - (m : Int))
                  · have x0 : ((Nc : Int) != (ss : Int)) = true := by simp; omega
                    have HV : Hid (bad = true) := Lib.hid (by rw [HBAD.out]; simp [h1, h2, h3, h4, h5, h6])
                    clear h1 h2 h3 h4 h5 h6 hm4 hdd hd2 hss
                    go_wp2_with fail
                    refine (HLB.out _ HB4.out _).mono ?_
                    rintro e w5 ⟨rfl, hb5⟩
                    rw [← HLB0.out]
                    have HB5 := Lib.hid (HB4.out.trans (hb5.mono HB4.out.size))
                    clear hb5
                    go_wp2_with fail
                    go_meet
                    exact ⟨by rw [HV.out], HB5.out⟩
                  · have x0 : ((Nc : Int) != (ss : Int)) = false := by simp; omega
                    have HV : Hid (bad = false) := Lib.hid (by rw [HBAD.out]; simp [h1, h2, h3, h4, h5, h6])
                    clear h1 h2 h3 h4 h5 h6 hm4 hdd hd2 hss
                    go_wp2_with fail
                    refine (HLB.out _ HB4.out _).mono ?_
                    rintro e w5 ⟨rfl, hb5⟩
                    rw [← HLB0.out]
                    have HB5 := Lib.hid (HB4.out.trans (hb5.mono HB4.out.size))
                    clear hb5
                    go_wp2_with fail
                    go_meet
                    exact ⟨by rw [HV.out], HB5.out⟩
    | true =>
      subst hshc
      by_cases h1 : (n : Int) < 1
      · have p0 : ((n : Int) < 1) = True := eq_true (by omega)
        have p1 : (n < 1) = True := eq_true (by omega)
        have p2 : (n = 0) = True := eq_true (by omega)
        have HV : Hid (bad = true) := Lib.hid (by rw [HBAD.out]; simp [h1])
        clear h1
        go_wp2_with fail
        go_meet
        exact ⟨by rw [HV.out], HB4.out⟩
      · have p0 : ((n : Int) < 1) = False := eq_false (by omega)
        have p1 : (n < 1) = False := eq_false (by omega)
        have p2 : (n = 0) = False := eq_false (by omega)
        by_cases h2 : Nb ≠ 36
        · have r0 : ((Nb : Int) != 36) = true := by simp; omega
          have HV : Hid (bad = true) := Lib.hid (by rw [HBAD.out]; simp [h1, h2])
          clear h1 h2
          go_wp2_with fail
          go_meet
          exact ⟨by rw [HV.out], HB4.out⟩
        · have r0 : ((Nb : Int) != 36) = false := by simp; omega
          by_cases h3 : lb0 ≠ 65536
          · have s0 : (lb0 != 65536) = true := by simp; omega
            have HV : Hid (bad = true) := Lib.hid (by rw [HBAD.out]; simp [h1, h2, h3])
            clear h1 h2 h3
            go_wp2_with fail
            refine (HLB.out _ HB4.out _).mono ?_
            rintro e w5 ⟨rfl, hb5⟩
            rw [← HLB0.out]
            have HB5 := Lib.hid (HB4.out.trans (hb5.mono HB4.out.size))
            clear hb5
            go_wp2_with fail
            go_meet
            exact ⟨by rw [HV.out], HB5.out⟩
          · have s0 : (lb0 != 65536) = false := by simp; omega
            by_cases h4 : (m : Int) < 1
            · have t0 : ((m : Int) < 1) = True := eq_true (by omega)
              have t1 : (m < 1) = True := eq_true (by omega)
              have t2 : (m = 0) = True := eq_true (by omega)
              have HV : Hid (bad = true) := Lib.hid (by rw [HBAD.out]; simp [h1, h2, h3, h4])
              clear h1 h2 h3 h4
              go_wp2_with fail
              refine (HLB.out _ HB4.out _).mono ?_
              rintro e w5 ⟨rfl, hb5⟩
              rw [← HLB0.out]
              have HB5 := Lib.hid (HB4.out.trans (hb5.mono HB4.out.size))
              clear hb5
              go_wp2_with fail
              go_meet
              exact ⟨by rw [HV.out], HB5.out⟩
            · have t0 : ((m : Int) < 1) = False := eq_false (by omega)
              have t1 : (m < 1) = False := eq_false (by omega)
              have t2 : (m = 0) = False := eq_false (by omega)
              by_cases h5 : (n : Int) < (m : Int)
              · have u0 : ((n : Int) < (m : Int)) = True := eq_true (by omega)
                have u1 : (n < m) = True := eq_true (by omega)
                have HV : Hid (bad = true) := Lib.hid (by rw [HBAD.out]; simp [h1, h2, h3, h4, h5])
                clear h1 h2 h3 h4 h5
                go_wp2_with fail
                refine (HLB.out _ HB4.out _).mono ?_
                rintro e w5 ⟨rfl, hb5⟩
                rw [← HLB0.out]
                have HB5 := Lib.hid (HB4.out.trans (hb5.mono HB4.out.size))
                clear hb5
                go_wp2_with fail
                go_meet
                exact ⟨by rw [HV.out], HB5.out⟩
              · have u0 : ((n : Int) < (m : Int)) = False := eq_false (by omega)
                have u1 : (n < m) = False := eq_false (by omega)
                obtain ⟨m4, hm4⟩ : ∃ x, x = 4 * m := ⟨_, rfl⟩
                obtain ⟨dd, hdd⟩ : ∃ x, x = n - m := ⟨_, rfl⟩
                obtain ⟨d2, hd2⟩ : ∃ x, x = 2 * dd := ⟨_, rfl⟩
                obtain ⟨ss, hss⟩ : ∃ x, x = m4 + d2 := ⟨_, rfl⟩
                have q1 : IntKind.i64.wrap (4 * (m : Int)) = (m4 : Int) := by rw [IntKind.wrap_i64]; omega
                have q2 : IntKind.i64.wrap ((n : Int) - (m : Int)) = (dd : Int) := by rw [IntKind.wrap_i64]; omega
                have q3 : IntKind.i64.wrap (2 * (dd : Int)) = (d2 : Int) := by rw [IntKind.wrap_i64]; omega
                have q4 : IntKind.i64.wrap ((m4 : Int) + (d2 : Int)) = (ss : Int) := by rw [IntKind.wrap_i64]; omega
                by_cases h6 : (Nc : Int) ≠ 4 * (m : Int) + 2 * ((n : Int) - (m : Int))
                · have x0 : ((Nc : Int) != (ss : Int)) = true := by simp; omega
                  have HV : Hid (bad = true) := Lib.hid (by rw [HBAD.out]; simp [h1, h2, h3, h4, h5, h6])
                  clear h1 h2 h3 h4 h5 h6 hm4 hdd hd2 hss
                  go_wp2_with fail
                  refine (HLB.out _ HB4.out _).mono ?_
                  rintro e w5 ⟨rfl, hb5⟩
                  rw [← HLB0.out]
                  have HB5 := Lib.hid (HB4.out.trans (hb5.mono HB4.out.size))
                  clear hb5
                  go_wp2_with fail
                  go_meet
                  exact ⟨by rw [HV.out], HB5.out⟩
                · have x0 : ((Nc : Int) != (ss : Int)) = false := by simp; omega
                  have HV : Hid (bad = false) := Lib.hid (by rw [HBAD.out]; simp [h1, h2, h3, h4, h5, h6])
                  clear h1 h2 h3 h4 h5 h6 hm4 hdd hd2 hss
                  go_wp2_with fail
                  refine (HLB.out _ HB4.out _).mono ?_
                  rintro e w5 ⟨rfl, hb5⟩
                  rw [← HLB0.out]
                  have HB5 := Lib.hid (HB4.out.trans (hb5.mono HB4.out.size))
                  clear hb5
                  go_wp2_with fail
                  go_meet
                  exact ⟨by rw [HV.out], HB5.out⟩
  case rest =>
  obtain ⟨rfl, hbz⟩ := hcut
  have HBZ := Lib.hid hbz
  clear hbz
  cases bad with
  | true =>
    have HRES : Hid (q = ([], 0, 0, 50)) := Lib.hid (by rw [HQ2.out]; rfl)
    go_wp2_with fail
    (try simp only [Exit.inBlock, Exit.then])
    refine bodyPost_ret (results_tmp4 rfl _ _ _) rfl ?_
    refine ⟨HBZ.out, .slice none 0 0, ?_, ?_⟩
    · rw [HRES.out]; rfl
    · rw [HRES.out]; exact NumZ.nil _ _
  | false =>
    have hmn : 1 ≤ m ∧ m ≤ n := by
      have h := HBAD.out
      simp at h
      omega
    have HRES : Hid (q = (advL c m n, IntKind.i16.wrap (numAt b 4 2), IntKind.i16.wrap (numAt b 6 2), 0)) := Lib.hid (by rw [HQ2.out]; rfl)
    obtain ⟨m1, hm1⟩ : ∃ m1, m1 = m - 1 := ⟨_, rfl⟩
    have q0 : IntKind.i64.wrap ((m : Int) - 1) = (m1 : Int) := by rw [IntKind.wrap_i64]; omega
    have HM1 := Lib.hid hm1
    have hm1b : m1 ≤ 65535 := by omega
    clear hm1
    go_wp2_with fail
    go_loopg [14, 15] n (fun k vo vi wr => WdRel wc c m n k vo vi wr)
    case atStart => exact ⟨_, 0, rfl, by omega, rfl, World.ownsRow_nil _ _ _ _, Below.refl _ _⟩
    case round =>
      obtain ⟨vo, i, rfl, hik, rfl, how, hbw⟩ := hrel
      have HBW := Lib.hid hbw
      have HOW := Lib.hid how
      have HIK := Lib.hid hik
      have HBWW := Lib.hid (HBZ.out.trans (hbw.mono HBZ.out.size))
      clear how hbw
      by_cases hi : i = n
      · have bi : ((i : Int) < (n : Int)) = False := eq_false (by omega)
        have bi2 : (i < n) = False := eq_false (by omega)
        have HOW2 : Hid (OwnH wc.heap.size wr vo (advL c m n)) := Lib.hid (by rw [← hi]; exact HOW.out)
        obtain ⟨x4, hx4⟩ : ∃ x, x = IntKind.i16.wrap (numAt b 4 2) := ⟨_, rfl⟩
        obtain ⟨x6, hx6⟩ : ∃ x, x = IntKind.i16.wrap (numAt b 6 2) := ⟨_, rfl⟩
        have u4 : IntKind.i16.wrap x4 = x4 := by rw [hx4, i16_twice]
        have u6 : IntKind.i16.wrap x6 = x6 := by rw [hx6, i16_twice]
        have HX4 := Lib.hid hx4
        have HX6 := Lib.hid hx6
        have hnn : ((n : Int) < (n : Int)) = False := eq_false (by omega)
        clear hik hx4 hx6
        subst hi
        go_wp2_with fail
        refine (HSB.out _ HBWW.out _).mono ?_
        rintro e w5 ⟨rfl, hb5⟩
        rw [← HX4.out]
        have HB5 := Lib.hid (HBWW.out.trans (hb5.mono HBWW.out.size))
        have HO5 := Lib.hid (ownH_stays HOW2.out hb5)
        clear hb5
        go_wp2_with fail
        refine (HSB.out _ HB5.out _).mono ?_
        rintro e w6 ⟨rfl, hb6⟩
        rw [← HX6.out]
        have HB6 := Lib.hid (HB5.out.trans (hb6.mono HB5.out.size))
        have HO6 := Lib.hid (ownH_stays HO5.out hb6)
        clear hb6
        go_wp2_with fail
        (try simp only [Exit.inBlock, Exit.then])
        refine bodyPost_ret (results_tmp4 rfl _ _ _) rfl ?_
        refine ⟨HB6.out, vo, ?_, ?_⟩
        · rw [HRES.out, ← HX4.out, ← HX6.out]; rfl
        · rw [HRES.out]; exact HO6.out.read
      · have bi : ((i : Int) < (n : Int)) = True := eq_true (by omega)
        have bi2 : (i < n) = True := eq_true (by omega)
        obtain ⟨mi, hmi⟩ : ∃ mi, mi = min i m1 := ⟨_, rfl⟩
        obtain ⟨at_, hat⟩ : ∃ x, x = 4 * mi := ⟨_, rfl⟩
        have HLE1 : Hid (m1 ≤ i → at_ = 4 * m1) := Lib.hid (fun h => by omega)
        have HLE2 : Hid (i ≤ m1 → at_ = 4 * i) := Lib.hid (fun h => by omega)
        obtain ⟨i1, hi1⟩ : ∃ i1, i1 = i + 1 := ⟨_, rfl⟩
        have qi : IntKind.i64.wrap ((i : Int) + 1) = (i1 : Int) := by rw [IntKind.wrap_i64]; omega
        obtain ⟨x, hx⟩ : ∃ x, x = numAt c (at_ : Int) 2 := ⟨_, rfl⟩
        have HX := Lib.hid hx
        have HAT : Hid (at_ = 4 * min i (m - 1)) := Lib.hid (by rw [hat, hmi, HM1.out])
        have HI1 := Lib.hid hi1
        have HIN := Lib.hid hi
        have HXB : Hid (0 ≤ x ∧ x < 65536) := Lib.hid (by rw [hx]; exact HCB.out _)
        have u1 : IntKind.u16.wrap x = x := by have h := HXB.out; rw [wrap_u16]; omega
        have HLEN : Hid ((advL c m i).length ≤ 1000000) := Lib.hid (by simp [advL]; omega)
        have hib : i ≤ 65535 := by omega
        clear hi hik hmi hat hi1 hx
        go_wp2_with fail
        · have e1 : 4 * (m1 : Int) = (at_ : Int) := by have h := HLE1.out (by omega); omega
          rw [e1]
          clear e1
          refine (HWC.out _ HBWW.out _).mono ?_
          rintro e w5 ⟨rfl, hb5⟩
          rw [← HX.out]
          have HB5 := Lib.hid (HBW.out.trans (hb5.mono HBW.out.size))
          have HO5 := Lib.hid (ownH_stays HOW.out hb5)
          clear hb5
          go_wp2_with (at_builtin; refine wp_append_h rfl _ _ rfl wc.heap.size vo (advL c m i) rfl (ownH_stays HO5.out ((Below.refl _ _).alloc (Nat.le_refl _) _)) _ x rfl one16 HLEN.out (Nat.le_trans HB5.out.size (Nat.le_of_lt (heap_more _ _))) ?_)
          intro v6 w6 how6 hk6
          have HB6 := Lib.hid (hk6 _ (HB5.out.alloc HB5.out.size _))
          have HO6 : Hid (OwnH wc.heap.size w6 v6 (advL c m i1)) := Lib.hid (by
            have h := advL_next c m i
            rw [← HAT.out, ← HX.out, ← HI1.out] at h
            rw [← h]; exact how6)
          clear how6 hk6
          go_wp2_with fail
          go_roundg (gk - 1)
          case measure => have := HIK.out; have := HIN.out; omega
          case rel => exact ⟨_, i1, rfl, by have := HIK.out; have := HIN.out; have := HI1.out; omega, by first | rfl | exact congrArg _ (by omega), HO6.out, HB6.out⟩
        · have e1 : 4 * (i : Int) = (at_ : Int) := by have h := HLE2.out (by omega); omega
          rw [e1]
          clear e1
          refine (HWC.out _ HBWW.out _).mono ?_
          rintro e w5 ⟨rfl, hb5⟩
          rw [← HX.out]
          have HB5 := Lib.hid (HBW.out.trans (hb5.mono HBW.out.size))
          have HO5 := Lib.hid (ownH_stays HOW.out hb5)
          clear hb5
          go_wp2_with (at_builtin; refine wp_append_h rfl _ _ rfl wc.heap.size vo (advL c m i) rfl (ownH_stays HO5.out ((Below.refl _ _).alloc (Nat.le_refl _) _)) _ x rfl one16 HLEN.out (Nat.le_trans HB5.out.size (Nat.le_of_lt (heap_more _ _))) ?_)
          intro v6 w6 how6 hk6
          have HB6 := Lib.hid (hk6 _ (HB5.out.alloc HB5.out.size _))
          have HO6 : Hid (OwnH wc.heap.size w6 v6 (advL c m i1)) := Lib.hid (by
            have h := advL_next c m i
            rw [← HAT.out, ← HX.out, ← HI1.out] at h
            rw [← h]; exact how6)
          clear how6 hk6
          go_wp2_with fail
          go_roundg (gk - 1)
          case measure => have := HIK.out; have := HIN.out; omega
          case rel => exact ⟨_, i1, rfl, by have := HIK.out; have := HIN.out; have := HI1.out; omega, by first | rfl | exact congrArg _ (by omega), HO6.out, HB6.out⟩
end Go.Proofs.Ytlpnikolnohcaaa
