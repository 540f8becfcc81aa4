/-
  SfntSums: the walk.
-/
import Derived.Test.YtlpnikolnohcaaaSumF
import Derived.Test.YtlpnikolnohcaaaRowS
import Derived.Test.YtlpnikolnohcaaaWk5
import Derived.Laws.Tables
namespace Go.Proofs.Ytlpnikolnohcaaa
open Go Go.RowKit

/-- the name head, built -/
theorem wp_head {o : Oper} {a : Act} {w : World} {K : Act → World → Prop} {Q : Exit → Act → World → Prop} (ho : o.op = .build 39 #[(0, .const (.int .u8 104)), (1, .const (.int .u8 101)), (2, .const (.int .u8 97)), (3, .const (.int .u8 100))])
    (h : K (a.put o.dst (.agg #[.int .u8 104, .int .u8 101, .int .u8 97, .int .u8 100])) w) : o.wp Try.prog a w K Q := by
  have hc : Try.prog.built 39 [(0, .int .u8 104), (1, .int .u8 101), (2, .int .u8 97), (3, .int .u8 100)] = some #[.int .u8 104, .int .u8 101, .int .u8 97, .int .u8 100] := by kernel_rfl
  have e : ((#[(0, Operand.const (.int .u8 104)), (1, .const (.int .u8 101)), (2, .const (.int .u8 97)), (3, .const (.int .u8 100))] : Array (Nat × Operand)).map fun (i, x) => (i, a.eval x)) = #[(0, .int .u8 104), (1, .int .u8 101), (2, .int .u8 97), (3, .int .u8 100)] := by simp [Act.eval]
  have hr := run_build (P := Try.prog) w 39 #[(0, .int .u8 104), (1, .int .u8 101), (2, .int .u8 97), (3, .int .u8 100)] _ hc
  unfold Oper.wp execOp
  simp only [ho, e, Sem.run_bind, hr, Result.andThen_ok]
  exact h

set_option maxHeartbeats 20000000 in
set_option maxRecDepth 20000 in
theorem sfntSums_any (w : World) (vt vb : Value) (ts bs : List (List Int)) (hvt : TagsZ w vt ts) (hvb : BodsZ w vb bs) (hsz : ∀ b ∈ bs, b.length ≤ 140737488355328) :
    Calls Try.prog 7 #[vt, vb] w fun e w' => e = .returned (.bool true) ∧ Below w.heap.size w w' := by
  have HW := Lib.hid (fun w => works5_any w)
  have HVT := Lib.hid hvt
  have HVB := Lib.hid hvb
  have HSZ := Lib.hid hsz
  obtain ⟨AT, cT, rfl, _, _, h4, hct⟩ := hvt
  obtain ⟨AB, cB, rfl, _, _, hb8, hcb⟩ := hvb
  have H4 := Lib.hid h4
  have HB8 := Lib.hid hb8
  obtain ⟨N, hN⟩ : ∃ N, N = ts.length := ⟨_, rfl⟩
  obtain ⟨M, hM⟩ : ∃ M, M = bs.length := ⟨_, rfl⟩
  have HN := Lib.hid hN
  have HM := Lib.hid hM
  rw [← hN] at HVT ⊢
  rw [← hM] at HVB ⊢
  clear hct hcb h4 hb8 hN hM hsz
  go_enter Try.func7, Try.ntmps7
  go_wp2_with fail
  go_loopg [5, 6] M (fun k vn vi wr => ∃ i : Nat, i + k = M ∧ vn = .int .i64 ((sumLen bs i : Nat) : Int) ∧ vi = .int .i64 (i : Int) ∧ Below w.heap.size w wr)
  case atStart => exact ⟨0, by omega, rfl, rfl, Below.refl _ _⟩
  case round =>
    rename World => wo
    obtain ⟨i, hik, rfl, rfl, hb⟩ := hrel
    have HB := Lib.hid hb
    have HIK := Lib.hid hik
    obtain ⟨s, hs⟩ : ∃ s, s = sumLen bs i := ⟨_, rfl⟩
    rw [← hs]
    have HS := Lib.hid hs
    by_cases hi : i = M
    · have bi : ((i : Int) < (M : Int)) = False := eq_false (by omega)
      have HIM := Lib.hid hi
      have HSM : Hid (s = sumLen bs M) := Lib.hid (by rw [hs, hi])
      clear hik hs hi hb
      by_cases ht : 70 < N
      · have bt : (70 < (N : Int)) = True := eq_true (by omega)
        clear ht
        go_wp2_with fail
        refine (HW.out _).mono ?_
        rintro e wz ⟨rfl, hbz⟩
        have HBX := Lib.hid (HB.out.trans (hbz.mono HB.out.size))
        clear hbz
        go_wp2_with fail
        go_ret
        exact ⟨rfl, HBX.out⟩
      · have bt : (70 < (N : Int)) = False := eq_false (by omega)
        by_cases hb7 : 70 < M
        · have bb : (70 < (M : Int)) = True := eq_true (by omega)
          clear ht hb7
          go_wp2_with fail
          refine (HW.out _).mono ?_
          rintro e wz ⟨rfl, hbz⟩
          have HBX := Lib.hid (HB.out.trans (hbz.mono HB.out.size))
          clear hbz
          go_wp2_with fail
          go_ret
          exact ⟨rfl, HBX.out⟩
        · have bb : (70 < (M : Int)) = False := eq_false (by omega)
          by_cases hs5 : 5000 < s
          · have bn : (5000 < (s : Int)) = True := eq_true (by omega)
            clear ht hb7 hs5
            go_wp2_with fail
            refine (HW.out _).mono ?_
            rintro e wz ⟨rfl, hbz⟩
            have HBX := Lib.hid (HB.out.trans (hbz.mono HB.out.size))
            clear hbz
            go_wp2_with fail
            go_ret
            exact ⟨rfl, HBX.out⟩
          · have bn : (5000 < (s : Int)) = False := eq_false (by omega)
            have HJZ : Hid (sizeJ bs bs.length ≤ 1000000) := Lib.hid (by have h1 := sizeJ_sum bs bs.length; have h2 := HSM.out; have h3 := HM.out; rw [h3] at h2; omega)
            have HJ2 : Hid (Calls Try.prog 13 #[.slice AT N cT, .slice AB M cB] wo fun e w' => Below wo.heap.size wo w' ∧ ∃ r, e = .returned (.tuple #[r, .int .i64 (joinS ts bs).2]) ∧ NumZ .u8 w' r (joinS ts bs).1 ∧ (∀ n c, r = .slice none n c → n = 0 ∧ c = 0)) := Lib.hid (joinP_any wo _ _ ts bs (HVT.out.below HB.out) (HVB.out.below HB.out) HJZ.out (by have := HN.out; omega))
            have HF : Hid ((joinS ts bs).2 = 0 → Joined ts bs (joinS ts bs).1) := Lib.hid (fun h => joined_facts ts bs H4.out HB8.out HJZ.out h)
            have HER : Hid ((joinS ts bs).2 ≠ 0 → (joinS ts bs).1 = []) := Lib.hid (fun h => joinS_err ts bs h)
            generalize (joinS ts bs).1 = E at HJ2 HF HER
            generalize (joinS ts bs).2 = er at HJ2 HF HER
            clear ht hb7 hs5
            go_wp2_with fail
            refine (HJ2.out).mono ?_
            rintro e w1 ⟨hb1, r, rfl, hnz, hnn⟩
            have HB1 := Lib.hid (HB.out.trans (hb1.mono HB.out.size))
            have HNZ := Lib.hid hnz
            have HNN := Lib.hid hnn
            clear hb1 hnn
            by_cases he : er = 0
            · subst he
              have HJD := Lib.hid (HF.out rfl)
              obtain ⟨AR, cR, rfl, hEc, _, _⟩ := hnz
              obtain ⟨EL, hEL⟩ : ∃ EL, EL = E.length := ⟨_, rfl⟩
              have HEL := Lib.hid hEL
              rw [← hEL] at HNZ HNN hEc ⊢
              have HEC := Lib.hid hEc
              have HSUM : Hid (∀ wx, Below w1.heap.size w1 wx → Calls Try.prog 21 #[.slice AR EL cR] wx fun e w' => e = .returned (.int .u32 (sumS E)) ∧ Below wx.heap.size wx w') := Lib.hid (fun wx hx => sum_any wx _ E (HNZ.out.below hx) HJD.out.bytes HJD.out.whole.2)
              have HMN : Hid (M = N) := Lib.hid (by have h1 := HM.out; have h2 := HN.out; have h3 := HJD.out.same.1; omega)
              clear hEL hEc
              go_wp2_with fail
              go_loopg [9] N (fun k vi wr => ∃ j : Nat, j + k = N ∧ vi = .int .i64 (j : Int) ∧ Below w1.heap.size w1 wr)
              case atStart => exact ⟨0, by omega, rfl, Below.refl _ _⟩
              case round =>
                rename World => w2
                obtain ⟨j, hjk, rfl, hb2⟩ := hrel
                have HB2 := Lib.hid hb2
                have HJK := Lib.hid hjk
                have HBW2 := Lib.hid (HB1.out.trans (hb2.mono HB1.out.size))
                by_cases hj : j = N
                · have bj : ((j : Int) < (N : Int)) = False := eq_false (by omega)
                  clear hj hjk hb2
                  have HNZ2 := Lib.hid (HNZ.out.below HB2.out)
                  have HTB : Hid (Calls Try.prog 9 #[.slice AR EL cR] w2 fun e w' => Below w2.heap.size w2 w' ∧ ∃ r, e = .returned (.tuple #[r, .int .i64 0]) ∧ OwnT w2.heap.size w' r ((List.range ts.length).map (fun i => (ts.getD i [], ((sizeJ bs i : Nat) : Int), ((bs.getD i []).length : Int))))) := Lib.hid (by have h := tablesP_any w2 _ E HNZ2.out HNN.out HJD.out.bytes HJD.out.whole.2; rw [HJD.out.tabs] at h; exact h)
                  obtain ⟨TL, hTL⟩ : ∃ TL, TL = ((List.range ts.length).map (fun i => (ts.getD i [], ((sizeJ bs i : Nat) : Int), ((bs.getD i []).length : Int)))) := ⟨_, rfl⟩
                  rw [← hTL] at HTB
                  have HTLE := Lib.hid hTL
                  have HTLN : Hid (TL.length = N) := Lib.hid (by rw [hTL, List.length_map, List.length_range]; exact HN.out.symm)
                  have HT4 : Hid (∀ t ∈ TL, t.1.length = 4) := Lib.hid (by
                    rw [hTL]; intro t ht
                    obtain ⟨i, hi, rfl⟩ := List.mem_map.1 ht
                    exact (H4.out _ (getD_mem' (List.mem_range.1 hi))).1)
                  clear hTL
                  go_wp2_with fail
                  refine (HTB.out).mono ?_
                  rintro e w3 ⟨hb3, rt, rfl, how⟩
                  have HB3 := Lib.hid (HBW2.out.trans (hb3.mono HBW2.out.size))
                  have HNZ3 := Lib.hid (HNZ2.out.below hb3)
                  have HTZ := Lib.hid (how.read HT4.out)
                  obtain ⟨⟨AL, cL, hrt⟩, _⟩ := ownT_cases how
                  rw [HTLN.out] at hrt
                  subst hrt
                  clear hb3 how
                  go_wp2_with fail
                  go_loopg [11, 12, 13] N (fun k v11 v12 v13 wr => ∃ (vg vs : Value) (q : Nat) (us : List Value), vg = v11 ∧ vs = v12 ∧ q + k = N ∧ v13 = .int .i64 (q : Int) ∧ us = (List.range q).map (fun j => cutV AR (sizeJ bs j) (sizeJ bs j + (bs.getD j []).length) cR) ∧ OwnG w3.heap.size wr vg (ts.take q) ∧ OwnS w3.heap.size wr vs us ∧ (∀ k, vg.ownBlock = some k → vs.ownBlock ≠ some k) ∧ Below w3.heap.size w3 wr)
                  case atStart => exact ⟨_, _, 0, [], rfl, rfl, by omega, rfl, rfl, OwnG.nil _ _, OwnS.nil _ _, fun k h => by simp [Value.ownBlock] at h, Below.refl _ _⟩
                  case round =>
                    rename World => w4
                    obtain ⟨vg, vs, q, us, rfl, rfl, hqk, rfl, hus, hog, hos, hdis, hb4⟩ := hrel
                    have HOG := Lib.hid hog
                    have HOS := Lib.hid hos
                    have HDIS := Lib.hid hdis
                    have HB4 := Lib.hid hb4
                    have HQK := Lib.hid hqk
                    have HUS := Lib.hid hus
                    clear hog hos hdis hb4 hus
                    by_cases hq : q = N
                    · have bq : ((q : Int) < (N : Int)) = False := eq_false (by omega)
                      have HQN := Lib.hid hq
                      clear hq hqk
                      have HNZ4 := Lib.hid (HNZ3.out.below HB4.out)
                      have HTG : Hid (TagsZ w4 vg ts) := Lib.hid (by have h := HOG.out; rw [HQN.out, HN.out, List.take_of_length_le (Nat.le_refl _)] at h; exact h.read H4.out)
                      have HBG : Hid (BodsZ w4 vs (piecesE bs E ts.length)) := Lib.hid (by
                        have hq : q = ts.length := by rw [HQN.out, HN.out]
                        have hul : us.length = ts.length := by rw [HUS.out, List.length_map, List.length_range, hq]
                        refine HOS.out.read _ (by rw [hul]; unfold piecesE; rw [List.length_map, List.length_range]) ?_ ?_
                        · intro b hb x hx
                          unfold piecesE at hb
                          obtain ⟨i, _, rfl⟩ := List.mem_map.1 hb
                          exact HJD.out.bytes x (List.mem_of_mem_drop (List.mem_of_mem_take hx))
                        · intro i hi hi2
                          have hit : i < ts.length := by omega
                          have hf := (HJD.out.fits i hit).1
                          have e1 : us[i] = cutV AR (sizeJ bs i) (sizeJ bs i + (bs.getD i []).length) cR := by
                            have h := HUS.out
                            subst h
                            simp
                          have e2 : (piecesE bs E ts.length)[i] = (E.drop (sizeJ bs i)).take (bs.getD i []).length := by
                            unfold piecesE pieceE
                            simp
                          have h := cut_num HNZ4.out (sizeJ bs i) (sizeJ bs i + (bs.getD i []).length) (by omega) hf
                          rw [Nat.add_sub_cancel_left] at h
                          rw [e1, e2]
                          exact ⟨h, cut_nn HNN.out _ _ (by rw [HEL.out]; exact hf)⟩)
                      have HJ4 : Hid (Calls Try.prog 13 #[vg, vs] w4 fun e w' => Below w4.heap.size w4 w' ∧ ∃ r, e = .returned (.tuple #[r, .int .i64 0]) ∧ NumZ .u8 w' r E ∧ (∀ n c, r = .slice none n c → n = 0 ∧ c = 0)) := Lib.hid (by
                        have h := joinP_any w4 vg vs ts _ HTG.out HBG.out HJD.out.least (by have := HJD.out.same.2; omega)
                        rw [HJD.out.again] at h
                        exact h)
                      have HSB : Hid (∀ wx a b, NumZ .u8 wx a E → NumZ .u8 wx b E → Calls Try.prog 12 #[a, b] wx fun e w' => e = .returned (.bool true) ∧ wx = w') := Lib.hid (fun wx a b ha hb => sameB_any _ a b wx ha hb)
                      have hE4 : EL % 4 = 0 := by rw [HEL.out]; exact HJD.out.whole.1
                      have qe2 : ((EL : Int).tmod 4) = 0 := by rw [Int.tmod_eq_emod_of_nonneg (Int.natCast_nonneg _)]; omega
                      have qe : IntKind.i64.wrap ((EL : Int).tmod 4) = 0 := by rw [qe2]; rfl
                      clear hE4
                      go_wp2_with fail
                      refine (HJ4.out).mono ?_
                      rintro e w5 ⟨hb5, rc, rfl, hnc, _⟩
                      have HB5 := Lib.hid ((HB3.out.trans (HB4.out.mono HB3.out.size)).trans (hb5.mono (HB3.out.trans (HB4.out.mono HB3.out.size)).size))
                      have HNC := Lib.hid hnc
                      have HNZ5 := Lib.hid (HNZ4.out.below hb5)
                      clear hb5 hnc
                      go_wp2_with fail
                      refine (HSB.out _ _ _ HNZ5.out HNC.out).mono ?_
                      rintro e w6 ⟨rfl, rfl⟩
                      go_wp2_with fail
                      refine (HW.out _).mono ?_
                      rintro e wz ⟨rfl, hbz⟩
                      have HBX := Lib.hid (HB5.out.trans (hbz.mono HB5.out.size))
                      clear hbz
                      go_wp2_with fail
                      go_ret
                      exact ⟨rfl, HBX.out⟩
                    · have bq : ((q : Int) < (N : Int)) = True := eq_true (by omega)
                      have HQN := Lib.hid hq
                      have q0 : (0 : Int) ≤ (q : Int) := Int.natCast_nonneg _
                      have qN : (q : Int) < (N : Int) := by omega
                      have hql : q < TL.length := by have := HTLN.out; omega
                      have htl : q < ts.length := by have := HN.out; omega
                      obtain ⟨A2, c2, e2, _, _, hcs⟩ := HTZ.out
                      injection e2 with e3 e4 e5
                      subst e3
                      clear e4 e5
                      obtain ⟨gL, e7, hgL, hcl⟩ := hcs (by rintro rfl; simp at hql)
                      clear hcs
                      subst e7
                      have HGL := Lib.hid hgL
                      have hTq : TL[q] = (ts.getD q [], ((sizeJ bs q : Nat) : Int), ((bs.getD q []).length : Int)) := by
                        have h := HTLE.out
                        subst h
                        simp
                      have hfit := HJD.out.fits q htl
                      have h4q := H4.out _ (getD_mem' htl)
                      have htk : ts.take (q + 1) = ts.take q ++ [ts.getD q []] := by
                        rw [List.take_succ_eq_append_getElem htl, List.getD_eq_getElem?_getD, List.getElem?_eq_getElem htl]; rfl
                      obtain ⟨p, hp⟩ : ∃ p, p = sizeJ bs q := ⟨_, rfl⟩
                      obtain ⟨m, hm⟩ : ∃ m, m = (bs.getD q []).length := ⟨_, rfl⟩
                      rw [← hp, ← hm] at hTq hfit
                      obtain ⟨pe, hpe⟩ : ∃ pe, pe = p + m := ⟨_, rfl⟩
                      obtain ⟨AV, cV, hV⟩ : ∃ AV cV, Value.slice AV m cV = cutV AR p pe cR := by obtain ⟨A, c, h⟩ := cutV_len AR p pe cR; exact ⟨A, c, by rw [h, hpe, Nat.add_sub_cancel_left]⟩
                      obtain ⟨q1, hq1⟩ : ∃ q1, q1 = q + 1 := ⟨_, rfl⟩
                      have HUS1 : Hid (us ++ [.slice AV m cV] = (List.range q1).map (fun j => cutV AR (sizeJ bs j) (sizeJ bs j + (bs.getD j []).length) cR)) := Lib.hid (by rw [hq1, List.range_succ, List.map_append, HUS.out, hV, hpe, hp, hm]; rfl)
                      have hfo := four_of h4q.1
                      obtain ⟨x0, hx0⟩ : ∃ x, x = (ts.getD q []).getD 0 0 := ⟨_, rfl⟩
                      obtain ⟨x1, hx1⟩ : ∃ x, x = (ts.getD q []).getD 1 0 := ⟨_, rfl⟩
                      obtain ⟨x2, hx2⟩ : ∃ x, x = (ts.getD q []).getD 2 0 := ⟨_, rfl⟩
                      obtain ⟨x3, hx3⟩ : ∃ x, x = (ts.getD q []).getD 3 0 := ⟨_, rfl⟩
                      rw [← hx0, ← hx1, ← hx2, ← hx3] at hfo
                      rw [hfo] at hTq htk
                      clear hx0 hx1 hx2 hx3
                      have HTK : Hid (ts.take q1 = ts.take q ++ [[x0, x1, x2, x3]]) := Lib.hid (by rw [hq1]; exact htk)
                      have hcl2 : ∀ j u, j < 6 → (cellsT ([x0, x1, x2, x3], (p : Int), (m : Int)))[j]? = some u → w3.cell? ⟨gL, q * 6 + j, none⟩ = some u := fun j u hj hu => by
                        rw [Nat.mul_comm q 6, hcl q j hql hj, hTq]; exact hu
                      have HCL : Hid (∀ wx, Below w3.heap.size w3 wx → wx.cell? ⟨gL, q * 6, none⟩ = some (.int .u8 x0) ∧ wx.cell? ⟨gL, q * 6 + 1, none⟩ = some (.int .u8 x1) ∧ wx.cell? ⟨gL, q * 6 + 2, none⟩ = some (.int .u8 x2) ∧ wx.cell? ⟨gL, q * 6 + 3, none⟩ = some (.int .u8 x3) ∧ wx.cell? ⟨gL, q * 6 + 4, none⟩ = some (.int .i64 (p : Int)) ∧ wx.cell? ⟨gL, q * 6 + 5, none⟩ = some (.int .i64 (m : Int))) := Lib.hid (fun wx hx => by
                        refine ⟨?_, ?_, ?_, ?_, ?_, ?_⟩ <;> rw [hx.cell (by exact HGL.out)]
                        · exact hcl2 0 _ (by decide) rfl
                        · exact hcl2 1 _ (by decide) rfl
                        · exact hcl2 2 _ (by decide) rfl
                        · exact hcl2 3 _ (by decide) rfl
                        · exact hcl2 4 _ (by decide) rfl
                        · exact hcl2 5 _ (by decide) rfl)
                      have hEL := HEL.out
                      have hEC := HEC.out
                      have hE6 := HJD.out.whole.2
                      obtain ⟨d, hd⟩ : ∃ d, d = EL - m := ⟨_, rfl⟩
                      have bp0 : ((p : Int) < 0) = False := eq_false (by omega)
                      have bm0 : ((m : Int) < 0) = False := eq_false (by omega)
                      have qd : IntKind.i64.wrap ((EL : Int) - (m : Int)) = (d : Int) := by rw [IntKind.wrap_i64]; omega
                      have bgt : ((d : Int) < (p : Int)) = False := eq_false (by omega)
                      have qr2 : ((p : Int).tmod 4) = 0 := by rw [Int.tmod_eq_emod_of_nonneg (Int.natCast_nonneg _)]; omega
                      have qr : IntKind.i64.wrap ((p : Int).tmod 4) = 0 := by rw [qr2]; rfl
                      have qpe : IntKind.i64.wrap ((p : Int) + (m : Int)) = (pe : Int) := by rw [IntKind.wrap_i64]; omega
                      have qq1 : IntKind.i64.wrap ((q : Int) + 1) = (q1 : Int) := by rw [IntKind.wrap_i64]; have := HN.out; have := HJD.out.same.2; omega
                      have hsl : ∀ W, (Instr.slice 22 (.slice AR EL cR) (some (.int .i64 (p : Int))) (some (.int .i64 (pe : Int))) none).run Try.prog W = .ok (.slice AV m cV) W := fun W => by rw [hV]; exact run_cut_lh W AR EL cR p pe (by omega) (by omega)
                      have HVS : Hid (∃ A n c, Value.slice AV m cV = .slice A n c) := Lib.hid ⟨_, _, _, rfl⟩
                      have HQ1 := Lib.hid hq1
                      have HQ64 : Hid (q ≤ 64 ∧ us.length = q) := Lib.hid (by refine ⟨by have := HN.out; have := HJD.out.same.2; omega, by rw [HUS.out, List.length_map, List.length_range]⟩)
                      obtain ⟨t0, t1, t2, t3, t4, t5⟩ := HCL.out w4 HB4.out
                      clear hq hqk hql hgL hcl hTq hfit h4q htk hp hm hpe hV hq1 hfo hcl2 hEL hEC hE6 hd htl t0 t1 t2 t3
                      go_upto_region 22 with fail
                      refine wp_region_held_drew (S := fun w' => Below w3.heap.size w3 w' ∧ w'.cell? ⟨gL, q * 6 + 4, none⟩ = some (.int .i64 (p : Int)) ∧ w'.cell? ⟨gL, q * 6 + 5, none⟩ = some (.int .i64 (m : Int))) (by kernel_rfl) (⟨HB4.out.drew, t4, t5⟩) (fun hH0 => ?_)
                      change wpAnyH _ _ _ _ _ 39 #[false, false, false, false, false, false, false, false, false, false, false, false, false, false, false, false, false, false, false, false, false, false, false, false, false, false, false, false, false, false, false, false, false, false, false, false, false, false, false] _ _
                      refine wpAnyH_take (i := 0) (oi := { dst := some 100, op := _, type := _, pos := _, after := _, guard := _ }) (v := ?_) rfl (by kernel_rfl) (by kernel_rfl) (by kernel_rfl) (fun _ _ _ h => h) (Or.inl ⟨by kernel_rfl, ?_⟩) hH0 ?_
                      rotate_left
                      · (intro w hSw; (try dsimp only at hSw); go_simp; first | done | with_reducible rfl)
                      try simp only [Act.put, List.setIfInBounds_toArray, List.set_cons_zero, List.set_cons_succ]
                      refine wpAnyH_take (i := 1) (oi := { dst := some 101, op := _, type := _, pos := _, after := _, guard := _ }) (v := ?_) rfl (by kernel_rfl) (by kernel_rfl) (by kernel_rfl) (fun _ _ _ h => h) (Or.inl ⟨by kernel_rfl, ?_⟩) hH0 ?_
                      rotate_left
                      · (intro w hSw; (try dsimp only at hSw); go_simp; first | done | with_reducible rfl)
                      try simp only [Act.put, List.setIfInBounds_toArray, List.set_cons_zero, List.set_cons_succ]
                      refine wpAnyH_take (i := 2) (oi := { dst := some 102, op := _, type := _, pos := _, after := _, guard := _ }) (v := ?_) rfl (by kernel_rfl) (by kernel_rfl) (by kernel_rfl) (fun _ _ _ h => h) (Or.inl ⟨by kernel_rfl, ?_⟩) hH0 ?_
                      rotate_left
                      · (intro w hSw; (try dsimp only at hSw); go_simp; first | done | with_reducible rfl)
                      try simp only [Act.put, List.setIfInBounds_toArray, List.set_cons_zero, List.set_cons_succ]
                      refine wpAnyH_take (i := 3) (oi := { dst := some 103, op := _, type := _, pos := _, after := _, guard := _ }) (v := ?_) rfl (by kernel_rfl) (by kernel_rfl) (by kernel_rfl) (fun _ _ _ h => h) (Or.inl ⟨by kernel_rfl, ?_⟩) hH0 ?_
                      rotate_left
                      · (intro w hSw; (try dsimp only at hSw); go_simp; first | done | with_reducible rfl)
                      try simp only [Act.put, List.setIfInBounds_toArray, List.set_cons_zero, List.set_cons_succ]
                      refine wpAnyH_take (i := 4) (oi := { dst := some 104, op := _, type := _, pos := _, after := _, guard := _ }) (v := ?_) rfl (by kernel_rfl) (by kernel_rfl) (by kernel_rfl) (fun _ _ _ h => h) (Or.inl ⟨by kernel_rfl, ?_⟩) hH0 ?_
                      rotate_left
                      · (intro w hSw; (try dsimp only at hSw); go_simp; first | done | with_reducible rfl)
                      try simp only [Act.put, List.setIfInBounds_toArray, List.set_cons_zero, List.set_cons_succ]
                      refine wpAnyH_take (i := 5) (oi := { dst := some 105, op := _, type := _, pos := _, after := _, guard := _ }) (v := ?_) rfl (by kernel_rfl) (by kernel_rfl) (by kernel_rfl) (fun _ _ _ h => h) (Or.inl ⟨by kernel_rfl, ?_⟩) hH0 ?_
                      rotate_left
                      · (intro w hSw; (try dsimp only at hSw); go_simp; first | done | with_reducible rfl)
                      try simp only [Act.put, List.setIfInBounds_toArray, List.set_cons_zero, List.set_cons_succ]
                      refine wpAnyH_take (i := 6) (oi := { dst := some 106, op := _, type := _, pos := _, after := _, guard := _ }) (v := ?_) rfl (by kernel_rfl) (by kernel_rfl) (by kernel_rfl) (fun _ _ _ h => h) (Or.inl ⟨by kernel_rfl, ?_⟩) hH0 ?_
                      rotate_left
                      · (intro w hSw; (try dsimp only at hSw); go_simp; first | done | with_reducible rfl)
                      try simp only [Act.put, List.setIfInBounds_toArray, List.set_cons_zero, List.set_cons_succ]
                      refine wpAnyH_take (i := 7) (oi := { dst := some 107, op := _, type := _, pos := _, after := _, guard := _ }) (v := ?_) rfl (by kernel_rfl) (by kernel_rfl) (by kernel_rfl) (fun _ _ _ h => h) (Or.inl ⟨by kernel_rfl, ?_⟩) hH0 ?_
                      rotate_left
                      · (intro w hSw; (try dsimp only at hSw); go_simp; first | done | with_reducible rfl)
                      try simp only [Act.put, List.setIfInBounds_toArray, List.set_cons_zero, List.set_cons_succ]
                      refine wpAnyH_take (i := 8) (oi := { dst := some 108, op := _, type := _, pos := _, after := _, guard := _ }) (v := ?_) rfl (by kernel_rfl) (by kernel_rfl) (by kernel_rfl) (fun _ _ _ h => h) (Or.inl ⟨by kernel_rfl, ?_⟩) hH0 ?_
                      rotate_left
                      · (intro w hSw; (try dsimp only at hSw); go_simp; first | done | with_reducible rfl)
                      try simp only [Act.put, List.setIfInBounds_toArray, List.set_cons_zero, List.set_cons_succ]
                      refine wpAnyH_take (i := 9) (oi := { dst := some 109, op := _, type := _, pos := _, after := _, guard := _ }) (v := ?_) rfl (by kernel_rfl) (by kernel_rfl) (by kernel_rfl) (fun _ _ _ h => h) (Or.inl ⟨by kernel_rfl, ?_⟩) hH0 ?_
                      rotate_left
                      · (intro w hSw; (try dsimp only at hSw); go_simp; first | done | with_reducible rfl)
                      try simp only [Act.put, List.setIfInBounds_toArray, List.set_cons_zero, List.set_cons_succ]
                      refine wpAnyH_take (i := 10) (oi := { dst := some 110, op := _, type := _, pos := _, after := _, guard := _ }) (v := ?_) rfl (by kernel_rfl) (by kernel_rfl) (by kernel_rfl) (fun _ _ _ h => h) (Or.inl ⟨by kernel_rfl, ?_⟩) hH0 ?_
                      rotate_left
                      · (intro w hSw; (try dsimp only at hSw); go_simp; first | done | with_reducible rfl)
                      try simp only [Act.put, List.setIfInBounds_toArray, List.set_cons_zero, List.set_cons_succ]
                      refine wpAnyH_take (i := 11) (oi := { dst := some 111, op := _, type := _, pos := _, after := _, guard := _ }) (v := ?_) rfl (by kernel_rfl) (by kernel_rfl) (by kernel_rfl) (fun _ _ _ h => h) (Or.inl ⟨by kernel_rfl, ?_⟩) hH0 ?_
                      rotate_left
                      · (intro w hSw; (try dsimp only at hSw); go_simp; first | done | with_reducible rfl)
                      try simp only [Act.put, List.setIfInBounds_toArray, List.set_cons_zero, List.set_cons_succ]
                      refine wpAnyH_take (i := 12) (oi := { dst := some 112, op := _, type := _, pos := _, after := _, guard := _ }) (v := ?_) rfl (by kernel_rfl) (by kernel_rfl) (by kernel_rfl) (fun _ _ _ h => h) (Or.inl ⟨by kernel_rfl, ?_⟩) hH0 ?_
                      rotate_left
                      · (intro w hSw; (try dsimp only at hSw); go_simp; first | done | with_reducible rfl)
                      try simp only [Act.put, List.setIfInBounds_toArray, List.set_cons_zero, List.set_cons_succ]
                      refine wpAnyH_take (i := 13) (oi := { dst := some 113, op := _, type := _, pos := _, after := _, guard := _ }) (v := ?_) rfl (by kernel_rfl) (by kernel_rfl) (by kernel_rfl) (fun _ _ _ h => h) (Or.inl ⟨by kernel_rfl, ?_⟩) hH0 ?_
                      rotate_left
                      · (intro w hSw; (try dsimp only at hSw); go_simp; first | done | with_reducible rfl)
                      try simp only [Act.put, List.setIfInBounds_toArray, List.set_cons_zero, List.set_cons_succ]
                      refine wpAnyH_take (i := 14) (oi := { dst := some 114, op := _, type := _, pos := _, after := _, guard := _ }) (v := ?_) rfl (by kernel_rfl) (by kernel_rfl) (by kernel_rfl) (fun _ _ _ h => h) (Or.inl ⟨by kernel_rfl, ?_⟩) hH0 ?_
                      rotate_left
                      · (intro w hSw; (try dsimp only at hSw); go_simp; first | done | with_reducible rfl)
                      try simp only [Act.put, List.setIfInBounds_toArray, List.set_cons_zero, List.set_cons_succ]
                      refine wpAnyH_take (i := 15) (oi := { dst := some 115, op := _, type := _, pos := _, after := _, guard := _ }) (v := ?_) rfl (by kernel_rfl) (by kernel_rfl) (by kernel_rfl) (fun _ _ _ h => h) (Or.inl ⟨by kernel_rfl, ?_⟩) hH0 ?_
                      rotate_left
                      · (intro w hSw; (try dsimp only at hSw); go_simp; first | done | with_reducible rfl)
                      try simp only [Act.put, List.setIfInBounds_toArray, List.set_cons_zero, List.set_cons_succ]
                      refine wpAnyH_take (i := 16) (oi := { dst := some 116, op := _, type := _, pos := _, after := _, guard := _ }) (v := ?_) rfl (by kernel_rfl) (by kernel_rfl) (by kernel_rfl) (fun _ _ _ h => h) (Or.inl ⟨by kernel_rfl, ?_⟩) hH0 ?_
                      rotate_left
                      · (intro w hSw; (try dsimp only at hSw); go_simp; first | done | with_reducible rfl)
                      try simp only [Act.put, List.setIfInBounds_toArray, List.set_cons_zero, List.set_cons_succ]
                      refine wpAnyH_take (i := 17) (oi := { dst := some 117, op := _, type := _, pos := _, after := _, guard := _ }) (v := ?_) rfl (by kernel_rfl) (by kernel_rfl) (by kernel_rfl) (fun _ _ _ h => h) (Or.inl ⟨by kernel_rfl, ?_⟩) hH0 ?_
                      rotate_left
                      · (intro w hSw; (try dsimp only at hSw); go_simp; first | done | with_reducible rfl)
                      try simp only [Act.put, List.setIfInBounds_toArray, List.set_cons_zero, List.set_cons_succ]
                      refine wpAnyH_take (i := 18) (oi := { dst := some 118, op := _, type := _, pos := _, after := _, guard := _ }) (v := ?_) rfl (by kernel_rfl) (by kernel_rfl) (by kernel_rfl) (fun _ _ _ h => h) (Or.inl ⟨by kernel_rfl, ?_⟩) hH0 ?_
                      rotate_left
                      · (intro w hSw; (try dsimp only at hSw); go_simp; first | done | with_reducible rfl)
                      try simp only [Act.put, List.setIfInBounds_toArray, List.set_cons_zero, List.set_cons_succ]
                      refine wpAnyH_take (i := 19) (oi := { dst := some 119, op := _, type := _, pos := _, after := _, guard := _ }) (v := ?_) rfl (by kernel_rfl) (by kernel_rfl) (by kernel_rfl) (fun _ _ _ h => h) (Or.inl ⟨by kernel_rfl, ?_⟩) hH0 ?_
                      rotate_left
                      · (intro w hSw; (try dsimp only at hSw); go_simp; first | done | with_reducible rfl)
                      try simp only [Act.put, List.setIfInBounds_toArray, List.set_cons_zero, List.set_cons_succ]
                      refine wpAnyH_take (i := 20) (oi := { dst := some 120, op := _, type := _, pos := _, after := _, guard := _ }) (v := ?_) rfl (by kernel_rfl) (by kernel_rfl) (by kernel_rfl) (fun _ _ _ h => h) (Or.inl ⟨by kernel_rfl, ?_⟩) hH0 ?_
                      rotate_left
                      · (intro w hSw; (try dsimp only at hSw); go_simp; first | done | with_reducible rfl)
                      try simp only [Act.put, List.setIfInBounds_toArray, List.set_cons_zero, List.set_cons_succ]
                      refine wpAnyH_take (i := 21) (oi := { dst := some 121, op := _, type := _, pos := _, after := _, guard := _ }) (v := ?_) rfl (by kernel_rfl) (by kernel_rfl) (by kernel_rfl) (fun _ _ _ h => h) (Or.inl ⟨by kernel_rfl, ?_⟩) hH0 ?_
                      rotate_left
                      · (intro w hSw; (try dsimp only at hSw); go_simp; first | done | with_reducible rfl)
                      try simp only [Act.put, List.setIfInBounds_toArray, List.set_cons_zero, List.set_cons_succ]
                      refine wpAnyH_take (i := 22) (oi := { dst := some 122, op := _, type := _, pos := _, after := _, guard := _ }) (v := ?_) rfl (by kernel_rfl) (by kernel_rfl) (by kernel_rfl) (fun _ _ _ h => h) (Or.inl ⟨by kernel_rfl, ?_⟩) hH0 ?_
                      rotate_left
                      · (intro w hSw; (try dsimp only at hSw); go_simp; first | done | with_reducible rfl)
                      try simp only [Act.put, List.setIfInBounds_toArray, List.set_cons_zero, List.set_cons_succ]
                      refine wpAnyH_take (i := 23) (oi := { dst := some 123, op := _, type := _, pos := _, after := _, guard := _ }) (v := ?_) rfl (by kernel_rfl) (by kernel_rfl) (by kernel_rfl) (fun _ _ _ h => h) (Or.inl ⟨by kernel_rfl, ?_⟩) hH0 ?_
                      rotate_left
                      · (intro w hSw; (try dsimp only at hSw); go_simp; first | done | with_reducible rfl)
                      try simp only [Act.put, List.setIfInBounds_toArray, List.set_cons_zero, List.set_cons_succ]
                      refine wpAnyH_take (i := 24) (oi := { dst := some 124, op := _, type := _, pos := _, after := _, guard := _ }) (v := ?_) rfl (by kernel_rfl) (by kernel_rfl) (by kernel_rfl) (fun _ _ _ h => h) (Or.inl ⟨by kernel_rfl, ?_⟩) hH0 ?_
                      rotate_left
                      · (intro w hSw; (try dsimp only at hSw); go_simp; first | done | with_reducible rfl)
                      try simp only [Act.put, List.setIfInBounds_toArray, List.set_cons_zero, List.set_cons_succ]
                      refine wpAnyH_take (i := 25) (oi := { dst := some 125, op := _, type := _, pos := _, after := _, guard := _ }) (v := ?_) rfl (by kernel_rfl) (by kernel_rfl) (by kernel_rfl) (fun _ _ _ h => h) (Or.inl ⟨by kernel_rfl, ?_⟩) hH0 ?_
                      rotate_left
                      · (intro w hSw; (try dsimp only at hSw); go_simp; first | done | with_reducible rfl)
                      try simp only [Act.put, List.setIfInBounds_toArray, List.set_cons_zero, List.set_cons_succ]
                      refine wpAnyH_take (i := 26) (oi := { dst := some 126, op := _, type := _, pos := _, after := _, guard := _ }) (v := ?_) rfl (by kernel_rfl) (by kernel_rfl) (by kernel_rfl) (fun _ _ _ h => h) (Or.inl ⟨by kernel_rfl, ?_⟩) hH0 ?_
                      rotate_left
                      · (intro w hSw; (try dsimp only at hSw); go_simp; first | done | with_reducible rfl)
                      try simp only [Act.put, List.setIfInBounds_toArray, List.set_cons_zero, List.set_cons_succ]
                      refine wpAnyH_take (i := 27) (oi := { dst := some 127, op := _, type := _, pos := _, after := _, guard := _ }) (v := ?_) rfl (by kernel_rfl) (by kernel_rfl) (by kernel_rfl) (fun _ _ _ h => h) (Or.inl ⟨by kernel_rfl, ?_⟩) hH0 ?_
                      rotate_left
                      · (intro w hSw; (try dsimp only at hSw); go_simp; first | done | with_reducible rfl)
                      try simp only [Act.put, List.setIfInBounds_toArray, List.set_cons_zero, List.set_cons_succ]
                      refine wpAnyH_take (i := 28) (oi := { dst := some 128, op := _, type := _, pos := _, after := _, guard := _ }) (v := ?_) rfl (by kernel_rfl) (by kernel_rfl) (by kernel_rfl) (fun _ _ _ h => h) (Or.inl ⟨by kernel_rfl, ?_⟩) hH0 ?_
                      rotate_left
                      · (intro w hSw; (try dsimp only at hSw); go_simp; first | done | with_reducible rfl)
                      try simp only [Act.put, List.setIfInBounds_toArray, List.set_cons_zero, List.set_cons_succ]
                      refine wpAnyH_take (i := 29) (oi := { dst := some 129, op := _, type := _, pos := _, after := _, guard := _ }) (v := ?_) rfl (by kernel_rfl) (by kernel_rfl) (by kernel_rfl) (fun _ _ _ h => h) (Or.inl ⟨by kernel_rfl, ?_⟩) hH0 ?_
                      rotate_left
                      · (intro w hSw; (try dsimp only at hSw); go_simp; first | done | with_reducible rfl)
                      try simp only [Act.put, List.setIfInBounds_toArray, List.set_cons_zero, List.set_cons_succ]
                      refine wpAnyH_take (i := 30) (oi := { dst := some 130, op := _, type := _, pos := _, after := _, guard := _ }) (v := ?_) rfl (by kernel_rfl) (by kernel_rfl) (by kernel_rfl) (fun _ _ _ h => h) (Or.inl ⟨by kernel_rfl, ?_⟩) hH0 ?_
                      rotate_left
                      · (intro w hSw; (try dsimp only at hSw); go_simp; first | done | with_reducible rfl)
                      try simp only [Act.put, List.setIfInBounds_toArray, List.set_cons_zero, List.set_cons_succ]
                      refine wpAnyH_take (i := 31) (oi := { dst := some 131, op := _, type := _, pos := _, after := _, guard := _ }) (v := ?_) rfl (by kernel_rfl) (by kernel_rfl) (by kernel_rfl) (fun _ _ _ h => h) (Or.inl ⟨by kernel_rfl, ?_⟩) hH0 ?_
                      rotate_left
                      · (intro w hSw; (try dsimp only at hSw); go_simp; first | done | with_reducible rfl)
                      try simp only [Act.put, List.setIfInBounds_toArray, List.set_cons_zero, List.set_cons_succ]
                      refine wpAnyH_take (i := 32) (oi := { dst := some 132, op := _, type := _, pos := _, after := _, guard := _ }) (v := ?_) rfl (by kernel_rfl) (by kernel_rfl) (by kernel_rfl) (fun _ _ _ h => h) (Or.inl ⟨by kernel_rfl, ?_⟩) hH0 ?_
                      rotate_left
                      · (intro w hSw; (try dsimp only at hSw); go_simp; first | done | with_reducible rfl)
                      try simp only [Act.put, List.setIfInBounds_toArray, List.set_cons_zero, List.set_cons_succ]
                      refine wpAnyH_take (i := 33) (oi := { dst := some 133, op := _, type := _, pos := _, after := _, guard := _ }) (v := ?_) rfl (by kernel_rfl) (by kernel_rfl) (by kernel_rfl) (fun _ _ _ h => h) (Or.inl ⟨by kernel_rfl, ?_⟩) hH0 ?_
                      rotate_left
                      · (intro w hSw; (try dsimp only at hSw); go_simp; first | done | with_reducible rfl)
                      try simp only [Act.put, List.setIfInBounds_toArray, List.set_cons_zero, List.set_cons_succ]
                      refine wpAnyH_take (i := 34) (oi := { dst := some 134, op := _, type := _, pos := _, after := _, guard := _ }) (v := ?_) rfl (by kernel_rfl) (by kernel_rfl) (by kernel_rfl) (fun _ _ _ h => h) (Or.inl ⟨by kernel_rfl, ?_⟩) hH0 ?_
                      rotate_left
                      · (intro w hSw; (try dsimp only at hSw); go_simp; first | done | with_reducible rfl)
                      try simp only [Act.put, List.setIfInBounds_toArray, List.set_cons_zero, List.set_cons_succ]
                      refine wpAnyH_take (i := 35) (oi := { dst := some 135, op := _, type := _, pos := _, after := _, guard := _ }) (v := ?_) rfl (by kernel_rfl) (by kernel_rfl) (by kernel_rfl) (fun _ _ _ h => h) (Or.inl ⟨by kernel_rfl, ?_⟩) hH0 ?_
                      rotate_left
                      · (intro w hSw; (try dsimp only at hSw); go_simp; first | done | with_reducible rfl)
                      try simp only [Act.put, List.setIfInBounds_toArray, List.set_cons_zero, List.set_cons_succ]
                      refine wpAnyH_take (i := 36) (oi := { dst := some 136, op := _, type := _, pos := _, after := _, guard := _ }) (v := ?_) rfl (by kernel_rfl) (by kernel_rfl) (by kernel_rfl) (fun _ _ _ h => h) (Or.inl ⟨by kernel_rfl, ?_⟩) hH0 ?_
                      rotate_left
                      · (intro w hSw; (try dsimp only at hSw); go_simp; first | done | with_reducible rfl)
                      try simp only [Act.put, List.setIfInBounds_toArray, List.set_cons_zero, List.set_cons_succ]
                      refine wpAnyH_take (i := 37) (oi := { dst := some 137, op := _, type := _, pos := _, after := _, guard := _ }) (v := ?_) rfl (by kernel_rfl) (by kernel_rfl) (by kernel_rfl) (fun _ _ _ h => h) (Or.inl ⟨by kernel_rfl, ?_⟩) hH0 ?_
                      rotate_left
                      · (intro w hSw; (try dsimp only at hSw); go_simp; first | done | with_reducible rfl)
                      try simp only [Act.put, List.setIfInBounds_toArray, List.set_cons_zero, List.set_cons_succ]
                      refine wpAnyH_take (i := 38) (oi := { dst := some 138, op := _, type := _, pos := _, after := _, guard := _ }) (v := ?_) rfl (by kernel_rfl) (by kernel_rfl) (by kernel_rfl) (fun _ _ _ h => h) (Or.inl ⟨by kernel_rfl, ?_⟩) hH0 ?_
                      rotate_left
                      · (intro w hSw; (try dsimp only at hSw); go_simp; first | done | with_reducible rfl)
                      try simp only [Act.put, List.setIfInBounds_toArray, List.set_cons_zero, List.set_cons_succ]
                      refine wpAnyH_done (by kernel_rfl) ?_ _
                      have HB5 : Hid (Below w3.heap.size w3 w4.drew) := Lib.hid hH0.1
                      clear hH0 t4 t5
                      obtain ⟨t0, t1, t2, t3, _, _⟩ := HCL.out _ HB5.out
                      have HC4 : Hid (∀ j, j < 4 → (w4.drew.alloc (.cells #[.int .u8 x0, .int .u8 x1, .int .u8 x2, .int .u8 x3] 39)).cell? ⟨w4.drew.heap.size, j, none⟩ = (cellsG [x0, x1, x2, x3])[j]?) := Lib.hid (fun j hj => by
                        rw [cell_of_row _ w4.drew.heap.size j _ _ _ (heap_alloc_new w4.drew _)]
                        rw [← Array.getElem?_toList]; rfl)
                      have HBA : Hid (Below w4.heap.size w4 (w4.drew.alloc (.cells #[.int .u8 x0, .int .u8 x1, .int .u8 x2, .int .u8 x3] 39))) := Lib.hid (below_alloc _ (Below.refl _ w4).drew)
                      have HSA : Hid (w3.heap.size ≤ (w4.drew.alloc (.cells #[.int .u8 x0, .int .u8 x1, .int .u8 x2, .int .u8 x3] 39)).heap.size ∧ w4.heap.size < (w4.drew.alloc (.cells #[.int .u8 x0, .int .u8 x1, .int .u8 x2, .int .u8 x3] 39)).heap.size) := Lib.hid ⟨Nat.le_trans HB5.out.size (Nat.le_of_lt (heap_more _ _)), heap_more w4.drew _⟩
                      go_wp2_with (at_builtin; refine wp_append_g rfl _ _ rfl w3.heap.size _ (ts.take q) rfl (ownG_stays HOG.out HBA.out) w4.drew.heap.size [x0, x1, x2, x3] rfl rfl HC4.out (by rw [List.length_take]; have := HQ64.out.1; omega) HSA.out.1 ?_)
                      intro v7 w7 how7 hk7 hor7 hblk7
                      have HB7 : Hid (Below w3.heap.size w3 w7) := Lib.hid (hk7 w3 (HB5.out.alloc HB5.out.size _))
                      have HOG7 := Lib.hid how7
                      have HOS7 : Hid (OwnS w3.heap.size w7 vs us) := Lib.hid (ownS_other HOS.out (fun k hk => by
                        have hlt := ownS_lt HOS.out k hk
                        rw [hblk7 k (by first | exact Nat.lt_succ_of_lt hlt | exact Nat.lt_trans hlt HSA.out.2) (fun e => HDIS.out k e.symm hk)]
                        exact HBA.out.block k hlt))
                      have HD7 : Hid (∀ k, v7.ownBlock = some k → vs.ownBlock ≠ some k) := Lib.hid (fun k hk hs => by
                        rcases hor7 with h | h
                        · exact HDIS.out k (by rw [← h]; exact hk) hs
                        · have hlt := ownS_lt HOS.out k hs
                          rw [h] at hk
                          have e := Option.some.inj hk
                          have h2 := HSA.out.2
                          omega)
                      clear how7 hk7 hor7 hblk7 t0 t1 t2 t3
                      clear HC4 HBA HSA
                      obtain ⟨_, _, _, _, t4, t5⟩ := HCL.out w7 HB7.out
                      go_upto_region 25 with fail
                      refine wp_region_held_drew (S := fun w' => Below w3.heap.size w3 w' ∧ w'.cell? ⟨gL, q * 6 + 4, none⟩ = some (.int .i64 (p : Int)) ∧ w'.cell? ⟨gL, q * 6 + 5, none⟩ = some (.int .i64 (m : Int))) (by kernel_rfl) (⟨HB7.out.drew, t4, t5⟩) (fun hH0 => ?_)
                      change wpAnyH _ _ _ _ _ 22 #[false, false, false, false, false, false, false, false, false, false, false, false, false, false, false, false, false, false, false, false, false, false] _ _
                      refine wpAnyH_take (i := 0) (oi := { dst := some 147, op := _, type := _, pos := _, after := _, guard := _ }) (v := ?_) rfl (by kernel_rfl) (by kernel_rfl) (by kernel_rfl) (fun _ _ _ h => h) (Or.inl ⟨by kernel_rfl, ?_⟩) hH0 ?_
                      rotate_left
                      · (intro w hSw; (try dsimp only at hSw); go_simp; first | done | with_reducible rfl)
                      try simp only [Act.put, List.setIfInBounds_toArray, List.set_cons_zero, List.set_cons_succ]
                      refine wpAnyH_take (i := 1) (oi := { dst := some 148, op := _, type := _, pos := _, after := _, guard := _ }) (v := ?_) rfl (by kernel_rfl) (by kernel_rfl) (by kernel_rfl) (fun _ _ _ h => h) (Or.inl ⟨by kernel_rfl, ?_⟩) hH0 ?_
                      rotate_left
                      · (intro w hSw; (try dsimp only at hSw); go_simp; first | done | with_reducible rfl)
                      try simp only [Act.put, List.setIfInBounds_toArray, List.set_cons_zero, List.set_cons_succ]
                      refine wpAnyH_take (i := 2) (oi := { dst := some 149, op := _, type := _, pos := _, after := _, guard := _ }) (v := ?_) rfl (by kernel_rfl) (by kernel_rfl) (by kernel_rfl) (fun _ _ _ h => h) (Or.inl ⟨by kernel_rfl, ?_⟩) hH0 ?_
                      rotate_left
                      · (intro w hSw; (try dsimp only at hSw); go_simp; first | done | with_reducible rfl)
                      try simp only [Act.put, List.setIfInBounds_toArray, List.set_cons_zero, List.set_cons_succ]
                      refine wpAnyH_take (i := 3) (oi := { dst := some 150, op := _, type := _, pos := _, after := _, guard := _ }) (v := ?_) rfl (by kernel_rfl) (by kernel_rfl) (by kernel_rfl) (fun _ _ _ h => h) (Or.inl ⟨by kernel_rfl, ?_⟩) hH0 ?_
                      rotate_left
                      · (intro w hSw; (try dsimp only at hSw); go_simp; first | done | with_reducible rfl)
                      try simp only [Act.put, List.setIfInBounds_toArray, List.set_cons_zero, List.set_cons_succ]
                      refine wpAnyH_take (i := 4) (oi := { dst := some 151, op := _, type := _, pos := _, after := _, guard := _ }) (v := ?_) rfl (by kernel_rfl) (by kernel_rfl) (by kernel_rfl) (fun _ _ _ h => h) (Or.inl ⟨by kernel_rfl, ?_⟩) hH0 ?_
                      rotate_left
                      · (intro w hSw; (try dsimp only at hSw); go_simp; first | done | with_reducible rfl)
                      try simp only [Act.put, List.setIfInBounds_toArray, List.set_cons_zero, List.set_cons_succ]
                      refine wpAnyH_take (i := 5) (oi := { dst := some 152, op := _, type := _, pos := _, after := _, guard := _ }) (v := ?_) rfl (by kernel_rfl) (by kernel_rfl) (by kernel_rfl) (fun _ _ _ h => h) (Or.inl ⟨by kernel_rfl, ?_⟩) hH0 ?_
                      rotate_left
                      · (intro w hSw; (try dsimp only at hSw); go_simp; first | done | with_reducible rfl)
                      try simp only [Act.put, List.setIfInBounds_toArray, List.set_cons_zero, List.set_cons_succ]
                      refine wpAnyH_take (i := 6) (oi := { dst := some 153, op := _, type := _, pos := _, after := _, guard := _ }) (v := ?_) rfl (by kernel_rfl) (by kernel_rfl) (by kernel_rfl) (fun _ _ _ h => h) (Or.inl ⟨by kernel_rfl, ?_⟩) hH0 ?_
                      rotate_left
                      · (intro w hSw; (try dsimp only at hSw); go_simp; first | done | with_reducible rfl)
                      try simp only [Act.put, List.setIfInBounds_toArray, List.set_cons_zero, List.set_cons_succ]
                      refine wpAnyH_take (i := 7) (oi := { dst := some 154, op := _, type := _, pos := _, after := _, guard := _ }) (v := ?_) rfl (by kernel_rfl) (by kernel_rfl) (by kernel_rfl) (fun _ _ _ h => h) (Or.inl ⟨by kernel_rfl, ?_⟩) hH0 ?_
                      rotate_left
                      · (intro w hSw; (try dsimp only at hSw); go_simp; first | done | with_reducible rfl)
                      try simp only [Act.put, List.setIfInBounds_toArray, List.set_cons_zero, List.set_cons_succ]
                      refine wpAnyH_take (i := 8) (oi := { dst := some 155, op := _, type := _, pos := _, after := _, guard := _ }) (v := ?_) rfl (by kernel_rfl) (by kernel_rfl) (by kernel_rfl) (fun _ _ _ h => h) (Or.inl ⟨by kernel_rfl, ?_⟩) hH0 ?_
                      rotate_left
                      · (intro w hSw; (try dsimp only at hSw); go_simp; first | done | with_reducible rfl)
                      try simp only [Act.put, List.setIfInBounds_toArray, List.set_cons_zero, List.set_cons_succ]
                      refine wpAnyH_take (i := 9) (oi := { dst := some 156, op := _, type := _, pos := _, after := _, guard := _ }) (v := ?_) rfl (by kernel_rfl) (by kernel_rfl) (by kernel_rfl) (fun _ _ _ h => h) (Or.inl ⟨by kernel_rfl, ?_⟩) hH0 ?_
                      rotate_left
                      · (intro w hSw; (try dsimp only at hSw); go_simp; first | done | with_reducible rfl)
                      try simp only [Act.put, List.setIfInBounds_toArray, List.set_cons_zero, List.set_cons_succ]
                      refine wpAnyH_take (i := 10) (oi := { dst := some 157, op := _, type := _, pos := _, after := _, guard := _ }) (v := ?_) rfl (by kernel_rfl) (by kernel_rfl) (by kernel_rfl) (fun _ _ _ h => h) (Or.inl ⟨by kernel_rfl, ?_⟩) hH0 ?_
                      rotate_left
                      · (intro w hSw; (try dsimp only at hSw); go_simp; first | done | with_reducible rfl)
                      try simp only [Act.put, List.setIfInBounds_toArray, List.set_cons_zero, List.set_cons_succ]
                      refine wpAnyH_take (i := 11) (oi := { dst := some 158, op := _, type := _, pos := _, after := _, guard := _ }) (v := ?_) rfl (by kernel_rfl) (by kernel_rfl) (by kernel_rfl) (fun _ _ _ h => h) (Or.inl ⟨by kernel_rfl, ?_⟩) hH0 ?_
                      rotate_left
                      · (intro w hSw; (try dsimp only at hSw); go_simp; first | done | with_reducible rfl)
                      try simp only [Act.put, List.setIfInBounds_toArray, List.set_cons_zero, List.set_cons_succ]
                      refine wpAnyH_take (i := 12) (oi := { dst := some 159, op := _, type := _, pos := _, after := _, guard := _ }) (v := ?_) rfl (by kernel_rfl) (by kernel_rfl) (by kernel_rfl) (fun _ _ _ h => h) (Or.inl ⟨by kernel_rfl, ?_⟩) hH0 ?_
                      rotate_left
                      · (intro w hSw; (try dsimp only at hSw); go_simp; first | done | with_reducible rfl)
                      try simp only [Act.put, List.setIfInBounds_toArray, List.set_cons_zero, List.set_cons_succ]
                      refine wpAnyH_take (i := 13) (oi := { dst := some 160, op := _, type := _, pos := _, after := _, guard := _ }) (v := ?_) rfl (by kernel_rfl) (by kernel_rfl) (by kernel_rfl) (fun _ _ _ h => h) (Or.inl ⟨by kernel_rfl, ?_⟩) hH0 ?_
                      rotate_left
                      · (intro w hSw; (try dsimp only at hSw); go_simp; first | done | with_reducible rfl)
                      try simp only [Act.put, List.setIfInBounds_toArray, List.set_cons_zero, List.set_cons_succ]
                      refine wpAnyH_take (i := 14) (oi := { dst := some 161, op := _, type := _, pos := _, after := _, guard := _ }) (v := ?_) rfl (by kernel_rfl) (by kernel_rfl) (by kernel_rfl) (fun _ _ _ h => h) (Or.inl ⟨by kernel_rfl, ?_⟩) hH0 ?_
                      rotate_left
                      · (intro w hSw; (try dsimp only at hSw); go_simp; first | done | with_reducible rfl)
                      try simp only [Act.put, List.setIfInBounds_toArray, List.set_cons_zero, List.set_cons_succ]
                      refine wpAnyH_take (i := 15) (oi := { dst := some 162, op := _, type := _, pos := _, after := _, guard := _ }) (v := ?_) rfl (by kernel_rfl) (by kernel_rfl) (by kernel_rfl) (fun _ _ _ h => h) (Or.inl ⟨by kernel_rfl, ?_⟩) hH0 ?_
                      rotate_left
                      · (intro w hSw; (try dsimp only at hSw); go_simp; first | done | with_reducible rfl)
                      try simp only [Act.put, List.setIfInBounds_toArray, List.set_cons_zero, List.set_cons_succ]
                      refine wpAnyH_take (i := 16) (oi := { dst := some 163, op := _, type := _, pos := _, after := _, guard := _ }) (v := ?_) rfl (by kernel_rfl) (by kernel_rfl) (by kernel_rfl) (fun _ _ _ h => h) (Or.inl ⟨by kernel_rfl, ?_⟩) hH0 ?_
                      rotate_left
                      · (intro w hSw; (try dsimp only at hSw); go_simp; first | done | with_reducible rfl)
                      try simp only [Act.put, List.setIfInBounds_toArray, List.set_cons_zero, List.set_cons_succ]
                      refine wpAnyH_take (i := 17) (oi := { dst := some 164, op := _, type := _, pos := _, after := _, guard := _ }) (v := ?_) rfl (by kernel_rfl) (by kernel_rfl) (by kernel_rfl) (fun _ _ _ h => h) (Or.inl ⟨by kernel_rfl, ?_⟩) hH0 ?_
                      rotate_left
                      · (intro w hSw; (try dsimp only at hSw); go_simp; first | done | with_reducible rfl)
                      try simp only [Act.put, List.setIfInBounds_toArray, List.set_cons_zero, List.set_cons_succ]
                      refine wpAnyH_take (i := 18) (oi := { dst := some 165, op := _, type := _, pos := _, after := _, guard := _ }) (v := ?_) rfl (by kernel_rfl) (by kernel_rfl) (by kernel_rfl) (fun _ _ _ h => h) (Or.inl ⟨by kernel_rfl, ?_⟩) hH0 ?_
                      rotate_left
                      · (intro w hSw; (try dsimp only at hSw); go_simp; first | done | with_reducible rfl)
                      try simp only [Act.put, List.setIfInBounds_toArray, List.set_cons_zero, List.set_cons_succ]
                      refine wpAnyH_ready (rs := [19]) (by kernel_rfl) (by simp) ?_
                      refine AllReadyH.cons (o := { dst := some 166, op := _, type := _, pos := _, after := _, guard := _ }) rfl (fun K hK => ?_) ?_
                      · rw [if_pos (by kernel_rfl)]
                        go_simp
                        refine hK.out _ _ (⟨hH0.1.alloc hH0.1.size _, cells_alloc _ hH0.2.1, cells_alloc _ hH0.2.2⟩) (fun hH1 => ?_)
                        clear hK K
                        try simp only [List.setIfInBounds_toArray, List.set_cons_zero, List.set_cons_succ]
                        refine wpAnyH_ready (rs := [20]) (by kernel_rfl) (by simp) ?_
                        refine AllReadyH.cons (o := { dst := some 167, op := _, type := _, pos := _, after := _, guard := _ }) rfl (fun K hK => ?_) ?_
                        · have HBA : Hid (Below w7.heap.size w7 (w7.drew.alloc (.cells #[.slice AV m cV] 22))) := Lib.hid (below_alloc _ (Below.refl _ w7).drew)
                          have HSA : Hid (w3.heap.size ≤ (w7.drew.alloc (.cells #[.slice AV m cV] 22)).heap.size ∧ w7.heap.size < (w7.drew.alloc (.cells #[.slice AV m cV] 22)).heap.size) := Lib.hid ⟨hH1.1.size, heap_more w7.drew _⟩
                          have HVC : Hid ((w7.drew.alloc (.cells #[.slice AV m cV] 22)).cell? ⟨w7.drew.heap.size, 0, none⟩ = some (.slice AV m cV)) := Lib.hid (by rw [cell_of_row _ w7.drew.heap.size 0 _ _ _ (heap_alloc_new w7.drew _)]; rfl)
                          refine step_append_s rfl (.tmp 147) (.tmp 166) rfl w3.heap.size _ us rfl (ownS_stays HOS7.out HBA.out) w7.drew.heap.size (.slice AV m cV) HVS.out rfl HVC.out (by have := HQ64.out; omega) HSA.out.1 ?_
                          intro v8 w8 how8 hk8 hor9 hblk8
                          have hor8 : v8.ownBlock = vs.ownBlock ∨ v8.ownBlock = some (w7.drew.alloc (.cells #[.slice AV m cV] 22)).heap.size := hor9
                          clear hor9
                          have HB8 : Hid (Below w3.heap.size w3 w8) := Lib.hid (hk8 w3 hH1.1)
                          refine hK.out _ _ (⟨HB8.out, (HCL.out w8 HB8.out).2.2.2.2.1, (HCL.out w8 HB8.out).2.2.2.2.2⟩) (fun hH2 => ?_)
                          clear hK K
                          try simp only [List.setIfInBounds_toArray, List.set_cons_zero, List.set_cons_succ]
                          refine wpAnyH_take (i := 21) (oi := { dst := some 12, op := _, type := _, pos := _, after := _, guard := _ }) (v := ?_) rfl (by kernel_rfl) (by kernel_rfl) (by kernel_rfl) (fun _ _ _ h => h) (Or.inl ⟨by kernel_rfl, ?_⟩) hH2 ?_
                          rotate_left
                          · (intro w hSw; (try dsimp only at hSw); go_simp; first | done | with_reducible rfl)
                          try simp only [Act.put, List.setIfInBounds_toArray, List.set_cons_zero, List.set_cons_succ]
                          refine wpAnyH_done (by kernel_rfl) ?_ _
                          have HOG8 : Hid (OwnG w3.heap.size w8 v7 (ts.take q1)) := Lib.hid (by
                            rw [HTK.out]
                            exact ownG_other HOG7.out (fun k hk => by
                              have hlt := ownG_lt HOG7.out k hk
                              rw [hblk8 k (by first | exact Nat.lt_succ_of_lt hlt | exact Nat.lt_trans hlt HSA.out.2) (fun e => HD7.out k hk e.symm)]
                              exact HBA.out.block k hlt))
                          have HD8 : Hid (∀ k, v7.ownBlock = some k → v8.ownBlock ≠ some k) := Lib.hid (fun k hk hs => by
                            rcases hor8 with h | h
                            · exact HD7.out k hk (by rw [← h]; exact hs)
                            · have hlt := ownG_lt HOG7.out k hk
                              rw [h] at hs
                              have e := Option.some.inj hs
                              have h2 := HSA.out.2
                              omega)
                          have HOS8 := Lib.hid how8
                          clear hH2 how8 hk8 hor8 hblk8 t4 t5 HBA HSA HVC
                          go_wp2_with fail
                          go_roundg (gk - 1)
                          case measure => have := HQK.out; have := HQN.out; omega
                          case rel => exact ⟨v7, v8, q1, us ++ [.slice AV m cV], rfl, rfl, by have := HQK.out; have := HQN.out; have := HQ1.out; omega, rfl, HUS1.out, HOG8.out, HOS8.out, HD8.out, HB8.out⟩
                        exact AllReadyH.nil
                      exact AllReadyH.nil
                · have bj : ((j : Int) < (N : Int)) = True := eq_true (by omega)
                  have HJN := Lib.hid hj
                  have j0 : (0 : Int) ≤ (j : Int) := Int.natCast_nonneg _
                  have jN : (j : Int) < (N : Int) := by omega
                  have jM : (j : Int) < (M : Int) := by have := HMN.out; omega
                  have htl : j < ts.length := by have := HN.out; omega
                  obtain ⟨j1, hj1⟩ : ∃ j1, j1 = j + 1 := ⟨_, rfl⟩
                  have HJ1 := Lib.hid hj1
                  have q1 : IntKind.i64.wrap ((j : Int) + 1) = (j1 : Int) := by rw [IntKind.wrap_i64]; have := HN.out; have := HJD.out.same.2; omega
                  have hbw := HBW2.out
                  obtain ⟨A2, c2, e2, _, _, _, hcs⟩ := HVT.out.below hbw
                  injection e2 with e3 e4 e5
                  subst e3
                  clear e4 e5
                  obtain ⟨gT, oT, e7, _, hcu⟩ := hcs (by rintro rfl; simp at htl)
                  clear hcs
                  subst e7
                  have t0 := hcu j 0 htl (by decide)
                  have t1 := hcu j 1 htl (by decide)
                  have t2 := hcu j 2 htl (by decide)
                  have t3 := hcu j 3 htl (by decide)
                  rw [Nat.add_zero] at t0
                  have h4j := H4.out _ (List.getElem_mem htl)
                  have hfo := four_of h4j.1
                  have htd : ts.getD j [] = ts[j] := by rw [List.getD_eq_getElem?_getD, List.getElem?_eq_getElem htl]; rfl
                  obtain ⟨x0, hx0⟩ : ∃ x, x = ts[j].getD 0 0 := ⟨_, rfl⟩
                  obtain ⟨x1, hx1⟩ : ∃ x, x = ts[j].getD 1 0 := ⟨_, rfl⟩
                  obtain ⟨x2, hx2⟩ : ∃ x, x = ts[j].getD 2 0 := ⟨_, rfl⟩
                  obtain ⟨x3, hx3⟩ : ∃ x, x = ts[j].getD 3 0 := ⟨_, rfl⟩
                  rw [← hx0, ← hx1, ← hx2, ← hx3] at hfo
                  rw [← hx0] at t0
                  rw [← hx1] at t1
                  rw [← hx2] at t2
                  rw [← hx3] at t3
                  have hxb : AllB [x0, x1, x2, x3] := by rw [← hfo]; exact h4j.2
                  have heq0 : ∀ W, (binOp BinOp.eql 39 (.agg #[.int .u8 x0, .int .u8 x1, .int .u8 x2, .int .u8 x3]) (.agg #[.int .u8 104, .int .u8 101, .int .u8 97, .int .u8 100])).run Try.prog W = .ok (.bool (decide ([x0, x1, x2, x3] = headT))) W := fun W => eq_tags W [x0, x1, x2, x3] headT hxb headT_b rfl rfl
                  by_cases hh : [x0, x1, x2, x3] = headT
                  · have heq : ∀ W, (binOp BinOp.eql 39 (.agg #[.int .u8 x0, .int .u8 x1, .int .u8 x2, .int .u8 x3]) (.agg #[.int .u8 104, .int .u8 101, .int .u8 97, .int .u8 100])).run Try.prog W = .ok (.bool true) W := fun W => by rw [heq0, decide_eq_true hh]
                    have htj : ts.getD j [] = headT := by rw [htd, hfo, hh]
                    have hil : j < bs.length := by have := HM.out; omega
                    obtain ⟨A2, c2, e2, _, _, _, hcs⟩ := HVB.out.below hbw
                    injection e2 with e3 e4 e5
                    subst e3
                    clear e4 e5
                    obtain ⟨gB, oB, e7, _, hcq⟩ := hcs (by rintro rfl; simp at hil)
                    clear hcs
                    subst e7
                    obtain ⟨vb, hcell, hnum, _⟩ := hcq j hil
                    obtain ⟨A3, c3, rfl, _, _, _⟩ := hnum
                    obtain ⟨L, hL⟩ : ∃ L, L = (bs[j]).length := ⟨_, rfl⟩
                    rw [← hL] at hcell
                    have hgd : (bs.getD j []).length = L := by rw [hL, List.getD_eq_getElem?_getD, List.getElem?_eq_getElem hil]; rfl
                    by_cases h12 : 12 ≤ L
                    · have b12 : ((12 : Int) ≤ (L : Int)) = True := eq_true (by omega)
                      have hsum := HJD.out.sum j htl htj (by rw [hgd]; exact h12)
                      have HS2 : Hid (Calls Try.prog 21 #[.slice AR EL cR] w2 fun e w' => e = .returned (.int .u32 2981146554) ∧ Below w2.heap.size w2 w') := Lib.hid (by have h := HSUM.out w2 hb2; rw [hsum] at h; exact h)
                      clear hj hjk hb2 hj1 hbw hcu h4j hfo htd hx0 hx1 hx2 hx3 hxb heq0 hh htl htj hcq hL hgd h12 hsum
                      go_wp2_with fail
                      refine wp_head rfl ?_
                      try simp only [Act.put, List.setIfInBounds_toArray, List.set_cons_zero, List.set_cons_succ]
                      go_wp2_with fail
                      refine (HS2.out).mono ?_
                      rintro e w3 ⟨rfl, hb3⟩
                      have HB3 := Lib.hid (HB2.out.trans (hb3.mono HB2.out.size))
                      clear hb3
                      go_wp2_with fail
                      go_roundg (gk - 1)
                      case measure => have := HJK.out; have := HJN.out; omega
                      case rel => exact ⟨j1, by have := HJK.out; have := HJN.out; have := HJ1.out; omega, rfl, HB3.out⟩
                    · have b12 : ((12 : Int) ≤ (L : Int)) = False := eq_false (by omega)
                      clear hj hjk hb2 hj1 hbw hcu h4j hfo htd hx0 hx1 hx2 hx3 hxb heq0 hh htl htj hcq hL hgd h12
                      go_wp2_with fail
                      refine wp_head rfl ?_
                      try simp only [Act.put, List.setIfInBounds_toArray, List.set_cons_zero, List.set_cons_succ]
                      go_wp2_with fail
                      go_roundg (gk - 1)
                      case measure => have := HJK.out; have := HJN.out; omega
                      case rel => exact ⟨j1, by have := HJK.out; have := HJN.out; have := HJ1.out; omega, rfl, HB2.out⟩
                  · have heq : ∀ W, (binOp BinOp.eql 39 (.agg #[.int .u8 x0, .int .u8 x1, .int .u8 x2, .int .u8 x3]) (.agg #[.int .u8 104, .int .u8 101, .int .u8 97, .int .u8 100])).run Try.prog W = .ok (.bool false) W := fun W => by rw [heq0, decide_eq_false hh]
                    clear hj hjk hb2 hj1 hbw hcu h4j hfo htd hx0 hx1 hx2 hx3 hxb heq0 hh htl
                    go_wp2_with fail
                    go_roundg (gk - 1)
                    case measure => have := HJK.out; have := HJN.out; omega
                    case rel => exact ⟨j1, by have := HJK.out; have := HJN.out; have := HJ1.out; omega, rfl, HB2.out⟩
            · have bee : (er != 0) = true := by simp [he]
              have hE := HER.out he
              subst hE
              obtain ⟨AR, cR, hr, _, _, _⟩ := hnz
              simp only [List.length_nil] at hr
              subst hr
              clear he
              go_wp2_with fail
              refine (HW.out _).mono ?_
              rintro e wz ⟨rfl, hbz⟩
              have HBX := Lib.hid (HB1.out.trans (hbz.mono HB1.out.size))
              clear hbz
              go_wp2_with fail
              go_ret
              exact ⟨rfl, HBX.out⟩
    · have bi : ((i : Int) < (M : Int)) = True := eq_true (by omega)
      by_cases h70 : i ≤ 70
      · have b70 : ((i : Int) ≤ 70) = True := eq_true (by omega)
        by_cases h5 : s ≤ 5000
        · have b5 : ((s : Int) ≤ 5000) = True := eq_true (by omega)
          have i0 : (0 : Int) ≤ (i : Int) := Int.natCast_nonneg _
          have iM : (i : Int) < (M : Int) := by omega
          have hil : i < bs.length := by have := HM.out; omega
          obtain ⟨A2, c2, e2, _, _, _, hcs⟩ := HVB.out.below hb
          injection e2 with e3 e4 e5
          subst e3
          clear e4 e5
          obtain ⟨gB, oB, e7, _, hcq⟩ := hcs (by rintro rfl; simp at hil)
          clear hcs
          subst e7
          obtain ⟨vb, hcell, hnum, _⟩ := hcq i hil
          obtain ⟨A3, c3, rfl, _, _, _⟩ := hnum
          obtain ⟨L, hL⟩ : ∃ L, L = (bs[i]).length := ⟨_, rfl⟩
          rw [← hL] at hcell
          have hgd : (bs.getD i []).length = L := by rw [hL, List.getD_eq_getElem?_getD, List.getElem?_eq_getElem hil]; rfl
          have hLb : L ≤ 140737488355328 := by rw [hL]; exact HSZ.out _ (List.getElem_mem hil)
          obtain ⟨s1, hs1⟩ : ∃ s1, s1 = s + L := ⟨_, rfl⟩
          obtain ⟨i1, hi1⟩ : ∃ i1, i1 = i + 1 := ⟨_, rfl⟩
          have q1 : IntKind.i64.wrap ((s : Int) + (L : Int)) = (s1 : Int) := by rw [IntKind.wrap_i64]; omega
          have q2 : IntKind.i64.wrap ((i : Int) + 1) = (i1 : Int) := by rw [IntKind.wrap_i64]; omega
          have HNX : Hid (s1 = sumLen bs i1) := Lib.hid (by rw [hs1, hi1, hs, ← hgd]; rfl)
          have HI1 := Lib.hid hi1
          have HIN := Lib.hid hi
          clear hik hs hi hb h70 h5 hcq hL hgd hLb hs1 hi1
          go_wp2_with fail
          go_roundg (gk - 1)
          case measure => have := HIK.out; have := HIN.out; omega
          case rel => exact ⟨i1, by have := HIK.out; have := HIN.out; have := HI1.out; omega, by rw [← HNX.out], rfl, HB.out⟩
        · have b5 : ((s : Int) ≤ 5000) = False := eq_false (by omega)
          have bn : (5000 < (s : Int)) = True := eq_true (by omega)
          by_cases ht : 70 < N
          · have bt : (70 < (N : Int)) = True := eq_true (by omega)
            clear ht hik hs hi hb h70 h5
            go_wp2_with fail
            refine (HW.out _).mono ?_
            rintro e wz ⟨rfl, hbz⟩
            have HBX := Lib.hid (HB.out.trans (hbz.mono HB.out.size))
            clear hbz
            go_wp2_with fail
            go_ret
            exact ⟨rfl, HBX.out⟩
          · have bt : (70 < (N : Int)) = False := eq_false (by omega)
            by_cases hb7 : 70 < M
            · have bb : (70 < (M : Int)) = True := eq_true (by omega)
              clear ht hb7 hik hs hi hb h70 h5
              go_wp2_with fail
              refine (HW.out _).mono ?_
              rintro e wz ⟨rfl, hbz⟩
              have HBX := Lib.hid (HB.out.trans (hbz.mono HB.out.size))
              clear hbz
              go_wp2_with fail
              go_ret
              exact ⟨rfl, HBX.out⟩
            · have bb : (70 < (M : Int)) = False := eq_false (by omega)
              clear ht hb7 hik hs hi hb h70 h5
              go_wp2_with fail
              refine (HW.out _).mono ?_
              rintro e wz ⟨rfl, hbz⟩
              have HBX := Lib.hid (HB.out.trans (hbz.mono HB.out.size))
              clear hbz
              go_wp2_with fail
              go_ret
              exact ⟨rfl, HBX.out⟩
      · have b70 : ((i : Int) ≤ 70) = False := eq_false (by omega)
        have bb : (70 < (M : Int)) = True := eq_true (by omega)
        by_cases ht : 70 < N
        · have bt : (70 < (N : Int)) = True := eq_true (by omega)
          clear ht hik hs hi hb h70
          go_wp2_with fail
          refine (HW.out _).mono ?_
          rintro e wz ⟨rfl, hbz⟩
          have HBX := Lib.hid (HB.out.trans (hbz.mono HB.out.size))
          clear hbz
          go_wp2_with fail
          go_ret
          exact ⟨rfl, HBX.out⟩
        · have bt : (70 < (N : Int)) = False := eq_false (by omega)
          clear ht hik hs hi hb h70
          go_wp2_with fail
          refine (HW.out _).mono ?_
          rintro e wz ⟨rfl, hbz⟩
          have HBX := Lib.hid (HB.out.trans (hbz.mono HB.out.size))
          clear hbz
          go_wp2_with fail
          go_ret
          exact ⟨rfl, HBX.out⟩
end Go.Proofs.Ytlpnikolnohcaaa
