/-
  gsub: more subtables, walked.
-/
import Derived.Test.YtgjlpiljacecpaaHB
namespace Go.Proofs.Ytgjlpiljacecpaa
open Go Go.RowKit
set_option linter.unusedVariables false
set_option maxRecDepth 100000
set_option maxHeartbeats 4000000
def gLigature (N : Nat) (zg : Int) (zl : Int) (zn : Int) (zb : List Int) (zq : Bool) (p1 : Int) (p2 : Int) : Option (Pan (List Int × Int × Int × Bool) (Int × Int × Bool)) :=
 ((gSize N zg zl zn zb zq (IntKind.i64.wrap (p1 + 2))).bind fun | Pan.ok (x10, b9) => ((gCount N zg zl zn zb b9 (IntKind.i64.wrap (x10 + 1))).bind fun | Pan.ok x18 => ((gWords N zg zl x18 zb b9 p1 (1 : Int)).bind fun | Pan.ok (l27, b26) => ((gRight N zg zl x18 zb b26 l27).bind fun | Pan.ok _ => ((gWords N zg zl x18 zb b26 (IntKind.i64.wrap (p1 + 4)) (IntKind.i64.wrap (x10 - 1))).bind fun | Pan.ok (l41, b40) => ((gRight N zg zl x18 zb b40 l41).bind fun | Pan.ok _ => ((ix l27 (0 : Int)).bind fun x56 => ((apx ([p2]) l41).bind fun l60 => some (Pan.ok (l60, x56, x18, b40)))) | Pan.gone x69 => some (Pan.gone (x69, x18, b40))) | Pan.gone (x76, b77) => some (Pan.gone (x76, x18, b77))) | Pan.gone x84 => some (Pan.gone (x84, x18, b26))) | Pan.gone (x91, b92) => some (Pan.gone (x91, x18, b92))) | Pan.gone (x99, x100) => some (Pan.gone (x99, x100, b9))) | Pan.gone (x107, b108) => some (Pan.gone (x107, zn, b108)))
def gLigature_R (zg : Int) (zl : Int) (zn : Int) (zb : List Int) (zq : Bool) (p1 : Int) (p2 : Int) (g0 : Nat) (zr : Nat) (zA : Option Addr) (zc : Nat) (zs : Nat) (r : List Int × Int × Int × Bool) (w0 : World) (v : Value) (w : World) : Prop := ∃ (A0_0' : Option Addr) (c0_0' : Nat), v = .agg #[.slice A0_0' r.1.length c0_0', .int .u16 r.2.1] ∧ St (foots [eW g0 zr zg zl zn, eR zr zs zA zb zc, eS zs zq]) w0 w [eW g0 zr zg zl r.2.2.1, eR zr zs zA zb zc, eS zs r.2.2.2, rowE .u16 31 A0_0' c0_0' r.1]
def gLigature_X (zg : Int) (zl : Int) (zn : Int) (zb : List Int) (zq : Bool) (p1 : Int) (p2 : Int) (g0 : Nat) (zr : Nat) (zA : Option Addr) (zc : Nat) (zs : Nat) (g : Int × Int × Bool) (w0 : World) (c : List PanicEntry) (w : World) : Prop := c = goneB 113 g.1 ∧ St (foots [eW g0 zr zg zl zn, eR zr zs zA zb zc, eS zs zq]) w0 w [eW g0 zr zg zl g.2.1, eR zr zs zA zb zc, eS zs g.2.2]
theorem gLigature_ok (N : Nat) (zg : Int) (zl : Int) (zn : Int) (zb : List Int) (zq : Bool) (p1 : Int) (p2 : Int) (g0 : Nat) (zr : Nat) (zA : Option Addr) (zc : Nat) (zs : Nat) (r : Pan (List Int × Int × Int × Bool) (Int × Int × Bool)) (hF : gLigature N zg zl zn zb zq p1 p2 = some r) (w0 : World) (hv0_0 : Vw (foots [eW g0 zr zg zl zn, eR zr zs zA zb zc, eS zs zq]) .u8 w0 zA zc zb) (hl : St (foots [eW g0 zr zg zl zn, eR zr zs zA zb zc, eS zs zq]) w0 w0 [eW g0 zr zg zl zn, eR zr zs zA zb zc, eS zs zq]) :
  Calls Try.prog 111 #[.pointer (some ⟨g0, 0, none⟩), .int .i64 p1, .int .u16 p2] w0 fun e w => (∃ r', r = .ok r' ∧ ∃ v, e = .returned v ∧ gLigature_R zg zl zn zb zq p1 p2 g0 zr zA zc zs r' w0 v w) ∨ (∃ g, r = .gone g ∧ ∃ c, e = .panicked c ∧ gLigature_X zg zl zn zb zq p1 p2 g0 zr zA zc zs g w0 c w) := by
 have hS0 := hl
 unfold gLigature at hF
 refine calls_of Try.func111 rfl ⟨((vP g0) :: (i6 p1) :: (u6 p2) :: un 36 ([])).toArray, []⟩ (by kernel_rfl) (gx_seq (fun K1 hK2 => gx_region (gx_r (st_boxed [nS, u6 0] 62 hS0 (by kernel_rfl)) ?_)))
 rintro _ w3 ⟨rfl, hS4⟩
 have hS4 : St _ _ w3 [eW g0 zr zg zl zn, eR zr zs zA zb zc, eS zs zq, boxE w0.heap.size [nS, u6 0] 62] := hS4
 refine gx_nil (gx_thenN (hK2 _ _ (gx_seq (fun K5 hK6 => gx_region (gx_k (vP g0) w3 (gx_k (i6 p1) w3 (gx_k (i6 (iw (p1 + 2))) w3 ?_)))))))
 have hP7 : St _ _ w3 ([eW g0 zr zg zl zn, eR zr zs zA zb zc, eS zs zq] ++ [boxE w0.heap.size [nS, u6 0] 62]) := hS4
 obtain ⟨rq114, hc8, hF⟩ := bind_in hF
 rcases rq114 with q0 | q0
 obtain ⟨x10, b9⟩ := q0
 try dsimp only at hF
 refine gx_c _ (pan_ok (gSize_ok N zg zl zn zb zq (iw (p1 + 2)) g0 zr zA zc zs _ hc8 w3 (hP7.vwA hv0_0) hP7.part) :) ?_
 rintro _ w11 ⟨rfl, hT13⟩
 have hS12 : St _ _ w11 [boxE w0.heap.size [nS, u6 0] 62, eW g0 zr zg zl zn, eR zr zs zA zb zc, eS zs b9] := hP7.lendN _ hT13
 refine gx_k (i6 x10) w11 (gx_nil (gx_thenN (hK6 _ _ (gx_seq (fun K14 hK15 => gx_region (gx_k (vP g0) w11 (gx_k (i6 x10) w11 (gx_k (i6 (iw (x10 + 1))) w11 ?_))))))))
 have hP16 : St _ _ w11 ([eW g0 zr zg zl zn, eR zr zs zA zb zc, eS zs b9] ++ [boxE w0.heap.size [nS, u6 0] 62]) := hS12.pick [1, 2, 3, 0] rfl rfl
 obtain ⟨rq106, hc17, hF⟩ := bind_in hF
 rcases rq106 with x18 | q0
 try dsimp only at hF
 refine gx_c _ (pan_ok (gCount_ok N zg zl zn zb b9 (iw (x10 + 1)) g0 zr zA zc zs _ hc17 w11 (hP16.vwA hv0_0) hP16.part) :) ?_
 rintro _ w19 ⟨rfl, hT21⟩
 have hS20 : St _ _ w19 [boxE w0.heap.size [nS, u6 0] 62, eW g0 zr zg zl x18, eR zr zs zA zb zc, eS zs b9] := hP16.lendN _ hT21
 refine gx_nil (gx_thenN (hK15 _ _ (gx_seq (fun K22 hK23 => gx_region (gx_k (vP g0) w19 (gx_k (vP g0) w19 (gx_k (i6 p1) w19 ?_)))))))
 have hP24 : St _ _ w19 ([eW g0 zr zg zl x18, eR zr zs zA zb zc, eS zs b9] ++ [boxE w0.heap.size [nS, u6 0] 62]) := hS20.pick [1, 2, 3, 0] rfl rfl
 obtain ⟨rq98, hc25, hF⟩ := bind_in hF
 rcases rq98 with q0 | q0
 obtain ⟨l27, b26⟩ := q0
 try dsimp only at hF
 refine gx_c _ (pan_ok (gWords_ok N zg zl x18 zb b9 p1 (1 : Int) g0 zr zA zc zs _ hc25 w19 (hP24.vwA hv0_0) hP24.part) :) ?_
 rintro _ w30 ⟨A28, c29, rfl, hT32⟩
 have hS31 : St _ _ w30 [boxE w0.heap.size [nS, u6 0] 62, eW g0 zr zg zl x18, eR zr zs zA zb zc, eS zs b26, rowE .u16 31 A28 c29 l27] := hP24.lendN _ hT32
 have hP33 : St _ _ w30 ([eW g0 zr zg zl x18, eR zr zs zA zb zc, eS zs b26] ++ [boxE w0.heap.size [nS, u6 0] 62, rowE .u16 31 A28 c29 l27]) := hS31.pick [1, 2, 3, 0, 4] rfl rfl
 obtain ⟨rq90, hc34, hF⟩ := bind_in hF
 rcases rq90 with q0 | x84
 try dsimp only at hF
 refine gx_c _ (pan_ok (gRight_ok N zg zl x18 zb b26 l27 g0 zr zA zc zs A28 c29 _ hc34 w30 (hP33.vwA hv0_0) (hP33.vwB 1 rfl) hP33.part) :) ?_
 rintro _ w35 ⟨rfl, hT37⟩
 have hS36 : St _ _ w35 [boxE w0.heap.size [nS, u6 0] 62, rowE .u16 31 A28 c29 l27, eW g0 zr zg zl x18, eR zr zs zA zb zc, eS zs b26] := hP33.lendN _ hT37
 refine gx_k (vP g0) w35 (gx_k (vP g0) w35 (gx_k (i6 p1) w35 (gx_k (i6 (iw (p1 + 4))) w35 (gx_k (i6 x10) w35 (gx_k (i6 (iw (x10 - 1))) w35 ?_)))))
 have hP38 : St _ _ w35 ([eW g0 zr zg zl x18, eR zr zs zA zb zc, eS zs b26] ++ [boxE w0.heap.size [nS, u6 0] 62, rowE .u16 31 A28 c29 l27]) := hS36.pick [2, 3, 4, 0, 1] rfl rfl
 obtain ⟨rq83, hc39, hF⟩ := bind_in hF
 rcases rq83 with q0 | q0
 obtain ⟨l41, b40⟩ := q0
 try dsimp only at hF
 refine gx_c _ (pan_ok (gWords_ok N zg zl x18 zb b26 (iw (p1 + 4)) (iw (x10 - 1)) g0 zr zA zc zs _ hc39 w35 (hP38.vwA hv0_0) hP38.part) :) ?_
 rintro _ w44 ⟨A42, c43, rfl, hT46⟩
 have hS45 : St _ _ w44 [boxE w0.heap.size [nS, u6 0] 62, rowE .u16 31 A28 c29 l27, eW g0 zr zg zl x18, eR zr zs zA zb zc, eS zs b40, rowE .u16 31 A42 c43 l41] := hP38.lendN _ hT46
 have hP47 : St _ _ w44 ([eW g0 zr zg zl x18, eR zr zs zA zb zc, eS zs b40] ++ [boxE w0.heap.size [nS, u6 0] 62, rowE .u16 31 A28 c29 l27, rowE .u16 31 A42 c43 l41]) := hS45.pick [2, 3, 4, 0, 1, 5] rfl rfl
 obtain ⟨rq75, hc48, hF⟩ := bind_in hF
 rcases rq75 with q0 | x69
 try dsimp only at hF
 refine gx_c _ (pan_ok (gRight_ok N zg zl x18 zb b40 l41 g0 zr zA zc zs A42 c43 _ hc48 w44 (hP47.vwA hv0_0) (hP47.vwB 2 rfl) hP47.part) :) ?_
 rintro _ w49 ⟨rfl, hT51⟩
 have hS50 : St _ _ w49 [boxE w0.heap.size [nS, u6 0] 62, rowE .u16 31 A28 c29 l27, rowE .u16 31 A42 c43 l41, eW g0 zr zg zl x18, eR zr zs zA zb zc, eS zs b40] := hP47.lendN _ hT51
 refine gx_k (.slice A28 l27.length c29) w49 (gx_k (.slice A42 l41.length c43) w49 (gx_nil (gx_thenN (hK23 _ _ (gx_seq (fun K52 hK53 => gdst (fun w => St (foots [eW g0 zr zg zl zn, eR zr zs zA zb zc, eS zs zq]) w0 w [boxE w0.heap.size [nS, u6 0] 62, rowE .u16 31 A28 c29 l27, rowE .u16 31 A42 c43 l41, eW g0 zr zg zl x18, eR zr zs zA zb zc, eS zs b40]) 9 ?_))))))
 have hS55 := hS50.drew
 generalize w49.drew = w54 at hS55 ⊢
 refine gv1 0 31 (u6 p2) rfl hS55 (gv1 2 33 (.slice A42 l41.length c43) rfl hS55 (gv1 4 35 (.slice A28 l27.length c29) rfl hS55 ?_))
 obtain ⟨x56, hx57, hF⟩ := bind_in hF
 refine gu1 5 36 (pI 0 A28) rfl hS55 (fun w hSw => rix 31 .i64 hx57 ((hS55.row 1 rfl).1)) (gu1 6 37 (u6 x56) rfl hS55 (fun w hSw => rlx (hSw.row 1 rfl).1 hx57) (gdR 1 ⟨some 32, _, _, _, _, _⟩ rfl (st_made .u16 31 [p2] hS55 (by show 1 ≤ 1000000000; decide) (by kernel_rfl)) ?_))
 rintro _ w58 ⟨rfl, hS59⟩
 have hS59 : St _ _ w58 [boxE w0.heap.size [nS, u6 0] 62, rowE .u16 31 A28 c29 l27, rowE .u16 31 A42 c43 l41, eW g0 zr zg zl x18, eR zr zs zA zb zc, eS zs b40, rowE .u16 31 (some ⟨w54.heap.size, 0, none⟩) 1 ([p2])] := hS59
 refine ⟨(hS59.pick [0, 1, 2, 3, 4, 5] rfl rfl), ?_⟩
 obtain ⟨l60, ha61, hF⟩ := bind_in hF
 obtain ⟨ha61, hq62⟩ := apx_in ha61
 refine gdR 3 ⟨some 34, _, _, _, _, _⟩ rfl (st_append rfl (by kernel_rfl) (by kernel_rfl) hS59 6 rfl (hS59.row 2 rfl).1 (hS59.row 2 rfl).2 ha61 (by kernel_rfl) (by kernel_rfl)) ?_
 rintro _ w65 ⟨A63, c64, rfl, hS66⟩
 rw [← hq62] at hS66 ⊢
 have hS66 : St _ _ w65 [boxE w0.heap.size [nS, u6 0] 62, rowE .u16 31 A28 c29 l27, rowE .u16 31 A42 c43 l41, eW g0 zr zg zl x18, eR zr zs zA zb zc, eS zs b40, rowE .u16 31 A63 c64 l60] := hS66
 refine ⟨(hS66.pick [0, 1, 2, 3, 4, 5] rfl rfl), gv1 7 38 (.agg #[.slice A63 l60.length c64, u6 x56]) rfl (hS66.pick [0, 1, 2, 3, 4, 5] rfl rfl) (gdSz 8 ⟨none, _, _, _, _, _⟩ rfl (st_storeG (cs := [nS, u6 0]) (ds := [.slice A63 l60.length c64, u6 x56]) rfl (by kernel_rfl) (by kernel_rfl) (by kernel_rfl) rfl rfl hS66 0 rfl) ?_)⟩
 rintro w67 hS68
 have hS68 : St _ _ w67 [boxE w0.heap.size [.slice A63 l60.length c64, u6 x56] 62, rowE .u16 31 A28 c29 l27, rowE .u16 31 A42 c43 l41, eW g0 zr zg zl x18, eR zr zs zA zb zc, eS zs b40, rowE .u16 31 A63 c64 l60] := hS68
 refine gd_done (by kernel_rfl) (gx_thenN (hK53 _ _ (gx_ret ?_)))
 obtain rfl := sj hF
 exact gx_fin (.agg #[.slice A63 l60.length c64, u6 x56]) (by kernel_rfl) (res_cell rfl _ _ w0.heap.size _ _ _ (by kernel_rfl) (hS68.get 0 rfl) (by kernel_rfl) (by kernel_rfl)) (.inl ⟨_, rfl, _, rfl, A63, c64, rfl, (hS68.pick [3, 4, 5, 6] rfl rfl)⟩)
 try dsimp only at hF
 refine gx_callX _ (by kernel_rfl) (by kernel_rfl) (pan_gone (gRight_ok N zg zl x18 zb b40 l41 g0 zr zA zc zs A42 c43 _ hc48 w44 (hP47.vwA hv0_0) (hP47.vwB 2 rfl) hP47.part) :) ?_
 rintro c73 w70 ⟨hx74, hT72⟩
 have hS71 : St _ _ w70 [boxE w0.heap.size [nS, u6 0] 62, rowE .u16 31 A28 c29 l27, rowE .u16 31 A42 c43 l41, eW g0 zr zg zl x18, eR zr zs zA zb zc, eS zs b40] := hP47.lendN _ hT72
 refine gx_thenP ?_
 obtain rfl := sj hF
 exact gx_finP (by kernel_rfl) (.inr ⟨_, rfl, _, rfl, hx74, (hS71.pick [3, 4, 5] rfl rfl)⟩)
 obtain ⟨x76, b77⟩ := q0
 try dsimp only at hF
 refine gx_callX _ (by kernel_rfl) (by kernel_rfl) (pan_gone (gWords_ok N zg zl x18 zb b26 (iw (p1 + 4)) (iw (x10 - 1)) g0 zr zA zc zs _ hc39 w35 (hP38.vwA hv0_0) hP38.part) :) ?_
 rintro c81 w78 ⟨hx82, hT80⟩
 have hS79 : St _ _ w78 [boxE w0.heap.size [nS, u6 0] 62, rowE .u16 31 A28 c29 l27, eW g0 zr zg zl x18, eR zr zs zA zb zc, eS zs b77] := hP38.lendN _ hT80
 refine gx_thenP ?_
 obtain rfl := sj hF
 exact gx_finP (by kernel_rfl) (.inr ⟨_, rfl, _, rfl, hx82, (hS79.pick [2, 3, 4] rfl rfl)⟩)
 try dsimp only at hF
 refine gx_callX _ (by kernel_rfl) (by kernel_rfl) (pan_gone (gRight_ok N zg zl x18 zb b26 l27 g0 zr zA zc zs A28 c29 _ hc34 w30 (hP33.vwA hv0_0) (hP33.vwB 1 rfl) hP33.part) :) ?_
 rintro c88 w85 ⟨hx89, hT87⟩
 have hS86 : St _ _ w85 [boxE w0.heap.size [nS, u6 0] 62, rowE .u16 31 A28 c29 l27, eW g0 zr zg zl x18, eR zr zs zA zb zc, eS zs b26] := hP33.lendN _ hT87
 refine gx_thenP ?_
 obtain rfl := sj hF
 exact gx_finP (by kernel_rfl) (.inr ⟨_, rfl, _, rfl, hx89, (hS86.pick [2, 3, 4] rfl rfl)⟩)
 obtain ⟨x91, b92⟩ := q0
 try dsimp only at hF
 refine gx_callX _ (by kernel_rfl) (by kernel_rfl) (pan_gone (gWords_ok N zg zl x18 zb b9 p1 (1 : Int) g0 zr zA zc zs _ hc25 w19 (hP24.vwA hv0_0) hP24.part) :) ?_
 rintro c96 w93 ⟨hx97, hT95⟩
 have hS94 : St _ _ w93 [boxE w0.heap.size [nS, u6 0] 62, eW g0 zr zg zl x18, eR zr zs zA zb zc, eS zs b92] := hP24.lendN _ hT95
 refine gx_thenP ?_
 obtain rfl := sj hF
 exact gx_finP (by kernel_rfl) (.inr ⟨_, rfl, _, rfl, hx97, (hS94.pick [1, 2, 3] rfl rfl)⟩)
 obtain ⟨x99, x100⟩ := q0
 try dsimp only at hF
 refine gx_callX _ (by kernel_rfl) (by kernel_rfl) (pan_gone (gCount_ok N zg zl zn zb b9 (iw (x10 + 1)) g0 zr zA zc zs _ hc17 w11 (hP16.vwA hv0_0) hP16.part) :) ?_
 rintro c104 w101 ⟨hx105, hT103⟩
 have hS102 : St _ _ w101 [boxE w0.heap.size [nS, u6 0] 62, eW g0 zr zg zl x100, eR zr zs zA zb zc, eS zs b9] := hP16.lendN _ hT103
 refine gx_thenP ?_
 obtain rfl := sj hF
 exact gx_finP (by kernel_rfl) (.inr ⟨_, rfl, _, rfl, hx105, (hS102.pick [1, 2, 3] rfl rfl)⟩)
 obtain ⟨x107, b108⟩ := q0
 try dsimp only at hF
 refine gx_callX _ (by kernel_rfl) (by kernel_rfl) (pan_gone (gSize_ok N zg zl zn zb zq (iw (p1 + 2)) g0 zr zA zc zs _ hc8 w3 (hP7.vwA hv0_0) hP7.part) :) ?_
 rintro c112 w109 ⟨hx113, hT111⟩
 have hS110 : St _ _ w109 [boxE w0.heap.size [nS, u6 0] 62, eW g0 zr zg zl zn, eR zr zs zA zb zc, eS zs b108] := hP7.lendN _ hT111
 refine gx_thenP ?_
 obtain rfl := sj hF
 exact gx_finP (by kernel_rfl) (.inr ⟨_, rfl, _, rfl, hx113, (hS110.pick [1, 2, 3] rfl rfl)⟩)
def gLigatures_L2 (N : Nat) (zg : Int) (zl : Int) (zb : List Int) (p1 : Int) (x97 : Int) (x101 : Int) (l115 : List Int) : Nat → (List (List Int × Int)) → Int → Bool → Int → Option (Ctl (List (List Int × Int) × Int × Bool) (Pan (List (Int × Int) × List (Int × List Int) × List (List Int × Int) × List (List Int) × List (List Int) × List (List Int) × List (Int × Int) × Int × Bool) (Int × Int × Bool)))
 | 0, _, _, _, _ => none
 | k135+1, l131, x132, b133, x134 => (if x134 < ((l115.length : Nat) : Int) then ((ix l115 x134).bind fun x146 => ((gLigature N zg zl x132 zb b133 (IntKind.i64.wrap ((IntKind.i64.wrap (p1 + (IntKind.i64.wrap x101))) + (IntKind.i64.wrap x146))) x97).bind fun | Pan.ok (l154, x157, x152, b153) => ((apg l131 ([(l154, x157)] : List (List Int × Int))).bind fun l169 => gLigatures_L2 N zg zl zb p1 x97 x101 l115 k135 l169 x152 b153 (IntKind.i64.wrap (x134 + 1))) | Pan.gone (x179, x180, b181) => some (Ctl.ret (Pan.gone (x179, x180, b181))))) else some (Ctl.go (l131, x132, b133)))
def gLigatures_L1 (N : Nat) (zg : Int) (zl : Int) (zb : List Int) (p1 : Int) (l29 : List Int) (l32 : List Int) : Nat → (List (List Int × Int)) → Int → Bool → Int → Option (Ctl (List (List Int × Int) × Int × Bool) (Pan (List (Int × Int) × List (Int × List Int) × List (List Int × Int) × List (List Int) × List (List Int) × List (List Int) × List (Int × Int) × Int × Bool) (Int × Int × Bool)))
 | 0, _, _, _, _ => none
 | k72+1, l66, x67, b68, x69 => (if x69 < ((l29.length : Nat) : Int) then ((((ix l29 x69).bind fun x97 => ((ix l32 x69).bind fun x101 => ((gSize N zg zl x67 zb b68 (IntKind.i64.wrap (p1 + (IntKind.i64.wrap x101)))).bind fun | Pan.ok (x108, b107) => ((gWords N zg zl x67 zb b107 (IntKind.i64.wrap ((IntKind.i64.wrap (p1 + (IntKind.i64.wrap x101))) + 2)) x108).bind fun | Pan.ok (l115, b114) => gLigatures_L2 N zg zl zb p1 x97 x101 l115 N l66 x67 b114 0 | Pan.gone (x191, b192) => some (Ctl.ret (Pan.gone (x191, x67, b192)))) | Pan.gone (x199, b200) => some (Ctl.ret (Pan.gone (x199, x67, b200)))))) : Option (Ctl (List (List Int × Int) × Int × Bool) (Pan (List (Int × Int) × List (Int × List Int) × List (List Int × Int) × List (List Int) × List (List Int) × List (List Int) × List (Int × Int) × Int × Bool) (Int × Int × Bool)))).bind fun | Ctl.go (l89, x90, b91) => gLigatures_L1 N zg zl zb p1 l29 l32 k72 l89 x90 b91 (IntKind.i64.wrap (x69 + 1)) | Ctl.ret r => some (Ctl.ret r)) else some (Ctl.go (l66, x67, b68)))
def gLigatures (N : Nat) (zg : Int) (zl : Int) (zn : Int) (zb : List Int) (zq : Bool) (p1 : Int) : Option (Pan (List (Int × Int) × List (Int × List Int) × List (List Int × Int) × List (List Int) × List (List Int) × List (List Int) × List (Int × Int) × Int × Bool) (Int × Int × Bool)) :=
 ((gWord N zg zl zn zb zq p1).bind fun | Pan.ok (x10, b9) => ((gRequire N (decide (x10 = 1))).bind fun | Pan.ok _ => ((gEach N zg zl zn zb b9 p1).bind fun | Pan.ok (l29, l32, x27, b28) => ((gLigatures_L1 N zg zl zb p1 l29 l32 N ([] : List (List Int × Int)) x27 b28 0 : Option (Ctl (List (List Int × Int) × Int × Bool) (Pan (List (Int × Int) × List (Int × List Int) × List (List Int × Int) × List (List Int) × List (List Int) × List (List Int) × List (Int × Int) × Int × Bool) (Int × Int × Bool)))).bind fun | Ctl.go (l48, x49, b50) => some (Pan.ok (([] : List (Int × Int)), ([] : List (Int × List Int)), l48, ([] : List (List Int)), ([] : List (List Int)), ([] : List (List Int)), ([] : List (Int × Int)), x49, b50)) | Ctl.ret r => some r) | Pan.gone (x229, x230, b231) => some (Pan.gone (x229, x230, b231))) | Pan.gone x238 => some (Pan.gone (x238, zn, b9))) | Pan.gone (x245, b246) => some (Pan.gone (x245, zn, b246)))
def gLigatures_R (zg : Int) (zl : Int) (zn : Int) (zb : List Int) (zq : Bool) (p1 : Int) (g0 : Nat) (zr : Nat) (zA : Option Addr) (zc : Nat) (zs : Nat) (r : List (Int × Int) × List (Int × List Int) × List (List Int × Int) × List (List Int) × List (List Int) × List (List Int) × List (Int × Int) × Int × Bool) (w0 : World) (v : Value) (w : World) : Prop := ∃ (A0_0' : Option Addr) (c0_0' : Nat) (vs0_0' : List Value) (A0_1' : Option Addr) (c0_1' : Nat) (vs0_1' : List Value) (A0_2' : Option Addr) (c0_2' : Nat) (vs0_2' : List Value) (A0_3' : Option Addr) (c0_3' : Nat) (vs0_3' : List Value) (A0_4' : Option Addr) (c0_4' : Nat) (vs0_4' : List Value) (A0_5' : Option Addr) (c0_5' : Nat) (vs0_5' : List Value) (A0_6' : Option Addr) (c0_6' : Nat) (vs0_6' : List Value) (ft' : List Nat), v = .agg #[.slice A0_0' r.1.length c0_0', .slice A0_1' r.2.1.length c0_1', .slice A0_2' r.2.2.1.length c0_2', .slice A0_3' r.2.2.2.1.length c0_3', .slice A0_4' r.2.2.2.2.1.length c0_4', .slice A0_5' r.2.2.2.2.2.1.length c0_5', .slice A0_6' r.2.2.2.2.2.2.1.length c0_6'] ∧ St (foots [eW g0 zr zg zl zn, eR zr zs zA zb zc, eS zs zq]) w0 w [eW g0 zr zg zl r.2.2.2.2.2.2.2.1, eR zr zs zA zb zc, eS zs r.2.2.2.2.2.2.2.2, rowG 74 2 (.slice A0_0' r.1.length c0_0') r.1.length vs0_0', rowG 76 2 (.slice A0_1' r.2.1.length c0_1') r.2.1.length vs0_1', rowG 62 2 (.slice A0_2' r.2.2.1.length c0_2') r.2.2.1.length vs0_2', rowG 60 1 (.slice A0_3' r.2.2.2.1.length c0_3') r.2.2.2.1.length vs0_3', rowG 60 1 (.slice A0_4' r.2.2.2.2.1.length c0_4') r.2.2.2.2.1.length vs0_4', rowG 60 1 (.slice A0_5' r.2.2.2.2.2.1.length c0_5') r.2.2.2.2.2.1.length vs0_5', rowG 79 2 (.slice A0_6' r.2.2.2.2.2.2.1.length c0_6') r.2.2.2.2.2.2.1.length vs0_6', poolE ft' w] ∧ (fEach (pairE (intE .u16) (intE .u16)) vs0_0' r.1).rd w ft' ∧ (fEach (pairE (intE .u16) (rowOf (intE .u16))) vs0_1' r.2.1).rd w ft' ∧ (fEach (pairE (rowOf (intE .u16)) (intE .u16)) vs0_2' r.2.2.1).rd w ft' ∧ (fEach (rowOf (intE .u16)) vs0_3' r.2.2.2.1).rd w ft' ∧ (fEach (rowOf (intE .u16)) vs0_4' r.2.2.2.2.1).rd w ft' ∧ (fEach (rowOf (intE .u16)) vs0_5' r.2.2.2.2.2.1).rd w ft' ∧ (fEach (pairE (intE .i64) (intE .i64)) vs0_6' r.2.2.2.2.2.2.1).rd w ft'
def gLigatures_X (zg : Int) (zl : Int) (zn : Int) (zb : List Int) (zq : Bool) (p1 : Int) (g0 : Nat) (zr : Nat) (zA : Option Addr) (zc : Nat) (zs : Nat) (g : Int × Int × Bool) (w0 : World) (c : List PanicEntry) (w : World) : Prop := c = goneB 113 g.1 ∧ St (foots [eW g0 zr zg zl zn, eR zr zs zA zb zc, eS zs zq]) w0 w [eW g0 zr zg zl g.2.1, eR zr zs zA zb zc, eS zs g.2.2]
theorem gLigatures_ok (N : Nat) (zg : Int) (zl : Int) (zn : Int) (zb : List Int) (zq : Bool) (p1 : Int) (g0 : Nat) (zr : Nat) (zA : Option Addr) (zc : Nat) (zs : Nat) (r : Pan (List (Int × Int) × List (Int × List Int) × List (List Int × Int) × List (List Int) × List (List Int) × List (List Int) × List (Int × Int) × Int × Bool) (Int × Int × Bool)) (hF : gLigatures N zg zl zn zb zq p1 = some r) (w0 : World) (hv0_0 : Vw (foots [eW g0 zr zg zl zn, eR zr zs zA zb zc, eS zs zq]) .u8 w0 zA zc zb) (hl : St (foots [eW g0 zr zg zl zn, eR zr zs zA zb zc, eS zs zq]) w0 w0 [eW g0 zr zg zl zn, eR zr zs zA zb zc, eS zs zq]) :
  Calls Try.prog 90 #[.pointer (some ⟨g0, 0, none⟩), .int .i64 p1] w0 fun e w => (∃ r', r = .ok r' ∧ ∃ v, e = .returned v ∧ gLigatures_R zg zl zn zb zq p1 g0 zr zA zc zs r' w0 v w) ∨ (∃ g, r = .gone g ∧ ∃ c, e = .panicked c ∧ gLigatures_X zg zl zn zb zq p1 g0 zr zA zc zs g w0 c w) := by
 have hS0 := (hl).pool0
 unfold gLigatures at hF
 refine calls_of Try.func90 rfl ⟨((vP g0) :: (i6 p1) :: un 63 ([])).toArray, []⟩ (by kernel_rfl) (gx_seq (fun K1 hK2 => gx_region (gx_r (st_boxed [nS, nS, nS, nS, nS, nS, nS] 43 hS0 (by kernel_rfl)) ?_)))
 rintro _ w3 ⟨rfl, hS4⟩
 have hS4 : St _ _ w3 [eW g0 zr zg zl zn, eR zr zs zA zb zc, eS zs zq, poolE ([]) w0, boxE w0.heap.size [nS, nS, nS, nS, nS, nS, nS] 43] := hS4
 refine gx_nil (gx_thenN (hK2 _ _ (gx_seq (fun K5 hK6 => gx_region (gx_k (vP g0) w3 (gx_k (i6 p1) w3 ?_))))))
 have hP7 : St _ _ w3 ([eW g0 zr zg zl zn, eR zr zs zA zb zc, eS zs zq] ++ [poolE ([]) w0, boxE w0.heap.size [nS, nS, nS, nS, nS, nS, nS] 43]) := hS4
 obtain ⟨rq252, hc8, hF⟩ := bind_in hF
 rcases rq252 with q0 | q0
 obtain ⟨x10, b9⟩ := q0
 try dsimp only at hF
 refine gx_c _ (pan_ok (gWord_ok N zg zl zn zb zq p1 g0 zr zA zc zs _ hc8 w3 (hP7.vwA hv0_0) hP7.part) :) ?_
 rintro _ w11 ⟨rfl, hT13⟩
 have hS12 : St _ _ w11 [poolE ([]) w0, boxE w0.heap.size [nS, nS, nS, nS, nS, nS, nS] 43, eW g0 zr zg zl zn, eR zr zs zA zb zc, eS zs b9] := hP7.lendN _ hT13
 refine gx_k (.bool (decide (x10 = 1))) w11 ?_
 have hP14 : St _ _ w11 ([] ++ [poolE ([]) w0, boxE w0.heap.size [nS, nS, nS, nS, nS, nS, nS] 43, eW g0 zr zg zl zn, eR zr zs zA zb zc, eS zs b9]) := hS12
 obtain ⟨rq244, hc15, hF⟩ := bind_in hF
 rcases rq244 with q0 | x238
 try dsimp only at hF
 refine gx_c _ (pan_ok (gRequire_ok N (decide (x10 = 1)) _ hc15 w11 ) :) ?_
 rintro _ w16 ⟨rfl, hT18⟩
 have hS17 : St _ _ w16 [poolE ([]) w0, boxE w0.heap.size [nS, nS, nS, nS, nS, nS, nS] 43, eW g0 zr zg zl zn, eR zr zs zA zb zc, eS zs b9] := hS12.take _ hT18
 refine gx_nil (gx_thenN (hK6 _ _ (gx_seq (fun K19 hK20 => gx_region (gx_r (st_boxed [nS, nS, nS, nS, nS, nS, nS] 43 hS17 (by kernel_rfl)) ?_)))))
 rintro _ w21 ⟨rfl, hS22⟩
 have hS22 : St _ _ w21 [poolE ([]) w0, boxE w0.heap.size [nS, nS, nS, nS, nS, nS, nS] 43, eW g0 zr zg zl zn, eR zr zs zA zb zc, eS zs b9, boxE w16.heap.size [nS, nS, nS, nS, nS, nS, nS] 43] := hS22
 refine gx_nil (gx_thenN (hK20 _ _ (gx_seq (fun K23 hK24 => gx_region (gx_k (vP g0) w21 (gx_k (i6 p1) w21 ?_))))))
 have hP25 : St _ _ w21 ([eW g0 zr zg zl zn, eR zr zs zA zb zc, eS zs b9] ++ [poolE ([]) w0, boxE w0.heap.size [nS, nS, nS, nS, nS, nS, nS] 43, boxE w16.heap.size [nS, nS, nS, nS, nS, nS, nS] 43]) := hS22.pick [2, 3, 4, 0, 1, 5] rfl rfl
 obtain ⟨rq237, hc26, hF⟩ := bind_in hF
 rcases rq237 with q0 | q0
 obtain ⟨l29, l32, x27, b28⟩ := q0
 try dsimp only at hF
 refine gx_c _ (pan_ok (gEach_ok N zg zl zn zb b9 p1 g0 zr zA zc zs _ hc26 w21 (hP25.vwA hv0_0) hP25.part) :) ?_
 rintro _ w35 ⟨A30, c31, A33, c34, rfl, hT37⟩
 have hS36 : St _ _ w35 [poolE ([]) w0, boxE w0.heap.size [nS, nS, nS, nS, nS, nS, nS] 43, boxE w16.heap.size [nS, nS, nS, nS, nS, nS, nS] 43, eW g0 zr zg zl x27, eR zr zs zA zb zc, eS zs b28, rowE .u16 31 A30 c31 l29, rowE .u16 31 A33 c34 l32] := hP25.lendN _ hT37
 refine gx_k (.tuple #[.slice A30 l29.length c31, .slice A33 l32.length c34]) w35 (gx_k (.slice A30 l29.length c31) w35 (gx_k (.slice A33 l32.length c34) w35 (gx_k (.slice A30 l29.length c31) w35 (gx_k (.slice A33 l32.length c34) w35 (gx_nil (gx_thenN (hK24 _ _ ?_)))))))
 obtain ⟨c51, hE52, hO53⟩ := bind_in hF
 refine gx_cut (fun a w => ∃ (l48 : List (List Int × Int)) (x49 : Int) (b50 : Bool) (ft41 : List Nat) (W42 : World) (A44 : Option Addr) (c45 : Nat) (vs46 : List Value), selfA (fun u40 => ⟨((vP g0) :: (i6 p1) :: undef :: undef :: (vP w0.heap.size) :: (vP w16.heap.size) :: dd u40 6 5 (undef :: (u40 12) :: (vP g0) :: (i6 p1) :: (u6 x10) :: (.bool (decide (x10 = 1))) :: dd u40 17 2 ((vP g0) :: (i6 p1) :: dd u40 21 43 (undef :: [])))).toArray, []⟩) a ∧ Ctl.go (l48, x49, b50) = c51 ∧ St (foots [eW g0 zr zg zl zn, eR zr zs zA zb zc, eS zs zq]) w0 w [poolE ft41 W42, boxE w0.heap.size [nS, nS, nS, nS, nS, nS, nS] 43, rowG 62 2 (.slice A44 l48.length c45) l48.length vs46, boxE w16.heap.size [nS, nS, .slice A44 l48.length c45, nS, nS, nS, nS] 43, eW g0 zr zg zl x49, eR zr zs zA zb zc, eS zs b50] ∧ Turn (foots [eW g0 zr zg zl zn, eR zr zs zA zb zc, eS zs zq]) w0 w0 ([]) W42 ft41 ∧ (fEach (pairE (rowOf (intE .u16)) (intE .u16)) vs46 l48).rd W42 ft41) ?_ ?_
 refine gx_seq (fun K54 hK55 => gx_region (gx_k (.slice A30 l29.length c31) w35 (gx_k (i6 ((l29.length : Nat) : Int)) w35 (gx_k (i6 0) w35 (gx_nil (gx_thenN (hK55 _ _ (gx_block ?_))))))))
 have hS70 : St _ _ w35 [poolE ([]) w0, boxE w0.heap.size [nS, nS, nS, nS, nS, nS, nS] 43, boxE w16.heap.size [nS, nS, nS, nS, nS, nS, nS] 43, eW g0 zr zg zl x27, eR zr zs zA zb zc, eS zs b28, rowE .u16 31 A30 c31 l29, rowE .u16 31 A33 c34 l32, rowG 62 2 (.slice none (([] : List (List Int × Int)).length) 0) (([] : List (List Int × Int)).length) ([])] := hS36.nilrowN 62 2
 have hf71 : (fEach (pairE (rowOf (intE .u16)) (intE .u16)) [] []).rd w0 ([]) := each_nil
 refine gx_loop (fun k a w => ∃ (l66 : List (List Int × Int)) (x67 : Int) (b68 : Bool) (x69 : Int) (ft59 : List Nat) (W60 : World) (A62 : Option Addr) (c63 : Nat) (vs64 : List Value), selfA (fun u58 => ⟨((vP g0) :: (i6 p1) :: undef :: undef :: (vP w0.heap.size) :: (vP w16.heap.size) :: (u58 6) :: (.slice A33 l32.length c34) :: dd u58 8 3 (undef :: (u58 12) :: (vP g0) :: (i6 p1) :: (u6 x10) :: (.bool (decide (x10 = 1))) :: dd u58 17 2 ((vP g0) :: (i6 p1) :: dd u58 21 3 ((.slice A30 l29.length c31) :: (i6 ((l29.length : Nat) : Int)) :: (i6 x69) :: dd u58 27 37 (undef :: []))))).toArray, []⟩) a ∧ gLigatures_L1 N zg zl zb p1 l29 l32 k l66 x67 b68 x69 = some c51 ∧ St (foots [eW g0 zr zg zl zn, eR zr zs zA zb zc, eS zs zq]) w0 w [poolE ft59 W60, boxE w0.heap.size [nS, nS, nS, nS, nS, nS, nS] 43, rowG 62 2 (.slice A62 l66.length c63) l66.length vs64, boxE w16.heap.size [nS, nS, .slice A62 l66.length c63, nS, nS, nS, nS] 43, eW g0 zr zg zl x67, eR zr zs zA zb zc, eS zs b68, rowE .u16 31 A33 c34 l32, rowE .u16 31 A30 c31 l29] ∧ Turn (foots [eW g0 zr zg zl zn, eR zr zs zA zb zc, eS zs zq]) w0 w0 ([]) W60 ft59 ∧ (fEach (pairE (rowOf (intE .u16)) (intE .u16)) vs64 l66).rd W60 ft59) N ?_ ?_
 exact ⟨([] : List (List Int × Int)), x27, b28, 0, ([]), w0, none, 0, ([]), selfA_i (by kernel_rfl), hE52, (hS70.pick [0, 1, 8, 2, 3, 4, 5, 7, 6] rfl rfl), (Turn.refl _ _ _ _), hf71⟩
 rintro k72 _ w56 ⟨l66, x67, b68, x69, ft59, W60, A62, c63, vs64, hq210, hL73, hS57, hT61, hf65⟩
 obtain ⟨u58, rfl⟩ := selfA_u hq210
 rcases k72 with _ | k72
 cases hL73
 first | rw [gLigatures_L1] at hL73 | unfold gLigatures_L1 at hL73
 refine gx_seq (fun K74 hK75 => gx_region ?_)
 rcases if_in hL73 with ⟨h76, hL73⟩ | ⟨h76, hL73⟩
 refine gx_v (.bool true) w56 (rbE (decide_eq_true h76)) (gx_nil (gx_thenN (hK75 _ _ (gx_seq (fun K77 hK78 => gx_yes (by kernel_rfl) (gx_pass (gx_thenN ?_)))))))
 refine hK78 _ _ ?_
 obtain ⟨c92, hE93, hO94⟩ := bind_in hL73
 refine gx_cut (fun a w => ∃ (l89 : List (List Int × Int)) (x90 : Int) (b91 : Bool) (ft82 : List Nat) (W83 : World) (A85 : Option Addr) (c86 : Nat) (vs87 : List Value), selfA (fun u81 => ⟨((vP g0) :: (i6 p1) :: undef :: undef :: (vP w0.heap.size) :: (vP w16.heap.size) :: (u58 6) :: (.slice A33 l32.length c34) :: dd u81 8 3 (undef :: (u81 12) :: (vP g0) :: (i6 p1) :: (u6 x10) :: (.bool (decide (x10 = 1))) :: dd u58 17 2 ((vP g0) :: (i6 p1) :: dd u58 21 3 ((.slice A30 l29.length c31) :: (i6 ((l29.length : Nat) : Int)) :: (i6 x69) :: (.bool true) :: dd u81 28 35 ((u58 63) :: undef :: []))))).toArray, []⟩) a ∧ Ctl.go (l89, x90, b91) = c92 ∧ St (foots [eW g0 zr zg zl zn, eR zr zs zA zb zc, eS zs zq]) w0 w [poolE ft82 W83, boxE w0.heap.size [nS, nS, nS, nS, nS, nS, nS] 43, rowG 62 2 (.slice A85 l89.length c86) l89.length vs87, boxE w16.heap.size [nS, nS, .slice A85 l89.length c86, nS, nS, nS, nS] 43, eW g0 zr zg zl x90, eR zr zs zA zb zc, eS zs b91, rowE .u16 31 A33 c34 l32, rowE .u16 31 A30 c31 l29] ∧ Turn (foots [eW g0 zr zg zl zn, eR zr zs zA zb zc, eS zs zq]) w0 W60 ft59 W83 ft82 ∧ (fEach (pairE (rowOf (intE .u16)) (intE .u16)) vs87 l89).rd W83 ft82) ?_ ?_
 refine gx_block (gx_seq (fun K95 hK96 => gx_region (gx_k (i6 x69) w56 ?_)))
 obtain ⟨x97, hx98, hE93⟩ := bind_in hE93
 refine gx_v (pI x69 A30) w56 (rix 31 .i64 hx98 ((hS57.row 8 rfl).1)) (gx_v (u6 x97) w56 (rlx (hS57.row 8 rfl).1 hx98) (gx_k (i6 x69) w56 (gx_k (u6 x97) w56 (gx_nil (gx_thenN (hK96 _ _ (gx_seq (fun K99 hK100 => gx_region ?_))))))))
 refine gx_k (i6 p1) w56 (gx_k (.slice A33 l32.length c34) w56 (gx_k (i6 x69) w56 ?_))
 obtain ⟨x101, hx102, hE93⟩ := bind_in hE93
 refine gx_v (pI x69 A33) w56 (rix 31 .i64 hx102 ((hS57.row 7 rfl).1)) (gx_v (u6 x101) w56 (rlx (hS57.row 7 rfl).1 hx102) (gx_k (i6 (iw x101)) w56 (gx_k (i6 (iw (p1 + (iw x101)))) w56 (gx_k (i6 (iw (p1 + (iw x101)))) w56 (gx_nil (gx_thenN (hK100 _ _ (gx_seq (fun K103 hK104 => gx_region ?_)))))))))
 refine gx_k (vP g0) w56 (gx_k (i6 (iw (p1 + (iw x101)))) w56 (gx_k (i6 (iw ((iw (p1 + (iw x101))) + 2))) w56 (gx_k (vP g0) w56 (gx_k (i6 (iw (p1 + (iw x101)))) w56 ?_))))
 have hP105 : St _ _ w56 ([eW g0 zr zg zl x67, eR zr zs zA zb zc, eS zs b68] ++ [poolE ft59 W60, boxE w0.heap.size [nS, nS, nS, nS, nS, nS, nS] 43, rowG 62 2 (.slice A62 l66.length c63) l66.length vs64, boxE w16.heap.size [nS, nS, .slice A62 l66.length c63, nS, nS, nS, nS] 43, rowE .u16 31 A33 c34 l32, rowE .u16 31 A30 c31 l29]) := hS57.pick [4, 5, 6, 0, 1, 2, 3, 7, 8] rfl rfl
 obtain ⟨rq206, hc106, hE93⟩ := bind_in hE93
 rcases rq206 with q0 | q0
 obtain ⟨x108, b107⟩ := q0
 try dsimp only at hE93
 refine gx_c _ (pan_ok (gSize_ok N zg zl x67 zb b68 (iw (p1 + (iw x101))) g0 zr zA zc zs _ hc106 w56 (hP105.vwA hv0_0) hP105.part) :) ?_
 rintro _ w109 ⟨rfl, hT111⟩
 have hS110 : St _ _ w109 [poolE ft59 W60, boxE w0.heap.size [nS, nS, nS, nS, nS, nS, nS] 43, rowG 62 2 (.slice A62 l66.length c63) l66.length vs64, boxE w16.heap.size [nS, nS, .slice A62 l66.length c63, nS, nS, nS, nS] 43, rowE .u16 31 A33 c34 l32, rowE .u16 31 A30 c31 l29, eW g0 zr zg zl x67, eR zr zs zA zb zc, eS zs b107] := hP105.lendN _ hT111
 have hP112 : St _ _ w109 ([eW g0 zr zg zl x67, eR zr zs zA zb zc, eS zs b107] ++ [poolE ft59 W60, boxE w0.heap.size [nS, nS, nS, nS, nS, nS, nS] 43, rowG 62 2 (.slice A62 l66.length c63) l66.length vs64, boxE w16.heap.size [nS, nS, .slice A62 l66.length c63, nS, nS, nS, nS] 43, rowE .u16 31 A33 c34 l32, rowE .u16 31 A30 c31 l29]) := hS110.pick [6, 7, 8, 0, 1, 2, 3, 4, 5] rfl rfl
 obtain ⟨rq198, hc113, hE93⟩ := bind_in hE93
 rcases rq198 with q0 | q0
 obtain ⟨l115, b114⟩ := q0
 try dsimp only at hE93
 refine gx_c _ (pan_ok (gWords_ok N zg zl x67 zb b107 (iw ((iw (p1 + (iw x101))) + 2)) x108 g0 zr zA zc zs _ hc113 w109 (hP112.vwA hv0_0) hP112.part) :) ?_
 rintro _ w118 ⟨A116, c117, rfl, hT120⟩
 have hS119 : St _ _ w118 [poolE ft59 W60, boxE w0.heap.size [nS, nS, nS, nS, nS, nS, nS] 43, rowG 62 2 (.slice A62 l66.length c63) l66.length vs64, boxE w16.heap.size [nS, nS, .slice A62 l66.length c63, nS, nS, nS, nS] 43, rowE .u16 31 A33 c34 l32, rowE .u16 31 A30 c31 l29, eW g0 zr zg zl x67, eR zr zs zA zb zc, eS zs b114, rowE .u16 31 A116 c117 l115] := hP112.lendN _ hT120
 refine gx_k (i6 ((l115.length : Nat) : Int)) w118 (gx_k (i6 0) w118 (gx_nil (gx_thenN (hK104 _ _ (gx_block ?_)))))
 refine gx_loop (fun k a w => ∃ (l131 : List (List Int × Int)) (x132 : Int) (b133 : Bool) (x134 : Int) (ft124 : List Nat) (W125 : World) (A127 : Option Addr) (c128 : Nat) (vs129 : List Value), selfA (fun u123 => ⟨((vP g0) :: (i6 p1) :: undef :: undef :: (vP w0.heap.size) :: (vP w16.heap.size) :: (u58 6) :: (.slice A33 l32.length c34) :: (i6 x69) :: (u6 x97) :: (i6 (iw (p1 + (iw x101)))) :: undef :: (u123 12) :: (vP g0) :: (i6 p1) :: (u6 x10) :: (.bool (decide (x10 = 1))) :: dd u58 17 2 ((vP g0) :: (i6 p1) :: dd u58 21 3 ((.slice A30 l29.length c31) :: (i6 ((l29.length : Nat) : Int)) :: (i6 x69) :: (.bool true) :: (i6 x69) :: (pI x69 A30) :: (u6 x97) :: (i6 p1) :: (u123 32) :: (i6 x69) :: (pI x69 A33) :: (u6 x101) :: (i6 (iw x101)) :: (i6 (iw (p1 + (iw x101)))) :: (vP g0) :: (i6 (iw (p1 + (iw x101)))) :: (i6 (iw ((iw (p1 + (iw x101))) + 2))) :: (vP g0) :: (i6 (iw (p1 + (iw x101)))) :: (i6 x108) :: (.slice A116 l115.length c117) :: (i6 ((l115.length : Nat) : Int)) :: (i6 x134) :: dd u123 47 16 ((u58 63) :: undef :: [])))).toArray, []⟩) a ∧ gLigatures_L2 N zg zl zb p1 x97 x101 l115 k l131 x132 b133 x134 = some c92 ∧ St (foots [eW g0 zr zg zl zn, eR zr zs zA zb zc, eS zs zq]) w0 w [poolE ft124 W125, boxE w0.heap.size [nS, nS, nS, nS, nS, nS, nS] 43, rowG 62 2 (.slice A127 l131.length c128) l131.length vs129, boxE w16.heap.size [nS, nS, .slice A127 l131.length c128, nS, nS, nS, nS] 43, eW g0 zr zg zl x132, eR zr zs zA zb zc, eS zs b133, rowE .u16 31 A33 c34 l32, rowE .u16 31 A30 c31 l29, rowE .u16 31 A116 c117 l115] ∧ Turn (foots [eW g0 zr zg zl zn, eR zr zs zA zb zc, eS zs zq]) w0 W60 ft59 W125 ft124 ∧ (fEach (pairE (rowOf (intE .u16)) (intE .u16)) vs129 l131).rd W125 ft124) N ?_ ?_
 exact ⟨l66, x67, b114, 0, ft59, W60, A62, c63, vs64, selfA_i (by kernel_rfl), hE93, (hS119.pick [0, 1, 2, 3, 6, 7, 8, 4, 5, 9] rfl rfl), (Turn.refl _ _ _ _), hf65⟩
 rintro k135 _ w121 ⟨l131, x132, b133, x134, ft124, W125, A127, c128, vs129, hq190, hL136, hS122, hT126, hf130⟩
 obtain ⟨u123, rfl⟩ := selfA_u hq190
 rcases k135 with _ | k135
 cases hL136
 first | rw [gLigatures_L2] at hL136 | unfold gLigatures_L2 at hL136
 refine gx_seq (fun K137 hK138 => gx_region ?_)
 rcases if_in hL136 with ⟨h139, hL136⟩ | ⟨h139, hL136⟩
 refine gx_v (.bool true) w121 (rbE (decide_eq_true h139)) (gx_nil (gx_thenN (hK138 _ _ (gx_seq (fun K140 hK141 => gx_yes (by kernel_rfl) (gx_pass (gx_thenN ?_)))))))
 refine hK141 _ _ (gx_seq (fun K142 hK143 => gx_block (gx_seq (fun K144 hK145 => gx_region ?_))))
 obtain ⟨x146, hx147, hL136⟩ := bind_in hL136
 refine gx_v (pI x134 A116) w121 (rix 31 .i64 hx147 ((hS122.row 9 rfl).1)) (gx_v (u6 x146) w121 (rlx (hS122.row 9 rfl).1 hx147) (gx_k (u6 x146) w121 (gx_nil (gx_thenN (hK145 _ _ (gdst (fun w => St (foots [eW g0 zr zg zl zn, eR zr zs zA zb zc, eS zs zq]) w0 w [boxE w0.heap.size [nS, nS, nS, nS, nS, nS, nS] 43, boxE w16.heap.size [nS, nS, .slice A127 l131.length c128, nS, nS, nS, nS] 43, eR zr zs zA zb zc, rowE .u16 31 A33 c34 l32, rowE .u16 31 A30 c31 l29, rowE .u16 31 A116 c117 l115]) 13 ?_))))))
 have hS149 := hS122.drew
 generalize w121.drew = w148 at hS149 ⊢
 refine gv1 0 50 (vQ w16.heap.size 2) rfl (hS149.pick [1, 3, 5, 7, 8, 9] rfl rfl) (gu1 1 51 (.slice A127 l131.length c128) rfl (hS149.pick [1, 3, 5, 7, 8, 9] rfl rfl) (fun w hSw => rl1 (hSw.box 1 rfl 2 rfl)) (gv1 2 52 (vP g0) rfl (hS149.pick [1, 3, 5, 7, 8, 9] rfl rfl) (gv1 3 53 (i6 (iw (p1 + (iw x101)))) rfl (hS149.pick [1, 3, 5, 7, 8, 9] rfl rfl) (gv1 4 54 (u6 x146) rfl (hS149.pick [1, 3, 5, 7, 8, 9] rfl rfl) (gv1 5 55 (i6 (iw x146)) rfl (hS149.pick [1, 3, 5, 7, 8, 9] rfl rfl) (gv1 6 56 (i6 (iw ((iw (p1 + (iw x101))) + (iw x146)))) rfl (hS149.pick [1, 3, 5, 7, 8, 9] rfl rfl) (gv1 7 57 (u6 x97) rfl (hS149.pick [1, 3, 5, 7, 8, 9] rfl rfl) ?_)))))))
 have hP150 : St _ _ w148 ([eW g0 zr zg zl x132, eR zr zs zA zb zc, eS zs b133] ++ [poolE ft124 W125, boxE w0.heap.size [nS, nS, nS, nS, nS, nS, nS] 43, rowG 62 2 (.slice A127 l131.length c128) l131.length vs129, boxE w16.heap.size [nS, nS, .slice A127 l131.length c128, nS, nS, nS, nS] 43, rowE .u16 31 A33 c34 l32, rowE .u16 31 A30 c31 l29, rowE .u16 31 A116 c117 l115]) := hS149.pick [4, 5, 6, 0, 1, 2, 3, 7, 8, 9] rfl rfl
 obtain ⟨rq187, hc151, hL136⟩ := bind_in hL136
 rcases rq187 with q0 | q0
 obtain ⟨l154, x157, x152, b153⟩ := q0
 try dsimp only at hL136
 refine gdC 8 ⟨some 58, _, _, _, _, _⟩ _ rfl (by kernel_rfl) (pan_ok (gLigature_ok N zg zl x132 zb b133 (iw ((iw (p1 + (iw x101))) + (iw x146))) x97 g0 zr zA zc zs _ hc151 w148 (hP150.vwA hv0_0) hP150.part) :) ?_
 rintro _ w158 ⟨A155, c156, rfl, hT160⟩
 have hS159 : St _ _ w158 [poolE ft124 W125, boxE w0.heap.size [nS, nS, nS, nS, nS, nS, nS] 43, rowG 62 2 (.slice A127 l131.length c128) l131.length vs129, boxE w16.heap.size [nS, nS, .slice A127 l131.length c128, nS, nS, nS, nS] 43, rowE .u16 31 A33 c34 l32, rowE .u16 31 A30 c31 l29, rowE .u16 31 A116 c117 l115, eW g0 zr zg zl x152, eR zr zs zA zb zc, eS zs b153, rowE .u16 31 A155 c156 l154] := hP150.lendN _ hT160
 refine ⟨(hS159.pick [1, 3, 8, 4, 5, 6] rfl rfl), ?_⟩
 obtain ⟨ft161, W162, hS163, hT164, hf165⟩ := hS159.freezeE 10 0 rfl rfl (by decide)
 have hS163 : St _ _ w158 [poolE ft161 W162, boxE w0.heap.size [nS, nS, nS, nS, nS, nS, nS] 43, rowG 62 2 (.slice A127 l131.length c128) l131.length vs129, boxE w16.heap.size [nS, nS, .slice A127 l131.length c128, nS, nS, nS, nS] 43, rowE .u16 31 A33 c34 l32, rowE .u16 31 A30 c31 l29, rowE .u16 31 A116 c117 l115, eW g0 zr zg zl x152, eR zr zs zA zb zc, eS zs b153] := hS163
 have hT164 : Turn (foots [eW g0 zr zg zl zn, eR zr zs zA zb zc, eS zs zq]) w0 W125 ft124 W162 ft161 := hT164
 have hf165 : (fSl (intE .u16) A155 c156 (List.map (Value.int .u16) l154) l154).rd W162 ft161 := hf165
 have hf166 : (fEach (pairE (rowOf (intE .u16)) (intE .u16)) [.slice A155 l154.length c156, u6 x157] [(l154, x157)]).rd W162 ft161 := (each_cons (rd_pair (rd_row rfl hf165) (rd_intg .u16 x157)) each_nil)
 refine gdR 9 ⟨some 59, _, _, _, _, _⟩ rfl (st_madeP (e := (pairE (rowOf (intE .u16)) (intE .u16))) 62 1 [.slice A155 l154.length c156, u6 x157] [(l154, x157)] hS163 rfl hf166 (by decide) (by kernel_rfl)) ?_
 rintro _ w167 ⟨rfl, hS168⟩
 have hS168 : St _ _ w167 [poolE ft161 W162, boxE w0.heap.size [nS, nS, nS, nS, nS, nS, nS] 43, rowG 62 2 (.slice A127 l131.length c128) l131.length vs129, boxE w16.heap.size [nS, nS, .slice A127 l131.length c128, nS, nS, nS, nS] 43, rowE .u16 31 A33 c34 l32, rowE .u16 31 A30 c31 l29, rowE .u16 31 A116 c117 l115, eW g0 zr zg zl x152, eR zr zs zA zb zc, eS zs b153, rowG 62 2 (.slice (some ⟨w158.heap.size, 0, none⟩) 1 1) 1 ([.slice A155 l154.length c156, u6 x157])] := hS168
 refine ⟨(hS168.pick [1, 3, 8, 4, 5, 6] rfl rfl), ?_⟩
 obtain ⟨l169, ha170, hL136⟩ := bind_in hL136
 refine gdR 10 ⟨some 60, _, _, _, _, _⟩ rfl (st_appendP (e := (pairE (rowOf (intE .u16)) (intE .u16))) rfl (by kernel_rfl) (by kernel_rfl) hS168 2 rfl rfl (show 1 = ([(l154, x157)] : List (List Int × Int)).length from rfl) (hT164.pool hf130) hf166 (rowG_lies (e := (pairE (rowOf (intE .u16)) (intE .u16))) (show 1 = ([(l154, x157)] : List (List Int × Int)).length from rfl) (hS168.get 10 rfl)) (rowG_spec (e := (pairE (rowOf (intE .u16)) (intE .u16))) (show 1 = ([(l154, x157)] : List (List Int × Int)).length from rfl) (hS168.get 10 rfl)).2.2.1 ha170 (by kernel_rfl) (by kernel_rfl) (by decide)) ?_
 rintro _ w175 ⟨A171, c172, vs173, rfl, hf174, hS176⟩
 have hS176 : St _ _ w175 [poolE ft161 W162, boxE w0.heap.size [nS, nS, nS, nS, nS, nS, nS] 43, rowG 62 2 (.slice A171 l169.length c172) l169.length vs173, boxE w16.heap.size [nS, nS, .slice A127 l131.length c128, nS, nS, nS, nS] 43, rowE .u16 31 A33 c34 l32, rowE .u16 31 A30 c31 l29, rowE .u16 31 A116 c117 l115, eW g0 zr zg zl x152, eR zr zs zA zb zc, eS zs b153, rowG 62 2 (.slice (some ⟨w158.heap.size, 0, none⟩) 1 1) 1 ([.slice A155 l154.length c156, u6 x157])] := hS176
 refine ⟨(hS176.pick [1, 3, 8, 4, 5, 6] rfl rfl), gv1 11 61 (vQ w16.heap.size 2) rfl (hS176.pick [1, 3, 8, 4, 5, 6] rfl rfl) (gdSz 12 ⟨none, _, _, _, _, _⟩ rfl (st_store (j := 2) (v := (.slice A171 l169.length c172)) rfl (by kernel_rfl) (by kernel_rfl) rfl (fun _ => by kernel_rfl) hS176 3 rfl (by show 2 < 7; decide)) ?_)⟩
 rintro w177 hS178
 have hS178 : St _ _ w177 [poolE ft161 W162, boxE w0.heap.size [nS, nS, nS, nS, nS, nS, nS] 43, rowG 62 2 (.slice A171 l169.length c172) l169.length vs173, boxE w16.heap.size [nS, nS, .slice A171 l169.length c172, nS, nS, nS, nS] 43, rowE .u16 31 A33 c34 l32, rowE .u16 31 A30 c31 l29, rowE .u16 31 A116 c117 l115, eW g0 zr zg zl x152, eR zr zs zA zb zc, eS zs b153, rowG 62 2 (.slice (some ⟨w158.heap.size, 0, none⟩) 1 1) 1 ([.slice A155 l154.length c156, u6 x157])] := hS178
 refine gd_done (by kernel_rfl) (gx_blkN (gx_thenN (hK143 _ _ (gx_region (gx_k (i6 (iw (x134 + 1))) w177 (gx_k (i6 (iw (x134 + 1))) w177 (gx_nil (gx_thenN ?_))))))))
 exact ⟨k135, Nat.lt_succ_self k135, l169, x152, b153, (iw (x134 + 1)), ft161, W162, A171, c172, vs173, selfA_i (by kernel_rfl), hL136, (hS178.pick [0, 1, 2, 3, 7, 8, 9, 4, 5, 6] rfl rfl), (Turn.trans hT126 hT164), hf174⟩
 obtain ⟨x179, x180, b181⟩ := q0
 try dsimp only at hL136
 refine gdCX 8 ⟨some 58, _, _, _, _, _⟩ _ rfl (by kernel_rfl) (pan_gone (gLigature_ok N zg zl x132 zb b133 (iw ((iw (p1 + (iw x101))) + (iw x146))) x97 g0 zr zA zc zs _ hc151 w148 (hP150.vwA hv0_0) hP150.part) :) ?_
 rintro c185 w182 ⟨hx186, hT184⟩
 have hS183 : St _ _ w182 [poolE ft124 W125, boxE w0.heap.size [nS, nS, nS, nS, nS, nS, nS] 43, rowG 62 2 (.slice A127 l131.length c128) l131.length vs129, boxE w16.heap.size [nS, nS, .slice A127 l131.length c128, nS, nS, nS, nS] 43, rowE .u16 31 A33 c34 l32, rowE .u16 31 A30 c31 l29, rowE .u16 31 A116 c117 l115, eW g0 zr zg zl x180, eR zr zs zA zb zc, eS zs b181] := hP150.lendN _ hT184
 refine gx_blkP (gx_thenP (gx_thenP (gx_blkP (gx_blkP (gx_thenP ?_)))))
 obtain rfl := sj hL136
 try dsimp only at hO94
 refine gx_thenP (gx_blkP (gx_thenP ?_))
 obtain rfl := sj hO94
 try dsimp only at hO53
 obtain rfl := sj hO53
 exact gx_finP (by kernel_rfl) (.inr ⟨_, rfl, _, rfl, hx186, (hS183.pick [7, 8, 9] rfl rfl)⟩)
 refine gx_v (.bool false) w121 (rbE (decide_eq_false h139)) (gx_nil (gx_thenN (hK138 _ _ (gx_seq (fun K188 hK189 => gx_no (by kernel_rfl) (gx_exit (gx_thenE ?_)))))))
 refine gx_thenE (gx_blkE (gx_blkN (gx_thenN ?_)))
 exact ⟨l131, x132, b133, ft124, W125, A127, c128, vs129, selfA_i (by kernel_rfl), (sj hL136), (hS122.pick [0, 1, 2, 3, 4, 5, 6, 7, 8] rfl rfl), hT126, hf130⟩
 obtain ⟨x191, b192⟩ := q0
 try dsimp only at hE93
 refine gx_callX _ (by kernel_rfl) (by kernel_rfl) (pan_gone (gWords_ok N zg zl x67 zb b107 (iw ((iw (p1 + (iw x101))) + 2)) x108 g0 zr zA zc zs _ hc113 w109 (hP112.vwA hv0_0) hP112.part) :) ?_
 rintro c196 w193 ⟨hx197, hT195⟩
 have hS194 : St _ _ w193 [poolE ft59 W60, boxE w0.heap.size [nS, nS, nS, nS, nS, nS, nS] 43, rowG 62 2 (.slice A62 l66.length c63) l66.length vs64, boxE w16.heap.size [nS, nS, .slice A62 l66.length c63, nS, nS, nS, nS] 43, rowE .u16 31 A33 c34 l32, rowE .u16 31 A30 c31 l29, eW g0 zr zg zl x67, eR zr zs zA zb zc, eS zs b192] := hP112.lendN _ hT195
 refine gx_thenP (gx_blkP (gx_thenP ?_))
 obtain rfl := sj hE93
 try dsimp only at hO94
 refine gx_thenP (gx_blkP (gx_thenP ?_))
 obtain rfl := sj hO94
 try dsimp only at hO53
 obtain rfl := sj hO53
 exact gx_finP (by kernel_rfl) (.inr ⟨_, rfl, _, rfl, hx197, (hS194.pick [6, 7, 8] rfl rfl)⟩)
 obtain ⟨x199, b200⟩ := q0
 try dsimp only at hE93
 refine gx_callX _ (by kernel_rfl) (by kernel_rfl) (pan_gone (gSize_ok N zg zl x67 zb b68 (iw (p1 + (iw x101))) g0 zr zA zc zs _ hc106 w56 (hP105.vwA hv0_0) hP105.part) :) ?_
 rintro c204 w201 ⟨hx205, hT203⟩
 have hS202 : St _ _ w201 [poolE ft59 W60, boxE w0.heap.size [nS, nS, nS, nS, nS, nS, nS] 43, rowG 62 2 (.slice A62 l66.length c63) l66.length vs64, boxE w16.heap.size [nS, nS, .slice A62 l66.length c63, nS, nS, nS, nS] 43, rowE .u16 31 A33 c34 l32, rowE .u16 31 A30 c31 l29, eW g0 zr zg zl x67, eR zr zs zA zb zc, eS zs b200] := hP105.lendN _ hT203
 refine gx_thenP (gx_blkP (gx_thenP ?_))
 obtain rfl := sj hE93
 try dsimp only at hO94
 refine gx_thenP (gx_blkP (gx_thenP ?_))
 obtain rfl := sj hO94
 try dsimp only at hO53
 obtain rfl := sj hO53
 exact gx_finP (by kernel_rfl) (.inr ⟨_, rfl, _, rfl, hx205, (hS202.pick [6, 7, 8] rfl rfl)⟩)
 rintro _ w79 ⟨l89, x90, b91, ft82, W83, A85, c86, vs87, hq207, rfl, hS80, hT84, hf88⟩
 obtain ⟨u81, rfl⟩ := selfA_u hq207
 try dsimp only at hO94
 refine gx_region (gx_k (i6 (iw (x69 + 1))) w79 (gx_k (i6 (iw (x69 + 1))) w79 (gx_nil (gx_thenN ?_))))
 exact ⟨k72, Nat.lt_succ_self k72, l89, x90, b91, (iw (x69 + 1)), ft82, W83, A85, c86, vs87, selfA_i (by kernel_rfl), hO94, hS80, (Turn.trans hT61 hT84), hf88⟩
 refine gx_v (.bool false) w56 (rbE (decide_eq_false h76)) (gx_nil (gx_thenN (hK75 _ _ (gx_seq (fun K208 hK209 => gx_no (by kernel_rfl) (gx_exit (gx_thenE ?_)))))))
 refine gx_thenE (gx_blkE (gx_thenN ?_))
 exact ⟨l66, x67, b68, ft59, W60, A62, c63, vs64, selfA_i (by kernel_rfl), (sj hL73), (hS57.pick [0, 1, 2, 3, 4, 5, 6] rfl rfl), hT61, hf65⟩
 rintro _ w38 ⟨l48, x49, b50, ft41, W42, A44, c45, vs46, hq228, rfl, hS39, hT43, hf47⟩
 obtain ⟨u40, rfl⟩ := selfA_u hq228
 try dsimp only at hO53
 refine gx_seq (fun K211 hK212 => gx_region (gx_v (.agg #[nS, nS, .slice A44 l48.length c45, nS, nS, nS, nS]) w38 (run_loadG (d := _) rfl (by kernel_rfl) (hS39.get 3 rfl) rfl rfl (by kernel_rfl)) (gx_s (st_storeG (cs := [nS, nS, nS, nS, nS, nS, nS]) (ds := [nS, nS, .slice A44 l48.length c45, nS, nS, nS, nS]) rfl (by kernel_rfl) (by kernel_rfl) (by kernel_rfl) rfl rfl hS39 1 rfl) ?_)))
 rintro w213 hS214
 have hS214 : St _ _ w213 [poolE ft41 W42, boxE w0.heap.size [nS, nS, .slice A44 l48.length c45, nS, nS, nS, nS] 43, rowG 62 2 (.slice A44 l48.length c45) l48.length vs46, boxE w16.heap.size [nS, nS, .slice A44 l48.length c45, nS, nS, nS, nS] 43, eW g0 zr zg zl x49, eR zr zs zA zb zc, eS zs b50] := hS214
 refine gx_nil (gx_thenN (hK212 _ _ (gx_ret ?_)))
 have hS215 : St _ _ w213 [poolE ft41 W42, boxE w0.heap.size [nS, nS, .slice A44 l48.length c45, nS, nS, nS, nS] 43, rowG 62 2 (.slice A44 l48.length c45) l48.length vs46, boxE w16.heap.size [nS, nS, .slice A44 l48.length c45, nS, nS, nS, nS] 43, eW g0 zr zg zl x49, eR zr zs zA zb zc, eS zs b50, rowG 74 2 (.slice none (([] : List (Int × Int)).length) 0) (([] : List (Int × Int)).length) ([])] := hS214.nilrowN 74 2
 have hf216 : (fEach (pairE (intE .u16) (intE .u16)) [] []).rd W42 ft41 := each_nil
 have hS217 : St _ _ w213 [poolE ft41 W42, boxE w0.heap.size [nS, nS, .slice A44 l48.length c45, nS, nS, nS, nS] 43, rowG 62 2 (.slice A44 l48.length c45) l48.length vs46, boxE w16.heap.size [nS, nS, .slice A44 l48.length c45, nS, nS, nS, nS] 43, eW g0 zr zg zl x49, eR zr zs zA zb zc, eS zs b50, rowG 74 2 (.slice none (([] : List (Int × Int)).length) 0) (([] : List (Int × Int)).length) ([]), rowG 76 2 (.slice none (([] : List (Int × List Int)).length) 0) (([] : List (Int × List Int)).length) ([])] := hS215.nilrowN 76 2
 have hf218 : (fEach (pairE (intE .u16) (rowOf (intE .u16))) [] []).rd W42 ft41 := each_nil
 have hS219 : St _ _ w213 [poolE ft41 W42, boxE w0.heap.size [nS, nS, .slice A44 l48.length c45, nS, nS, nS, nS] 43, rowG 62 2 (.slice A44 l48.length c45) l48.length vs46, boxE w16.heap.size [nS, nS, .slice A44 l48.length c45, nS, nS, nS, nS] 43, eW g0 zr zg zl x49, eR zr zs zA zb zc, eS zs b50, rowG 74 2 (.slice none (([] : List (Int × Int)).length) 0) (([] : List (Int × Int)).length) ([]), rowG 76 2 (.slice none (([] : List (Int × List Int)).length) 0) (([] : List (Int × List Int)).length) ([]), rowG 60 1 (.slice none (([] : List (List Int)).length) 0) (([] : List (List Int)).length) ([])] := hS217.nilrowN 60 1
 have hf220 : (fEach (rowOf (intE .u16)) [] []).rd W42 ft41 := each_nil
 have hS221 : St _ _ w213 [poolE ft41 W42, boxE w0.heap.size [nS, nS, .slice A44 l48.length c45, nS, nS, nS, nS] 43, rowG 62 2 (.slice A44 l48.length c45) l48.length vs46, boxE w16.heap.size [nS, nS, .slice A44 l48.length c45, nS, nS, nS, nS] 43, eW g0 zr zg zl x49, eR zr zs zA zb zc, eS zs b50, rowG 74 2 (.slice none (([] : List (Int × Int)).length) 0) (([] : List (Int × Int)).length) ([]), rowG 76 2 (.slice none (([] : List (Int × List Int)).length) 0) (([] : List (Int × List Int)).length) ([]), rowG 60 1 (.slice none (([] : List (List Int)).length) 0) (([] : List (List Int)).length) ([]), rowG 60 1 (.slice none (([] : List (List Int)).length) 0) (([] : List (List Int)).length) ([])] := hS219.nilrowN 60 1
 have hf222 : (fEach (rowOf (intE .u16)) [] []).rd W42 ft41 := each_nil
 have hS223 : St _ _ w213 [poolE ft41 W42, boxE w0.heap.size [nS, nS, .slice A44 l48.length c45, nS, nS, nS, nS] 43, rowG 62 2 (.slice A44 l48.length c45) l48.length vs46, boxE w16.heap.size [nS, nS, .slice A44 l48.length c45, nS, nS, nS, nS] 43, eW g0 zr zg zl x49, eR zr zs zA zb zc, eS zs b50, rowG 74 2 (.slice none (([] : List (Int × Int)).length) 0) (([] : List (Int × Int)).length) ([]), rowG 76 2 (.slice none (([] : List (Int × List Int)).length) 0) (([] : List (Int × List Int)).length) ([]), rowG 60 1 (.slice none (([] : List (List Int)).length) 0) (([] : List (List Int)).length) ([]), rowG 60 1 (.slice none (([] : List (List Int)).length) 0) (([] : List (List Int)).length) ([]), rowG 60 1 (.slice none (([] : List (List Int)).length) 0) (([] : List (List Int)).length) ([])] := hS221.nilrowN 60 1
 have hf224 : (fEach (rowOf (intE .u16)) [] []).rd W42 ft41 := each_nil
 have hS225 : St _ _ w213 [poolE ft41 W42, boxE w0.heap.size [nS, nS, .slice A44 l48.length c45, nS, nS, nS, nS] 43, rowG 62 2 (.slice A44 l48.length c45) l48.length vs46, boxE w16.heap.size [nS, nS, .slice A44 l48.length c45, nS, nS, nS, nS] 43, eW g0 zr zg zl x49, eR zr zs zA zb zc, eS zs b50, rowG 74 2 (.slice none (([] : List (Int × Int)).length) 0) (([] : List (Int × Int)).length) ([]), rowG 76 2 (.slice none (([] : List (Int × List Int)).length) 0) (([] : List (Int × List Int)).length) ([]), rowG 60 1 (.slice none (([] : List (List Int)).length) 0) (([] : List (List Int)).length) ([]), rowG 60 1 (.slice none (([] : List (List Int)).length) 0) (([] : List (List Int)).length) ([]), rowG 60 1 (.slice none (([] : List (List Int)).length) 0) (([] : List (List Int)).length) ([]), rowG 79 2 (.slice none (([] : List (Int × Int)).length) 0) (([] : List (Int × Int)).length) ([])] := hS223.nilrowN 79 2
 have hf226 : (fEach (pairE (intE .i64) (intE .i64)) [] []).rd W42 ft41 := each_nil
 have hS227 : St _ _ w213 [poolE ft41 w213, boxE w0.heap.size [nS, nS, .slice A44 l48.length c45, nS, nS, nS, nS] 43, rowG 62 2 (.slice A44 l48.length c45) l48.length vs46, boxE w16.heap.size [nS, nS, .slice A44 l48.length c45, nS, nS, nS, nS] 43, eW g0 zr zg zl x49, eR zr zs zA zb zc, eS zs b50, rowG 74 2 (.slice none (([] : List (Int × Int)).length) 0) (([] : List (Int × Int)).length) ([]), rowG 76 2 (.slice none (([] : List (Int × List Int)).length) 0) (([] : List (Int × List Int)).length) ([]), rowG 60 1 (.slice none (([] : List (List Int)).length) 0) (([] : List (List Int)).length) ([]), rowG 60 1 (.slice none (([] : List (List Int)).length) 0) (([] : List (List Int)).length) ([]), rowG 60 1 (.slice none (([] : List (List Int)).length) 0) (([] : List (List Int)).length) ([]), rowG 79 2 (.slice none (([] : List (Int × Int)).length) 0) (([] : List (Int × Int)).length) ([])] := hS225.renew 0 rfl
 obtain rfl := sj hO53
 exact gx_fin (.agg #[.slice none (([] : List (Int × Int)).length) 0, .slice none (([] : List (Int × List Int)).length) 0, .slice A44 l48.length c45, .slice none (([] : List (List Int)).length) 0, .slice none (([] : List (List Int)).length) 0, .slice none (([] : List (List Int)).length) 0, .slice none (([] : List (Int × Int)).length) 0]) (by kernel_rfl) (res_cell rfl _ _ w0.heap.size _ _ _ (by kernel_rfl) (hS227.get 1 rfl) (by kernel_rfl) (by kernel_rfl)) (.inl ⟨_, rfl, _, rfl, none, 0, ([]), none, 0, ([]), A44, c45, vs46, none, 0, ([]), none, 0, ([]), none, 0, ([]), none, 0, ([]), ft41, rfl, (hS227.pick [4, 5, 6, 7, 8, 2, 9, 10, 11, 12, 0] rfl rfl), (hS225.now 0 rfl hf216), (hS225.now 0 rfl hf218), (hS225.now 0 rfl hf47), (hS225.now 0 rfl hf220), (hS225.now 0 rfl hf222), (hS225.now 0 rfl hf224), (hS225.now 0 rfl hf226)⟩)
 obtain ⟨x229, x230, b231⟩ := q0
 try dsimp only at hF
 refine gx_callX _ (by kernel_rfl) (by kernel_rfl) (pan_gone (gEach_ok N zg zl zn zb b9 p1 g0 zr zA zc zs _ hc26 w21 (hP25.vwA hv0_0) hP25.part) :) ?_
 rintro c235 w232 ⟨hx236, hT234⟩
 have hS233 : St _ _ w232 [poolE ([]) w0, boxE w0.heap.size [nS, nS, nS, nS, nS, nS, nS] 43, boxE w16.heap.size [nS, nS, nS, nS, nS, nS, nS] 43, eW g0 zr zg zl x230, eR zr zs zA zb zc, eS zs b231] := hP25.lendN _ hT234
 refine gx_thenP ?_
 obtain rfl := sj hF
 exact gx_finP (by kernel_rfl) (.inr ⟨_, rfl, _, rfl, hx236, (hS233.pick [3, 4, 5] rfl rfl)⟩)
 try dsimp only at hF
 refine gx_callX _ (by kernel_rfl) (by kernel_rfl) (pan_gone (gRequire_ok N (decide (x10 = 1)) _ hc15 w11 ) :) ?_
 rintro c242 w239 ⟨hx243, hT241⟩
 have hS240 : St _ _ w239 [poolE ([]) w0, boxE w0.heap.size [nS, nS, nS, nS, nS, nS, nS] 43, eW g0 zr zg zl zn, eR zr zs zA zb zc, eS zs b9] := hS12.take _ hT241
 refine gx_thenP ?_
 obtain rfl := sj hF
 exact gx_finP (by kernel_rfl) (.inr ⟨_, rfl, _, rfl, hx243, (hS240.pick [2, 3, 4] rfl rfl)⟩)
 obtain ⟨x245, b246⟩ := q0
 try dsimp only at hF
 refine gx_callX _ (by kernel_rfl) (by kernel_rfl) (pan_gone (gWord_ok N zg zl zn zb zq p1 g0 zr zA zc zs _ hc8 w3 (hP7.vwA hv0_0) hP7.part) :) ?_
 rintro c250 w247 ⟨hx251, hT249⟩
 have hS248 : St _ _ w247 [poolE ([]) w0, boxE w0.heap.size [nS, nS, nS, nS, nS, nS, nS] 43, eW g0 zr zg zl zn, eR zr zs zA zb zc, eS zs b246] := hP7.lendN _ hT249
 refine gx_thenP ?_
 obtain rfl := sj hF
 exact gx_finP (by kernel_rfl) (.inr ⟨_, rfl, _, rfl, hx251, (hS248.pick [2, 3, 4] rfl rfl)⟩)
def gRecords_L1 (N : Nat) (zl : Int) (p2 : Int) (b14 : Bool) (l15 : List Int) (l23 : List (Int × Int)) : Nat → (List (Int × Int)) → Int → Option (Ctl (List (Int × Int)) (Pan (List (Int × Int) × Bool) (Int × Bool)))
 | 0, _, _ => none
 | k51+1, l47, x50 => (if x50 < ((l23.length : Nat) : Int) then ((ix l15 (IntKind.i64.wrap ((2 : Int) * x50))).bind fun x66 => ((ix l15 (IntKind.i64.wrap ((IntKind.i64.wrap ((2 : Int) * x50)) + 1))).bind fun x68 => ((ixg l47 x50).bind fun _x70 => ((setg l47 x50 ((IntKind.i64.wrap x66), (IntKind.i64.wrap x68))).bind fun l83 => ((ixg l83 x50).bind fun x91 => (if x91.1 < p2 then ((ixg l83 x50).bind fun x105 => ((gRequire N (decide (x105.2 < zl))).bind fun | Pan.ok _ => gRecords_L1 N zl p2 b14 l15 l23 k51 l83 (IntKind.i64.wrap (x50 + 1)) | Pan.gone x123 => some (Ctl.ret (Pan.gone (x123, b14))))) else ((gRequire N false).bind fun | Pan.ok _ => gRecords_L1 N zl p2 b14 l15 l23 k51 l83 (IntKind.i64.wrap (x50 + 1)) | Pan.gone x135 => some (Ctl.ret (Pan.gone (x135, b14)))))))))) else some (Ctl.go l47))
def gRecords (N : Nat) (zg : Int) (zl : Int) (zn : Int) (zb : List Int) (zq : Bool) (p1 : Int) (p2 : Int) : Option (Pan (List (Int × Int) × Bool) (Int × Bool)) :=
 ((gWord N zg zl zn zb zq p1).bind fun | Pan.ok (x8, b7) => ((gWords N zg zl zn zb b7 (IntKind.i64.wrap (p1 + 2)) (IntKind.i64.wrap ((2 : Int) * (IntKind.i64.wrap x8)))).bind fun | Pan.ok (l15, b14) => ((mkg (IntKind.i64.wrap (Int.tdiv ((l15.length : Nat) : Int) 2)) ((0, 0) : Int × Int)).bind fun l23 => ((gRecords_L1 N zl p2 b14 l15 l23 N l23 0 : Option (Ctl (List (Int × Int)) (Pan (List (Int × Int) × Bool) (Int × Bool)))).bind fun | Ctl.go l35 => some (Pan.ok (l35, b14)) | Ctl.ret r => some r)) | Pan.gone (x150, b151) => some (Pan.gone (x150, b151))) | Pan.gone (x158, b159) => some (Pan.gone (x158, b159)))
def gRecords_R (zg : Int) (zl : Int) (zn : Int) (zb : List Int) (zq : Bool) (p1 : Int) (p2 : Int) (g0 : Nat) (zr : Nat) (zA : Option Addr) (zc : Nat) (zs : Nat) (r : List (Int × Int) × Bool) (w0 : World) (v : Value) (w : World) : Prop := ∃ (A0' : Option Addr) (c0' : Nat) (vs0' : List Value) (ft' : List Nat), v = .slice A0' r.1.length c0' ∧ St (foots [eW g0 zr zg zl zn, eR zr zs zA zb zc, eS zs zq]) w0 w [eW g0 zr zg zl zn, eR zr zs zA zb zc, eS zs r.2, rowG 79 2 (.slice A0' r.1.length c0') r.1.length vs0', poolE ft' w] ∧ (fEach (pairE (intE .i64) (intE .i64)) vs0' r.1).rd w ft'
def gRecords_X (zg : Int) (zl : Int) (zn : Int) (zb : List Int) (zq : Bool) (p1 : Int) (p2 : Int) (g0 : Nat) (zr : Nat) (zA : Option Addr) (zc : Nat) (zs : Nat) (g : Int × Bool) (w0 : World) (c : List PanicEntry) (w : World) : Prop := c = goneB 113 g.1 ∧ St (foots [eW g0 zr zg zl zn, eR zr zs zA zb zc, eS zs zq]) w0 w [eW g0 zr zg zl zn, eR zr zs zA zb zc, eS zs g.2]
theorem gRecords_ok (N : Nat) (zg : Int) (zl : Int) (zn : Int) (zb : List Int) (zq : Bool) (p1 : Int) (p2 : Int) (g0 : Nat) (zr : Nat) (zA : Option Addr) (zc : Nat) (zs : Nat) (r : Pan (List (Int × Int) × Bool) (Int × Bool)) (hF : gRecords N zg zl zn zb zq p1 p2 = some r) (w0 : World) (hv0_0 : Vw (foots [eW g0 zr zg zl zn, eR zr zs zA zb zc, eS zs zq]) .u8 w0 zA zc zb) (hl : St (foots [eW g0 zr zg zl zn, eR zr zs zA zb zc, eS zs zq]) w0 w0 [eW g0 zr zg zl zn, eR zr zs zA zb zc, eS zs zq]) :
  Calls Try.prog 113 #[.pointer (some ⟨g0, 0, none⟩), .int .i64 p1, .int .i64 p2] w0 fun e w => (∃ r', r = .ok r' ∧ ∃ v, e = .returned v ∧ gRecords_R zg zl zn zb zq p1 p2 g0 zr zA zc zs r' w0 v w) ∨ (∃ g, r = .gone g ∧ ∃ c, e = .panicked c ∧ gRecords_X zg zl zn zb zq p1 p2 g0 zr zA zc zs g w0 c w) := by
 have hS0 := (hl).pool0
 unfold gRecords at hF
 refine calls_of Try.func113 rfl ⟨((vP g0) :: (i6 p1) :: (i6 p2) :: un 64 ([])).toArray, []⟩ (by kernel_rfl) (gx_seq (fun K1 hK2 => gx_region (gx_k (nS) w0 (gx_nil (gx_thenN (hK2 _ _ (gx_seq (fun K3 hK4 => ?_))))))))
 refine gx_region (gx_k (vP g0) w0 (gx_k (i6 p1) w0 (gx_k (i6 (iw (p1 + 2))) w0 (gx_k (vP g0) w0 (gx_k (i6 p1) w0 ?_)))))
 have hP5 : St _ _ w0 ([eW g0 zr zg zl zn, eR zr zs zA zb zc, eS zs zq] ++ [poolE ([]) w0]) := hS0
 obtain ⟨rq165, hc6, hF⟩ := bind_in hF
 rcases rq165 with q0 | q0
 obtain ⟨x8, b7⟩ := q0
 try dsimp only at hF
 refine gx_c _ (pan_ok (gWord_ok N zg zl zn zb zq p1 g0 zr zA zc zs _ hc6 w0 (hP5.vwA hv0_0) hP5.part) :) ?_
 rintro _ w9 ⟨rfl, hT11⟩
 have hS10 : St _ _ w9 [poolE ([]) w0, eW g0 zr zg zl zn, eR zr zs zA zb zc, eS zs b7] := hP5.lendN _ hT11
 refine gx_k (i6 (iw x8)) w9 (gx_k (i6 (iw ((2 : Int) * (iw x8)))) w9 ?_)
 have hP12 : St _ _ w9 ([eW g0 zr zg zl zn, eR zr zs zA zb zc, eS zs b7] ++ [poolE ([]) w0]) := hS10.pick [1, 2, 3, 0] rfl rfl
 obtain ⟨rq157, hc13, hF⟩ := bind_in hF
 rcases rq157 with q0 | q0
 obtain ⟨l15, b14⟩ := q0
 try dsimp only at hF
 refine gx_c _ (pan_ok (gWords_ok N zg zl zn zb b7 (iw (p1 + 2)) (iw ((2 : Int) * (iw x8))) g0 zr zA zc zs _ hc13 w9 (hP12.vwA hv0_0) hP12.part) :) ?_
 rintro _ w18 ⟨A16, c17, rfl, hT20⟩
 have hS19 : St _ _ w18 [poolE ([]) w0, eW g0 zr zg zl zn, eR zr zs zA zb zc, eS zs b14, rowE .u16 31 A16 c17 l15] := hP12.lendN _ hT20
 refine gx_k (.slice A16 l15.length c17) w18 (gx_nil (gx_thenN (hK4 _ _ (gx_seq (fun K21 hK22 => gx_region (gx_k (.slice A16 l15.length c17) w18 (gx_k (i6 ((l15.length : Nat) : Int)) w18 (gx_k (i6 (iw (Int.tdiv ((l15.length : Nat) : Int) 2))) w18 ?_))))))))
 obtain ⟨l23, hm24, hF⟩ := bind_in hF
 refine gx_r (st_makeP (k1 := .i64) (k2 := .i64) (e := (pairE (intE .i64) (intE .i64))) (T := 79) (by_ := 16) (z := .agg #[i6 0, i6 0]) (W := w0) (ft := ([])) rfl (by kernel_rfl) (by kernel_rfl) (by kernel_rfl) (by kernel_rfl) (by kernel_rfl) (by decide) (rd_pair (rd_intg .i64 (0 : Int)) (rd_intg .i64 (0 : Int))) hS19 hm24) ?_
 rintro _ w25 ⟨A27, c28, vs29, rfl, hf30, hS26⟩
 have hS26 : St _ _ w25 [poolE ([]) w0, eW g0 zr zg zl zn, eR zr zs zA zb zc, eS zs b14, rowE .u16 31 A16 c17 l15, rowG 79 2 (.slice A27 l23.length c28) l23.length vs29] := hS26
 refine gx_k (.slice A27 l23.length c28) w25 (gx_nil (gx_thenN (hK22 _ _ ?_)))
 obtain ⟨c38, hE39, hO40⟩ := bind_in hF
 refine gx_cut (fun a w => ∃ (l35 : List (Int × Int)) (vs36 : List Value), selfA (fun u33 => ⟨((vP g0) :: (i6 p1) :: (i6 p2) :: un 3 ((nS) :: (u33 7) :: (.slice A27 l23.length c28) :: (u33 9) :: (vP g0) :: (i6 p1) :: (i6 (iw (p1 + 2))) :: (vP g0) :: (i6 p1) :: (u6 x8) :: (i6 (iw x8)) :: (i6 (iw ((2 : Int) * (iw x8)))) :: dd u33 18 2 ((i6 ((l15.length : Nat) : Int)) :: (i6 (iw (Int.tdiv ((l15.length : Nat) : Int) 2))) :: dd u33 22 44 (undef :: [])))).toArray, []⟩) a ∧ Ctl.go l35 = c38 ∧ St (foots [eW g0 zr zg zl zn, eR zr zs zA zb zc, eS zs zq]) w0 w [poolE ([]) w0, eW g0 zr zg zl zn, eR zr zs zA zb zc, eS zs b14, rowG 79 2 (.slice A27 l23.length c28) l23.length vs36] ∧ (fEach (pairE (intE .i64) (intE .i64)) vs36 l35).rd w0 ([]) ∧ l23.length = l35.length) ?_ ?_
 refine gx_seq (fun K41 hK42 => gx_region (gx_k (.slice A27 l23.length c28) w25 (gx_k (i6 ((l23.length : Nat) : Int)) w25 (gx_k (i6 0) w25 (gx_nil (gx_thenN (hK42 _ _ (gx_block (gx_loop (fun k a w => ∃ (l47 : List (Int × Int)) (x50 : Int) (vs48 : List Value), selfA (fun u45 => ⟨((vP g0) :: (i6 p1) :: (i6 p2) :: un 3 ((nS) :: (.slice A16 l15.length c17) :: (.slice A27 l23.length c28) :: (u45 9) :: (vP g0) :: (i6 p1) :: (i6 (iw (p1 + 2))) :: (vP g0) :: (i6 p1) :: (u6 x8) :: (i6 (iw x8)) :: (i6 (iw ((2 : Int) * (iw x8)))) :: dd u45 18 2 ((i6 ((l15.length : Nat) : Int)) :: (i6 (iw (Int.tdiv ((l15.length : Nat) : Int) 2))) :: dd u45 22 2 ((i6 ((l23.length : Nat) : Int)) :: (i6 x50) :: dd u45 26 40 (undef :: []))))).toArray, []⟩) a ∧ gRecords_L1 N zl p2 b14 l15 l23 k l47 x50 = some c38 ∧ St (foots [eW g0 zr zg zl zn, eR zr zs zA zb zc, eS zs zq]) w0 w [poolE ([]) w0, eW g0 zr zg zl zn, eR zr zs zA zb zc, eS zs b14, rowE .u16 31 A16 c17 l15, rowG 79 2 (.slice A27 l23.length c28) l23.length vs48] ∧ (fEach (pairE (intE .i64) (intE .i64)) vs48 l47).rd w0 ([]) ∧ l23.length = l47.length) N ?_ ?_)))))))))
 exact ⟨l23, 0, vs29, selfA_i (by kernel_rfl), hE39, hS26, hf30, rfl⟩
 rintro k51 _ w43 ⟨l47, x50, vs48, hq144, hL52, hS44, hf49, hn46⟩
 obtain ⟨u45, rfl⟩ := selfA_u hq144
 rcases k51 with _ | k51
 cases hL52
 first | rw [gRecords_L1] at hL52 | unfold gRecords_L1 at hL52
 refine gx_seq (fun K53 hK54 => gx_region ?_)
 rcases if_in hL52 with ⟨h55, hL52⟩ | ⟨h55, hL52⟩
 refine gx_v (.bool true) w43 (rbE (decide_eq_true h55)) (gx_nil (gx_thenN (hK54 _ _ (gx_seq (fun K56 hK57 => gx_yes (by kernel_rfl) (gx_pass (gx_thenN ?_)))))))
 refine hK57 _ _ (gx_seq (fun K58 hK59 => gx_block (gx_seq (fun K60 hK61 => gx_region (gx_k (i6 x50) w43 (gx_k (i6 x50) w43 (gx_nil (gx_thenN ?_))))))))
 refine hK61 _ _ (gx_seq (fun K62 hK63 => gdst (fun w => St (foots [eW g0 zr zg zl zn, eR zr zs zA zb zc, eS zs zq]) w0 w [poolE ([]) w0, eW g0 zr zg zl zn, eR zr zs zA zb zc, eS zs b14, rowE .u16 31 A16 c17 l15, rowG 79 2 (.slice A27 l23.length c28) l23.length vs48]) 18 ?_))
 have hS65 := hS44.drew
 generalize w43.drew = w64 at hS65 ⊢
 refine gv1 0 28 (.slice A27 l23.length c28) rfl hS65 (gv1 1 29 (i6 x50) rfl hS65 (gv1 2 30 (.slice A16 l15.length c17) rfl hS65 (gv1 3 31 (i6 x50) rfl hS65 (gv1 4 32 (i6 (iw ((2 : Int) * x50))) rfl hS65 ?_))))
 obtain ⟨x66, hx67, hL52⟩ := bind_in hL52
 refine gu1 5 33 (pI (iw ((2 : Int) * x50)) A16) rfl hS65 (fun w hSw => rix 31 .i64 hx67 ((hS65.row 4 rfl).1)) (gu1 6 34 (u6 x66) rfl hS65 (fun w hSw => rlx (hSw.row 4 rfl).1 hx67) (gv1 7 35 (i6 (iw x66)) rfl hS65 (gv1 8 36 (.slice A16 l15.length c17) rfl hS65 (gv1 9 37 (i6 x50) rfl hS65 (gv1 10 38 (i6 (iw ((2 : Int) * x50))) rfl hS65 (gv1 11 39 (i6 (iw ((iw ((2 : Int) * x50)) + 1))) rfl hS65 ?_))))))
 obtain ⟨x68, hx69, hL52⟩ := bind_in hL52
 refine gu1 12 40 (pI (iw ((iw ((2 : Int) * x50)) + 1)) A16) rfl hS65 (fun w hSw => rix 31 .i64 hx69 ((hS65.row 4 rfl).1)) (gu1 13 41 (u6 x68) rfl hS65 (fun w hSw => rlx (hSw.row 4 rfl).1 hx69) (gv1 14 42 (i6 (iw x68)) rfl hS65 (gv1 15 43 (.agg #[i6 (iw x66), i6 (iw x68)]) rfl hS65 ?_)))
 obtain ⟨x70, hx71, hL52⟩ := bind_in hL52
 obtain ⟨g72, o73, e74, hA75, he76, h77, ha78⟩ := elem_at (e := (pairE (intE .i64) (intE .i64))) (rowG_lies (e := (pairE (intE .i64) (intE .i64))) hn46 (hS65.get 5 rfl)) hf49 hx71 (by decide)
 obtain ⟨e79, e80, rfl, h81, h82⟩ := h77
 obtain rfl := h81
 obtain rfl := h82
 have ha78 : ∀ w', Lies w' A27 vs48 → w'.rangeAt g72 o73 [i6 x70.1, i6 x70.2] := ha78
 refine gu1 16 44 (.pointer (some ⟨g72, o73, none⟩)) rfl hS65 (fun w hSw => run_ixaddrN (E := 79) (s := 2) (k := .i64) (c := c28) rfl (by kernel_rfl) (by kernel_rfl) (by kernel_rfl) (fun _ => by kernel_rfl) (ixg_in hx71).1 (lt_len hn46 (ixg_in hx71).2.1) hA75) ?_
 obtain ⟨l83, hx84, hL52⟩ := bind_in hL52
 refine gdSz 17 ⟨none, _, _, _, _, _⟩ rfl (st_setN (e := (pairE (intE .i64) (intE .i64))) (ds := [i6 (iw x66), i6 (iw x68)]) rfl (by kernel_rfl) (by kernel_rfl) (by kernel_rfl) hS65 5 rfl hn46 hf49 hA75 (rd_pair (rd_intg .i64 (iw x66)) (rd_intg .i64 (iw x68))) hx84) ?_
 rintro w85 ⟨vs87, hf88, hS86⟩
 have hS86 : St _ _ w85 [poolE ([]) w0, eW g0 zr zg zl zn, eR zr zs zA zb zc, eS zs b14, rowE .u16 31 A16 c17 l15, rowG 79 2 (.slice A27 l23.length c28) l23.length vs87] := hS86
 refine gd_done (by kernel_rfl) (gx_thenN (hK63 _ _ (gdst (fun w => St (foots [eW g0 zr zg zl zn, eR zr zs zA zb zc, eS zs zq]) w0 w [poolE ([]) w0, eW g0 zr zg zl zn, eR zr zs zA zb zc, eS zs b14, rowE .u16 31 A16 c17 l15, rowG 79 2 (.slice A27 l23.length c28) l23.length vs87]) 20 ?_)))
 have hS90 := hS86.drew
 generalize w85.drew = w89 at hS90 ⊢
 refine gv1 0 45 (.slice A27 l23.length c28) rfl hS90 (gv1 1 46 (i6 x50) rfl hS90 ?_)
 obtain ⟨x91, hx92, hL52⟩ := bind_in hL52
 obtain ⟨g93, o94, e95, hA96, he97, h98, ha99⟩ := elem_at (e := (pairE (intE .i64) (intE .i64))) (rowG_lies (e := (pairE (intE .i64) (intE .i64))) (hn46.trans (setg_len hx84).symm) (hS90.get 5 rfl)) hf88 hx92 (by decide)
 obtain ⟨e100, e101, rfl, h102, h103⟩ := h98
 obtain rfl := h102
 obtain rfl := h103
 have ha99 : ∀ w', Lies w' A27 vs87 → w'.rangeAt g93 o94 [i6 x91.1, i6 x91.2] := ha99
 refine gu1 2 47 (.pointer (some ⟨g93, o94, none⟩)) rfl hS90 (fun w hSw => run_ixaddrN (E := 79) (s := 2) (k := .i64) (c := c28) rfl (by kernel_rfl) (by kernel_rfl) (by kernel_rfl) (fun _ => by kernel_rfl) (ixg_in hx92).1 (lt_len (hn46.trans (setg_len hx84).symm) (ixg_in hx92).2.1) hA96) (gv1 3 48 (.pointer (some ⟨g93, o94, none⟩)) rfl hS90 (gu1 4 49 (i6 x91.1) rfl hS90 (fun w hSw => run_loadN1 0 rfl (by kernel_rfl) (fun _ => by kernel_rfl) (ha99 _ (rowG_lies (e := (pairE (intE .i64) (intE .i64))) (hn46.trans (setg_len hx84).symm) (hSw.get 5 rfl))) rfl) (gv1 5 50 (i6 p2) rfl hS90 ?_)))
 rcases if_in hL52 with ⟨h104, hL52⟩ | ⟨h104, hL52⟩
 refine gu1 6 51 (.bool true) rfl hS90 (rbT h104) (gv1 7 52 (.bool true) rfl hS90 (gv1 8 53 (.slice A27 l23.length c28) rfl hS90 (gv1 9 54 (i6 x50) rfl hS90 ?_)))
 obtain ⟨x105, hx106, hL52⟩ := bind_in hL52
 obtain ⟨g107, o108, e109, hA110, he111, h112, ha113⟩ := elem_at (e := (pairE (intE .i64) (intE .i64))) (rowG_lies (e := (pairE (intE .i64) (intE .i64))) (hn46.trans (setg_len hx84).symm) (hS90.get 5 rfl)) hf88 hx106 (by decide)
 obtain ⟨e114, e115, rfl, h116, h117⟩ := h112
 obtain rfl := h116
 obtain rfl := h117
 have ha113 : ∀ w', Lies w' A27 vs87 → w'.rangeAt g107 o108 [i6 x105.1, i6 x105.2] := ha113
 refine gu1 10 55 (.pointer (some ⟨g107, o108, none⟩)) rfl hS90 (fun w hSw => run_ixaddrN (E := 79) (s := 2) (k := .i64) (c := c28) rfl (by kernel_rfl) (by kernel_rfl) (by kernel_rfl) (fun _ => by kernel_rfl) (ixg_in hx106).1 (lt_len (hn46.trans (setg_len hx84).symm) (ixg_in hx106).2.1) hA110) (gv1 11 56 (.pointer (some ⟨g107, o108 + 1, none⟩)) rfl hS90 (gu1 12 57 (i6 x105.2) rfl hS90 (fun w hSw => run_loadN1 1 rfl (by kernel_rfl) (fun _ => by kernel_rfl) (ha113 _ (rowG_lies (e := (pairE (intE .i64) (intE .i64))) (hn46.trans (setg_len hx84).symm) (hSw.get 5 rfl))) rfl) (gv1 13 58 (vP g0) rfl hS90 (gv1 14 59 (vP g0) rfl hS90 (gv1 15 60 (vQ g0 2) rfl hS90 (gu1 16 61 (i6 zl) rfl hS90 (fun w hSw => rl1 (hSw.box 1 rfl 2 rfl)) (gv1 17 62 (.bool (decide (x105.2 < zl))) rfl hS90 ?_)))))))
 refine gv1 18 63 (.bool (decide (x105.2 < zl))) rfl hS90 ?_
 have hP118 : St _ _ w89 ([] ++ [poolE ([]) w0, eW g0 zr zg zl zn, eR zr zs zA zb zc, eS zs b14, rowE .u16 31 A16 c17 l15, rowG 79 2 (.slice A27 l23.length c28) l23.length vs87]) := hS90
 obtain ⟨rq129, hc119, hL52⟩ := bind_in hL52
 rcases rq129 with q0 | x123
 try dsimp only at hL52
 refine gdC 19 ⟨some 64, _, _, _, _, _⟩ _ rfl (by kernel_rfl) (pan_ok (gRequire_ok N (decide (x105.2 < zl)) _ hc119 w89 ) :) ?_
 rintro _ w120 ⟨rfl, hT122⟩
 have hS121 : St _ _ w120 [poolE ([]) w0, eW g0 zr zg zl zn, eR zr zs zA zb zc, eS zs b14, rowE .u16 31 A16 c17 l15, rowG 79 2 (.slice A27 l23.length c28) l23.length vs87] := hS90.take _ hT122
 refine ⟨hS121, gd_done (by kernel_rfl) (gx_blkN (gx_thenN (hK59 _ _ (gx_region (gx_k (i6 (iw (x50 + 1))) w120 (gx_k (i6 (iw (x50 + 1))) w120 (gx_nil ?_)))))))⟩
 refine gx_thenN ?_
 exact ⟨k51, Nat.lt_succ_self k51, l83, (iw (x50 + 1)), vs87, selfA_i (by kernel_rfl), hL52, hS121, hf88, (hn46.trans (setg_len hx84).symm)⟩
 try dsimp only at hL52
 refine gdCX 19 ⟨some 64, _, _, _, _, _⟩ _ rfl (by kernel_rfl) (pan_gone (gRequire_ok N (decide (x105.2 < zl)) _ hc119 w89 ) :) ?_
 rintro c127 w124 ⟨hx128, hT126⟩
 have hS125 : St _ _ w124 [poolE ([]) w0, eW g0 zr zg zl zn, eR zr zs zA zb zc, eS zs b14, rowE .u16 31 A16 c17 l15, rowG 79 2 (.slice A27 l23.length c28) l23.length vs87] := hS90.take _ hT126
 refine gx_blkP (gx_thenP (gx_thenP (gx_blkP (gx_thenP ?_))))
 obtain rfl := sj hL52
 try dsimp only at hO40
 obtain rfl := sj hO40
 exact gx_finP (by kernel_rfl) (.inr ⟨_, rfl, _, rfl, hx128, (hS125.pick [1, 2, 3] rfl rfl)⟩)
 refine gu1 6 51 (.bool false) rfl hS90 (rbF h104) (gv1 7 52 (.bool false) rfl hS90 (gz1 8 53 rfl hS90 (gz1 9 54 rfl hS90 (gz1 10 55 rfl hS90 (gz1 11 56 rfl hS90 (gz1 12 57 rfl hS90 (gz1 13 58 rfl hS90 ?_)))))))
 refine gz1 14 59 rfl hS90 (gz1 15 60 rfl hS90 (gz1 16 61 rfl hS90 (gz1 17 62 rfl hS90 (gv1 18 63 (.bool false) rfl hS90 ?_))))
 have hP130 : St _ _ w89 ([] ++ [poolE ([]) w0, eW g0 zr zg zl zn, eR zr zs zA zb zc, eS zs b14, rowE .u16 31 A16 c17 l15, rowG 79 2 (.slice A27 l23.length c28) l23.length vs87]) := hS90
 obtain ⟨rq141, hc131, hL52⟩ := bind_in hL52
 rcases rq141 with q0 | x135
 try dsimp only at hL52
 refine gdC 19 ⟨some 64, _, _, _, _, _⟩ _ rfl (by kernel_rfl) (pan_ok (gRequire_ok N false _ hc131 w89 ) :) ?_
 rintro _ w132 ⟨rfl, hT134⟩
 have hS133 : St _ _ w132 [poolE ([]) w0, eW g0 zr zg zl zn, eR zr zs zA zb zc, eS zs b14, rowE .u16 31 A16 c17 l15, rowG 79 2 (.slice A27 l23.length c28) l23.length vs87] := hS90.take _ hT134
 refine ⟨hS133, gd_done (by kernel_rfl) (gx_blkN (gx_thenN (hK59 _ _ (gx_region (gx_k (i6 (iw (x50 + 1))) w132 (gx_k (i6 (iw (x50 + 1))) w132 (gx_nil ?_)))))))⟩
 refine gx_thenN ?_
 exact ⟨k51, Nat.lt_succ_self k51, l83, (iw (x50 + 1)), vs87, selfA_i (by kernel_rfl), hL52, hS133, hf88, (hn46.trans (setg_len hx84).symm)⟩
 try dsimp only at hL52
 refine gdCX 19 ⟨some 64, _, _, _, _, _⟩ _ rfl (by kernel_rfl) (pan_gone (gRequire_ok N false _ hc131 w89 ) :) ?_
 rintro c139 w136 ⟨hx140, hT138⟩
 have hS137 : St _ _ w136 [poolE ([]) w0, eW g0 zr zg zl zn, eR zr zs zA zb zc, eS zs b14, rowE .u16 31 A16 c17 l15, rowG 79 2 (.slice A27 l23.length c28) l23.length vs87] := hS90.take _ hT138
 refine gx_blkP (gx_thenP (gx_thenP (gx_blkP (gx_thenP ?_))))
 obtain rfl := sj hL52
 try dsimp only at hO40
 obtain rfl := sj hO40
 exact gx_finP (by kernel_rfl) (.inr ⟨_, rfl, _, rfl, hx140, (hS137.pick [1, 2, 3] rfl rfl)⟩)
 refine gx_v (.bool false) w43 (rbE (decide_eq_false h55)) (gx_nil (gx_thenN (hK54 _ _ (gx_seq (fun K142 hK143 => gx_no (by kernel_rfl) (gx_exit (gx_thenE ?_)))))))
 refine gx_thenE (gx_blkE (gx_thenN ?_))
 exact ⟨l47, vs48, selfA_i (by kernel_rfl), (sj hL52), (hS44.pick [0, 1, 2, 3, 5] rfl rfl), hf49, hn46⟩
 rintro _ w31 ⟨l35, vs36, hq149, rfl, hS32, hf37, hn34⟩
 obtain ⟨u33, rfl⟩ := selfA_u hq149
 try dsimp only at hO40
 refine gx_seq (fun K145 hK146 => gx_region (gx_k (.slice A27 l23.length c28) w31 (gx_k (.slice A27 l23.length c28) w31 (gx_nil (gx_thenN (hK146 _ _ (gx_ret ?_)))))))
 have hS147 : St _ _ w31 [poolE ([]) w0, eW g0 zr zg zl zn, eR zr zs zA zb zc, eS zs b14, rowG 79 2 (.slice A27 l35.length c28) l35.length vs36] := hS32.len (e := (pairE (intE .i64) (intE .i64))) 4 rfl hn34
 have hS148 : St _ _ w31 [poolE ([]) w31, eW g0 zr zg zl zn, eR zr zs zA zb zc, eS zs b14, rowG 79 2 (.slice A27 l35.length c28) l35.length vs36] := hS147.renew 0 rfl
 obtain rfl := sj hO40
 exact gxF (.slice A27 l23.length c28) (.inl ⟨_, rfl, _, rfl, A27, c28, vs36, ([]), by rw [← hn34] <;> kernel_rfl, (hS148.pick [1, 2, 3, 4, 0] rfl rfl), (hS147.now 0 rfl hf37)⟩)
 obtain ⟨x150, b151⟩ := q0
 try dsimp only at hF
 refine gx_callX _ (by kernel_rfl) (by kernel_rfl) (pan_gone (gWords_ok N zg zl zn zb b7 (iw (p1 + 2)) (iw ((2 : Int) * (iw x8))) g0 zr zA zc zs _ hc13 w9 (hP12.vwA hv0_0) hP12.part) :) ?_
 rintro c155 w152 ⟨hx156, hT154⟩
 have hS153 : St _ _ w152 [poolE ([]) w0, eW g0 zr zg zl zn, eR zr zs zA zb zc, eS zs b151] := hP12.lendN _ hT154
 refine gx_thenP ?_
 obtain rfl := sj hF
 exact gx_finP (by kernel_rfl) (.inr ⟨_, rfl, _, rfl, hx156, (hS153.pick [1, 2, 3] rfl rfl)⟩)
 obtain ⟨x158, b159⟩ := q0
 try dsimp only at hF
 refine gx_callX _ (by kernel_rfl) (by kernel_rfl) (pan_gone (gWord_ok N zg zl zn zb zq p1 g0 zr zA zc zs _ hc6 w0 (hP5.vwA hv0_0) hP5.part) :) ?_
 rintro c163 w160 ⟨hx164, hT162⟩
 have hS161 : St _ _ w160 [poolE ([]) w0, eW g0 zr zg zl zn, eR zr zs zA zb zc, eS zs b159] := hP5.lendN _ hT162
 refine gx_thenP ?_
 obtain rfl := sj hF
 exact gx_finP (by kernel_rfl) (.inr ⟨_, rfl, _, rfl, hx164, (hS161.pick [1, 2, 3] rfl rfl)⟩)
def gSets_L1 (N : Nat) (zg : Int) (zl : Int) (zb : List Int) (p1 : Int) (l8 : List Int) : Nat → Int → Bool → (List (List Int)) → Int → Option (Ctl (Int × Bool × List (List Int)) (Pan (List (List Int) × Int × Int × Bool) (Int × Int × Bool)))
 | 0, _, _, _, _ => none
 | k48+1, x40, b41, l46, x47 => (if x47 < ((l8.length : Nat) : Int) then ((ix l8 x47).bind fun x59 => ((gCoverage N zg zl x40 zb b41 (IntKind.i64.wrap (p1 + (IntKind.i64.wrap x59)))).bind fun | Pan.ok (l65, x63, b64) => ((apg l46 ([l65] : List (List Int))).bind fun l79 => gSets_L1 N zg zl zb p1 l8 k48 x63 b64 l79 (IntKind.i64.wrap (x47 + 1))) | Pan.gone (x87, x88, b89) => some (Ctl.ret (Pan.gone (x87, x88, b89))))) else some (Ctl.go (x40, b41, l46)))
def gSets (N : Nat) (zg : Int) (zl : Int) (zn : Int) (zb : List Int) (zq : Bool) (p1 : Int) (p2 : Int) : Option (Pan (List (List Int) × Int × Int × Bool) (Int × Int × Bool)) :=
 ((gList N zg zl zn zb zq p2).bind fun | Pan.ok (l8, b7) => ((gSets_L1 N zg zl zb p1 l8 N zn b7 ([] : List (List Int)) 0 : Option (Ctl (Int × Bool × List (List Int)) (Pan (List (List Int) × Int × Int × Bool) (Int × Int × Bool)))).bind fun | Ctl.go (x20, b21, l26) => some (Pan.ok (l26, (IntKind.i64.wrap ((IntKind.i64.wrap (p2 + 2)) + (IntKind.i64.wrap ((2 : Int) * ((l8.length : Nat) : Int))))), x20, b21)) | Ctl.ret r => some r) | Pan.gone (x103, b104) => some (Pan.gone (x103, zn, b104)))
def gSets_R (zg : Int) (zl : Int) (zn : Int) (zb : List Int) (zq : Bool) (p1 : Int) (p2 : Int) (g0 : Nat) (zr : Nat) (zA : Option Addr) (zc : Nat) (zs : Nat) (r : List (List Int) × Int × Int × Bool) (w0 : World) (v : Value) (w : World) : Prop := ∃ (A0' : Option Addr) (c0' : Nat) (vs0' : List Value) (ft' : List Nat), v = .tuple #[.slice A0' r.1.length c0', .int .i64 r.2.1] ∧ St (foots [eW g0 zr zg zl zn, eR zr zs zA zb zc, eS zs zq]) w0 w [eW g0 zr zg zl r.2.2.1, eR zr zs zA zb zc, eS zs r.2.2.2, rowG 60 1 (.slice A0' r.1.length c0') r.1.length vs0', poolE ft' w] ∧ (fEach (rowOf (intE .u16)) vs0' r.1).rd w ft'
def gSets_X (zg : Int) (zl : Int) (zn : Int) (zb : List Int) (zq : Bool) (p1 : Int) (p2 : Int) (g0 : Nat) (zr : Nat) (zA : Option Addr) (zc : Nat) (zs : Nat) (g : Int × Int × Bool) (w0 : World) (c : List PanicEntry) (w : World) : Prop := c = goneB 113 g.1 ∧ St (foots [eW g0 zr zg zl zn, eR zr zs zA zb zc, eS zs zq]) w0 w [eW g0 zr zg zl g.2.1, eR zr zs zA zb zc, eS zs g.2.2]
theorem gSets_ok (N : Nat) (zg : Int) (zl : Int) (zn : Int) (zb : List Int) (zq : Bool) (p1 : Int) (p2 : Int) (g0 : Nat) (zr : Nat) (zA : Option Addr) (zc : Nat) (zs : Nat) (r : Pan (List (List Int) × Int × Int × Bool) (Int × Int × Bool)) (hF : gSets N zg zl zn zb zq p1 p2 = some r) (w0 : World) (hv0_0 : Vw (foots [eW g0 zr zg zl zn, eR zr zs zA zb zc, eS zs zq]) .u8 w0 zA zc zb) (hl : St (foots [eW g0 zr zg zl zn, eR zr zs zA zb zc, eS zs zq]) w0 w0 [eW g0 zr zg zl zn, eR zr zs zA zb zc, eS zs zq]) :
  Calls Try.prog 112 #[.pointer (some ⟨g0, 0, none⟩), .int .i64 p1, .int .i64 p2] w0 fun e w => (∃ r', r = .ok r' ∧ ∃ v, e = .returned v ∧ gSets_R zg zl zn zb zq p1 p2 g0 zr zA zc zs r' w0 v w) ∨ (∃ g, r = .gone g ∧ ∃ c, e = .panicked c ∧ gSets_X zg zl zn zb zq p1 p2 g0 zr zA zc zs g w0 c w) := by
 have hS0 := (hl).pool0
 unfold gSets at hF
 refine calls_of Try.func112 rfl ⟨((vP g0) :: (i6 p1) :: (i6 p2) :: un 34 ([])).toArray, []⟩ (by kernel_rfl) (gx_seq (fun K1 hK2 => gx_region (gx_k (nS) w0 (gx_k (i6 0) w0 (gx_nil (gx_thenN (hK2 _ _ (gx_seq (fun K3 hK4 => ?_)))))))))
 refine gx_region (gx_k (vP g0) w0 (gx_k (i6 p2) w0 ?_))
 have hP5 : St _ _ w0 ([eW g0 zr zg zl zn, eR zr zs zA zb zc, eS zs zq] ++ [poolE ([]) w0]) := hS0
 obtain ⟨rq110, hc6, hF⟩ := bind_in hF
 rcases rq110 with q0 | q0
 obtain ⟨l8, b7⟩ := q0
 try dsimp only at hF
 refine gx_c _ (pan_ok (gList_ok N zg zl zn zb zq p2 g0 zr zA zc zs _ hc6 w0 (hP5.vwA hv0_0) hP5.part) :) ?_
 rintro _ w11 ⟨A9, c10, rfl, hT13⟩
 have hS12 : St _ _ w11 [poolE ([]) w0, eW g0 zr zg zl zn, eR zr zs zA zb zc, eS zs b7, rowE .u16 31 A9 c10 l8] := hP5.lendN _ hT13
 refine gx_k (.slice A9 l8.length c10) w11 (gx_nil (gx_thenN (hK4 _ _ ?_)))
 obtain ⟨c27, hE28, hO29⟩ := bind_in hF
 refine gx_cut (fun a w => ∃ (x20 : Int) (b21 : Bool) (l26 : List (List Int)) (ft17 : List Nat) (W18 : World) (A22 : Option Addr) (c23 : Nat) (vs24 : List Value), selfA (fun u16 => ⟨((vP g0) :: (i6 p1) :: (i6 p2) :: un 3 ((.slice A22 l26.length c23) :: (i6 0) :: (.slice A9 l8.length c10) :: undef :: (u16 10) :: (vP g0) :: (i6 p2) :: dd u16 13 17 (un 7 ([])))).toArray, []⟩) a ∧ Ctl.go (x20, b21, l26) = c27 ∧ St (foots [eW g0 zr zg zl zn, eR zr zs zA zb zc, eS zs zq]) w0 w [poolE ft17 W18, eW g0 zr zg zl x20, eR zr zs zA zb zc, eS zs b21, rowG 60 1 (.slice A22 l26.length c23) l26.length vs24, rowE .u16 31 A9 c10 l8] ∧ Turn (foots [eW g0 zr zg zl zn, eR zr zs zA zb zc, eS zs zq]) w0 w0 ([]) W18 ft17 ∧ (fEach (rowOf (intE .u16)) vs24 l26).rd W18 ft17) ?_ ?_
 refine gx_seq (fun K30 hK31 => gx_region (gx_k (.slice A9 l8.length c10) w11 (gx_k (i6 ((l8.length : Nat) : Int)) w11 (gx_k (i6 0) w11 (gx_nil (gx_thenN (hK31 _ _ (gx_block ?_))))))))
 have hS32 : St _ _ w11 [poolE ([]) w0, eW g0 zr zg zl zn, eR zr zs zA zb zc, eS zs b7, rowE .u16 31 A9 c10 l8, rowG 60 1 (.slice none (([] : List (List Int)).length) 0) (([] : List (List Int)).length) ([])] := hS12.nilrowN 60 1
 have hf33 : (fEach (rowOf (intE .u16)) [] []).rd w0 ([]) := each_nil
 refine gx_loop (fun k a w => ∃ (x40 : Int) (b41 : Bool) (l46 : List (List Int)) (x47 : Int) (ft37 : List Nat) (W38 : World) (A42 : Option Addr) (c43 : Nat) (vs44 : List Value), selfA (fun u36 => ⟨((vP g0) :: (i6 p1) :: (i6 p2) :: un 3 ((.slice A42 l46.length c43) :: (i6 0) :: (.slice A9 l8.length c10) :: undef :: (u36 10) :: (vP g0) :: (i6 p2) :: (u36 13) :: (.slice A9 l8.length c10) :: (i6 ((l8.length : Nat) : Int)) :: (i6 x47) :: dd u36 17 13 (un 7 ([])))).toArray, []⟩) a ∧ gSets_L1 N zg zl zb p1 l8 k x40 b41 l46 x47 = some c27 ∧ St (foots [eW g0 zr zg zl zn, eR zr zs zA zb zc, eS zs zq]) w0 w [poolE ft37 W38, eW g0 zr zg zl x40, eR zr zs zA zb zc, eS zs b41, rowG 60 1 (.slice A42 l46.length c43) l46.length vs44, rowE .u16 31 A9 c10 l8] ∧ Turn (foots [eW g0 zr zg zl zn, eR zr zs zA zb zc, eS zs zq]) w0 w0 ([]) W38 ft37 ∧ (fEach (rowOf (intE .u16)) vs44 l46).rd W38 ft37) N ?_ ?_
 exact ⟨zn, b7, ([] : List (List Int)), 0, ([]), w0, none, 0, ([]), selfA_i (by kernel_rfl), hE28, (hS32.pick [0, 1, 2, 3, 5, 4] rfl rfl), (Turn.refl _ _ _ _), hf33⟩
 rintro k48 _ w34 ⟨x40, b41, l46, x47, ft37, W38, A42, c43, vs44, hq98, hL49, hS35, hT39, hf45⟩
 obtain ⟨u36, rfl⟩ := selfA_u hq98
 rcases k48 with _ | k48
 cases hL49
 first | rw [gSets_L1] at hL49 | unfold gSets_L1 at hL49
 refine gx_seq (fun K50 hK51 => gx_region ?_)
 rcases if_in hL49 with ⟨h52, hL49⟩ | ⟨h52, hL49⟩
 refine gx_v (.bool true) w34 (rbE (decide_eq_true h52)) (gx_nil (gx_thenN (hK51 _ _ (gx_seq (fun K53 hK54 => gx_yes (by kernel_rfl) (gx_pass (gx_thenN ?_)))))))
 refine hK54 _ _ (gx_seq (fun K55 hK56 => gx_block (gx_seq (fun K57 hK58 => gx_region ?_))))
 obtain ⟨x59, hx60, hL49⟩ := bind_in hL49
 refine gx_v (pI x47 A9) w34 (rix 31 .i64 hx60 ((hS35.row 5 rfl).1)) (gx_v (u6 x59) w34 (rlx (hS35.row 5 rfl).1 hx60) (gx_k (u6 x59) w34 (gx_nil (gx_thenN (hK58 _ _ (gx_region (gx_k (.slice A42 l46.length c43) w34 (gx_k (vP g0) w34 (gx_k (i6 p1) w34 (gx_k (u6 x59) w34 (gx_k (i6 (iw x59)) w34 (gx_k (i6 (iw (p1 + (iw x59)))) w34 ?_))))))))))))
 have hP61 : St _ _ w34 ([eW g0 zr zg zl x40, eR zr zs zA zb zc, eS zs b41] ++ [poolE ft37 W38, rowG 60 1 (.slice A42 l46.length c43) l46.length vs44, rowE .u16 31 A9 c10 l8]) := hS35.pick [1, 2, 3, 0, 4, 5] rfl rfl
 obtain ⟨rq95, hc62, hL49⟩ := bind_in hL49
 rcases rq95 with q0 | q0
 obtain ⟨l65, x63, b64⟩ := q0
 try dsimp only at hL49
 refine gx_c _ (pan_ok (gCoverage_ok N zg zl x40 zb b41 (iw (p1 + (iw x59))) g0 zr zA zc zs _ hc62 w34 (hP61.vwA hv0_0) hP61.part) :) ?_
 rintro _ w68 ⟨A66, c67, rfl, hT70⟩
 have hS69 : St _ _ w68 [poolE ft37 W38, rowG 60 1 (.slice A42 l46.length c43) l46.length vs44, rowE .u16 31 A9 c10 l8, eW g0 zr zg zl x63, eR zr zs zA zb zc, eS zs b64, rowE .u16 31 A66 c67 l65] := hP61.lendN _ hT70
 obtain ⟨ft71, W72, hS73, hT74, hf75⟩ := hS69.freezeE 6 0 rfl rfl (by decide)
 have hS73 : St _ _ w68 [poolE ft71 W72, rowG 60 1 (.slice A42 l46.length c43) l46.length vs44, rowE .u16 31 A9 c10 l8, eW g0 zr zg zl x63, eR zr zs zA zb zc, eS zs b64] := hS73
 have hT74 : Turn (foots [eW g0 zr zg zl zn, eR zr zs zA zb zc, eS zs zq]) w0 W38 ft37 W72 ft71 := hT74
 have hf75 : (fSl (intE .u16) A66 c67 (List.map (Value.int .u16) l65) l65).rd W72 ft71 := hf75
 have hf76 : (fEach (rowOf (intE .u16)) [.slice A66 l65.length c67] [l65]).rd W72 ft71 := (each_cons (rd_row rfl hf75) each_nil)
 refine gx_r (st_madeP (e := (rowOf (intE .u16))) 60 1 [.slice A66 l65.length c67] [l65] hS73 rfl hf76 (by decide) (by kernel_rfl)) ?_
 rintro _ w77 ⟨rfl, hS78⟩
 have hS78 : St _ _ w77 [poolE ft71 W72, rowG 60 1 (.slice A42 l46.length c43) l46.length vs44, rowE .u16 31 A9 c10 l8, eW g0 zr zg zl x63, eR zr zs zA zb zc, eS zs b64, rowG 60 1 (.slice (some ⟨w68.heap.size, 0, none⟩) 1 1) 1 ([.slice A66 l65.length c67])] := hS78
 obtain ⟨l79, ha80, hL49⟩ := bind_in hL49
 refine gx_r (st_appendP (e := (rowOf (intE .u16))) rfl (by kernel_rfl) (by kernel_rfl) hS78 1 rfl rfl (show 1 = ([l65] : List (List Int)).length from rfl) (hT74.pool hf45) hf76 (rowG_lies (e := (rowOf (intE .u16))) (show 1 = ([l65] : List (List Int)).length from rfl) (hS78.get 6 rfl)) (rowG_spec (e := (rowOf (intE .u16))) (show 1 = ([l65] : List (List Int)).length from rfl) (hS78.get 6 rfl)).2.2.1 ha80 (by kernel_rfl) (by kernel_rfl) (by decide)) ?_
 rintro _ w85 ⟨A81, c82, vs83, rfl, hf84, hS86⟩
 have hS86 : St _ _ w85 [poolE ft71 W72, rowG 60 1 (.slice A81 l79.length c82) l79.length vs83, rowE .u16 31 A9 c10 l8, eW g0 zr zg zl x63, eR zr zs zA zb zc, eS zs b64, rowG 60 1 (.slice (some ⟨w68.heap.size, 0, none⟩) 1 1) 1 ([.slice A66 l65.length c67])] := hS86
 refine gx_k (.slice A81 l79.length c82) w85 (gx_nil (gx_blkN (gx_thenN (hK56 _ _ (gx_region (gx_k (i6 (iw (x47 + 1))) w85 (gx_k (i6 (iw (x47 + 1))) w85 (gx_nil ?_))))))))
 refine gx_thenN ?_
 exact ⟨k48, Nat.lt_succ_self k48, x63, b64, l79, (iw (x47 + 1)), ft71, W72, A81, c82, vs83, selfA_i (by kernel_rfl), hL49, (hS86.pick [0, 3, 4, 5, 1, 2] rfl rfl), (Turn.trans hT39 hT74), hf84⟩
 obtain ⟨x87, x88, b89⟩ := q0
 try dsimp only at hL49
 refine gx_callX _ (by kernel_rfl) (by kernel_rfl) (pan_gone (gCoverage_ok N zg zl x40 zb b41 (iw (p1 + (iw x59))) g0 zr zA zc zs _ hc62 w34 (hP61.vwA hv0_0) hP61.part) :) ?_
 rintro c93 w90 ⟨hx94, hT92⟩
 have hS91 : St _ _ w90 [poolE ft37 W38, rowG 60 1 (.slice A42 l46.length c43) l46.length vs44, rowE .u16 31 A9 c10 l8, eW g0 zr zg zl x88, eR zr zs zA zb zc, eS zs b89] := hP61.lendN _ hT92
 refine gx_blkP (gx_thenP (gx_thenP (gx_blkP (gx_thenP ?_))))
 obtain rfl := sj hL49
 try dsimp only at hO29
 obtain rfl := sj hO29
 exact gx_finP (by kernel_rfl) (.inr ⟨_, rfl, _, rfl, hx94, (hS91.pick [3, 4, 5] rfl rfl)⟩)
 refine gx_v (.bool false) w34 (rbE (decide_eq_false h52)) (gx_nil (gx_thenN (hK51 _ _ (gx_seq (fun K96 hK97 => gx_no (by kernel_rfl) (gx_exit (gx_thenE ?_)))))))
 refine gx_thenE (gx_blkE (gx_thenN ?_))
 exact ⟨x40, b41, l46, ft37, W38, A42, c43, vs44, selfA_i (by kernel_rfl), (sj hL49), hS35, hT39, hf45⟩
 rintro _ w14 ⟨x20, b21, l26, ft17, W18, A22, c23, vs24, hq102, rfl, hS15, hT19, hf25⟩
 obtain ⟨u16, rfl⟩ := selfA_u hq102
 try dsimp only at hO29
 refine gx_seq (fun K99 hK100 => gx_region (gx_k (.slice A22 l26.length c23) w14 (gx_k (i6 p2) w14 (gx_k (i6 (iw (p2 + 2))) w14 (gx_k (.slice A9 l8.length c10) w14 (gx_k (i6 ((l8.length : Nat) : Int)) w14 (gx_k (i6 (iw ((2 : Int) * ((l8.length : Nat) : Int)))) w14 (gx_k (i6 (iw ((iw (p2 + 2)) + (iw ((2 : Int) * ((l8.length : Nat) : Int)))))) w14 (gx_k (.slice A22 l26.length c23) w14 (gx_k (i6 (iw ((iw (p2 + 2)) + (iw ((2 : Int) * ((l8.length : Nat) : Int)))))) w14 (gx_nil (gx_thenN (hK100 _ _ (gx_ret ?_))))))))))))))
 have hS101 : St _ _ w14 [poolE ft17 w14, eW g0 zr zg zl x20, eR zr zs zA zb zc, eS zs b21, rowG 60 1 (.slice A22 l26.length c23) l26.length vs24, rowE .u16 31 A9 c10 l8] := hS15.renew 0 rfl
 obtain rfl := sj hO29
 exact gxF (.tuple #[.slice A22 l26.length c23, i6 (iw ((iw (p2 + 2)) + (iw ((2 : Int) * ((l8.length : Nat) : Int)))))]) (.inl ⟨_, rfl, _, rfl, A22, c23, vs24, ft17, rfl, (hS101.pick [1, 2, 3, 4, 0] rfl rfl), (hS15.now 0 rfl hf25)⟩)
 obtain ⟨x103, b104⟩ := q0
 try dsimp only at hF
 refine gx_callX _ (by kernel_rfl) (by kernel_rfl) (pan_gone (gList_ok N zg zl zn zb zq p2 g0 zr zA zc zs _ hc6 w0 (hP5.vwA hv0_0) hP5.part) :) ?_
 rintro c108 w105 ⟨hx109, hT107⟩
 have hS106 : St _ _ w105 [poolE ([]) w0, eW g0 zr zg zl zn, eR zr zs zA zb zc, eS zs b104] := hP5.lendN _ hT107
 refine gx_thenP ?_
 obtain rfl := sj hF
 exact gx_finP (by kernel_rfl) (.inr ⟨_, rfl, _, rfl, hx109, (hS106.pick [1, 2, 3] rfl rfl)⟩)
def gChained (N : Nat) (zg : Int) (zl : Int) (zn : Int) (zb : List Int) (zq : Bool) (p1 : Int) : Option (Pan (List (Int × Int) × List (Int × List Int) × List (List Int × Int) × List (List Int) × List (List Int) × List (List Int) × List (Int × Int) × Int × Bool) (Int × Int × Bool)) :=
 ((gWord N zg zl zn zb zq p1).bind fun | Pan.ok (x10, b9) => ((gRequire N (decide (x10 = 3))).bind fun | Pan.ok _ => ((gSets N zg zl zn zb b9 p1 (IntKind.i64.wrap (p1 + 2))).bind fun | Pan.ok (l31, x36, x29, b30) => ((gSets N zg zl x29 zb b30 p1 x36).bind fun | Pan.ok (l57, x62, x55, b56) => ((gSets N zg zl x55 zb b56 p1 x62).bind fun | Pan.ok (l83, x88, x81, b82) => ((gRequire N (decide (((l57.length : Nat) : Int) ≥ 1))).bind fun | Pan.ok _ => ((gRecords N zg zl x81 zb b82 x88 ((l57.length : Nat) : Int)).bind fun | Pan.ok (l115, b114) => some (Pan.ok (([] : List (Int × Int)), ([] : List (Int × List Int)), ([] : List (List Int × Int)), l31, l57, l83, l115, x81, b114)) | Pan.gone (x145, b146) => some (Pan.gone (x145, x81, b146))) | Pan.gone x153 => some (Pan.gone (x153, x81, b82))) | Pan.gone (x160, x161, b162) => some (Pan.gone (x160, x161, b162))) | Pan.gone (x169, x170, b171) => some (Pan.gone (x169, x170, b171))) | Pan.gone (x178, x179, b180) => some (Pan.gone (x178, x179, b180))) | Pan.gone x187 => some (Pan.gone (x187, zn, b9))) | Pan.gone (x194, b195) => some (Pan.gone (x194, zn, b195)))
def gChained_R (zg : Int) (zl : Int) (zn : Int) (zb : List Int) (zq : Bool) (p1 : Int) (g0 : Nat) (zr : Nat) (zA : Option Addr) (zc : Nat) (zs : Nat) (r : List (Int × Int) × List (Int × List Int) × List (List Int × Int) × List (List Int) × List (List Int) × List (List Int) × List (Int × Int) × Int × Bool) (w0 : World) (v : Value) (w : World) : Prop := ∃ (A0_0' : Option Addr) (c0_0' : Nat) (vs0_0' : List Value) (A0_1' : Option Addr) (c0_1' : Nat) (vs0_1' : List Value) (A0_2' : Option Addr) (c0_2' : Nat) (vs0_2' : List Value) (A0_3' : Option Addr) (c0_3' : Nat) (vs0_3' : List Value) (A0_4' : Option Addr) (c0_4' : Nat) (vs0_4' : List Value) (A0_5' : Option Addr) (c0_5' : Nat) (vs0_5' : List Value) (A0_6' : Option Addr) (c0_6' : Nat) (vs0_6' : List Value) (ft' : List Nat), v = .agg #[.slice A0_0' r.1.length c0_0', .slice A0_1' r.2.1.length c0_1', .slice A0_2' r.2.2.1.length c0_2', .slice A0_3' r.2.2.2.1.length c0_3', .slice A0_4' r.2.2.2.2.1.length c0_4', .slice A0_5' r.2.2.2.2.2.1.length c0_5', .slice A0_6' r.2.2.2.2.2.2.1.length c0_6'] ∧ St (foots [eW g0 zr zg zl zn, eR zr zs zA zb zc, eS zs zq]) w0 w [eW g0 zr zg zl r.2.2.2.2.2.2.2.1, eR zr zs zA zb zc, eS zs r.2.2.2.2.2.2.2.2, rowG 74 2 (.slice A0_0' r.1.length c0_0') r.1.length vs0_0', rowG 76 2 (.slice A0_1' r.2.1.length c0_1') r.2.1.length vs0_1', rowG 62 2 (.slice A0_2' r.2.2.1.length c0_2') r.2.2.1.length vs0_2', rowG 60 1 (.slice A0_3' r.2.2.2.1.length c0_3') r.2.2.2.1.length vs0_3', rowG 60 1 (.slice A0_4' r.2.2.2.2.1.length c0_4') r.2.2.2.2.1.length vs0_4', rowG 60 1 (.slice A0_5' r.2.2.2.2.2.1.length c0_5') r.2.2.2.2.2.1.length vs0_5', rowG 79 2 (.slice A0_6' r.2.2.2.2.2.2.1.length c0_6') r.2.2.2.2.2.2.1.length vs0_6', poolE ft' w] ∧ (fEach (pairE (intE .u16) (intE .u16)) vs0_0' r.1).rd w ft' ∧ (fEach (pairE (intE .u16) (rowOf (intE .u16))) vs0_1' r.2.1).rd w ft' ∧ (fEach (pairE (rowOf (intE .u16)) (intE .u16)) vs0_2' r.2.2.1).rd w ft' ∧ (fEach (rowOf (intE .u16)) vs0_3' r.2.2.2.1).rd w ft' ∧ (fEach (rowOf (intE .u16)) vs0_4' r.2.2.2.2.1).rd w ft' ∧ (fEach (rowOf (intE .u16)) vs0_5' r.2.2.2.2.2.1).rd w ft' ∧ (fEach (pairE (intE .i64) (intE .i64)) vs0_6' r.2.2.2.2.2.2.1).rd w ft'
def gChained_X (zg : Int) (zl : Int) (zn : Int) (zb : List Int) (zq : Bool) (p1 : Int) (g0 : Nat) (zr : Nat) (zA : Option Addr) (zc : Nat) (zs : Nat) (g : Int × Int × Bool) (w0 : World) (c : List PanicEntry) (w : World) : Prop := c = goneB 113 g.1 ∧ St (foots [eW g0 zr zg zl zn, eR zr zs zA zb zc, eS zs zq]) w0 w [eW g0 zr zg zl g.2.1, eR zr zs zA zb zc, eS zs g.2.2]
theorem gChained_ok (N : Nat) (zg : Int) (zl : Int) (zn : Int) (zb : List Int) (zq : Bool) (p1 : Int) (g0 : Nat) (zr : Nat) (zA : Option Addr) (zc : Nat) (zs : Nat) (r : Pan (List (Int × Int) × List (Int × List Int) × List (List Int × Int) × List (List Int) × List (List Int) × List (List Int) × List (Int × Int) × Int × Bool) (Int × Int × Bool)) (hF : gChained N zg zl zn zb zq p1 = some r) (w0 : World) (hv0_0 : Vw (foots [eW g0 zr zg zl zn, eR zr zs zA zb zc, eS zs zq]) .u8 w0 zA zc zb) (hl : St (foots [eW g0 zr zg zl zn, eR zr zs zA zb zc, eS zs zq]) w0 w0 [eW g0 zr zg zl zn, eR zr zs zA zb zc, eS zs zq]) :
  Calls Try.prog 91 #[.pointer (some ⟨g0, 0, none⟩), .int .i64 p1] w0 fun e w => (∃ r', r = .ok r' ∧ ∃ v, e = .returned v ∧ gChained_R zg zl zn zb zq p1 g0 zr zA zc zs r' w0 v w) ∨ (∃ g, r = .gone g ∧ ∃ c, e = .panicked c ∧ gChained_X zg zl zn zb zq p1 g0 zr zA zc zs g w0 c w) := by
 have hS0 := (hl).pool0
 unfold gChained at hF
 refine calls_of Try.func91 rfl ⟨((vP g0) :: (i6 p1) :: un 49 ([])).toArray, []⟩ (by kernel_rfl) (gx_seq (fun K1 hK2 => gx_region (gx_r (st_boxed [nS, nS, nS, nS, nS, nS, nS] 43 hS0 (by kernel_rfl)) ?_)))
 rintro _ w3 ⟨rfl, hS4⟩
 have hS4 : St _ _ w3 [eW g0 zr zg zl zn, eR zr zs zA zb zc, eS zs zq, poolE ([]) w0, boxE w0.heap.size [nS, nS, nS, nS, nS, nS, nS] 43] := hS4
 refine gx_nil (gx_thenN (hK2 _ _ (gx_seq (fun K5 hK6 => gx_region (gx_k (vP g0) w3 (gx_k (i6 p1) w3 ?_))))))
 have hP7 : St _ _ w3 ([eW g0 zr zg zl zn, eR zr zs zA zb zc, eS zs zq] ++ [poolE ([]) w0, boxE w0.heap.size [nS, nS, nS, nS, nS, nS, nS] 43]) := hS4
 obtain ⟨rq201, hc8, hF⟩ := bind_in hF
 rcases rq201 with q0 | q0
 obtain ⟨x10, b9⟩ := q0
 try dsimp only at hF
 refine gx_c _ (pan_ok (gWord_ok N zg zl zn zb zq p1 g0 zr zA zc zs _ hc8 w3 (hP7.vwA hv0_0) hP7.part) :) ?_
 rintro _ w11 ⟨rfl, hT13⟩
 have hS12 : St _ _ w11 [poolE ([]) w0, boxE w0.heap.size [nS, nS, nS, nS, nS, nS, nS] 43, eW g0 zr zg zl zn, eR zr zs zA zb zc, eS zs b9] := hP7.lendN _ hT13
 refine gx_k (.bool (decide (x10 = 3))) w11 ?_
 have hP14 : St _ _ w11 ([] ++ [poolE ([]) w0, boxE w0.heap.size [nS, nS, nS, nS, nS, nS, nS] 43, eW g0 zr zg zl zn, eR zr zs zA zb zc, eS zs b9]) := hS12
 obtain ⟨rq193, hc15, hF⟩ := bind_in hF
 rcases rq193 with q0 | x187
 try dsimp only at hF
 refine gx_c _ (pan_ok (gRequire_ok N (decide (x10 = 3)) _ hc15 w11 ) :) ?_
 rintro _ w16 ⟨rfl, hT18⟩
 have hS17 : St _ _ w16 [poolE ([]) w0, boxE w0.heap.size [nS, nS, nS, nS, nS, nS, nS] 43, eW g0 zr zg zl zn, eR zr zs zA zb zc, eS zs b9] := hS12.take _ hT18
 refine gx_nil (gx_thenN (hK6 _ _ (gx_seq (fun K19 hK20 => gx_region (gx_r (st_boxed [nS, nS, nS, nS, nS, nS, nS] 43 hS17 (by kernel_rfl)) ?_)))))
 rintro _ w21 ⟨rfl, hS22⟩
 have hS22 : St _ _ w21 [poolE ([]) w0, boxE w0.heap.size [nS, nS, nS, nS, nS, nS, nS] 43, eW g0 zr zg zl zn, eR zr zs zA zb zc, eS zs b9, boxE w16.heap.size [nS, nS, nS, nS, nS, nS, nS] 43] := hS22
 refine gx_nil (gx_thenN (hK20 _ _ (gx_seq (fun K23 hK24 => gx_region (gx_k (i6 p1) w21 (gx_k (i6 (iw (p1 + 2))) w21 (gx_k (i6 (iw (p1 + 2))) w21 (gx_nil (gx_thenN ?_)))))))))
 refine hK24 _ _ (gx_seq (fun K25 hK26 => gx_region (gx_k (vP g0) w21 (gx_k (i6 p1) w21 (gx_k (i6 (iw (p1 + 2))) w21 ?_)))))
 have hP27 : St _ _ w21 ([eW g0 zr zg zl zn, eR zr zs zA zb zc, eS zs b9] ++ [poolE ([]) w0, boxE w0.heap.size [nS, nS, nS, nS, nS, nS, nS] 43, boxE w16.heap.size [nS, nS, nS, nS, nS, nS, nS] 43]) := hS22.pick [2, 3, 4, 0, 1, 5] rfl rfl
 obtain ⟨rq186, hc28, hF⟩ := bind_in hF
 rcases rq186 with q0 | q0
 obtain ⟨l31, x36, x29, b30⟩ := q0
 try dsimp only at hF
 refine gx_c _ (pan_ok (gSets_ok N zg zl zn zb b9 p1 (iw (p1 + 2)) g0 zr zA zc zs _ hc28 w21 (hP27.vwA hv0_0) hP27.part) :) ?_
 rintro _ w38 ⟨A32, c33, vs34, ft37, rfl, hT40, hf35⟩
 have hS39 : St _ _ w38 [poolE ([]) w0, boxE w0.heap.size [nS, nS, nS, nS, nS, nS, nS] 43, boxE w16.heap.size [nS, nS, nS, nS, nS, nS, nS] 43, eW g0 zr zg zl x29, eR zr zs zA zb zc, eS zs b30, rowG 60 1 (.slice A32 l31.length c33) l31.length vs34, poolE ft37 w38] := hP27.lendN _ hT40
 obtain ⟨ft41, W42, hS43, hT44, hU45⟩ := hS39.merge 7 0 rfl rfl (by decide)
 have hS43 : St _ _ w38 [poolE ft41 W42, boxE w0.heap.size [nS, nS, nS, nS, nS, nS, nS] 43, boxE w16.heap.size [nS, nS, nS, nS, nS, nS, nS] 43, eW g0 zr zg zl x29, eR zr zs zA zb zc, eS zs b30, rowG 60 1 (.slice A32 l31.length c33) l31.length vs34] := hS43
 have hT44 : Turn (foots [eW g0 zr zg zl zn, eR zr zs zA zb zc, eS zs zq]) w0 w0 ([]) W42 ft41 := hT44
 have hf48 : (fEach (rowOf (intE .u16)) vs34 l31).rd W42 ft41 := hU45 _ hf35
 refine gx_k (.tuple #[.slice A32 l31.length c33, i6 x36]) w38 (gx_k (.slice A32 l31.length c33) w38 (gx_k (i6 x36) w38 (gx_k (vQ w16.heap.size 3) w38 (gx_s (st_store (j := 3) (v := (.slice A32 l31.length c33)) rfl (by kernel_rfl) (by kernel_rfl) rfl (fun _ => by kernel_rfl) hS43 2 rfl (by show 3 < 7; decide)) ?_))))
 rintro w49 hS50
 have hS50 : St _ _ w49 [poolE ft41 W42, boxE w0.heap.size [nS, nS, nS, nS, nS, nS, nS] 43, boxE w16.heap.size [nS, nS, nS, .slice A32 l31.length c33, nS, nS, nS] 43, eW g0 zr zg zl x29, eR zr zs zA zb zc, eS zs b30, rowG 60 1 (.slice A32 l31.length c33) l31.length vs34] := hS50
 refine gx_k (i6 x36) w49 (gx_nil (gx_thenN (hK26 _ _ (gx_seq (fun K51 hK52 => gx_region (gx_k (vP g0) w49 (gx_k (i6 p1) w49 (gx_k (i6 x36) w49 ?_))))))))
 have hP53 : St _ _ w49 ([eW g0 zr zg zl x29, eR zr zs zA zb zc, eS zs b30] ++ [poolE ft41 W42, boxE w0.heap.size [nS, nS, nS, nS, nS, nS, nS] 43, boxE w16.heap.size [nS, nS, nS, .slice A32 l31.length c33, nS, nS, nS] 43, rowG 60 1 (.slice A32 l31.length c33) l31.length vs34]) := hS50.pick [3, 4, 5, 0, 1, 2, 6] rfl rfl
 obtain ⟨rq177, hc54, hF⟩ := bind_in hF
 rcases rq177 with q0 | q0
 obtain ⟨l57, x62, x55, b56⟩ := q0
 try dsimp only at hF
 refine gx_c _ (pan_ok (gSets_ok N zg zl x29 zb b30 p1 x36 g0 zr zA zc zs _ hc54 w49 (hP53.vwA hv0_0) hP53.part) :) ?_
 rintro _ w64 ⟨A58, c59, vs60, ft63, rfl, hT66, hf61⟩
 have hS65 : St _ _ w64 [poolE ft41 W42, boxE w0.heap.size [nS, nS, nS, nS, nS, nS, nS] 43, boxE w16.heap.size [nS, nS, nS, .slice A32 l31.length c33, nS, nS, nS] 43, rowG 60 1 (.slice A32 l31.length c33) l31.length vs34, eW g0 zr zg zl x55, eR zr zs zA zb zc, eS zs b56, rowG 60 1 (.slice A58 l57.length c59) l57.length vs60, poolE ft63 w64] := hP53.lendN _ hT66
 obtain ⟨ft67, W68, hS69, hT70, hU71⟩ := hS65.merge 8 0 rfl rfl (by decide)
 have hS69 : St _ _ w64 [poolE ft67 W68, boxE w0.heap.size [nS, nS, nS, nS, nS, nS, nS] 43, boxE w16.heap.size [nS, nS, nS, .slice A32 l31.length c33, nS, nS, nS] 43, rowG 60 1 (.slice A32 l31.length c33) l31.length vs34, eW g0 zr zg zl x55, eR zr zs zA zb zc, eS zs b56, rowG 60 1 (.slice A58 l57.length c59) l57.length vs60] := hS69
 have hT70 : Turn (foots [eW g0 zr zg zl zn, eR zr zs zA zb zc, eS zs zq]) w0 W42 ft41 W68 ft67 := hT70
 have hf74 : (fEach (rowOf (intE .u16)) vs60 l57).rd W68 ft67 := hU71 _ hf61
 refine gx_k (.tuple #[.slice A58 l57.length c59, i6 x62]) w64 (gx_k (.slice A58 l57.length c59) w64 (gx_k (i6 x62) w64 (gx_k (vQ w16.heap.size 4) w64 (gx_s (st_store (j := 4) (v := (.slice A58 l57.length c59)) rfl (by kernel_rfl) (by kernel_rfl) rfl (fun _ => by kernel_rfl) hS69 2 rfl (by show 4 < 7; decide)) ?_))))
 rintro w75 hS76
 have hS76 : St _ _ w75 [poolE ft67 W68, boxE w0.heap.size [nS, nS, nS, nS, nS, nS, nS] 43, boxE w16.heap.size [nS, nS, nS, .slice A32 l31.length c33, .slice A58 l57.length c59, nS, nS] 43, rowG 60 1 (.slice A32 l31.length c33) l31.length vs34, eW g0 zr zg zl x55, eR zr zs zA zb zc, eS zs b56, rowG 60 1 (.slice A58 l57.length c59) l57.length vs60] := hS76
 refine gx_k (i6 x62) w75 (gx_nil (gx_thenN (hK52 _ _ (gx_seq (fun K77 hK78 => gx_region (gx_k (vP g0) w75 (gx_k (i6 p1) w75 (gx_k (i6 x62) w75 ?_))))))))
 have hP79 : St _ _ w75 ([eW g0 zr zg zl x55, eR zr zs zA zb zc, eS zs b56] ++ [poolE ft67 W68, boxE w0.heap.size [nS, nS, nS, nS, nS, nS, nS] 43, boxE w16.heap.size [nS, nS, nS, .slice A32 l31.length c33, .slice A58 l57.length c59, nS, nS] 43, rowG 60 1 (.slice A32 l31.length c33) l31.length vs34, rowG 60 1 (.slice A58 l57.length c59) l57.length vs60]) := hS76.pick [4, 5, 6, 0, 1, 2, 3, 7] rfl rfl
 obtain ⟨rq168, hc80, hF⟩ := bind_in hF
 rcases rq168 with q0 | q0
 obtain ⟨l83, x88, x81, b82⟩ := q0
 try dsimp only at hF
 refine gx_c _ (pan_ok (gSets_ok N zg zl x55 zb b56 p1 x62 g0 zr zA zc zs _ hc80 w75 (hP79.vwA hv0_0) hP79.part) :) ?_
 rintro _ w90 ⟨A84, c85, vs86, ft89, rfl, hT92, hf87⟩
 have hS91 : St _ _ w90 [poolE ft67 W68, boxE w0.heap.size [nS, nS, nS, nS, nS, nS, nS] 43, boxE w16.heap.size [nS, nS, nS, .slice A32 l31.length c33, .slice A58 l57.length c59, nS, nS] 43, rowG 60 1 (.slice A32 l31.length c33) l31.length vs34, rowG 60 1 (.slice A58 l57.length c59) l57.length vs60, eW g0 zr zg zl x81, eR zr zs zA zb zc, eS zs b82, rowG 60 1 (.slice A84 l83.length c85) l83.length vs86, poolE ft89 w90] := hP79.lendN _ hT92
 obtain ⟨ft93, W94, hS95, hT96, hU97⟩ := hS91.merge 9 0 rfl rfl (by decide)
 have hS95 : St _ _ w90 [poolE ft93 W94, boxE w0.heap.size [nS, nS, nS, nS, nS, nS, nS] 43, boxE w16.heap.size [nS, nS, nS, .slice A32 l31.length c33, .slice A58 l57.length c59, nS, nS] 43, rowG 60 1 (.slice A32 l31.length c33) l31.length vs34, rowG 60 1 (.slice A58 l57.length c59) l57.length vs60, eW g0 zr zg zl x81, eR zr zs zA zb zc, eS zs b82, rowG 60 1 (.slice A84 l83.length c85) l83.length vs86] := hS95
 have hT96 : Turn (foots [eW g0 zr zg zl zn, eR zr zs zA zb zc, eS zs zq]) w0 W68 ft67 W94 ft93 := hT96
 have hf100 : (fEach (rowOf (intE .u16)) vs86 l83).rd W94 ft93 := hU97 _ hf87
 refine gx_k (.tuple #[.slice A84 l83.length c85, i6 x88]) w90 (gx_k (.slice A84 l83.length c85) w90 (gx_k (i6 x88) w90 (gx_k (vQ w16.heap.size 5) w90 (gx_s (st_store (j := 5) (v := (.slice A84 l83.length c85)) rfl (by kernel_rfl) (by kernel_rfl) rfl (fun _ => by kernel_rfl) hS95 2 rfl (by show 5 < 7; decide)) ?_))))
 rintro w101 hS102
 have hS102 : St _ _ w101 [poolE ft93 W94, boxE w0.heap.size [nS, nS, nS, nS, nS, nS, nS] 43, boxE w16.heap.size [nS, nS, nS, .slice A32 l31.length c33, .slice A58 l57.length c59, .slice A84 l83.length c85, nS] 43, rowG 60 1 (.slice A32 l31.length c33) l31.length vs34, rowG 60 1 (.slice A58 l57.length c59) l57.length vs60, eW g0 zr zg zl x81, eR zr zs zA zb zc, eS zs b82, rowG 60 1 (.slice A84 l83.length c85) l83.length vs86] := hS102
 refine gx_k (i6 x88) w101 (gx_nil (gx_thenN (hK78 _ _ (gx_seq (fun K103 hK104 => gx_region (gx_k (vQ w16.heap.size 4) w101 (gx_v (.slice A58 l57.length c59) w101 (rl1 (hS102.box 2 rfl 4 rfl)) ?_)))))))
 refine gx_k (i6 ((l57.length : Nat) : Int)) w101 (gx_k (.bool (decide (((l57.length : Nat) : Int) ≥ 1))) w101 ?_)
 have hP105 : St _ _ w101 ([] ++ [poolE ft93 W94, boxE w0.heap.size [nS, nS, nS, nS, nS, nS, nS] 43, boxE w16.heap.size [nS, nS, nS, .slice A32 l31.length c33, .slice A58 l57.length c59, .slice A84 l83.length c85, nS] 43, rowG 60 1 (.slice A32 l31.length c33) l31.length vs34, rowG 60 1 (.slice A58 l57.length c59) l57.length vs60, eW g0 zr zg zl x81, eR zr zs zA zb zc, eS zs b82, rowG 60 1 (.slice A84 l83.length c85) l83.length vs86]) := hS102
 obtain ⟨rq159, hc106, hF⟩ := bind_in hF
 rcases rq159 with q0 | x153
 try dsimp only at hF
 refine gx_c _ (pan_ok (gRequire_ok N (decide (((l57.length : Nat) : Int) ≥ 1)) _ hc106 w101 ) :) ?_
 rintro _ w107 ⟨rfl, hT109⟩
 have hS108 : St _ _ w107 [poolE ft93 W94, boxE w0.heap.size [nS, nS, nS, nS, nS, nS, nS] 43, boxE w16.heap.size [nS, nS, nS, .slice A32 l31.length c33, .slice A58 l57.length c59, .slice A84 l83.length c85, nS] 43, rowG 60 1 (.slice A32 l31.length c33) l31.length vs34, rowG 60 1 (.slice A58 l57.length c59) l57.length vs60, eW g0 zr zg zl x81, eR zr zs zA zb zc, eS zs b82, rowG 60 1 (.slice A84 l83.length c85) l83.length vs86] := hS102.take _ hT109
 refine gx_nil (gx_thenN (hK104 _ _ (gx_seq (fun K110 hK111 => gx_region (gx_k (vP g0) w107 (gx_k (i6 x88) w107 (gx_k (vQ w16.heap.size 4) w107 (gx_v (.slice A58 l57.length c59) w107 (rl1 (hS108.box 2 rfl 4 rfl)) (gx_k (i6 ((l57.length : Nat) : Int)) w107 ?_)))))))))
 have hP112 : St _ _ w107 ([eW g0 zr zg zl x81, eR zr zs zA zb zc, eS zs b82] ++ [poolE ft93 W94, boxE w0.heap.size [nS, nS, nS, nS, nS, nS, nS] 43, boxE w16.heap.size [nS, nS, nS, .slice A32 l31.length c33, .slice A58 l57.length c59, .slice A84 l83.length c85, nS] 43, rowG 60 1 (.slice A32 l31.length c33) l31.length vs34, rowG 60 1 (.slice A58 l57.length c59) l57.length vs60, rowG 60 1 (.slice A84 l83.length c85) l83.length vs86]) := hS108.pick [5, 6, 7, 0, 1, 2, 3, 4, 8] rfl rfl
 obtain ⟨rq152, hc113, hF⟩ := bind_in hF
 rcases rq152 with q0 | q0
 obtain ⟨l115, b114⟩ := q0
 try dsimp only at hF
 refine gx_c _ (pan_ok (gRecords_ok N zg zl x81 zb b82 x88 ((l57.length : Nat) : Int) g0 zr zA zc zs _ hc113 w107 (hP112.vwA hv0_0) hP112.part) :) ?_
 rintro _ w121 ⟨A116, c117, vs118, ft120, rfl, hT123, hf119⟩
 have hS122 : St _ _ w121 [poolE ft93 W94, boxE w0.heap.size [nS, nS, nS, nS, nS, nS, nS] 43, boxE w16.heap.size [nS, nS, nS, .slice A32 l31.length c33, .slice A58 l57.length c59, .slice A84 l83.length c85, nS] 43, rowG 60 1 (.slice A32 l31.length c33) l31.length vs34, rowG 60 1 (.slice A58 l57.length c59) l57.length vs60, rowG 60 1 (.slice A84 l83.length c85) l83.length vs86, eW g0 zr zg zl x81, eR zr zs zA zb zc, eS zs b114, rowG 79 2 (.slice A116 l115.length c117) l115.length vs118, poolE ft120 w121] := hP112.lendN _ hT123
 obtain ⟨ft124, W125, hS126, hT127, hU128⟩ := hS122.merge 10 0 rfl rfl (by decide)
 have hS126 : St _ _ w121 [poolE ft124 W125, boxE w0.heap.size [nS, nS, nS, nS, nS, nS, nS] 43, boxE w16.heap.size [nS, nS, nS, .slice A32 l31.length c33, .slice A58 l57.length c59, .slice A84 l83.length c85, nS] 43, rowG 60 1 (.slice A32 l31.length c33) l31.length vs34, rowG 60 1 (.slice A58 l57.length c59) l57.length vs60, rowG 60 1 (.slice A84 l83.length c85) l83.length vs86, eW g0 zr zg zl x81, eR zr zs zA zb zc, eS zs b114, rowG 79 2 (.slice A116 l115.length c117) l115.length vs118] := hS126
 have hT127 : Turn (foots [eW g0 zr zg zl zn, eR zr zs zA zb zc, eS zs zq]) w0 W94 ft93 W125 ft124 := hT127
 have hf131 : (fEach (pairE (intE .i64) (intE .i64)) vs118 l115).rd W125 ft124 := hU128 _ hf119
 refine gx_k (vQ w16.heap.size 6) w121 (gx_s (st_store (j := 6) (v := (.slice A116 l115.length c117)) rfl (by kernel_rfl) (by kernel_rfl) rfl (fun _ => by kernel_rfl) hS126 2 rfl (by show 6 < 7; decide)) ?_)
 rintro w132 hS133
 have hS133 : St _ _ w132 [poolE ft124 W125, boxE w0.heap.size [nS, nS, nS, nS, nS, nS, nS] 43, boxE w16.heap.size [nS, nS, nS, .slice A32 l31.length c33, .slice A58 l57.length c59, .slice A84 l83.length c85, .slice A116 l115.length c117] 43, rowG 60 1 (.slice A32 l31.length c33) l31.length vs34, rowG 60 1 (.slice A58 l57.length c59) l57.length vs60, rowG 60 1 (.slice A84 l83.length c85) l83.length vs86, eW g0 zr zg zl x81, eR zr zs zA zb zc, eS zs b114, rowG 79 2 (.slice A116 l115.length c117) l115.length vs118] := hS133
 refine gx_nil (gx_thenN (hK111 _ _ (gx_seq (fun K134 hK135 => gx_region (gx_v (.agg #[nS, nS, nS, .slice A32 l31.length c33, .slice A58 l57.length c59, .slice A84 l83.length c85, .slice A116 l115.length c117]) w132 (run_loadG (d := _) rfl (by kernel_rfl) (hS133.get 2 rfl) rfl rfl (by kernel_rfl)) (gx_s (st_storeG (cs := [nS, nS, nS, nS, nS, nS, nS]) (ds := [nS, nS, nS, .slice A32 l31.length c33, .slice A58 l57.length c59, .slice A84 l83.length c85, .slice A116 l115.length c117]) rfl (by kernel_rfl) (by kernel_rfl) (by kernel_rfl) rfl rfl hS133 1 rfl) ?_))))))
 rintro w136 hS137
 have hS137 : St _ _ w136 [poolE ft124 W125, boxE w0.heap.size [nS, nS, nS, .slice A32 l31.length c33, .slice A58 l57.length c59, .slice A84 l83.length c85, .slice A116 l115.length c117] 43, boxE w16.heap.size [nS, nS, nS, .slice A32 l31.length c33, .slice A58 l57.length c59, .slice A84 l83.length c85, .slice A116 l115.length c117] 43, rowG 60 1 (.slice A32 l31.length c33) l31.length vs34, rowG 60 1 (.slice A58 l57.length c59) l57.length vs60, rowG 60 1 (.slice A84 l83.length c85) l83.length vs86, eW g0 zr zg zl x81, eR zr zs zA zb zc, eS zs b114, rowG 79 2 (.slice A116 l115.length c117) l115.length vs118] := hS137
 refine gx_nil (gx_thenN (hK135 _ _ (gx_ret ?_)))
 have hS138 : St _ _ w136 [poolE ft124 W125, boxE w0.heap.size [nS, nS, nS, .slice A32 l31.length c33, .slice A58 l57.length c59, .slice A84 l83.length c85, .slice A116 l115.length c117] 43, boxE w16.heap.size [nS, nS, nS, .slice A32 l31.length c33, .slice A58 l57.length c59, .slice A84 l83.length c85, .slice A116 l115.length c117] 43, rowG 60 1 (.slice A32 l31.length c33) l31.length vs34, rowG 60 1 (.slice A58 l57.length c59) l57.length vs60, rowG 60 1 (.slice A84 l83.length c85) l83.length vs86, eW g0 zr zg zl x81, eR zr zs zA zb zc, eS zs b114, rowG 79 2 (.slice A116 l115.length c117) l115.length vs118, rowG 74 2 (.slice none (([] : List (Int × Int)).length) 0) (([] : List (Int × Int)).length) ([])] := hS137.nilrowN 74 2
 have hf139 : (fEach (pairE (intE .u16) (intE .u16)) [] []).rd W125 ft124 := each_nil
 have hS140 : St _ _ w136 [poolE ft124 W125, boxE w0.heap.size [nS, nS, nS, .slice A32 l31.length c33, .slice A58 l57.length c59, .slice A84 l83.length c85, .slice A116 l115.length c117] 43, boxE w16.heap.size [nS, nS, nS, .slice A32 l31.length c33, .slice A58 l57.length c59, .slice A84 l83.length c85, .slice A116 l115.length c117] 43, rowG 60 1 (.slice A32 l31.length c33) l31.length vs34, rowG 60 1 (.slice A58 l57.length c59) l57.length vs60, rowG 60 1 (.slice A84 l83.length c85) l83.length vs86, eW g0 zr zg zl x81, eR zr zs zA zb zc, eS zs b114, rowG 79 2 (.slice A116 l115.length c117) l115.length vs118, rowG 74 2 (.slice none (([] : List (Int × Int)).length) 0) (([] : List (Int × Int)).length) ([]), rowG 76 2 (.slice none (([] : List (Int × List Int)).length) 0) (([] : List (Int × List Int)).length) ([])] := hS138.nilrowN 76 2
 have hf141 : (fEach (pairE (intE .u16) (rowOf (intE .u16))) [] []).rd W125 ft124 := each_nil
 have hS142 : St _ _ w136 [poolE ft124 W125, boxE w0.heap.size [nS, nS, nS, .slice A32 l31.length c33, .slice A58 l57.length c59, .slice A84 l83.length c85, .slice A116 l115.length c117] 43, boxE w16.heap.size [nS, nS, nS, .slice A32 l31.length c33, .slice A58 l57.length c59, .slice A84 l83.length c85, .slice A116 l115.length c117] 43, rowG 60 1 (.slice A32 l31.length c33) l31.length vs34, rowG 60 1 (.slice A58 l57.length c59) l57.length vs60, rowG 60 1 (.slice A84 l83.length c85) l83.length vs86, eW g0 zr zg zl x81, eR zr zs zA zb zc, eS zs b114, rowG 79 2 (.slice A116 l115.length c117) l115.length vs118, rowG 74 2 (.slice none (([] : List (Int × Int)).length) 0) (([] : List (Int × Int)).length) ([]), rowG 76 2 (.slice none (([] : List (Int × List Int)).length) 0) (([] : List (Int × List Int)).length) ([]), rowG 62 2 (.slice none (([] : List (List Int × Int)).length) 0) (([] : List (List Int × Int)).length) ([])] := hS140.nilrowN 62 2
 have hf143 : (fEach (pairE (rowOf (intE .u16)) (intE .u16)) [] []).rd W125 ft124 := each_nil
 have hS144 : St _ _ w136 [poolE ft124 w136, boxE w0.heap.size [nS, nS, nS, .slice A32 l31.length c33, .slice A58 l57.length c59, .slice A84 l83.length c85, .slice A116 l115.length c117] 43, boxE w16.heap.size [nS, nS, nS, .slice A32 l31.length c33, .slice A58 l57.length c59, .slice A84 l83.length c85, .slice A116 l115.length c117] 43, rowG 60 1 (.slice A32 l31.length c33) l31.length vs34, rowG 60 1 (.slice A58 l57.length c59) l57.length vs60, rowG 60 1 (.slice A84 l83.length c85) l83.length vs86, eW g0 zr zg zl x81, eR zr zs zA zb zc, eS zs b114, rowG 79 2 (.slice A116 l115.length c117) l115.length vs118, rowG 74 2 (.slice none (([] : List (Int × Int)).length) 0) (([] : List (Int × Int)).length) ([]), rowG 76 2 (.slice none (([] : List (Int × List Int)).length) 0) (([] : List (Int × List Int)).length) ([]), rowG 62 2 (.slice none (([] : List (List Int × Int)).length) 0) (([] : List (List Int × Int)).length) ([])] := hS142.renew 0 rfl
 obtain rfl := sj hF
 exact gx_fin (.agg #[.slice none (([] : List (Int × Int)).length) 0, .slice none (([] : List (Int × List Int)).length) 0, .slice none (([] : List (List Int × Int)).length) 0, .slice A32 l31.length c33, .slice A58 l57.length c59, .slice A84 l83.length c85, .slice A116 l115.length c117]) (by kernel_rfl) (res_cell rfl _ _ w0.heap.size _ _ _ (by kernel_rfl) (hS144.get 1 rfl) (by kernel_rfl) (by kernel_rfl)) (.inl ⟨_, rfl, _, rfl, none, 0, ([]), none, 0, ([]), none, 0, ([]), A32, c33, vs34, A58, c59, vs60, A84, c85, vs86, A116, c117, vs118, ft124, rfl, (hS144.pick [6, 7, 8, 10, 11, 12, 3, 4, 5, 9, 0] rfl rfl), (hS142.now 0 rfl hf139), (hS142.now 0 rfl hf141), (hS142.now 0 rfl hf143), (hS142.now 0 rfl (hT127.pool (hT96.pool (hT70.pool hf48)))), (hS142.now 0 rfl (hT127.pool (hT96.pool hf74))), (hS142.now 0 rfl (hT127.pool hf100)), (hS142.now 0 rfl hf131)⟩)
 obtain ⟨x145, b146⟩ := q0
 try dsimp only at hF
 refine gx_callX _ (by kernel_rfl) (by kernel_rfl) (pan_gone (gRecords_ok N zg zl x81 zb b82 x88 ((l57.length : Nat) : Int) g0 zr zA zc zs _ hc113 w107 (hP112.vwA hv0_0) hP112.part) :) ?_
 rintro c150 w147 ⟨hx151, hT149⟩
 have hS148 : St _ _ w147 [poolE ft93 W94, boxE w0.heap.size [nS, nS, nS, nS, nS, nS, nS] 43, boxE w16.heap.size [nS, nS, nS, .slice A32 l31.length c33, .slice A58 l57.length c59, .slice A84 l83.length c85, nS] 43, rowG 60 1 (.slice A32 l31.length c33) l31.length vs34, rowG 60 1 (.slice A58 l57.length c59) l57.length vs60, rowG 60 1 (.slice A84 l83.length c85) l83.length vs86, eW g0 zr zg zl x81, eR zr zs zA zb zc, eS zs b146] := hP112.lendN _ hT149
 refine gx_thenP ?_
 obtain rfl := sj hF
 exact gx_finP (by kernel_rfl) (.inr ⟨_, rfl, _, rfl, hx151, (hS148.pick [6, 7, 8] rfl rfl)⟩)
 try dsimp only at hF
 refine gx_callX _ (by kernel_rfl) (by kernel_rfl) (pan_gone (gRequire_ok N (decide (((l57.length : Nat) : Int) ≥ 1)) _ hc106 w101 ) :) ?_
 rintro c157 w154 ⟨hx158, hT156⟩
 have hS155 : St _ _ w154 [poolE ft93 W94, boxE w0.heap.size [nS, nS, nS, nS, nS, nS, nS] 43, boxE w16.heap.size [nS, nS, nS, .slice A32 l31.length c33, .slice A58 l57.length c59, .slice A84 l83.length c85, nS] 43, rowG 60 1 (.slice A32 l31.length c33) l31.length vs34, rowG 60 1 (.slice A58 l57.length c59) l57.length vs60, eW g0 zr zg zl x81, eR zr zs zA zb zc, eS zs b82, rowG 60 1 (.slice A84 l83.length c85) l83.length vs86] := hS102.take _ hT156
 refine gx_thenP ?_
 obtain rfl := sj hF
 exact gx_finP (by kernel_rfl) (.inr ⟨_, rfl, _, rfl, hx158, (hS155.pick [5, 6, 7] rfl rfl)⟩)
 obtain ⟨x160, x161, b162⟩ := q0
 try dsimp only at hF
 refine gx_callX _ (by kernel_rfl) (by kernel_rfl) (pan_gone (gSets_ok N zg zl x55 zb b56 p1 x62 g0 zr zA zc zs _ hc80 w75 (hP79.vwA hv0_0) hP79.part) :) ?_
 rintro c166 w163 ⟨hx167, hT165⟩
 have hS164 : St _ _ w163 [poolE ft67 W68, boxE w0.heap.size [nS, nS, nS, nS, nS, nS, nS] 43, boxE w16.heap.size [nS, nS, nS, .slice A32 l31.length c33, .slice A58 l57.length c59, nS, nS] 43, rowG 60 1 (.slice A32 l31.length c33) l31.length vs34, rowG 60 1 (.slice A58 l57.length c59) l57.length vs60, eW g0 zr zg zl x161, eR zr zs zA zb zc, eS zs b162] := hP79.lendN _ hT165
 refine gx_thenP ?_
 obtain rfl := sj hF
 exact gx_finP (by kernel_rfl) (.inr ⟨_, rfl, _, rfl, hx167, (hS164.pick [5, 6, 7] rfl rfl)⟩)
 obtain ⟨x169, x170, b171⟩ := q0
 try dsimp only at hF
 refine gx_callX _ (by kernel_rfl) (by kernel_rfl) (pan_gone (gSets_ok N zg zl x29 zb b30 p1 x36 g0 zr zA zc zs _ hc54 w49 (hP53.vwA hv0_0) hP53.part) :) ?_
 rintro c175 w172 ⟨hx176, hT174⟩
 have hS173 : St _ _ w172 [poolE ft41 W42, boxE w0.heap.size [nS, nS, nS, nS, nS, nS, nS] 43, boxE w16.heap.size [nS, nS, nS, .slice A32 l31.length c33, nS, nS, nS] 43, rowG 60 1 (.slice A32 l31.length c33) l31.length vs34, eW g0 zr zg zl x170, eR zr zs zA zb zc, eS zs b171] := hP53.lendN _ hT174
 refine gx_thenP ?_
 obtain rfl := sj hF
 exact gx_finP (by kernel_rfl) (.inr ⟨_, rfl, _, rfl, hx176, (hS173.pick [4, 5, 6] rfl rfl)⟩)
 obtain ⟨x178, x179, b180⟩ := q0
 try dsimp only at hF
 refine gx_callX _ (by kernel_rfl) (by kernel_rfl) (pan_gone (gSets_ok N zg zl zn zb b9 p1 (iw (p1 + 2)) g0 zr zA zc zs _ hc28 w21 (hP27.vwA hv0_0) hP27.part) :) ?_
 rintro c184 w181 ⟨hx185, hT183⟩
 have hS182 : St _ _ w181 [poolE ([]) w0, boxE w0.heap.size [nS, nS, nS, nS, nS, nS, nS] 43, boxE w16.heap.size [nS, nS, nS, nS, nS, nS, nS] 43, eW g0 zr zg zl x179, eR zr zs zA zb zc, eS zs b180] := hP27.lendN _ hT183
 refine gx_thenP ?_
 obtain rfl := sj hF
 exact gx_finP (by kernel_rfl) (.inr ⟨_, rfl, _, rfl, hx185, (hS182.pick [3, 4, 5] rfl rfl)⟩)
 try dsimp only at hF
 refine gx_callX _ (by kernel_rfl) (by kernel_rfl) (pan_gone (gRequire_ok N (decide (x10 = 3)) _ hc15 w11 ) :) ?_
 rintro c191 w188 ⟨hx192, hT190⟩
 have hS189 : St _ _ w188 [poolE ([]) w0, boxE w0.heap.size [nS, nS, nS, nS, nS, nS, nS] 43, eW g0 zr zg zl zn, eR zr zs zA zb zc, eS zs b9] := hS12.take _ hT190
 refine gx_thenP ?_
 obtain rfl := sj hF
 exact gx_finP (by kernel_rfl) (.inr ⟨_, rfl, _, rfl, hx192, (hS189.pick [2, 3, 4] rfl rfl)⟩)
 obtain ⟨x194, b195⟩ := q0
 try dsimp only at hF
 refine gx_callX _ (by kernel_rfl) (by kernel_rfl) (pan_gone (gWord_ok N zg zl zn zb zq p1 g0 zr zA zc zs _ hc8 w3 (hP7.vwA hv0_0) hP7.part) :) ?_
 rintro c199 w196 ⟨hx200, hT198⟩
 have hS197 : St _ _ w196 [poolE ([]) w0, boxE w0.heap.size [nS, nS, nS, nS, nS, nS, nS] 43, eW g0 zr zg zl zn, eR zr zs zA zb zc, eS zs b195] := hP7.lendN _ hT198
 refine gx_thenP ?_
 obtain rfl := sj hF
 exact gx_finP (by kernel_rfl) (.inr ⟨_, rfl, _, rfl, hx200, (hS197.pick [2, 3, 4] rfl rfl)⟩)
end Go.Proofs.Ytgjlpiljacecpaa
