/-
  gsub: readers, walked.
-/
import Derived.Test.YtgjlpiljacecpaaZY
namespace Go.Proofs.Ytgjlpiljacecpaa
open Go Go.RowKit
set_option linter.unusedVariables false
set_option maxRecDepth 100000
set_option maxHeartbeats 4000000
abbrev eW (g h : Nat) (x y z : Int) : Ent := boxE g [.pointer (some ⟨h, 0, none⟩), .int .i64 x, .int .i64 y, .int .i64 z] 123
def gGiveUp (_N : Nat) : Option (Pan (Unit) (Int)) :=
 some (Pan.gone 50)
def gGiveUp_R (_r : Unit) (w0 : World) (v : Value) (w : World) : Prop := v = .tuple #[] ∧ St [] w0 w []
def gGiveUp_X (g : Int) (w0 : World) (c : List PanicEntry) (w : World) : Prop := c = goneB 113 g ∧ St [] w0 w []
theorem gGiveUp_ok (N : Nat)  (r : Pan (Unit) (Int)) (hF : gGiveUp N = some r) (w0 : World)  :
  Calls Try.prog 67 #[] w0 fun e w => (∃ r', r = .ok r' ∧ ∃ v, e = .returned v ∧ gGiveUp_R r' w0 v w) ∨ (∃ g, r = .gone g ∧ ∃ c, e = .panicked c ∧ gGiveUp_X g w0 c w) := by
 have hS0 := St.start w0
 unfold gGiveUp at hF
 refine calls_of Try.func67 rfl ⟨(undef :: undef :: []).toArray, []⟩ (by kernel_rfl) (gx_region (gx_k (.agg #[i6 50]) w0 (gx_k (.iface 113 (.agg #[i6 50])) w0 (gx_panic (v := .iface 113 (.agg #[i6 50])) (by kernel_rfl) rfl (by kernel_rfl) ?_))))
 obtain rfl := sj hF
 exact gx_finP (by kernel_rfl) (.inr ⟨_, rfl, _, rfl, rfl, hS0⟩)
def gRequire (N : Nat) (p0 : Bool) : Option (Pan (Unit) (Int)) :=
 (match p0 with | true => some (Pan.ok ()) | false => ((gGiveUp N ).bind fun | Pan.ok _ => none | Pan.gone x5 => some (Pan.gone x5)))
def gRequire_R (_r : Unit) (w0 : World) (v : Value) (w : World) : Prop := v = .tuple #[] ∧ St [] w0 w []
def gRequire_X (g : Int) (w0 : World) (c : List PanicEntry) (w : World) : Prop := c = goneB 113 g ∧ St [] w0 w []
theorem gRequire_ok (N : Nat) (p0 : Bool)  (r : Pan (Unit) (Int)) (hF : gRequire N p0 = some r) (w0 : World)  :
  Calls Try.prog 43 #[.bool p0] w0 fun e w => (∃ r', r = .ok r' ∧ ∃ v, e = .returned v ∧ gRequire_R r' w0 v w) ∨ (∃ g, r = .gone g ∧ ∃ c, e = .panicked c ∧ gRequire_X g w0 c w) := by
 have hS0 := St.start w0
 unfold gRequire at hF
 refine calls_of Try.func43 rfl ⟨((.bool p0) :: un 4 ([])).toArray, []⟩ (by kernel_rfl) (gx_seq (fun K1 hK2 => gx_region (gx_k (.bool p0) w0 ?_)))
 rcases p0 with _ | _
 try dsimp only at hF
 refine gx_k (.bool true) w0 (gx_nil (gx_thenN (hK2 _ _ (gx_yes (by kernel_rfl) (gx_region ?_)))))
 have hP3 : St _ _ w0 ([] ++ []) := hS0
 obtain ⟨rq11, hc4, hF⟩ := bind_in hF
 rcases rq11 with q0 | x5
 try dsimp only at hF
 cases hF
 try dsimp only at hF
 refine gx_callX _ (by kernel_rfl) (by kernel_rfl) (pan_gone (gGiveUp_ok N  _ hc4 w0 ) :) ?_
 rintro c9 w6 ⟨hx10, hT8⟩
 have hS7 : St _ _ w6 [] := hS0.take _ hT8
 obtain rfl := sj hF
 exact gx_finP (by kernel_rfl) (.inr ⟨_, rfl, _, rfl, hx10, hS7⟩)
 try dsimp only at hF
 refine gx_k (.bool false) w0 (gx_nil (gx_thenN (hK2 _ _ (gx_no (by kernel_rfl) (gx_pass ?_)))))
 obtain rfl := sj hF
 exact gx_finN (.tuple #[]) (by kernel_rfl) (by kernel_rfl) (.inl ⟨_, rfl, _, rfl, rfl, hS0⟩)
def gCount (N : Nat) (_p0_1 : Int) (_p0_2 : Int) (zn : Int) (_p0_0 : List Int) (_p0_0s_0 : Bool) (p1 : Int) : Option (Pan (Int) (Int × Int)) :=
 ((gRequire N (decide ((IntKind.i64.wrap (zn + p1)) ≤ 65536))).bind fun | Pan.ok _ => some (Pan.ok (IntKind.i64.wrap (zn + p1))) | Pan.gone x10 => some (Pan.gone (x10, (IntKind.i64.wrap (zn + p1)))))
def gCount_R (zg : Int) (zl : Int) (zn : Int) (zb : List Int) (zq : Bool) (p1 : Int) (g0 : Nat) (zr : Nat) (zA : Option Addr) (zc : Nat) (zs : Nat) (r : Int) (w0 : World) (v : Value) (w : World) : Prop := v = .tuple #[] ∧ St (foots [eW g0 zr zg zl zn, eR zr zs zA zb zc, eS zs zq]) w0 w [eW g0 zr zg zl r, eR zr zs zA zb zc, eS zs zq]
def gCount_X (zg : Int) (zl : Int) (zn : Int) (zb : List Int) (zq : Bool) (p1 : Int) (g0 : Nat) (zr : Nat) (zA : Option Addr) (zc : Nat) (zs : Nat) (g : Int × Int) (w0 : World) (c : List PanicEntry) (w : World) : Prop := c = goneB 113 g.1 ∧ St (foots [eW g0 zr zg zl zn, eR zr zs zA zb zc, eS zs zq]) w0 w [eW g0 zr zg zl g.2, eR zr zs zA zb zc, eS zs zq]
theorem gCount_ok (N : Nat) (zg : Int) (zl : Int) (zn : Int) (zb : List Int) (zq : Bool) (p1 : Int) (g0 : Nat) (zr : Nat) (zA : Option Addr) (zc : Nat) (zs : Nat) (r : Pan (Int) (Int × Int)) (hF : gCount N zg zl zn zb zq p1 = some r) (w0 : World) (_hv0_0 : Vw (foots [eW g0 zr zg zl zn, eR zr zs zA zb zc, eS zs zq]) .u8 w0 zA zc zb) (hl : St (foots [eW g0 zr zg zl zn, eR zr zs zA zb zc, eS zs zq]) w0 w0 [eW g0 zr zg zl zn, eR zr zs zA zb zc, eS zs zq]) :
  Calls Try.prog 105 #[.pointer (some ⟨g0, 0, none⟩), .int .i64 p1] w0 fun e w => (∃ r', r = .ok r' ∧ ∃ v, e = .returned v ∧ gCount_R zg zl zn zb zq p1 g0 zr zA zc zs r' w0 v w) ∨ (∃ g, r = .gone g ∧ ∃ c, e = .panicked c ∧ gCount_X zg zl zn zb zq p1 g0 zr zA zc zs g w0 c w) := by
 have hS0 := hl
 unfold gCount at hF
 refine calls_of Try.func105 rfl ⟨((vP g0) :: (i6 p1) :: un 16 ([])).toArray, []⟩ (by kernel_rfl) (gx_seq (fun K1 hK2 => gx_region (gx_k (vP g0) w0 (gx_k (vP g0) w0 (gx_k (vQ g0 3) w0 (gx_v (i6 zn) w0 (rl1 (hS0.box 0 rfl 3 rfl)) (gx_k (i6 p1) w0 (gx_k (i6 (iw (zn + p1))) w0 (gx_k (vP g0) w0 (gx_k (vQ g0 3) w0 (gx_s (st_store (j := 3) (v := (i6 (iw (zn + p1)))) rfl (by kernel_rfl) (by kernel_rfl) rfl (fun _ => by kernel_rfl) hS0 0 rfl (by show 3 < 4; decide)) ?_)))))))))))
 rintro w3 hS4
 have hS4 : St _ _ w3 [eW g0 zr zg zl (iw (zn + p1)), eR zr zs zA zb zc, eS zs zq] := hS4
 refine gx_nil (gx_thenN (hK2 _ _ (gx_region (gx_k (vP g0) w3 (gx_k (vP g0) w3 (gx_k (vQ g0 3) w3 (gx_v (i6 (iw (zn + p1))) w3 (rl1 (hS4.box 0 rfl 3 rfl)) (gx_k (.bool (decide ((iw (zn + p1)) ≤ 65536))) w3 ?_))))))))
 have hP5 : St _ _ w3 ([] ++ [eW g0 zr zg zl (iw (zn + p1)), eR zr zs zA zb zc, eS zs zq]) := hS4
 obtain ⟨rq16, hc6, hF⟩ := bind_in hF
 rcases rq16 with q0 | x10
 try dsimp only at hF
 refine gx_c _ (pan_ok (gRequire_ok N (decide ((iw (zn + p1)) ≤ 65536)) _ hc6 w3 ) :) ?_
 rintro _ w7 ⟨rfl, hT9⟩
 have hS8 : St _ _ w7 [eW g0 zr zg zl (iw (zn + p1)), eR zr zs zA zb zc, eS zs zq] := hS4.take _ hT9
 refine gx_nil ?_
 obtain rfl := sj hF
 exact gx_finN (.tuple #[]) (by kernel_rfl) (by kernel_rfl) (.inl ⟨_, rfl, _, rfl, rfl, hS8⟩)
 try dsimp only at hF
 refine gx_callX _ (by kernel_rfl) (by kernel_rfl) (pan_gone (gRequire_ok N (decide ((iw (zn + p1)) ≤ 65536)) _ hc6 w3 ) :) ?_
 rintro c14 w11 ⟨hx15, hT13⟩
 have hS12 : St _ _ w11 [eW g0 zr zg zl (iw (zn + p1)), eR zr zs zA zb zc, eS zs zq] := hS4.take _ hT13
 obtain rfl := sj hF
 exact gx_finP (by kernel_rfl) (.inr ⟨_, rfl, _, rfl, hx15, hS12⟩)
def gWords (N : Nat) (_p0_1 : Int) (_p0_2 : Int) (_p0_3 : Int) (zb : List Int) (zq : Bool) (p1 : Int) (p2 : Int) : Option (Pan (List Int × Bool) (Int × Bool)) :=
 ((qWords N zb zq p1 p2).bind fun (l8, b7) => ((qBad N zb b7).bind fun b18 => ((gRequire N (!b18)).bind fun | Pan.ok _ => some (Pan.ok (l8, b7)) | Pan.gone x29 => some (Pan.gone (x29, b7)))))
def gWords_R (zg : Int) (zl : Int) (zn : Int) (zb : List Int) (zq : Bool) (p1 : Int) (p2 : Int) (g0 : Nat) (zr : Nat) (zA : Option Addr) (zc : Nat) (zs : Nat) (r : List Int × Bool) (w0 : World) (v : Value) (w : World) : Prop := ∃ (A0' : Option Addr) (c0' : Nat), v = .slice A0' r.1.length c0' ∧ St (foots [eW g0 zr zg zl zn, eR zr zs zA zb zc, eS zs zq]) w0 w [eW g0 zr zg zl zn, eR zr zs zA zb zc, eS zs r.2, rowE .u16 31 A0' c0' r.1]
def gWords_X (zg : Int) (zl : Int) (zn : Int) (zb : List Int) (zq : Bool) (p1 : Int) (p2 : Int) (g0 : Nat) (zr : Nat) (zA : Option Addr) (zc : Nat) (zs : Nat) (g : Int × Bool) (w0 : World) (c : List PanicEntry) (w : World) : Prop := c = goneB 113 g.1 ∧ St (foots [eW g0 zr zg zl zn, eR zr zs zA zb zc, eS zs zq]) w0 w [eW g0 zr zg zl zn, eR zr zs zA zb zc, eS zs g.2]
theorem gWords_ok (N : Nat) (zg : Int) (zl : Int) (zn : Int) (zb : List Int) (zq : Bool) (p1 : Int) (p2 : Int) (g0 : Nat) (zr : Nat) (zA : Option Addr) (zc : Nat) (zs : Nat) (r : Pan (List Int × Bool) (Int × Bool)) (hF : gWords N zg zl zn zb zq p1 p2 = some r) (w0 : World) (hv0_0 : Vw (foots [eW g0 zr zg zl zn, eR zr zs zA zb zc, eS zs zq]) .u8 w0 zA zc zb) (hl : St (foots [eW g0 zr zg zl zn, eR zr zs zA zb zc, eS zs zq]) w0 w0 [eW g0 zr zg zl zn, eR zr zs zA zb zc, eS zs zq]) :
  Calls Try.prog 109 #[.pointer (some ⟨g0, 0, none⟩), .int .i64 p1, .int .i64 p2] w0 fun e w => (∃ r', r = .ok r' ∧ ∃ v, e = .returned v ∧ gWords_R zg zl zn zb zq p1 p2 g0 zr zA zc zs r' w0 v w) ∨ (∃ g, r = .gone g ∧ ∃ c, e = .panicked c ∧ gWords_X zg zl zn zb zq p1 p2 g0 zr zA zc zs g w0 c w) := by
 have hS0 := hl
 unfold gWords at hF
 refine calls_of Try.func109 rfl ⟨((vP g0) :: (i6 p1) :: (i6 p2) :: un 20 ([])).toArray, []⟩ (by kernel_rfl) (gx_seq (fun K1 hK2 => gx_region (gx_k (nS) w0 (gx_nil (gx_thenN (hK2 _ _ (gx_seq (fun K3 hK4 => ?_))))))))
 refine gx_region (gx_k (vP g0) w0 (gx_k (vP g0) w0 (gx_k (vP g0) w0 (gx_v (vP zr) w0 (rl1 (hS0.box 0 rfl 0 rfl)) (gx_k (i6 p1) w0 (gx_k (i6 p2) w0 ?_))))))
 have hP5 : St _ _ w0 ([eR zr zs zA zb zc, eS zs zq] ++ [eW g0 zr zg zl zn]) := hS0.pick [1, 2, 0] rfl rfl
 obtain ⟨⟨l8, b7⟩, hc6, hF⟩ := bind_in hF
 try dsimp only at hF
 refine gx_c _ (qWords_ok N zb zq p1 p2 zr zA zc zs _ hc6 w0 (hP5.vwA hv0_0) hP5.part) ?_
 rintro _ w11 ⟨A9, c10, rfl, hT13⟩
 have hS12 : St _ _ w11 [eW g0 zr zg zl zn, eR zr zs zA zb zc, eS zs b7, rowE .u16 31 A9 c10 l8] := hP5.lendN _ hT13
 refine gx_k (.slice A9 l8.length c10) w11 (gx_nil (gx_thenN (hK4 _ _ (gx_seq (fun K14 hK15 => gx_region (gx_k (vP g0) w11 (gx_k (vP g0) w11 (gx_k (vP g0) w11 (gx_v (vP zr) w11 (rl1 (hS12.box 0 rfl 0 rfl)) ?_)))))))))
 have hP16 : St _ _ w11 ([eR zr zs zA zb zc, eS zs b7] ++ [eW g0 zr zg zl zn, rowE .u16 31 A9 c10 l8]) := hS12.pick [1, 2, 0, 3] rfl rfl
 obtain ⟨b18, hc17, hF⟩ := bind_in hF
 try dsimp only at hF
 refine gx_c _ (qBad_ok N zb b7 zr zA zc zs _ hc17 w11 (hP16.vwA hv0_0) hP16.part) ?_
 rintro _ w19 ⟨rfl, hT21⟩
 have hS20 : St _ _ w19 [eW g0 zr zg zl zn, rowE .u16 31 A9 c10 l8, eR zr zs zA zb zc, eS zs b7] := hP16.lendN _ hT21
 refine gx_k (.bool (!b18)) w19 ?_
 have hP22 : St _ _ w19 ([] ++ [eW g0 zr zg zl zn, rowE .u16 31 A9 c10 l8, eR zr zs zA zb zc, eS zs b7]) := hS20
 obtain ⟨rq35, hc23, hF⟩ := bind_in hF
 rcases rq35 with q0 | x29
 try dsimp only at hF
 refine gx_c _ (pan_ok (gRequire_ok N (!b18) _ hc23 w19 ) :) ?_
 rintro _ w24 ⟨rfl, hT26⟩
 have hS25 : St _ _ w24 [eW g0 zr zg zl zn, rowE .u16 31 A9 c10 l8, eR zr zs zA zb zc, eS zs b7] := hS20.take _ hT26
 refine gx_nil (gx_thenN (hK15 _ _ (gx_seq (fun K27 hK28 => gx_region (gx_k (.slice A9 l8.length c10) w24 (gx_k (.slice A9 l8.length c10) w24 (gx_nil (gx_thenN ?_))))))))
 refine hK28 _ _ (gx_ret ?_)
 obtain rfl := sj hF
 exact gxF (.slice A9 l8.length c10) (.inl ⟨_, rfl, _, rfl, A9, c10, rfl, (hS25.pick [0, 2, 3, 1] rfl rfl)⟩)
 try dsimp only at hF
 refine gx_callX _ (by kernel_rfl) (by kernel_rfl) (pan_gone (gRequire_ok N (!b18) _ hc23 w19 ) :) ?_
 rintro c33 w30 ⟨hx34, hT32⟩
 have hS31 : St _ _ w30 [eW g0 zr zg zl zn, rowE .u16 31 A9 c10 l8, eR zr zs zA zb zc, eS zs b7] := hS20.take _ hT32
 refine gx_thenP ?_
 obtain rfl := sj hF
 exact gx_finP (by kernel_rfl) (.inr ⟨_, rfl, _, rfl, hx34, (hS31.pick [0, 2, 3] rfl rfl)⟩)
def gWord (N : Nat) (_p0_1 : Int) (_p0_2 : Int) (_p0_3 : Int) (zb : List Int) (zq : Bool) (p1 : Int) : Option (Pan (Int × Bool) (Int × Bool)) :=
 ((qWord N zb zq p1).bind fun (x8, b7) => ((qBad N zb b7).bind fun b16 => ((gRequire N (!b16)).bind fun | Pan.ok _ => some (Pan.ok (x8, b7)) | Pan.gone x27 => some (Pan.gone (x27, b7)))))
def gWord_R (zg : Int) (zl : Int) (zn : Int) (zb : List Int) (zq : Bool) (p1 : Int) (g0 : Nat) (zr : Nat) (zA : Option Addr) (zc : Nat) (zs : Nat) (r : Int × Bool) (w0 : World) (v : Value) (w : World) : Prop := v = .int .u16 r.1 ∧ St (foots [eW g0 zr zg zl zn, eR zr zs zA zb zc, eS zs zq]) w0 w [eW g0 zr zg zl zn, eR zr zs zA zb zc, eS zs r.2]
def gWord_X (zg : Int) (zl : Int) (zn : Int) (zb : List Int) (zq : Bool) (p1 : Int) (g0 : Nat) (zr : Nat) (zA : Option Addr) (zc : Nat) (zs : Nat) (g : Int × Bool) (w0 : World) (c : List PanicEntry) (w : World) : Prop := c = goneB 113 g.1 ∧ St (foots [eW g0 zr zg zl zn, eR zr zs zA zb zc, eS zs zq]) w0 w [eW g0 zr zg zl zn, eR zr zs zA zb zc, eS zs g.2]
theorem gWord_ok (N : Nat) (zg : Int) (zl : Int) (zn : Int) (zb : List Int) (zq : Bool) (p1 : Int) (g0 : Nat) (zr : Nat) (zA : Option Addr) (zc : Nat) (zs : Nat) (r : Pan (Int × Bool) (Int × Bool)) (hF : gWord N zg zl zn zb zq p1 = some r) (w0 : World) (hv0_0 : Vw (foots [eW g0 zr zg zl zn, eR zr zs zA zb zc, eS zs zq]) .u8 w0 zA zc zb) (hl : St (foots [eW g0 zr zg zl zn, eR zr zs zA zb zc, eS zs zq]) w0 w0 [eW g0 zr zg zl zn, eR zr zs zA zb zc, eS zs zq]) :
  Calls Try.prog 101 #[.pointer (some ⟨g0, 0, none⟩), .int .i64 p1] w0 fun e w => (∃ r', r = .ok r' ∧ ∃ v, e = .returned v ∧ gWord_R zg zl zn zb zq p1 g0 zr zA zc zs r' w0 v w) ∨ (∃ g, r = .gone g ∧ ∃ c, e = .panicked c ∧ gWord_X zg zl zn zb zq p1 g0 zr zA zc zs g w0 c w) := by
 have hS0 := hl
 unfold gWord at hF
 refine calls_of Try.func101 rfl ⟨((vP g0) :: (i6 p1) :: un 18 ([])).toArray, []⟩ (by kernel_rfl) (gx_seq (fun K1 hK2 => gx_region (gx_k (u6 0) w0 (gx_nil (gx_thenN (hK2 _ _ (gx_seq (fun K3 hK4 => ?_))))))))
 refine gx_region (gx_k (vP g0) w0 (gx_k (vP g0) w0 (gx_k (vP g0) w0 (gx_v (vP zr) w0 (rl1 (hS0.box 0 rfl 0 rfl)) (gx_k (i6 p1) w0 ?_)))))
 have hP5 : St _ _ w0 ([eR zr zs zA zb zc, eS zs zq] ++ [eW g0 zr zg zl zn]) := hS0.pick [1, 2, 0] rfl rfl
 obtain ⟨⟨x8, b7⟩, hc6, hF⟩ := bind_in hF
 try dsimp only at hF
 refine gx_c _ (qWord_ok N zb zq p1 zr zA zc zs _ hc6 w0 (hP5.vwA hv0_0) hP5.part) ?_
 rintro _ w9 ⟨rfl, hT11⟩
 have hS10 : St _ _ w9 [eW g0 zr zg zl zn, eR zr zs zA zb zc, eS zs b7] := hP5.lendN _ hT11
 refine gx_k (u6 x8) w9 (gx_nil (gx_thenN (hK4 _ _ (gx_seq (fun K12 hK13 => gx_region (gx_k (vP g0) w9 (gx_k (vP g0) w9 (gx_k (vP g0) w9 (gx_v (vP zr) w9 (rl1 (hS10.box 0 rfl 0 rfl)) ?_)))))))))
 have hP14 : St _ _ w9 ([eR zr zs zA zb zc, eS zs b7] ++ [eW g0 zr zg zl zn]) := hS10.pick [1, 2, 0] rfl rfl
 obtain ⟨b16, hc15, hF⟩ := bind_in hF
 try dsimp only at hF
 refine gx_c _ (qBad_ok N zb b7 zr zA zc zs _ hc15 w9 (hP14.vwA hv0_0) hP14.part) ?_
 rintro _ w17 ⟨rfl, hT19⟩
 have hS18 : St _ _ w17 [eW g0 zr zg zl zn, eR zr zs zA zb zc, eS zs b7] := hP14.lendN _ hT19
 refine gx_k (.bool (!b16)) w17 ?_
 have hP20 : St _ _ w17 ([] ++ [eW g0 zr zg zl zn, eR zr zs zA zb zc, eS zs b7]) := hS18
 obtain ⟨rq33, hc21, hF⟩ := bind_in hF
 rcases rq33 with q0 | x27
 try dsimp only at hF
 refine gx_c _ (pan_ok (gRequire_ok N (!b16) _ hc21 w17 ) :) ?_
 rintro _ w22 ⟨rfl, hT24⟩
 have hS23 : St _ _ w22 [eW g0 zr zg zl zn, eR zr zs zA zb zc, eS zs b7] := hS18.take _ hT24
 refine gx_nil (gx_thenN (hK13 _ _ (gx_seq (fun K25 hK26 => gx_region (gx_k (u6 x8) w22 (gx_k (u6 x8) w22 (gx_nil (gx_thenN ?_))))))))
 refine hK26 _ _ (gx_ret ?_)
 obtain rfl := sj hF
 exact gxF (u6 x8) (.inl ⟨_, rfl, _, rfl, rfl, hS23⟩)
 try dsimp only at hF
 refine gx_callX _ (by kernel_rfl) (by kernel_rfl) (pan_gone (gRequire_ok N (!b16) _ hc21 w17 ) :) ?_
 rintro c31 w28 ⟨hx32, hT30⟩
 have hS29 : St _ _ w28 [eW g0 zr zg zl zn, eR zr zs zA zb zc, eS zs b7] := hS18.take _ hT30
 refine gx_thenP ?_
 obtain rfl := sj hF
 exact gx_finP (by kernel_rfl) (.inr ⟨_, rfl, _, rfl, hx32, hS29⟩)
def gSize (N : Nat) (zg : Int) (zl : Int) (zn : Int) (zb : List Int) (zq : Bool) (p1 : Int) : Option (Pan (Int × Bool) (Int × Bool)) :=
 ((gWord N zg zl zn zb zq p1).bind fun | Pan.ok (x8, b7) => ((gRequire N (decide ((IntKind.i64.wrap x8) ≥ 1))).bind fun | Pan.ok _ => some (Pan.ok ((IntKind.i64.wrap x8), b7)) | Pan.gone x21 => some (Pan.gone (x21, b7))) | Pan.gone (x28, b29) => some (Pan.gone (x28, b29)))
def gSize_R (zg : Int) (zl : Int) (zn : Int) (zb : List Int) (zq : Bool) (p1 : Int) (g0 : Nat) (zr : Nat) (zA : Option Addr) (zc : Nat) (zs : Nat) (r : Int × Bool) (w0 : World) (v : Value) (w : World) : Prop := v = .int .i64 r.1 ∧ St (foots [eW g0 zr zg zl zn, eR zr zs zA zb zc, eS zs zq]) w0 w [eW g0 zr zg zl zn, eR zr zs zA zb zc, eS zs r.2]
def gSize_X (zg : Int) (zl : Int) (zn : Int) (zb : List Int) (zq : Bool) (p1 : Int) (g0 : Nat) (zr : Nat) (zA : Option Addr) (zc : Nat) (zs : Nat) (g : Int × Bool) (w0 : World) (c : List PanicEntry) (w : World) : Prop := c = goneB 113 g.1 ∧ St (foots [eW g0 zr zg zl zn, eR zr zs zA zb zc, eS zs zq]) w0 w [eW g0 zr zg zl zn, eR zr zs zA zb zc, eS zs g.2]
theorem gSize_ok (N : Nat) (zg : Int) (zl : Int) (zn : Int) (zb : List Int) (zq : Bool) (p1 : Int) (g0 : Nat) (zr : Nat) (zA : Option Addr) (zc : Nat) (zs : Nat) (r : Pan (Int × Bool) (Int × Bool)) (hF : gSize N zg zl zn zb zq p1 = some r) (w0 : World) (hv0_0 : Vw (foots [eW g0 zr zg zl zn, eR zr zs zA zb zc, eS zs zq]) .u8 w0 zA zc zb) (hl : St (foots [eW g0 zr zg zl zn, eR zr zs zA zb zc, eS zs zq]) w0 w0 [eW g0 zr zg zl zn, eR zr zs zA zb zc, eS zs zq]) :
  Calls Try.prog 110 #[.pointer (some ⟨g0, 0, none⟩), .int .i64 p1] w0 fun e w => (∃ r', r = .ok r' ∧ ∃ v, e = .returned v ∧ gSize_R zg zl zn zb zq p1 g0 zr zA zc zs r' w0 v w) ∨ (∃ g, r = .gone g ∧ ∃ c, e = .panicked c ∧ gSize_X zg zl zn zb zq p1 g0 zr zA zc zs g w0 c w) := by
 have hS0 := hl
 unfold gSize at hF
 refine calls_of Try.func110 rfl ⟨((vP g0) :: (i6 p1) :: un 12 ([])).toArray, []⟩ (by kernel_rfl) (gx_seq (fun K1 hK2 => gx_region (gx_k (i6 0) w0 (gx_nil (gx_thenN (hK2 _ _ (gx_seq (fun K3 hK4 => ?_))))))))
 refine gx_region (gx_k (vP g0) w0 (gx_k (i6 p1) w0 ?_))
 have hP5 : St _ _ w0 ([eW g0 zr zg zl zn, eR zr zs zA zb zc, eS zs zq] ++ []) := hS0
 obtain ⟨rq35, hc6, hF⟩ := bind_in hF
 rcases rq35 with q0 | q0
 obtain ⟨x8, b7⟩ := q0
 try dsimp only at hF
 refine gx_c _ (pan_ok (gWord_ok N zg zl zn zb zq p1 g0 zr zA zc zs _ hc6 w0 (hP5.vwA hv0_0) hP5.part) :) ?_
 rintro _ w9 ⟨rfl, hT11⟩
 have hS10 : St _ _ w9 [eW g0 zr zg zl zn, eR zr zs zA zb zc, eS zs b7] := hP5.lendN _ hT11
 refine gx_k (i6 (iw x8)) w9 (gx_k (i6 (iw x8)) w9 (gx_nil (gx_thenN (hK4 _ _ (gx_seq (fun K12 hK13 => gx_region (gx_k (i6 (iw x8)) w9 (gx_k (.bool (decide ((iw x8) ≥ 1))) w9 ?_))))))))
 have hP14 : St _ _ w9 ([] ++ [eW g0 zr zg zl zn, eR zr zs zA zb zc, eS zs b7]) := hS10
 obtain ⟨rq27, hc15, hF⟩ := bind_in hF
 rcases rq27 with q0 | x21
 try dsimp only at hF
 refine gx_c _ (pan_ok (gRequire_ok N (decide ((iw x8) ≥ 1)) _ hc15 w9 ) :) ?_
 rintro _ w16 ⟨rfl, hT18⟩
 have hS17 : St _ _ w16 [eW g0 zr zg zl zn, eR zr zs zA zb zc, eS zs b7] := hS10.take _ hT18
 refine gx_nil (gx_thenN (hK13 _ _ (gx_seq (fun K19 hK20 => gx_region (gx_k (i6 (iw x8)) w16 (gx_k (i6 (iw x8)) w16 (gx_nil (gx_thenN ?_))))))))
 refine hK20 _ _ (gx_ret ?_)
 obtain rfl := sj hF
 exact gxF (i6 (iw x8)) (.inl ⟨_, rfl, _, rfl, rfl, hS17⟩)
 try dsimp only at hF
 refine gx_callX _ (by kernel_rfl) (by kernel_rfl) (pan_gone (gRequire_ok N (decide ((iw x8) ≥ 1)) _ hc15 w9 ) :) ?_
 rintro c25 w22 ⟨hx26, hT24⟩
 have hS23 : St _ _ w22 [eW g0 zr zg zl zn, eR zr zs zA zb zc, eS zs b7] := hS10.take _ hT24
 refine gx_thenP ?_
 obtain rfl := sj hF
 exact gx_finP (by kernel_rfl) (.inr ⟨_, rfl, _, rfl, hx26, hS23⟩)
 obtain ⟨x28, b29⟩ := q0
 try dsimp only at hF
 refine gx_callX _ (by kernel_rfl) (by kernel_rfl) (pan_gone (gWord_ok N zg zl zn zb zq p1 g0 zr zA zc zs _ hc6 w0 (hP5.vwA hv0_0) hP5.part) :) ?_
 rintro c33 w30 ⟨hx34, hT32⟩
 have hS31 : St _ _ w30 [eW g0 zr zg zl zn, eR zr zs zA zb zc, eS zs b29] := hP5.lendN _ hT32
 refine gx_thenP ?_
 obtain rfl := sj hF
 exact gx_finP (by kernel_rfl) (.inr ⟨_, rfl, _, rfl, hx34, hS31⟩)
def gList (N : Nat) (zg : Int) (zl : Int) (zn : Int) (zb : List Int) (zq : Bool) (p1 : Int) : Option (Pan (List Int × Bool) (Int × Bool)) :=
 ((gWord N zg zl zn zb zq p1).bind fun | Pan.ok (x8, b7) => ((gWords N zg zl zn zb b7 (IntKind.i64.wrap (p1 + 2)) (IntKind.i64.wrap x8)).bind fun | Pan.ok (l15, b14) => some (Pan.ok (l15, b14)) | Pan.gone (x21, b22) => some (Pan.gone (x21, b22))) | Pan.gone (x29, b30) => some (Pan.gone (x29, b30)))
def gList_R (zg : Int) (zl : Int) (zn : Int) (zb : List Int) (zq : Bool) (p1 : Int) (g0 : Nat) (zr : Nat) (zA : Option Addr) (zc : Nat) (zs : Nat) (r : List Int × Bool) (w0 : World) (v : Value) (w : World) : Prop := ∃ (A0' : Option Addr) (c0' : Nat), v = .slice A0' r.1.length c0' ∧ St (foots [eW g0 zr zg zl zn, eR zr zs zA zb zc, eS zs zq]) w0 w [eW g0 zr zg zl zn, eR zr zs zA zb zc, eS zs r.2, rowE .u16 31 A0' c0' r.1]
def gList_X (zg : Int) (zl : Int) (zn : Int) (zb : List Int) (zq : Bool) (p1 : Int) (g0 : Nat) (zr : Nat) (zA : Option Addr) (zc : Nat) (zs : Nat) (g : Int × Bool) (w0 : World) (c : List PanicEntry) (w : World) : Prop := c = goneB 113 g.1 ∧ St (foots [eW g0 zr zg zl zn, eR zr zs zA zb zc, eS zs zq]) w0 w [eW g0 zr zg zl zn, eR zr zs zA zb zc, eS zs g.2]
theorem gList_ok (N : Nat) (zg : Int) (zl : Int) (zn : Int) (zb : List Int) (zq : Bool) (p1 : Int) (g0 : Nat) (zr : Nat) (zA : Option Addr) (zc : Nat) (zs : Nat) (r : Pan (List Int × Bool) (Int × Bool)) (hF : gList N zg zl zn zb zq p1 = some r) (w0 : World) (hv0_0 : Vw (foots [eW g0 zr zg zl zn, eR zr zs zA zb zc, eS zs zq]) .u8 w0 zA zc zb) (hl : St (foots [eW g0 zr zg zl zn, eR zr zs zA zb zc, eS zs zq]) w0 w0 [eW g0 zr zg zl zn, eR zr zs zA zb zc, eS zs zq]) :
  Calls Try.prog 133 #[.pointer (some ⟨g0, 0, none⟩), .int .i64 p1] w0 fun e w => (∃ r', r = .ok r' ∧ ∃ v, e = .returned v ∧ gList_R zg zl zn zb zq p1 g0 zr zA zc zs r' w0 v w) ∨ (∃ g, r = .gone g ∧ ∃ c, e = .panicked c ∧ gList_X zg zl zn zb zq p1 g0 zr zA zc zs g w0 c w) := by
 have hS0 := hl
 unfold gList at hF
 refine calls_of Try.func133 rfl ⟨((vP g0) :: (i6 p1) :: un 11 ([])).toArray, []⟩ (by kernel_rfl) (gx_seq (fun K1 hK2 => gx_region (gx_k (nS) w0 (gx_nil (gx_thenN (hK2 _ _ (gx_seq (fun K3 hK4 => ?_))))))))
 refine gx_region (gx_k (vP g0) w0 (gx_k (i6 p1) w0 (gx_k (i6 (iw (p1 + 2))) w0 (gx_k (vP g0) w0 (gx_k (i6 p1) w0 ?_)))))
 have hP5 : St _ _ w0 ([eW g0 zr zg zl zn, eR zr zs zA zb zc, eS zs zq] ++ []) := hS0
 obtain ⟨rq36, hc6, hF⟩ := bind_in hF
 rcases rq36 with q0 | q0
 obtain ⟨x8, b7⟩ := q0
 try dsimp only at hF
 refine gx_c _ (pan_ok (gWord_ok N zg zl zn zb zq p1 g0 zr zA zc zs _ hc6 w0 (hP5.vwA hv0_0) hP5.part) :) ?_
 rintro _ w9 ⟨rfl, hT11⟩
 have hS10 : St _ _ w9 [eW g0 zr zg zl zn, eR zr zs zA zb zc, eS zs b7] := hP5.lendN _ hT11
 refine gx_k (i6 (iw x8)) w9 ?_
 have hP12 : St _ _ w9 ([eW g0 zr zg zl zn, eR zr zs zA zb zc, eS zs b7] ++ []) := hS10
 obtain ⟨rq28, hc13, hF⟩ := bind_in hF
 rcases rq28 with q0 | q0
 obtain ⟨l15, b14⟩ := q0
 try dsimp only at hF
 refine gx_c _ (pan_ok (gWords_ok N zg zl zn zb b7 (iw (p1 + 2)) (iw x8) g0 zr zA zc zs _ hc13 w9 (hP12.vwA hv0_0) hP12.part) :) ?_
 rintro _ w18 ⟨A16, c17, rfl, hT20⟩
 have hS19 : St _ _ w18 [eW g0 zr zg zl zn, eR zr zs zA zb zc, eS zs b14, rowE .u16 31 A16 c17 l15] := hP12.lendN _ hT20
 refine gx_k (.slice A16 l15.length c17) w18 (gx_nil (gx_thenN (hK4 _ _ (gx_ret ?_))))
 obtain rfl := sj hF
 exact gxF (.slice A16 l15.length c17) (.inl ⟨_, rfl, _, rfl, A16, c17, rfl, hS19⟩)
 obtain ⟨x21, b22⟩ := q0
 try dsimp only at hF
 refine gx_callX _ (by kernel_rfl) (by kernel_rfl) (pan_gone (gWords_ok N zg zl zn zb b7 (iw (p1 + 2)) (iw x8) g0 zr zA zc zs _ hc13 w9 (hP12.vwA hv0_0) hP12.part) :) ?_
 rintro c26 w23 ⟨hx27, hT25⟩
 have hS24 : St _ _ w23 [eW g0 zr zg zl zn, eR zr zs zA zb zc, eS zs b22] := hP12.lendN _ hT25
 refine gx_thenP ?_
 obtain rfl := sj hF
 exact gx_finP (by kernel_rfl) (.inr ⟨_, rfl, _, rfl, hx27, hS24⟩)
 obtain ⟨x29, b30⟩ := q0
 try dsimp only at hF
 refine gx_callX _ (by kernel_rfl) (by kernel_rfl) (pan_gone (gWord_ok N zg zl zn zb zq p1 g0 zr zA zc zs _ hc6 w0 (hP5.vwA hv0_0) hP5.part) :) ?_
 rintro c34 w31 ⟨hx35, hT33⟩
 have hS32 : St _ _ w31 [eW g0 zr zg zl zn, eR zr zs zA zb zc, eS zs b30] := hP5.lendN _ hT33
 refine gx_thenP ?_
 obtain rfl := sj hF
 exact gx_finP (by kernel_rfl) (.inr ⟨_, rfl, _, rfl, hx35, hS32⟩)
def gRight_L1 (N : Nat) (zg : Int) (p1 : List Int) : Nat → Int → Option (Ctl (Unit) (Pan (Unit) (Int)))
 | 0, _ => none
 | k15+1, x14 => (if x14 < ((p1.length : Nat) : Int) then ((ix p1 x14).bind fun x26 => ((gRequire N (decide ((IntKind.i64.wrap x26) < zg))).bind fun | Pan.ok _ => gRight_L1 N zg p1 k15 (IntKind.i64.wrap (x14 + 1)) | Pan.gone x33 => some (Ctl.ret (Pan.gone x33)))) else some (Ctl.go ()))
def gRight (N : Nat) (zg : Int) (_p0_2 : Int) (_p0_3 : Int) (_p0_0 : List Int) (_p0_0s_0 : Bool) (p1 : List Int) : Option (Pan (Unit) (Int)) :=
 ((gRight_L1 N zg p1 N 0 : Option (Ctl (Unit) (Pan (Unit) (Int)))).bind fun | Ctl.go () => some (Pan.ok ()) | Ctl.ret r => some r)
def gRight_R (zg : Int) (zl : Int) (zn : Int) (zb : List Int) (zq : Bool) (p1 : List Int) (g0 : Nat) (zr : Nat) (zA : Option Addr) (zc : Nat) (zs : Nat) (A1 : Option Addr) (c1 : Nat) (_r : Unit) (w0 : World) (v : Value) (w : World) : Prop := v = .slice A1 p1.length c1 ∧ St (foots [eW g0 zr zg zl zn, eR zr zs zA zb zc, eS zs zq]) w0 w [eW g0 zr zg zl zn, eR zr zs zA zb zc, eS zs zq]
def gRight_X (zg : Int) (zl : Int) (zn : Int) (zb : List Int) (zq : Bool) (p1 : List Int) (g0 : Nat) (zr : Nat) (zA : Option Addr) (zc : Nat) (zs : Nat) (A1 : Option Addr) (c1 : Nat) (g : Int) (w0 : World) (c : List PanicEntry) (w : World) : Prop := c = goneB 113 g ∧ St (foots [eW g0 zr zg zl zn, eR zr zs zA zb zc, eS zs zq]) w0 w [eW g0 zr zg zl zn, eR zr zs zA zb zc, eS zs zq]
theorem gRight_ok (N : Nat) (zg : Int) (zl : Int) (zn : Int) (zb : List Int) (zq : Bool) (p1 : List Int) (g0 : Nat) (zr : Nat) (zA : Option Addr) (zc : Nat) (zs : Nat) (A1 : Option Addr) (c1 : Nat) (r : Pan (Unit) (Int)) (hF : gRight N zg zl zn zb zq p1 = some r) (w0 : World) (_hv0_0 : Vw (foots [eW g0 zr zg zl zn, eR zr zs zA zb zc, eS zs zq]) .u8 w0 zA zc zb) (hv1 : Vw (foots [eW g0 zr zg zl zn, eR zr zs zA zb zc, eS zs zq]) .u16 w0 A1 c1 p1) (hl : St (foots [eW g0 zr zg zl zn, eR zr zs zA zb zc, eS zs zq]) w0 w0 [eW g0 zr zg zl zn, eR zr zs zA zb zc, eS zs zq]) :
  Calls Try.prog 107 #[.pointer (some ⟨g0, 0, none⟩), .slice A1 p1.length c1] w0 fun e w => (∃ r', r = .ok r' ∧ ∃ v, e = .returned v ∧ gRight_R zg zl zn zb zq p1 g0 zr zA zc zs A1 c1 r' w0 v w) ∨ (∃ g, r = .gone g ∧ ∃ c, e = .panicked c ∧ gRight_X zg zl zn zb zq p1 g0 zr zA zc zs A1 c1 g w0 c w) := by
 have hS0 := hl
 unfold gRight at hF
 refine calls_of Try.func107 rfl ⟨((vP g0) :: (.slice A1 p1.length c1) :: un 21 ([])).toArray, []⟩ (by kernel_rfl) (gx_seq (fun K1 hK2 => gx_region (gx_k (nS) w0 (gx_nil (gx_thenN (hK2 _ _ ?_))))))
 obtain ⟨c6, hE7, hO8⟩ := bind_in hF
 refine gx_cut (fun a w => selfA (fun u5 => ⟨((vP g0) :: (.slice A1 p1.length c1) :: undef :: undef :: (nS) :: undef :: dd u5 6 16 (undef :: [])).toArray, []⟩) a ∧ Ctl.go () = c6 ∧ St (foots [eW g0 zr zg zl zn, eR zr zs zA zb zc, eS zs zq]) w0 w [eW g0 zr zg zl zn, eR zr zs zA zb zc, eS zs zq]) ?_ ?_
 refine gx_seq (fun K9 hK10 => gx_region (gx_k (.slice A1 p1.length c1) w0 (gx_k (i6 ((p1.length : Nat) : Int)) w0 (gx_k (i6 0) w0 (gx_nil (gx_thenN (hK10 _ _ (gx_block (gx_loop (fun k a w => ∃ (x14 : Int), selfA (fun u13 => ⟨((vP g0) :: (.slice A1 p1.length c1) :: undef :: undef :: (nS) :: undef :: (u13 6) :: (.slice A1 p1.length c1) :: (i6 ((p1.length : Nat) : Int)) :: (i6 x14) :: dd u13 10 12 (undef :: [])).toArray, []⟩) a ∧ gRight_L1 N zg p1 k x14 = some c6 ∧ St (foots [eW g0 zr zg zl zn, eR zr zs zA zb zc, eS zs zq]) w0 w [eW g0 zr zg zl zn, eR zr zs zA zb zc, eS zs zq]) N ?_ ?_)))))))))
 exact ⟨0, selfA_i (by kernel_rfl), hE7, hS0⟩
 rintro k15 _ w11 ⟨x14, hq42, hL16, hS12⟩
 obtain ⟨u13, rfl⟩ := selfA_u hq42
 rcases k15 with _ | k15
 cases hL16
 first | rw [gRight_L1] at hL16 | unfold gRight_L1 at hL16
 refine gx_seq (fun K17 hK18 => gx_region ?_)
 rcases if_in hL16 with ⟨h19, hL16⟩ | ⟨h19, hL16⟩
 refine gx_v (.bool true) w11 (rbE (decide_eq_true h19)) (gx_nil (gx_thenN (hK18 _ _ (gx_seq (fun K20 hK21 => gx_yes (by kernel_rfl) (gx_pass (gx_thenN ?_)))))))
 refine hK21 _ _ (gx_seq (fun K22 hK23 => gx_block (gx_seq (fun K24 hK25 => gx_region ?_))))
 obtain ⟨x26, hx27, hL16⟩ := bind_in hL16
 refine gx_v (pI x14 A1) w11 (rix 31 .i64 hx27 ((hS12.view hv1))) (gx_v (u6 x26) w11 (rlx (hS12.view hv1) hx27) (gx_k (u6 x26) w11 (gx_nil (gx_thenN (hK25 _ _ (gx_region (gx_k (u6 x26) w11 (gx_k (i6 (iw x26)) w11 (gx_k (vP g0) w11 (gx_k (vP g0) w11 (gx_k (vQ g0 1) w11 ?_)))))))))))
 refine gx_v (i6 zg) w11 (rl1 (hS12.box 0 rfl 1 rfl)) (gx_k (.bool (decide ((iw x26) < zg))) w11 ?_)
 have hP28 : St _ _ w11 ([] ++ [eW g0 zr zg zl zn, eR zr zs zA zb zc, eS zs zq]) := hS12
 obtain ⟨rq39, hc29, hL16⟩ := bind_in hL16
 rcases rq39 with q0 | x33
 try dsimp only at hL16
 refine gx_c _ (pan_ok (gRequire_ok N (decide ((iw x26) < zg)) _ hc29 w11 ) :) ?_
 rintro _ w30 ⟨rfl, hT32⟩
 have hS31 : St _ _ w30 [eW g0 zr zg zl zn, eR zr zs zA zb zc, eS zs zq] := hS12.take _ hT32
 refine gx_nil (gx_blkN (gx_thenN (hK23 _ _ (gx_region (gx_k (i6 (iw (x14 + 1))) w30 (gx_k (i6 (iw (x14 + 1))) w30 (gx_nil (gx_thenN ?_))))))))
 exact ⟨k15, Nat.lt_succ_self k15, (iw (x14 + 1)), selfA_i (by kernel_rfl), hL16, hS31⟩
 try dsimp only at hL16
 refine gx_callX _ (by kernel_rfl) (by kernel_rfl) (pan_gone (gRequire_ok N (decide ((iw x26) < zg)) _ hc29 w11 ) :) ?_
 rintro c37 w34 ⟨hx38, hT36⟩
 have hS35 : St _ _ w34 [eW g0 zr zg zl zn, eR zr zs zA zb zc, eS zs zq] := hS12.take _ hT36
 refine gx_blkP (gx_thenP (gx_thenP (gx_blkP (gx_thenP ?_))))
 obtain rfl := sj hL16
 try dsimp only at hO8
 obtain rfl := sj hO8
 exact gx_finP (by kernel_rfl) (.inr ⟨_, rfl, _, rfl, hx38, hS35⟩)
 refine gx_v (.bool false) w11 (rbE (decide_eq_false h19)) (gx_nil (gx_thenN (hK18 _ _ (gx_seq (fun K40 hK41 => gx_no (by kernel_rfl) (gx_exit (gx_thenE ?_)))))))
 refine gx_thenE (gx_blkE (gx_thenN ?_))
 exact ⟨selfA_i (by kernel_rfl), (sj hL16), hS12⟩
 rintro _ w3 ⟨hq45, rfl, hS4⟩
 obtain ⟨u5, rfl⟩ := selfA_u hq45
 try dsimp only at hO8
 refine gx_seq (fun K43 hK44 => gx_region (gx_k (.slice A1 p1.length c1) w3 (gx_k (.slice A1 p1.length c1) w3 (gx_nil (gx_thenN (hK44 _ _ (gx_ret ?_)))))))
 obtain rfl := sj hO8
 exact gxF (.slice A1 p1.length c1) (.inl ⟨_, rfl, _, rfl, rfl, hS4⟩)
def gCoverage (N : Nat) (zg : Int) (zl : Int) (zn : Int) (zb : List Int) (zq : Bool) (p1 : Int) : Option (Pan (List Int × Int × Bool) (Int × Int × Bool)) :=
 ((cCov N zb zq p1 zg).bind fun (l11, x14, b15) => ((gRequire N (decide (x14 = 0))).bind fun | Pan.ok _ => ((gCount N zg zl zn zb b15 ((l11.length : Nat) : Int)).bind fun | Pan.ok x28 => some (Pan.ok (l11, x28, b15)) | Pan.gone (x34, x35) => some (Pan.gone (x34, x35, b15))) | Pan.gone x42 => some (Pan.gone (x42, zn, b15))))
def gCoverage_R (zg : Int) (zl : Int) (zn : Int) (zb : List Int) (zq : Bool) (p1 : Int) (g0 : Nat) (zr : Nat) (zA : Option Addr) (zc : Nat) (zs : Nat) (r : List Int × Int × Bool) (w0 : World) (v : Value) (w : World) : Prop := ∃ (A0' : Option Addr) (c0' : Nat), v = .slice A0' r.1.length c0' ∧ St (foots [eW g0 zr zg zl zn, eR zr zs zA zb zc, eS zs zq]) w0 w [eW g0 zr zg zl r.2.1, eR zr zs zA zb zc, eS zs r.2.2, rowE .u16 31 A0' c0' r.1]
def gCoverage_X (zg : Int) (zl : Int) (zn : Int) (zb : List Int) (zq : Bool) (p1 : Int) (g0 : Nat) (zr : Nat) (zA : Option Addr) (zc : Nat) (zs : Nat) (g : Int × Int × Bool) (w0 : World) (c : List PanicEntry) (w : World) : Prop := c = goneB 113 g.1 ∧ St (foots [eW g0 zr zg zl zn, eR zr zs zA zb zc, eS zs zq]) w0 w [eW g0 zr zg zl g.2.1, eR zr zs zA zb zc, eS zs g.2.2]
theorem gCoverage_ok (N : Nat) (zg : Int) (zl : Int) (zn : Int) (zb : List Int) (zq : Bool) (p1 : Int) (g0 : Nat) (zr : Nat) (zA : Option Addr) (zc : Nat) (zs : Nat) (r : Pan (List Int × Int × Bool) (Int × Int × Bool)) (hF : gCoverage N zg zl zn zb zq p1 = some r) (w0 : World) (hv0_0 : Vw (foots [eW g0 zr zg zl zn, eR zr zs zA zb zc, eS zs zq]) .u8 w0 zA zc zb) (hl : St (foots [eW g0 zr zg zl zn, eR zr zs zA zb zc, eS zs zq]) w0 w0 [eW g0 zr zg zl zn, eR zr zs zA zb zc, eS zs zq]) :
  Calls Try.prog 132 #[.pointer (some ⟨g0, 0, none⟩), .int .i64 p1] w0 fun e w => (∃ r', r = .ok r' ∧ ∃ v, e = .returned v ∧ gCoverage_R zg zl zn zb zq p1 g0 zr zA zc zs r' w0 v w) ∨ (∃ g, r = .gone g ∧ ∃ c, e = .panicked c ∧ gCoverage_X zg zl zn zb zq p1 g0 zr zA zc zs g w0 c w) := by
 have hS0 := hl
 unfold gCoverage at hF
 refine calls_of Try.func132 rfl ⟨((vP g0) :: (i6 p1) :: un 26 ([])).toArray, []⟩ (by kernel_rfl) (gx_seq (fun K1 hK2 => gx_region (gx_k (nS) w0 (gx_nil (gx_thenN (hK2 _ _ (gx_seq (fun K3 hK4 => ?_))))))))
 refine gdst (fun w => St (foots [eW g0 zr zg zl zn, eR zr zs zA zb zc, eS zs zq]) w0 w [eW g0 zr zg zl zn, eR zr zs zA zb zc]) 15 ?_
 have hS6 := hS0.drew
 generalize w0.drew = w5 at hS6 ⊢
 refine gv1 0 8 (vP g0) rfl (hS6.pick [0, 1] rfl rfl) (gv1 1 9 (vP g0) rfl (hS6.pick [0, 1] rfl rfl) (gv1 2 10 (vP g0) rfl (hS6.pick [0, 1] rfl rfl) (gu1 3 11 (vP zr) rfl (hS6.pick [0, 1] rfl rfl) (fun w hSw => rl1 (hSw.box 0 rfl 0 rfl)) (gv1 4 12 (i6 p1) rfl (hS6.pick [0, 1] rfl rfl) (gv1 5 13 (vP g0) rfl (hS6.pick [0, 1] rfl rfl) (gv1 6 14 (vP g0) rfl (hS6.pick [0, 1] rfl rfl) (gv1 7 15 (vQ g0 1) rfl (hS6.pick [0, 1] rfl rfl) ?_)))))))
 refine gu1 8 16 (i6 zg) rfl (hS6.pick [0, 1] rfl rfl) (fun w hSw => rl1 (hSw.box 0 rfl 1 rfl)) ?_
 obtain ⟨⟨l11, x14, b15⟩, hc8, hF⟩ := bind_in hF
 try dsimp only at hF
 refine gdC 9 ⟨some 17, _, _, _, _, _⟩ _ rfl (by kernel_rfl) (cCov_ok N zb zq p1 zg zr zs zA zc _ hc8 w5 (hS6.get 1 rfl) (hS6.get 2 rfl) (hS6.ne 1 2 rfl rfl (by decide)) (vw_sub2 (hS6.again hv0_0) (by simp [foots, boxE, eR, eS]) (by simp [foots, boxE, eR, eS]))) ?_
 rintro _ w9 ⟨A12, c13, rfl, hT16⟩
 have hS10 : St _ _ w9 [eW g0 zr zg zl zn, eR zr zs zA zb zc, eS zs b15, rowE .u16 31 A12 c13 l11] := hS6.lend 1 2 rfl rfl _ hT16
 refine ⟨(hS10.pick [0, 1] rfl rfl), gv1 10 7 (.tuple #[.slice A12 l11.length c13, i6 x14]) rfl (hS10.pick [0, 1] rfl rfl) (gv1 11 18 (.slice A12 l11.length c13) rfl (hS10.pick [0, 1] rfl rfl) (gv1 12 19 (i6 x14) rfl (hS10.pick [0, 1] rfl rfl) (gv1 13 5 (.slice A12 l11.length c13) rfl (hS10.pick [0, 1] rfl rfl) (gv1 14 6 (i6 x14) rfl (hS10.pick [0, 1] rfl rfl) (gd_done (by kernel_rfl) (gx_thenN ?_))))))⟩
 refine hK4 _ _ (gx_seq (fun K17 hK18 => gx_region (gx_k (i6 x14) w9 (gx_k (.bool (decide (x14 = 0))) w9 ?_))))
 have hP19 : St _ _ w9 ([] ++ [eW g0 zr zg zl zn, eR zr zs zA zb zc, eS zs b15, rowE .u16 31 A12 c13 l11]) := hS10
 obtain ⟨rq48, hc20, hF⟩ := bind_in hF
 rcases rq48 with q0 | x42
 try dsimp only at hF
 refine gx_c _ (pan_ok (gRequire_ok N (decide (x14 = 0)) _ hc20 w9 ) :) ?_
 rintro _ w21 ⟨rfl, hT23⟩
 have hS22 : St _ _ w21 [eW g0 zr zg zl zn, eR zr zs zA zb zc, eS zs b15, rowE .u16 31 A12 c13 l11] := hS10.take _ hT23
 refine gx_nil (gx_thenN (hK18 _ _ (gx_seq (fun K24 hK25 => gx_region (gx_k (vP g0) w21 (gx_k (.slice A12 l11.length c13) w21 (gx_k (i6 ((l11.length : Nat) : Int)) w21 ?_)))))))
 have hP26 : St _ _ w21 ([eW g0 zr zg zl zn, eR zr zs zA zb zc, eS zs b15] ++ [rowE .u16 31 A12 c13 l11]) := hS22
 obtain ⟨rq41, hc27, hF⟩ := bind_in hF
 rcases rq41 with x28 | q0
 try dsimp only at hF
 refine gx_c _ (pan_ok (gCount_ok N zg zl zn zb b15 ((l11.length : Nat) : Int) g0 zr zA zc zs _ hc27 w21 (hP26.vwA hv0_0) hP26.part) :) ?_
 rintro _ w29 ⟨rfl, hT31⟩
 have hS30 : St _ _ w29 [rowE .u16 31 A12 c13 l11, eW g0 zr zg zl x28, eR zr zs zA zb zc, eS zs b15] := hP26.lendN _ hT31
 refine gx_nil (gx_thenN (hK25 _ _ (gx_seq (fun K32 hK33 => gx_region (gx_k (.slice A12 l11.length c13) w29 (gx_k (.slice A12 l11.length c13) w29 (gx_nil (gx_thenN ?_))))))))
 refine hK33 _ _ (gx_ret ?_)
 obtain rfl := sj hF
 exact gxF (.slice A12 l11.length c13) (.inl ⟨_, rfl, _, rfl, A12, c13, rfl, (hS30.pick [1, 2, 3, 0] rfl rfl)⟩)
 obtain ⟨x34, x35⟩ := q0
 try dsimp only at hF
 refine gx_callX _ (by kernel_rfl) (by kernel_rfl) (pan_gone (gCount_ok N zg zl zn zb b15 ((l11.length : Nat) : Int) g0 zr zA zc zs _ hc27 w21 (hP26.vwA hv0_0) hP26.part) :) ?_
 rintro c39 w36 ⟨hx40, hT38⟩
 have hS37 : St _ _ w36 [rowE .u16 31 A12 c13 l11, eW g0 zr zg zl x35, eR zr zs zA zb zc, eS zs b15] := hP26.lendN _ hT38
 refine gx_thenP ?_
 obtain rfl := sj hF
 exact gx_finP (by kernel_rfl) (.inr ⟨_, rfl, _, rfl, hx40, (hS37.pick [1, 2, 3] rfl rfl)⟩)
 try dsimp only at hF
 refine gx_callX _ (by kernel_rfl) (by kernel_rfl) (pan_gone (gRequire_ok N (decide (x14 = 0)) _ hc20 w9 ) :) ?_
 rintro c46 w43 ⟨hx47, hT45⟩
 have hS44 : St _ _ w43 [eW g0 zr zg zl zn, eR zr zs zA zb zc, eS zs b15, rowE .u16 31 A12 c13 l11] := hS10.take _ hT45
 refine gx_thenP ?_
 obtain rfl := sj hF
 exact gx_finP (by kernel_rfl) (.inr ⟨_, rfl, _, rfl, hx47, (hS44.pick [0, 1, 2] rfl rfl)⟩)
def gCovered (N : Nat) (zg : Int) (zl : Int) (zn : Int) (zb : List Int) (zq : Bool) (p1 : Int) : Option (Pan (List Int × Int × Bool) (Int × Int × Bool)) :=
 ((gWord N zg zl zn zb zq (IntKind.i64.wrap (p1 + 2))).bind fun | Pan.ok (x8, b7) => ((gCoverage N zg zl zn zb b7 (IntKind.i64.wrap (p1 + (IntKind.i64.wrap x8)))).bind fun | Pan.ok (l16, x14, b15) => some (Pan.ok (l16, x14, b15)) | Pan.gone (x22, x23, b24) => some (Pan.gone (x22, x23, b24))) | Pan.gone (x31, b32) => some (Pan.gone (x31, zn, b32)))
def gCovered_R (zg : Int) (zl : Int) (zn : Int) (zb : List Int) (zq : Bool) (p1 : Int) (g0 : Nat) (zr : Nat) (zA : Option Addr) (zc : Nat) (zs : Nat) (r : List Int × Int × Bool) (w0 : World) (v : Value) (w : World) : Prop := ∃ (A0' : Option Addr) (c0' : Nat), v = .slice A0' r.1.length c0' ∧ St (foots [eW g0 zr zg zl zn, eR zr zs zA zb zc, eS zs zq]) w0 w [eW g0 zr zg zl r.2.1, eR zr zs zA zb zc, eS zs r.2.2, rowE .u16 31 A0' c0' r.1]
def gCovered_X (zg : Int) (zl : Int) (zn : Int) (zb : List Int) (zq : Bool) (p1 : Int) (g0 : Nat) (zr : Nat) (zA : Option Addr) (zc : Nat) (zs : Nat) (g : Int × Int × Bool) (w0 : World) (c : List PanicEntry) (w : World) : Prop := c = goneB 113 g.1 ∧ St (foots [eW g0 zr zg zl zn, eR zr zs zA zb zc, eS zs zq]) w0 w [eW g0 zr zg zl g.2.1, eR zr zs zA zb zc, eS zs g.2.2]
theorem gCovered_ok (N : Nat) (zg : Int) (zl : Int) (zn : Int) (zb : List Int) (zq : Bool) (p1 : Int) (g0 : Nat) (zr : Nat) (zA : Option Addr) (zc : Nat) (zs : Nat) (r : Pan (List Int × Int × Bool) (Int × Int × Bool)) (hF : gCovered N zg zl zn zb zq p1 = some r) (w0 : World) (hv0_0 : Vw (foots [eW g0 zr zg zl zn, eR zr zs zA zb zc, eS zs zq]) .u8 w0 zA zc zb) (hl : St (foots [eW g0 zr zg zl zn, eR zr zs zA zb zc, eS zs zq]) w0 w0 [eW g0 zr zg zl zn, eR zr zs zA zb zc, eS zs zq]) :
  Calls Try.prog 102 #[.pointer (some ⟨g0, 0, none⟩), .int .i64 p1] w0 fun e w => (∃ r', r = .ok r' ∧ ∃ v, e = .returned v ∧ gCovered_R zg zl zn zb zq p1 g0 zr zA zc zs r' w0 v w) ∨ (∃ g, r = .gone g ∧ ∃ c, e = .panicked c ∧ gCovered_X zg zl zn zb zq p1 g0 zr zA zc zs g w0 c w) := by
 have hS0 := hl
 unfold gCovered at hF
 refine calls_of Try.func102 rfl ⟨((vP g0) :: (i6 p1) :: un 12 ([])).toArray, []⟩ (by kernel_rfl) (gx_seq (fun K1 hK2 => gx_region (gx_k (nS) w0 (gx_nil (gx_thenN (hK2 _ _ (gx_seq (fun K3 hK4 => ?_))))))))
 refine gx_region (gx_k (vP g0) w0 (gx_k (i6 p1) w0 (gx_k (vP g0) w0 (gx_k (i6 p1) w0 (gx_k (i6 (iw (p1 + 2))) w0 ?_)))))
 have hP5 : St _ _ w0 ([eW g0 zr zg zl zn, eR zr zs zA zb zc, eS zs zq] ++ []) := hS0
 obtain ⟨rq38, hc6, hF⟩ := bind_in hF
 rcases rq38 with q0 | q0
 obtain ⟨x8, b7⟩ := q0
 try dsimp only at hF
 refine gx_c _ (pan_ok (gWord_ok N zg zl zn zb zq (iw (p1 + 2)) g0 zr zA zc zs _ hc6 w0 (hP5.vwA hv0_0) hP5.part) :) ?_
 rintro _ w9 ⟨rfl, hT11⟩
 have hS10 : St _ _ w9 [eW g0 zr zg zl zn, eR zr zs zA zb zc, eS zs b7] := hP5.lendN _ hT11
 refine gx_k (i6 (iw x8)) w9 (gx_k (i6 (iw (p1 + (iw x8)))) w9 ?_)
 have hP12 : St _ _ w9 ([eW g0 zr zg zl zn, eR zr zs zA zb zc, eS zs b7] ++ []) := hS10
 obtain ⟨rq30, hc13, hF⟩ := bind_in hF
 rcases rq30 with q0 | q0
 obtain ⟨l16, x14, b15⟩ := q0
 try dsimp only at hF
 refine gx_c _ (pan_ok (gCoverage_ok N zg zl zn zb b7 (iw (p1 + (iw x8))) g0 zr zA zc zs _ hc13 w9 (hP12.vwA hv0_0) hP12.part) :) ?_
 rintro _ w19 ⟨A17, c18, rfl, hT21⟩
 have hS20 : St _ _ w19 [eW g0 zr zg zl x14, eR zr zs zA zb zc, eS zs b15, rowE .u16 31 A17 c18 l16] := hP12.lendN _ hT21
 refine gx_k (.slice A17 l16.length c18) w19 (gx_nil (gx_thenN (hK4 _ _ (gx_ret ?_))))
 obtain rfl := sj hF
 exact gxF (.slice A17 l16.length c18) (.inl ⟨_, rfl, _, rfl, A17, c18, rfl, hS20⟩)
 obtain ⟨x22, x23, b24⟩ := q0
 try dsimp only at hF
 refine gx_callX _ (by kernel_rfl) (by kernel_rfl) (pan_gone (gCoverage_ok N zg zl zn zb b7 (iw (p1 + (iw x8))) g0 zr zA zc zs _ hc13 w9 (hP12.vwA hv0_0) hP12.part) :) ?_
 rintro c28 w25 ⟨hx29, hT27⟩
 have hS26 : St _ _ w25 [eW g0 zr zg zl x23, eR zr zs zA zb zc, eS zs b24] := hP12.lendN _ hT27
 refine gx_thenP ?_
 obtain rfl := sj hF
 exact gx_finP (by kernel_rfl) (.inr ⟨_, rfl, _, rfl, hx29, hS26⟩)
 obtain ⟨x31, b32⟩ := q0
 try dsimp only at hF
 refine gx_callX _ (by kernel_rfl) (by kernel_rfl) (pan_gone (gWord_ok N zg zl zn zb zq (iw (p1 + 2)) g0 zr zA zc zs _ hc6 w0 (hP5.vwA hv0_0) hP5.part) :) ?_
 rintro c36 w33 ⟨hx37, hT35⟩
 have hS34 : St _ _ w33 [eW g0 zr zg zl zn, eR zr zs zA zb zc, eS zs b32] := hP5.lendN _ hT35
 refine gx_thenP ?_
 obtain rfl := sj hF
 exact gx_finP (by kernel_rfl) (.inr ⟨_, rfl, _, rfl, hx37, hS34⟩)
def gEach (N : Nat) (zg : Int) (zl : Int) (zn : Int) (zb : List Int) (zq : Bool) (p1 : Int) : Option (Pan (List Int × List Int × Int × Bool) (Int × Int × Bool)) :=
 ((gCovered N zg zl zn zb zq p1).bind fun | Pan.ok (l9, x7, b8) => ((gList N zg zl x7 zb b8 (IntKind.i64.wrap (p1 + 4))).bind fun | Pan.ok (l18, b17) => ((gRequire N (decide (((l9.length : Nat) : Int) = ((l18.length : Nat) : Int)))).bind fun | Pan.ok _ => some (Pan.ok (l9, l18, x7, b17)) | Pan.gone x33 => some (Pan.gone (x33, x7, b17))) | Pan.gone (x40, b41) => some (Pan.gone (x40, x7, b41))) | Pan.gone (x48, x49, b50) => some (Pan.gone (x48, x49, b50)))
def gEach_R (zg : Int) (zl : Int) (zn : Int) (zb : List Int) (zq : Bool) (p1 : Int) (g0 : Nat) (zr : Nat) (zA : Option Addr) (zc : Nat) (zs : Nat) (r : List Int × List Int × Int × Bool) (w0 : World) (v : Value) (w : World) : Prop := ∃ (A0' : Option Addr) (c0' : Nat) (A1' : Option Addr) (c1' : Nat), v = .tuple #[.slice A0' r.1.length c0', .slice A1' r.2.1.length c1'] ∧ St (foots [eW g0 zr zg zl zn, eR zr zs zA zb zc, eS zs zq]) w0 w [eW g0 zr zg zl r.2.2.1, eR zr zs zA zb zc, eS zs r.2.2.2, rowE .u16 31 A0' c0' r.1, rowE .u16 31 A1' c1' r.2.1]
def gEach_X (zg : Int) (zl : Int) (zn : Int) (zb : List Int) (zq : Bool) (p1 : Int) (g0 : Nat) (zr : Nat) (zA : Option Addr) (zc : Nat) (zs : Nat) (g : Int × Int × Bool) (w0 : World) (c : List PanicEntry) (w : World) : Prop := c = goneB 113 g.1 ∧ St (foots [eW g0 zr zg zl zn, eR zr zs zA zb zc, eS zs zq]) w0 w [eW g0 zr zg zl g.2.1, eR zr zs zA zb zc, eS zs g.2.2]
theorem gEach_ok (N : Nat) (zg : Int) (zl : Int) (zn : Int) (zb : List Int) (zq : Bool) (p1 : Int) (g0 : Nat) (zr : Nat) (zA : Option Addr) (zc : Nat) (zs : Nat) (r : Pan (List Int × List Int × Int × Bool) (Int × Int × Bool)) (hF : gEach N zg zl zn zb zq p1 = some r) (w0 : World) (hv0_0 : Vw (foots [eW g0 zr zg zl zn, eR zr zs zA zb zc, eS zs zq]) .u8 w0 zA zc zb) (hl : St (foots [eW g0 zr zg zl zn, eR zr zs zA zb zc, eS zs zq]) w0 w0 [eW g0 zr zg zl zn, eR zr zs zA zb zc, eS zs zq]) :
  Calls Try.prog 104 #[.pointer (some ⟨g0, 0, none⟩), .int .i64 p1] w0 fun e w => (∃ r', r = .ok r' ∧ ∃ v, e = .returned v ∧ gEach_R zg zl zn zb zq p1 g0 zr zA zc zs r' w0 v w) ∨ (∃ g, r = .gone g ∧ ∃ c, e = .panicked c ∧ gEach_X zg zl zn zb zq p1 g0 zr zA zc zs g w0 c w) := by
 have hS0 := hl
 unfold gEach at hF
 refine calls_of Try.func104 rfl ⟨((vP g0) :: (i6 p1) :: un 19 ([])).toArray, []⟩ (by kernel_rfl) (gx_seq (fun K1 hK2 => gx_region (gx_k (nS) w0 (gx_k (nS) w0 (gx_nil (gx_thenN (hK2 _ _ (gx_seq (fun K3 hK4 => ?_)))))))))
 refine gx_region (gx_k (vP g0) w0 (gx_k (i6 p1) w0 ?_))
 have hP5 : St _ _ w0 ([eW g0 zr zg zl zn, eR zr zs zA zb zc, eS zs zq] ++ []) := hS0
 obtain ⟨rq56, hc6, hF⟩ := bind_in hF
 rcases rq56 with q0 | q0
 obtain ⟨l9, x7, b8⟩ := q0
 try dsimp only at hF
 refine gx_c _ (pan_ok (gCovered_ok N zg zl zn zb zq p1 g0 zr zA zc zs _ hc6 w0 (hP5.vwA hv0_0) hP5.part) :) ?_
 rintro _ w12 ⟨A10, c11, rfl, hT14⟩
 have hS13 : St _ _ w12 [eW g0 zr zg zl x7, eR zr zs zA zb zc, eS zs b8, rowE .u16 31 A10 c11 l9] := hP5.lendN _ hT14
 refine gx_k (vP g0) w12 (gx_k (i6 p1) w12 (gx_k (i6 (iw (p1 + 4))) w12 ?_))
 have hP15 : St _ _ w12 ([eW g0 zr zg zl x7, eR zr zs zA zb zc, eS zs b8] ++ [rowE .u16 31 A10 c11 l9]) := hS13
 obtain ⟨rq47, hc16, hF⟩ := bind_in hF
 rcases rq47 with q0 | q0
 obtain ⟨l18, b17⟩ := q0
 try dsimp only at hF
 refine gx_c _ (pan_ok (gList_ok N zg zl x7 zb b8 (iw (p1 + 4)) g0 zr zA zc zs _ hc16 w12 (hP15.vwA hv0_0) hP15.part) :) ?_
 rintro _ w21 ⟨A19, c20, rfl, hT23⟩
 have hS22 : St _ _ w21 [rowE .u16 31 A10 c11 l9, eW g0 zr zg zl x7, eR zr zs zA zb zc, eS zs b17, rowE .u16 31 A19 c20 l18] := hP15.lendN _ hT23
 refine gx_k (.slice A10 l9.length c11) w21 (gx_k (.slice A19 l18.length c20) w21 (gx_nil (gx_thenN (hK4 _ _ (gx_seq (fun K24 hK25 => gx_region (gx_k (.slice A10 l9.length c11) w21 (gx_k (i6 ((l9.length : Nat) : Int)) w21 (gx_k (.slice A19 l18.length c20) w21 (gx_k (i6 ((l18.length : Nat) : Int)) w21 (gx_k (.bool (decide (((l9.length : Nat) : Int) = ((l18.length : Nat) : Int)))) w21 ?_)))))))))))
 have hP26 : St _ _ w21 ([] ++ [rowE .u16 31 A10 c11 l9, eW g0 zr zg zl x7, eR zr zs zA zb zc, eS zs b17, rowE .u16 31 A19 c20 l18]) := hS22
 obtain ⟨rq39, hc27, hF⟩ := bind_in hF
 rcases rq39 with q0 | x33
 try dsimp only at hF
 refine gx_c _ (pan_ok (gRequire_ok N (decide (((l9.length : Nat) : Int) = ((l18.length : Nat) : Int))) _ hc27 w21 ) :) ?_
 rintro _ w28 ⟨rfl, hT30⟩
 have hS29 : St _ _ w28 [rowE .u16 31 A10 c11 l9, eW g0 zr zg zl x7, eR zr zs zA zb zc, eS zs b17, rowE .u16 31 A19 c20 l18] := hS22.take _ hT30
 refine gx_nil (gx_thenN (hK25 _ _ (gx_seq (fun K31 hK32 => gx_region (gx_k (.slice A10 l9.length c11) w28 (gx_k (.slice A19 l18.length c20) w28 (gx_k (.slice A10 l9.length c11) w28 (gx_k (.slice A19 l18.length c20) w28 (gx_nil (gx_thenN ?_))))))))))
 refine hK32 _ _ (gx_ret ?_)
 obtain rfl := sj hF
 exact gxF (.tuple #[.slice A10 l9.length c11, .slice A19 l18.length c20]) (.inl ⟨_, rfl, _, rfl, A10, c11, A19, c20, rfl, (hS29.pick [1, 2, 3, 0, 4] rfl rfl)⟩)
 try dsimp only at hF
 refine gx_callX _ (by kernel_rfl) (by kernel_rfl) (pan_gone (gRequire_ok N (decide (((l9.length : Nat) : Int) = ((l18.length : Nat) : Int))) _ hc27 w21 ) :) ?_
 rintro c37 w34 ⟨hx38, hT36⟩
 have hS35 : St _ _ w34 [rowE .u16 31 A10 c11 l9, eW g0 zr zg zl x7, eR zr zs zA zb zc, eS zs b17, rowE .u16 31 A19 c20 l18] := hS22.take _ hT36
 refine gx_thenP ?_
 obtain rfl := sj hF
 exact gx_finP (by kernel_rfl) (.inr ⟨_, rfl, _, rfl, hx38, (hS35.pick [1, 2, 3] rfl rfl)⟩)
 obtain ⟨x40, b41⟩ := q0
 try dsimp only at hF
 refine gx_callX _ (by kernel_rfl) (by kernel_rfl) (pan_gone (gList_ok N zg zl x7 zb b8 (iw (p1 + 4)) g0 zr zA zc zs _ hc16 w12 (hP15.vwA hv0_0) hP15.part) :) ?_
 rintro c45 w42 ⟨hx46, hT44⟩
 have hS43 : St _ _ w42 [rowE .u16 31 A10 c11 l9, eW g0 zr zg zl x7, eR zr zs zA zb zc, eS zs b41] := hP15.lendN _ hT44
 refine gx_thenP ?_
 obtain rfl := sj hF
 exact gx_finP (by kernel_rfl) (.inr ⟨_, rfl, _, rfl, hx46, (hS43.pick [1, 2, 3] rfl rfl)⟩)
 obtain ⟨x48, x49, b50⟩ := q0
 try dsimp only at hF
 refine gx_callX _ (by kernel_rfl) (by kernel_rfl) (pan_gone (gCovered_ok N zg zl zn zb zq p1 g0 zr zA zc zs _ hc6 w0 (hP5.vwA hv0_0) hP5.part) :) ?_
 rintro c54 w51 ⟨hx55, hT53⟩
 have hS52 : St _ _ w51 [eW g0 zr zg zl x49, eR zr zs zA zb zc, eS zs b50] := hP5.lendN _ hT53
 refine gx_thenP ?_
 obtain rfl := sj hF
 exact gx_finP (by kernel_rfl) (.inr ⟨_, rfl, _, rfl, hx55, hS52⟩)
end Go.Proofs.Ytgjlpiljacecpaa
