/-
  Features, walked.
-/
import Derived.Test.YtgjlpiljacecpaaZR
namespace Go.Proofs.Ytgjlpiljacecpaa
open Go Go.RowKit
set_option linter.unusedVariables false
set_option maxRecDepth 100000
set_option maxHeartbeats 4000000
def encapiTag : Enc (Int × Int × Int × Int) := (pairE (intE .u8) (pairE (intE .u8) (pairE (intE .u8) (intE .u8))))
def qTag (N : Nat) (p0 : List Int) (p0s_0 : Bool) (p1 : Int) : Option (Int × Int × Int × Int × Bool) :=
 ((qByte N p0 p0s_0 p1).bind fun (x10, b9) => ((qByte N p0 b9 (IntKind.i64.wrap (p1 + 1))).bind fun (x17, b16) => ((qByte N p0 b16 (IntKind.i64.wrap (p1 + 2))).bind fun (x24, b23) => ((qByte N p0 b23 (IntKind.i64.wrap (p1 + 3))).bind fun (x31, b30) => some (x10, x17, x24, x31, b30)))))
def qTag_R (p0 : List Int) (p0s_0 : Bool) (p1 : Int) (g0 : Nat) (A0 : Option Addr) (c0 : Nat) (g0s : Nat) (r : Int × Int × Int × Int × Bool) (w0 : World) (v : Value) (w : World) : Prop := v = .agg #[.int .u8 r.1, .int .u8 r.2.1, .int .u8 r.2.2.1, .int .u8 r.2.2.2.1] ∧ St (foots [boxE g0 [.pointer (some ⟨g0s, 0, none⟩), .slice A0 p0.length c0] 72, boxE g0s [.bool p0s_0] 69]) w0 w [boxE g0 [.pointer (some ⟨g0s, 0, none⟩), .slice A0 p0.length c0] 72, boxE g0s [.bool r.2.2.2.2] 69]
theorem qTag_ok (N : Nat) (p0 : List Int) (p0s_0 : Bool) (p1 : Int) (g0 : Nat) (A0 : Option Addr) (c0 : Nat) (g0s : Nat) (r : Int × Int × Int × Int × Bool) (hF : qTag N p0 p0s_0 p1 = some r) (w0 : World) (hv0 : Vw (foots [boxE g0 [.pointer (some ⟨g0s, 0, none⟩), .slice A0 p0.length c0] 72, boxE g0s [.bool p0s_0] 69]) .u8 w0 A0 c0 p0) (hl : St (foots [boxE g0 [.pointer (some ⟨g0s, 0, none⟩), .slice A0 p0.length c0] 72, boxE g0s [.bool p0s_0] 69]) w0 w0 [boxE g0 [.pointer (some ⟨g0s, 0, none⟩), .slice A0 p0.length c0] 72, boxE g0s [.bool p0s_0] 69]) :
  Calls Try.prog 71 #[.pointer (some ⟨g0, 0, none⟩), .int .i64 p1] w0 fun e w => ∃ v, e = .returned v ∧ qTag_R p0 p0s_0 p1 g0 A0 c0 g0s r w0 v w := by
 have hS0 := hl
 unfold qTag at hF
 refine calls_of Try.func71 rfl ⟨((vP g0) :: (i6 p1) :: un 19 ([])).toArray, []⟩ (by kernel_rfl) (gx_seq (fun K1 hK2 => gx_region (gx_r (st_boxed [.int .u8 0, .int .u8 0, .int .u8 0, .int .u8 0] 49 hS0 (by kernel_rfl)) ?_)))
 rintro _ w3 ⟨rfl, hS4⟩
 have hS4 : St _ _ w3 [boxE g0 [vP g0s, .slice A0 p0.length c0] 72, boxE g0s [.bool p0s_0] 69, boxE w0.heap.size [.int .u8 0, .int .u8 0, .int .u8 0, .int .u8 0] 49] := hS4
 refine gx_nil (gx_thenN (hK2 _ _ (gx_seq (fun K5 hK6 => gx_region (gx_k (vP g0) w3 (gx_k (i6 p1) w3 ?_))))))
 have hP7 : St _ _ w3 ([boxE g0 [vP g0s, .slice A0 p0.length c0] 72, boxE g0s [.bool p0s_0] 69] ++ [boxE w0.heap.size [.int .u8 0, .int .u8 0, .int .u8 0, .int .u8 0] 49]) := hS4
 obtain ⟨⟨x10, b9⟩, hc8, hF⟩ := bind_in hF
 try dsimp only at hF
 refine gx_c _ (qByte_ok N p0 p0s_0 p1 g0 A0 c0 g0s _ hc8 w3 (hP7.vwA hv0) hP7.part) ?_
 rintro _ w11 ⟨rfl, hT13⟩
 have hS12 : St _ _ w11 [boxE w0.heap.size [.int .u8 0, .int .u8 0, .int .u8 0, .int .u8 0] 49, boxE g0 [vP g0s, .slice A0 p0.length c0] 72, boxE g0s [.bool b9] 69] := hP7.lendN _ hT13
 refine gx_k (vP g0) w11 (gx_k (i6 p1) w11 (gx_k (i6 (iw (p1 + 1))) w11 ?_))
 have hP14 : St _ _ w11 ([boxE g0 [vP g0s, .slice A0 p0.length c0] 72, boxE g0s [.bool b9] 69] ++ [boxE w0.heap.size [.int .u8 0, .int .u8 0, .int .u8 0, .int .u8 0] 49]) := hS12.pick [1, 2, 0] rfl rfl
 obtain ⟨⟨x17, b16⟩, hc15, hF⟩ := bind_in hF
 try dsimp only at hF
 refine gx_c _ (qByte_ok N p0 b9 (iw (p1 + 1)) g0 A0 c0 g0s _ hc15 w11 (hP14.vwA hv0) hP14.part) ?_
 rintro _ w18 ⟨rfl, hT20⟩
 have hS19 : St _ _ w18 [boxE w0.heap.size [.int .u8 0, .int .u8 0, .int .u8 0, .int .u8 0] 49, boxE g0 [vP g0s, .slice A0 p0.length c0] 72, boxE g0s [.bool b16] 69] := hP14.lendN _ hT20
 refine gx_k (vP g0) w18 (gx_k (i6 p1) w18 (gx_k (i6 (iw (p1 + 2))) w18 ?_))
 have hP21 : St _ _ w18 ([boxE g0 [vP g0s, .slice A0 p0.length c0] 72, boxE g0s [.bool b16] 69] ++ [boxE w0.heap.size [.int .u8 0, .int .u8 0, .int .u8 0, .int .u8 0] 49]) := hS19.pick [1, 2, 0] rfl rfl
 obtain ⟨⟨x24, b23⟩, hc22, hF⟩ := bind_in hF
 try dsimp only at hF
 refine gx_c _ (qByte_ok N p0 b16 (iw (p1 + 2)) g0 A0 c0 g0s _ hc22 w18 (hP21.vwA hv0) hP21.part) ?_
 rintro _ w25 ⟨rfl, hT27⟩
 have hS26 : St _ _ w25 [boxE w0.heap.size [.int .u8 0, .int .u8 0, .int .u8 0, .int .u8 0] 49, boxE g0 [vP g0s, .slice A0 p0.length c0] 72, boxE g0s [.bool b23] 69] := hP21.lendN _ hT27
 refine gx_k (vP g0) w25 (gx_k (i6 p1) w25 (gx_k (i6 (iw (p1 + 3))) w25 ?_))
 have hP28 : St _ _ w25 ([boxE g0 [vP g0s, .slice A0 p0.length c0] 72, boxE g0s [.bool b23] 69] ++ [boxE w0.heap.size [.int .u8 0, .int .u8 0, .int .u8 0, .int .u8 0] 49]) := hS26.pick [1, 2, 0] rfl rfl
 obtain ⟨⟨x31, b30⟩, hc29, hF⟩ := bind_in hF
 try dsimp only at hF
 refine gx_c _ (qByte_ok N p0 b23 (iw (p1 + 3)) g0 A0 c0 g0s _ hc29 w25 (hP28.vwA hv0) hP28.part) ?_
 rintro _ w32 ⟨rfl, hT34⟩
 have hS33 : St _ _ w32 [boxE w0.heap.size [.int .u8 0, .int .u8 0, .int .u8 0, .int .u8 0] 49, boxE g0 [vP g0s, .slice A0 p0.length c0] 72, boxE g0s [.bool b30] 69] := hP28.lendN _ hT34
 refine gx_k (.agg #[.int .u8 x10, .int .u8 x17, .int .u8 x24, .int .u8 x31]) w32 (gx_s (st_storeG (cs := [.int .u8 0, .int .u8 0, .int .u8 0, .int .u8 0]) (ds := [.int .u8 x10, .int .u8 x17, .int .u8 x24, .int .u8 x31]) rfl (by kernel_rfl) (by kernel_rfl) (by kernel_rfl) rfl rfl hS33 0 rfl) ?_)
 rintro w35 hS36
 have hS36 : St _ _ w35 [boxE w0.heap.size [.int .u8 x10, .int .u8 x17, .int .u8 x24, .int .u8 x31] 49, boxE g0 [vP g0s, .slice A0 p0.length c0] 72, boxE g0s [.bool b30] 69] := hS36
 refine gx_nil (gx_thenN (hK6 _ _ (gx_ret ?_)))
 obtain rfl := sj hF
 exact gx_fin (.agg #[.int .u8 x10, .int .u8 x17, .int .u8 x24, .int .u8 x31]) (by kernel_rfl) (res_cell rfl _ _ w0.heap.size _ _ _ (by kernel_rfl) (hS36.get 0 rfl) (by kernel_rfl) (by kernel_rfl)) ⟨_, rfl, rfl, (hS36.pick [1, 2] rfl rfl)⟩
def qFeat_L1 (N : Nat) (p2 : Int) (b33 : Bool) (l97 : List Int) : Nat → Int → Int → Int → Int → (List Int) → (List Int) → Int → Option (Ctl (Int × Int × Int × Int × List Int × List Int) (Int × Int × Int × Int × List Int × Bool × Bool))
 | 0, _, _, _, _, _, _, _ => none
 | k118+1, x106, x107, x108, x109, l112, l115, x116 => (if x116 < ((l97.length : Nat) : Int) then ((ix l97 x116).bind fun x129 => (if (IntKind.i64.wrap x129) ≥ p2 then some (Ctl.ret (0, 0, 0, 0, [], false, b33)) else ((apx l115 ([(IntKind.i64.wrap x129)])).bind fun l143 => qFeat_L1 N p2 b33 l97 k118 x106 x107 x108 x109 l112 l143 (IntKind.i64.wrap (x116 + 1))))) else some (Ctl.go (x106, x107, x108, x109, l112, l115)))
def qFeat (N : Nat) (p0 : List Int) (p0s_0 : Bool) (p1 : Int) (p2 : Int) : Option (Int × Int × Int × Int × List Int × Bool × Bool) :=
 ((qWord N p0 p0s_0 (IntKind.i64.wrap (p1 + 2))).bind fun (x10, b9) => ((qWords N p0 b9 (IntKind.i64.wrap (p1 + 4)) (IntKind.i64.wrap x10)).bind fun (l17, b16) => ((((qWord N p0 b16 p1).bind fun (x42, b41) => (if x42 ≠ 0 then some (Ctl.ret (0, 0, 0, 0, [], false, b41)) else ((qBad N p0 b41).bind fun b54 => (match b54 with | true => some (Ctl.ret (0, 0, 0, 0, [], false, b41)) | false => some (Ctl.go (0, 0, 0, 0, [], b41)))))) : Option (Ctl (Int × Int × Int × Int × List Int × Bool) (Int × Int × Int × Int × List Int × Bool × Bool))).bind fun | Ctl.go (x26, x27, x28, x29, l32, b33) => ((zSort N l17).bind fun l68 => ((((zCompact N l68).bind fun l97 => qFeat_L1 N p2 b33 l97 N x26 x27 x28 x29 l32 ([]) 0) : Option (Ctl (Int × Int × Int × Int × List Int × List Int) (Int × Int × Int × Int × List Int × Bool × Bool))).bind fun | Ctl.go (_x80, _x81, _x82, _x83, _l86, l89) => some (0, 0, 0, 0, l89, true, b33) | Ctl.ret r => some r)) | Ctl.ret r => some r)))
def qFeat_R (p0 : List Int) (p0s_0 : Bool) (p1 : Int) (p2 : Int) (g0 : Nat) (A0 : Option Addr) (c0 : Nat) (g0s : Nat) (r : Int × Int × Int × Int × List Int × Bool × Bool) (w0 : World) (v : Value) (w : World) : Prop := ∃ (A0_4' : Option Addr) (c0_4' : Nat), v = .tuple #[.agg #[.int .u8 r.1, .int .u8 r.2.1, .int .u8 r.2.2.1, .int .u8 r.2.2.2.1, .slice A0_4' r.2.2.2.2.1.length c0_4'], .bool r.2.2.2.2.2.1] ∧ St (foots [boxE g0 [.pointer (some ⟨g0s, 0, none⟩), .slice A0 p0.length c0] 72, boxE g0s [.bool p0s_0] 69]) w0 w [boxE g0 [.pointer (some ⟨g0s, 0, none⟩), .slice A0 p0.length c0] 72, boxE g0s [.bool r.2.2.2.2.2.2] 69, rowE .i64 3 A0_4' c0_4' r.2.2.2.2.1]
theorem qFeat_ok (N : Nat) (p0 : List Int) (p0s_0 : Bool) (p1 : Int) (p2 : Int) (g0 : Nat) (A0 : Option Addr) (c0 : Nat) (g0s : Nat) (r : Int × Int × Int × Int × List Int × Bool × Bool) (hF : qFeat N p0 p0s_0 p1 p2 = some r) (w0 : World) (hv0 : Vw (foots [boxE g0 [.pointer (some ⟨g0s, 0, none⟩), .slice A0 p0.length c0] 72, boxE g0s [.bool p0s_0] 69]) .u8 w0 A0 c0 p0) (hl : St (foots [boxE g0 [.pointer (some ⟨g0s, 0, none⟩), .slice A0 p0.length c0] 72, boxE g0s [.bool p0s_0] 69]) w0 w0 [boxE g0 [.pointer (some ⟨g0s, 0, none⟩), .slice A0 p0.length c0] 72, boxE g0s [.bool p0s_0] 69]) :
  Calls Try.prog 70 #[.pointer (some ⟨g0, 0, none⟩), .int .i64 p1, .int .i64 p2] w0 fun e w => ∃ v, e = .returned v ∧ qFeat_R p0 p0s_0 p1 p2 g0 A0 c0 g0s r w0 v w := by
 have hS0 := hl
 unfold qFeat at hF
 refine calls_of Try.func70 rfl ⟨((vP g0) :: (i6 p1) :: (i6 p2) :: un 50 ([])).toArray, []⟩ (by kernel_rfl) (gx_seq (fun K1 hK2 => gx_region (gx_r (st_boxed [.int .u8 0, .int .u8 0, .int .u8 0, .int .u8 0, nS] 52 hS0 (by kernel_rfl)) ?_)))
 rintro _ w3 ⟨rfl, hS4⟩
 have hS4 : St _ _ w3 [boxE g0 [vP g0s, .slice A0 p0.length c0] 72, boxE g0s [.bool p0s_0] 69, boxE w0.heap.size [.int .u8 0, .int .u8 0, .int .u8 0, .int .u8 0, nS] 52] := hS4
 refine gx_k (.bool false) w3 (gx_nil (gx_thenN (hK2 _ _ (gx_seq (fun K5 hK6 => gx_region (gx_k (vP g0) w3 (gx_k (i6 p1) w3 (gx_k (i6 (iw (p1 + 4))) w3 (gx_k (vP g0) w3 (gx_k (i6 p1) w3 (gx_k (i6 (iw (p1 + 2))) w3 ?_)))))))))))
 have hP7 : St _ _ w3 ([boxE g0 [vP g0s, .slice A0 p0.length c0] 72, boxE g0s [.bool p0s_0] 69] ++ [boxE w0.heap.size [.int .u8 0, .int .u8 0, .int .u8 0, .int .u8 0, nS] 52]) := hS4
 obtain ⟨⟨x10, b9⟩, hc8, hF⟩ := bind_in hF
 try dsimp only at hF
 refine gx_c _ (qWord_ok N p0 p0s_0 (iw (p1 + 2)) g0 A0 c0 g0s _ hc8 w3 (hP7.vwA hv0) hP7.part) ?_
 rintro _ w11 ⟨rfl, hT13⟩
 have hS12 : St _ _ w11 [boxE w0.heap.size [.int .u8 0, .int .u8 0, .int .u8 0, .int .u8 0, nS] 52, boxE g0 [vP g0s, .slice A0 p0.length c0] 72, boxE g0s [.bool b9] 69] := hP7.lendN _ hT13
 refine gx_k (i6 (iw x10)) w11 ?_
 have hP14 : St _ _ w11 ([boxE g0 [vP g0s, .slice A0 p0.length c0] 72, boxE g0s [.bool b9] 69] ++ [boxE w0.heap.size [.int .u8 0, .int .u8 0, .int .u8 0, .int .u8 0, nS] 52]) := hS12.pick [1, 2, 0] rfl rfl
 obtain ⟨⟨l17, b16⟩, hc15, hF⟩ := bind_in hF
 try dsimp only at hF
 refine gx_c _ (qWords_ok N p0 b9 (iw (p1 + 4)) (iw x10) g0 A0 c0 g0s _ hc15 w11 (hP14.vwA hv0) hP14.part) ?_
 rintro _ w20 ⟨A18, c19, rfl, hT22⟩
 have hS21 : St _ _ w20 [boxE w0.heap.size [.int .u8 0, .int .u8 0, .int .u8 0, .int .u8 0, nS] 52, boxE g0 [vP g0s, .slice A0 p0.length c0] 72, boxE g0s [.bool b16] 69, rowE .u16 31 A18 c19 l17] := hP14.lendN _ hT22
 refine gx_k (.slice A18 l17.length c19) w20 (gx_nil (gx_thenN (hK6 _ _ ?_)))
 obtain ⟨c34, hE35, hO36⟩ := bind_in hF
 refine gx_cut (fun a w => ∃ (x26 : Int) (x27 : Int) (x28 : Int) (x29 : Int) (l32 : List Int) (b33 : Bool) (A30 : Option Addr) (c31 : Nat), selfA (fun u25 => ⟨((vP g0) :: (i6 p1) :: (i6 p2) :: un 3 ((vP w0.heap.size) :: (u25 7) :: (.slice A18 l17.length c19) :: un 3 ((vP g0) :: (i6 p1) :: (i6 (iw (p1 + 4))) :: (vP g0) :: (i6 p1) :: (i6 (iw (p1 + 2))) :: (u6 x10) :: (i6 (iw x10)) :: dd u25 20 10 (un 23 ([]))))).toArray, []⟩) a ∧ Ctl.go (x26, x27, x28, x29, l32, b33) = c34 ∧ St (foots [boxE g0 [vP g0s, .slice A0 p0.length c0] 72, boxE g0s [.bool p0s_0] 69]) w0 w [rowE .i64 3 A30 c31 l32, boxE w0.heap.size [.int .u8 x26, .int .u8 x27, .int .u8 x28, .int .u8 x29, .slice A30 l32.length c31] 52, boxE g0 [vP g0s, .slice A0 p0.length c0] 72, boxE g0s [.bool b33] 69, rowE .u16 31 A18 c19 l17]) ?_ ?_
 refine gx_seq (fun K37 hK38 => gx_region (gx_k (vP g0) w20 (gx_k (i6 p1) w20 ?_)))
 have hP39 : St _ _ w20 ([boxE g0 [vP g0s, .slice A0 p0.length c0] 72, boxE g0s [.bool b16] 69] ++ [boxE w0.heap.size [.int .u8 0, .int .u8 0, .int .u8 0, .int .u8 0, nS] 52, rowE .u16 31 A18 c19 l17]) := hS21.pick [1, 2, 0, 3] rfl rfl
 obtain ⟨⟨x42, b41⟩, hc40, hE35⟩ := bind_in hE35
 try dsimp only at hE35
 refine gx_c _ (qWord_ok N p0 b16 p1 g0 A0 c0 g0s _ hc40 w20 (hP39.vwA hv0) hP39.part) ?_
 rintro _ w43 ⟨rfl, hT45⟩
 have hS44 : St _ _ w43 [boxE w0.heap.size [.int .u8 0, .int .u8 0, .int .u8 0, .int .u8 0, nS] 52, rowE .u16 31 A18 c19 l17, boxE g0 [vP g0s, .slice A0 p0.length c0] 72, boxE g0s [.bool b41] 69] := hP39.lendN _ hT45
 rcases if_in hE35 with ⟨h46, hE35⟩ | ⟨h46, hE35⟩
 refine gx_v (.bool true) w43 (rbE (ne_yes h46)) (gx_k (.bool true) w43 (gx_o (gx_o (gx_k (.bool true) w43 (gx_nil (gx_thenN (hK38 _ _ (gx_yes (by kernel_rfl) (gx_seq (fun K47 hK48 => gx_region ?_))))))))))
 refine gx_k (.agg #[.int .u8 0, .int .u8 0, .int .u8 0, .int .u8 0, nS]) w43 (gx_s (st_storeG (cs := [.int .u8 0, .int .u8 0, .int .u8 0, .int .u8 0, nS]) (ds := [.int .u8 0, .int .u8 0, .int .u8 0, .int .u8 0, nS]) rfl (by kernel_rfl) (by kernel_rfl) (by kernel_rfl) rfl rfl hS44 0 rfl) ?_)
 rintro w49 hS50
 have hS50 : St _ _ w49 [boxE w0.heap.size [.int .u8 0, .int .u8 0, .int .u8 0, .int .u8 0, nS] 52, rowE .u16 31 A18 c19 l17, boxE g0 [vP g0s, .slice A0 p0.length c0] 72, boxE g0s [.bool b41] 69] := hS50
 refine gx_k (.bool false) w49 (gx_nil (gx_thenN (hK48 _ _ (gx_ret (gx_thenR ?_)))))
 obtain rfl := sj hE35
 try dsimp only at hO36
 have hS51 : St _ _ w49 [boxE w0.heap.size [.int .u8 0, .int .u8 0, .int .u8 0, .int .u8 0, nS] 52, rowE .u16 31 A18 c19 l17, boxE g0 [vP g0s, .slice A0 p0.length c0] 72, boxE g0s [.bool b41] 69, rowE .i64 3 none 0 ([])] := hS50.nilrow .i64 3
 obtain rfl := sj hO36
 exact gx_fin (.tuple #[.agg #[.int .u8 0, .int .u8 0, .int .u8 0, .int .u8 0, .slice none (([] : List Int).length) 0], .bool false]) (by kernel_rfl) (res_ct rfl _ _ w0.heap.size _ _ _ (by kernel_rfl) (hS51.get 0 rfl) (by kernel_rfl) (by kernel_rfl) _ (by kernel_rfl)) ⟨_, rfl, none, 0, rfl, (hS51.pick [2, 3, 4] rfl rfl)⟩
 refine gx_v (.bool false) w43 (rbE (ne_no h46)) (gx_k (.bool false) w43 (gx_k (vP g0) w43 ?_))
 have hP52 : St _ _ w43 ([boxE g0 [vP g0s, .slice A0 p0.length c0] 72, boxE g0s [.bool b41] 69] ++ [boxE w0.heap.size [.int .u8 0, .int .u8 0, .int .u8 0, .int .u8 0, nS] 52, rowE .u16 31 A18 c19 l17]) := hS44.pick [2, 3, 0, 1] rfl rfl
 obtain ⟨b54, hc53, hE35⟩ := bind_in hE35
 try dsimp only at hE35
 refine gx_c _ (qBad_ok N p0 b41 g0 A0 c0 g0s _ hc53 w43 (hP52.vwA hv0) hP52.part) ?_
 rintro _ w55 ⟨rfl, hT57⟩
 have hS56 : St _ _ w55 [boxE w0.heap.size [.int .u8 0, .int .u8 0, .int .u8 0, .int .u8 0, nS] 52, rowE .u16 31 A18 c19 l17, boxE g0 [vP g0s, .slice A0 p0.length c0] 72, boxE g0s [.bool b41] 69] := hP52.lendN _ hT57
 refine gx_k (.bool b54) w55 (gx_nil (gx_thenN (hK38 _ _ ?_)))
 rcases b54 with _ | _
 try dsimp only at hE35
 refine gx_no (by kernel_rfl) (gx_pass (gx_thenN ?_))
 have hS63 : St _ _ w55 [boxE w0.heap.size [.int .u8 0, .int .u8 0, .int .u8 0, .int .u8 0, nS] 52, rowE .u16 31 A18 c19 l17, boxE g0 [vP g0s, .slice A0 p0.length c0] 72, boxE g0s [.bool b41] 69, rowE .i64 3 none 0 ([])] := hS56.nilrow .i64 3
 exact ⟨0, 0, 0, 0, ([]), b41, none, 0, selfA_i (by kernel_rfl), (sj hE35), (hS63.pick [4, 0, 2, 3, 1] rfl rfl)⟩
 try dsimp only at hE35
 refine gx_yes (by kernel_rfl) (gx_seq (fun K58 hK59 => gx_region (gx_k (.agg #[.int .u8 0, .int .u8 0, .int .u8 0, .int .u8 0, nS]) w55 (gx_s (st_storeG (cs := [.int .u8 0, .int .u8 0, .int .u8 0, .int .u8 0, nS]) (ds := [.int .u8 0, .int .u8 0, .int .u8 0, .int .u8 0, nS]) rfl (by kernel_rfl) (by kernel_rfl) (by kernel_rfl) rfl rfl hS56 0 rfl) ?_))))
 rintro w60 hS61
 have hS61 : St _ _ w60 [boxE w0.heap.size [.int .u8 0, .int .u8 0, .int .u8 0, .int .u8 0, nS] 52, rowE .u16 31 A18 c19 l17, boxE g0 [vP g0s, .slice A0 p0.length c0] 72, boxE g0s [.bool b41] 69] := hS61
 refine gx_k (.bool false) w60 (gx_nil (gx_thenN (hK59 _ _ (gx_ret (gx_thenR ?_)))))
 obtain rfl := sj hE35
 try dsimp only at hO36
 have hS62 : St _ _ w60 [boxE w0.heap.size [.int .u8 0, .int .u8 0, .int .u8 0, .int .u8 0, nS] 52, rowE .u16 31 A18 c19 l17, boxE g0 [vP g0s, .slice A0 p0.length c0] 72, boxE g0s [.bool b41] 69, rowE .i64 3 none 0 ([])] := hS61.nilrow .i64 3
 obtain rfl := sj hO36
 exact gx_fin (.tuple #[.agg #[.int .u8 0, .int .u8 0, .int .u8 0, .int .u8 0, .slice none (([] : List Int).length) 0], .bool false]) (by kernel_rfl) (res_ct rfl _ _ w0.heap.size _ _ _ (by kernel_rfl) (hS62.get 0 rfl) (by kernel_rfl) (by kernel_rfl) _ (by kernel_rfl)) ⟨_, rfl, none, 0, rfl, (hS62.pick [2, 3, 4] rfl rfl)⟩
 rintro _ w23 ⟨x26, x27, x28, x29, l32, b33, A30, c31, hq160, rfl, hS24⟩
 obtain ⟨u25, rfl⟩ := selfA_u hq160
 try dsimp only at hO36
 refine gx_seq (fun K64 hK65 => gx_region (gx_k (.slice A18 l17.length c19) w23 ?_))
 have hP66 : St _ _ w23 ([rowE .u16 31 A18 c19 l17] ++ [rowE .i64 3 A30 c31 l32, boxE w0.heap.size [.int .u8 x26, .int .u8 x27, .int .u8 x28, .int .u8 x29, .slice A30 l32.length c31] 52, boxE g0 [vP g0s, .slice A0 p0.length c0] 72, boxE g0s [.bool b33] 69]) := hS24.pick [4, 0, 1, 2, 3] rfl rfl
 obtain ⟨l68, hc67, hO36⟩ := bind_in hO36
 try dsimp only at hO36
 refine gx_c _ (zSort_ok N l17 A18 c19 _ hc67 w23 hP66.part) ?_
 rintro _ w70 ⟨rfl, hT72, hl69⟩
 have hS71 : St _ _ w70 [rowE .i64 3 A30 c31 l32, boxE w0.heap.size [.int .u8 x26, .int .u8 x27, .int .u8 x28, .int .u8 x29, .slice A30 l32.length c31] 52, boxE g0 [vP g0s, .slice A0 p0.length c0] 72, boxE g0s [.bool b33] 69, rowE .u16 31 A18 c19 l68] := hP66.lendN _ hT72
 refine gx_nil (gx_thenN (hK65 _ _ (gx_seq (fun K73 hK74 => gx_region (gx_r (st_boxed [.int .u8 0, .int .u8 0, .int .u8 0, .int .u8 0, nS] 52 hS71 (by kernel_rfl)) ?_)))))
 rintro _ w75 ⟨rfl, hS76⟩
 have hS76 : St _ _ w75 [rowE .i64 3 A30 c31 l32, boxE w0.heap.size [.int .u8 x26, .int .u8 x27, .int .u8 x28, .int .u8 x29, .slice A30 l32.length c31] 52, boxE g0 [vP g0s, .slice A0 p0.length c0] 72, boxE g0s [.bool b33] 69, rowE .u16 31 A18 c19 l68, boxE w70.heap.size [.int .u8 0, .int .u8 0, .int .u8 0, .int .u8 0, nS] 52] := hS76
 refine gx_nil (gx_thenN (hK74 _ _ ?_))
 obtain ⟨c90, hE91, hO92⟩ := bind_in hO36
 refine gx_cut (fun a w => ∃ (x80 : Int) (x81 : Int) (x82 : Int) (x83 : Int) (l86 : List Int) (l89 : List Int) (A84 : Option Addr) (c85 : Nat) (A87 : Option Addr) (c88 : Nat), selfA (fun u79 => ⟨((vP g0) :: (i6 p1) :: (i6 p2) :: un 3 ((vP w0.heap.size) :: dd u79 7 2 ((vP w70.heap.size) :: undef :: (u79 11) :: (vP g0) :: (i6 p1) :: (i6 (iw (p1 + 4))) :: (vP g0) :: (i6 p1) :: (i6 (iw (p1 + 2))) :: (u6 x10) :: (i6 (iw x10)) :: dd u25 20 10 (dd u79 30 22 (undef :: []))))).toArray, []⟩) a ∧ Ctl.go (x80, x81, x82, x83, l86, l89) = c90 ∧ St (foots [boxE g0 [vP g0s, .slice A0 p0.length c0] 72, boxE g0s [.bool p0s_0] 69]) w0 w [rowE .i64 3 A84 c85 l86, boxE w0.heap.size [.int .u8 x80, .int .u8 x81, .int .u8 x82, .int .u8 x83, .slice A84 l86.length c85] 52, boxE g0 [vP g0s, .slice A0 p0.length c0] 72, boxE g0s [.bool b33] 69, rowE .i64 3 A87 c88 l89, boxE w70.heap.size [.int .u8 0, .int .u8 0, .int .u8 0, .int .u8 0, .slice A87 l89.length c88] 52]) ?_ ?_
 refine gx_seq (fun K93 hK94 => gx_region (gx_k (.slice A18 l17.length c19) w75 ?_))
 have hP95 : St _ _ w75 ([rowE .u16 31 A18 c19 l68] ++ [rowE .i64 3 A30 c31 l32, boxE w0.heap.size [.int .u8 x26, .int .u8 x27, .int .u8 x28, .int .u8 x29, .slice A30 l32.length c31] 52, boxE g0 [vP g0s, .slice A0 p0.length c0] 72, boxE g0s [.bool b33] 69, boxE w70.heap.size [.int .u8 0, .int .u8 0, .int .u8 0, .int .u8 0, nS] 52]) := hS76.pick [4, 0, 1, 2, 3, 5] rfl rfl
 obtain ⟨l97, hc96, hE91⟩ := bind_in hE91
 try dsimp only at hE91
 refine gx_call (zCompact_R l68 A18 c19 l97 w75) (by kernel_rfl) (by rw [← hl69.symm] <;> kernel_rfl) (zCompact_ok N l68 A18 c19 _ hc96 w75 hP95.part) ?_
 rintro _ w100 ⟨A98, c99, rfl, hT102⟩
 have hS101 : St _ _ w100 [rowE .i64 3 A30 c31 l32, boxE w0.heap.size [.int .u8 x26, .int .u8 x27, .int .u8 x28, .int .u8 x29, .slice A30 l32.length c31] 52, boxE g0 [vP g0s, .slice A0 p0.length c0] 72, boxE g0s [.bool b33] 69, boxE w70.heap.size [.int .u8 0, .int .u8 0, .int .u8 0, .int .u8 0, nS] 52, rowE .u16 31 A98 c99 l97] := hP95.lendN _ hT102
 refine gx_k (i6 ((l97.length : Nat) : Int)) w100 (gx_k (i6 0) w100 (gx_nil (gx_thenN (hK94 _ _ (gx_block ?_)))))
 have hS117 : St _ _ w100 [rowE .i64 3 A30 c31 l32, boxE w0.heap.size [.int .u8 x26, .int .u8 x27, .int .u8 x28, .int .u8 x29, .slice A30 l32.length c31] 52, boxE g0 [vP g0s, .slice A0 p0.length c0] 72, boxE g0s [.bool b33] 69, boxE w70.heap.size [.int .u8 0, .int .u8 0, .int .u8 0, .int .u8 0, nS] 52, rowE .u16 31 A98 c99 l97, rowE .i64 3 none 0 ([])] := hS101.nilrow .i64 3
 refine gx_loop (fun k a w => ∃ (x106 : Int) (x107 : Int) (x108 : Int) (x109 : Int) (l112 : List Int) (l115 : List Int) (x116 : Int) (A110 : Option Addr) (c111 : Nat) (A113 : Option Addr) (c114 : Nat), selfA (fun u105 => ⟨((vP g0) :: (i6 p1) :: (i6 p2) :: un 3 ((vP w0.heap.size) :: (u105 7) :: (.slice A18 l17.length c19) :: (vP w70.heap.size) :: undef :: (u105 11) :: (vP g0) :: (i6 p1) :: (i6 (iw (p1 + 4))) :: (vP g0) :: (i6 p1) :: (i6 (iw (p1 + 2))) :: (u6 x10) :: (i6 (iw x10)) :: dd u25 20 10 ((.slice A18 l17.length c19) :: (u105 31) :: (.slice A18 l17.length c19) :: (.slice A98 l97.length c99) :: (i6 ((l97.length : Nat) : Int)) :: (i6 x116) :: dd u105 36 16 (undef :: [])))).toArray, []⟩) a ∧ qFeat_L1 N p2 b33 l97 k x106 x107 x108 x109 l112 l115 x116 = some c90 ∧ St (foots [boxE g0 [vP g0s, .slice A0 p0.length c0] 72, boxE g0s [.bool p0s_0] 69]) w0 w [rowE .i64 3 A110 c111 l112, boxE w0.heap.size [.int .u8 x106, .int .u8 x107, .int .u8 x108, .int .u8 x109, .slice A110 l112.length c111] 52, boxE g0 [vP g0s, .slice A0 p0.length c0] 72, boxE g0s [.bool b33] 69, rowE .i64 3 A113 c114 l115, boxE w70.heap.size [.int .u8 0, .int .u8 0, .int .u8 0, .int .u8 0, .slice A113 l115.length c114] 52, rowE .u16 31 A98 c99 l97]) N ?_ ?_
 exact ⟨x26, x27, x28, x29, l32, ([]), 0, A30, c31, none, 0, selfA_i (by kernel_rfl), hE91, (hS117.pick [0, 1, 2, 3, 6, 4, 5] rfl rfl)⟩
 rintro k118 _ w103 ⟨x106, x107, x108, x109, l112, l115, x116, A110, c111, A113, c114, hq154, hL119, hS104⟩
 obtain ⟨u105, rfl⟩ := selfA_u hq154
 rcases k118 with _ | k118
 cases hL119
 first | rw [qFeat_L1] at hL119 | unfold qFeat_L1 at hL119
 refine gx_seq (fun K120 hK121 => gx_region ?_)
 rcases if_in hL119 with ⟨h122, hL119⟩ | ⟨h122, hL119⟩
 refine gx_v (.bool true) w103 (rbE (decide_eq_true h122)) (gx_nil (gx_thenN (hK121 _ _ (gx_seq (fun K123 hK124 => gx_yes (by kernel_rfl) (gx_pass (gx_thenN ?_)))))))
 refine hK124 _ _ (gx_seq (fun K125 hK126 => gx_block (gx_seq (fun K127 hK128 => gx_region ?_))))
 obtain ⟨x129, hx130, hL119⟩ := bind_in hL119
 refine gx_v (pI x116 A98) w103 (rix 31 .i64 hx130 ((hS104.row 6 rfl).1)) (gx_v (u6 x129) w103 (rlx (hS104.row 6 rfl).1 hx130) (gx_k (u6 x129) w103 (gx_nil (gx_thenN (hK128 _ _ (gx_seq (fun K131 hK132 => gx_seq (fun K133 hK134 => ?_))))))))
 refine gx_region (gx_k (u6 x129) w103 (gx_k (i6 (iw x129)) w103 (gx_k (i6 p2) w103 ?_)))
 rcases if_in hL119 with ⟨h135, hL119⟩ | ⟨h135, hL119⟩
 refine gx_v (.bool true) w103 (rbE (decide_eq_true h135)) (gx_nil (gx_thenN (hK134 _ _ (gx_yes (by kernel_rfl) (gx_seq (fun K136 hK137 => gx_region (gx_k (.agg #[.int .u8 0, .int .u8 0, .int .u8 0, .int .u8 0, nS]) w103 ?_)))))))
 refine gx_s (st_storeG (cs := [.int .u8 x106, .int .u8 x107, .int .u8 x108, .int .u8 x109, .slice A110 l112.length c111]) (ds := [.int .u8 0, .int .u8 0, .int .u8 0, .int .u8 0, nS]) rfl (by kernel_rfl) (by kernel_rfl) (by kernel_rfl) rfl rfl hS104 1 rfl) ?_
 rintro w138 hS139
 have hS139 : St _ _ w138 [rowE .i64 3 A110 c111 l112, boxE w0.heap.size [.int .u8 0, .int .u8 0, .int .u8 0, .int .u8 0, nS] 52, boxE g0 [vP g0s, .slice A0 p0.length c0] 72, boxE g0s [.bool b33] 69, rowE .i64 3 A113 c114 l115, boxE w70.heap.size [.int .u8 0, .int .u8 0, .int .u8 0, .int .u8 0, .slice A113 l115.length c114] 52, rowE .u16 31 A98 c99 l97] := hS139
 refine gx_k (.bool false) w138 (gx_nil (gx_thenN (hK137 _ _ (gx_ret (gx_thenR (gx_blkR (gx_thenR ?_)))))))
 refine gx_thenR (gx_blkR (gx_thenR ?_))
 obtain rfl := sj hL119
 try dsimp only at hO92
 have hS140 : St _ _ w138 [rowE .i64 3 A110 c111 l112, boxE w0.heap.size [.int .u8 0, .int .u8 0, .int .u8 0, .int .u8 0, nS] 52, boxE g0 [vP g0s, .slice A0 p0.length c0] 72, boxE g0s [.bool b33] 69, rowE .i64 3 A113 c114 l115, boxE w70.heap.size [.int .u8 0, .int .u8 0, .int .u8 0, .int .u8 0, .slice A113 l115.length c114] 52, rowE .u16 31 A98 c99 l97, rowE .i64 3 none 0 ([])] := hS139.nilrow .i64 3
 obtain rfl := sj hO92
 exact gx_fin (.tuple #[.agg #[.int .u8 0, .int .u8 0, .int .u8 0, .int .u8 0, .slice none (([] : List Int).length) 0], .bool false]) (by kernel_rfl) (res_ct rfl _ _ w0.heap.size _ _ _ (by kernel_rfl) (hS140.get 1 rfl) (by kernel_rfl) (by kernel_rfl) _ (by kernel_rfl)) ⟨_, rfl, none, 0, rfl, (hS140.pick [2, 3, 7] rfl rfl)⟩
 refine gx_v (.bool false) w103 (rbE (decide_eq_false h135)) (gx_nil (gx_thenN (hK134 _ _ (gx_no (by kernel_rfl) (gx_pass (gx_thenN (hK132 _ _ ?_)))))))
 refine gx_region (gx_k (vQ w70.heap.size 4) w103 (gx_v (.slice A113 l115.length c114) w103 (rl1 (hS104.box 5 rfl 4 rfl)) (gx_k (u6 x129) w103 (gx_k (i6 (iw x129)) w103 (gx_r (st_made .i64 3 [(iw x129)] hS104 (by show 1 ≤ 1000000000; decide) (by kernel_rfl)) ?_)))))
 rintro _ w141 ⟨rfl, hS142⟩
 have hS142 : St _ _ w141 [rowE .i64 3 A110 c111 l112, boxE w0.heap.size [.int .u8 x106, .int .u8 x107, .int .u8 x108, .int .u8 x109, .slice A110 l112.length c111] 52, boxE g0 [vP g0s, .slice A0 p0.length c0] 72, boxE g0s [.bool b33] 69, rowE .i64 3 A113 c114 l115, boxE w70.heap.size [.int .u8 0, .int .u8 0, .int .u8 0, .int .u8 0, .slice A113 l115.length c114] 52, rowE .u16 31 A98 c99 l97, rowE .i64 3 (some ⟨w103.heap.size, 0, none⟩) 1 ([(iw x129)])] := hS142
 obtain ⟨l143, ha144, hL119⟩ := bind_in hL119
 obtain ⟨ha144, hq145⟩ := apx_in ha144
 refine gx_r (st_append rfl (by kernel_rfl) (by kernel_rfl) hS142 4 rfl (hS142.row 7 rfl).1 (hS142.row 7 rfl).2 ha144 (by kernel_rfl) (by kernel_rfl)) ?_
 rintro _ w148 ⟨A146, c147, rfl, hS149⟩
 rw [← hq145] at hS149 ⊢
 have hS149 : St _ _ w148 [rowE .i64 3 A110 c111 l112, boxE w0.heap.size [.int .u8 x106, .int .u8 x107, .int .u8 x108, .int .u8 x109, .slice A110 l112.length c111] 52, boxE g0 [vP g0s, .slice A0 p0.length c0] 72, boxE g0s [.bool b33] 69, rowE .i64 3 A146 c147 l143, boxE w70.heap.size [.int .u8 0, .int .u8 0, .int .u8 0, .int .u8 0, .slice A113 l115.length c114] 52, rowE .u16 31 A98 c99 l97, rowE .i64 3 (some ⟨w103.heap.size, 0, none⟩) 1 ([(iw x129)])] := hS149
 refine gx_k (vQ w70.heap.size 4) w148 (gx_s (st_store (j := 4) (v := (.slice A146 l143.length c147)) rfl (by kernel_rfl) (by kernel_rfl) rfl (fun _ => by kernel_rfl) hS149 5 rfl (by show 4 < 5; decide)) ?_)
 rintro w150 hS151
 have hS151 : St _ _ w150 [rowE .i64 3 A110 c111 l112, boxE w0.heap.size [.int .u8 x106, .int .u8 x107, .int .u8 x108, .int .u8 x109, .slice A110 l112.length c111] 52, boxE g0 [vP g0s, .slice A0 p0.length c0] 72, boxE g0s [.bool b33] 69, rowE .i64 3 A146 c147 l143, boxE w70.heap.size [.int .u8 0, .int .u8 0, .int .u8 0, .int .u8 0, .slice A146 l143.length c147] 52, rowE .u16 31 A98 c99 l97, rowE .i64 3 (some ⟨w103.heap.size, 0, none⟩) 1 ([(iw x129)])] := hS151
 refine gx_nil (gx_blkN (gx_thenN (hK126 _ _ (gx_region (gx_k (i6 (iw (x116 + 1))) w150 (gx_k (i6 (iw (x116 + 1))) w150 (gx_nil (gx_thenN ?_))))))))
 exact ⟨k118, Nat.lt_succ_self k118, x106, x107, x108, x109, l112, l143, (iw (x116 + 1)), A110, c111, A146, c147, selfA_i (by kernel_rfl), hL119, (hS151.pick [0, 1, 2, 3, 4, 5, 6] rfl rfl)⟩
 refine gx_v (.bool false) w103 (rbE (decide_eq_false h122)) (gx_nil (gx_thenN (hK121 _ _ (gx_seq (fun K152 hK153 => gx_no (by kernel_rfl) (gx_exit (gx_thenE ?_)))))))
 refine gx_thenE (gx_blkE (gx_thenN ?_))
 exact ⟨x106, x107, x108, x109, l112, l115, A110, c111, A113, c114, selfA_i (by kernel_rfl), (sj hL119), (hS104.pick [0, 1, 2, 3, 4, 5] rfl rfl)⟩
 rintro _ w77 ⟨x80, x81, x82, x83, l86, l89, A84, c85, A87, c88, hq159, rfl, hS78⟩
 obtain ⟨u79, rfl⟩ := selfA_u hq159
 try dsimp only at hO92
 refine gx_seq (fun K155 hK156 => gx_region (gx_v (.agg #[.int .u8 0, .int .u8 0, .int .u8 0, .int .u8 0, .slice A87 l89.length c88]) w77 (run_loadG (d := _) rfl (by kernel_rfl) (hS78.get 5 rfl) rfl rfl (by kernel_rfl)) (gx_s (st_storeG (cs := [.int .u8 x80, .int .u8 x81, .int .u8 x82, .int .u8 x83, .slice A84 l86.length c85]) (ds := [.int .u8 0, .int .u8 0, .int .u8 0, .int .u8 0, .slice A87 l89.length c88]) rfl (by kernel_rfl) (by kernel_rfl) (by kernel_rfl) rfl rfl hS78 1 rfl) ?_)))
 rintro w157 hS158
 have hS158 : St _ _ w157 [rowE .i64 3 A84 c85 l86, boxE w0.heap.size [.int .u8 0, .int .u8 0, .int .u8 0, .int .u8 0, .slice A87 l89.length c88] 52, boxE g0 [vP g0s, .slice A0 p0.length c0] 72, boxE g0s [.bool b33] 69, rowE .i64 3 A87 c88 l89, boxE w70.heap.size [.int .u8 0, .int .u8 0, .int .u8 0, .int .u8 0, .slice A87 l89.length c88] 52] := hS158
 refine gx_k (.bool true) w157 (gx_nil (gx_thenN (hK156 _ _ (gx_ret ?_))))
 obtain rfl := sj hO92
 exact gx_fin (.tuple #[.agg #[.int .u8 0, .int .u8 0, .int .u8 0, .int .u8 0, .slice A87 l89.length c88], .bool true]) (by kernel_rfl) (res_ct rfl _ _ w0.heap.size _ _ _ (by kernel_rfl) (hS158.get 1 rfl) (by kernel_rfl) (by kernel_rfl) _ (by kernel_rfl)) ⟨_, rfl, A87, c88, rfl, (hS158.pick [2, 3, 4] rfl rfl)⟩
def qFeats_L1 (N : Nat) (p0 : List Int) (p1 : Int) (p2 : Int) (x12 : Int) : Nat → Bool → (List ((Int × Int × Int × Int) × List Int)) → Int → Option (Ctl (Bool × List ((Int × Int × Int × Int) × List Int)) (List ((Int × Int × Int × Int) × List Int) × Int × Bool))
 | 0, _, _, _ => none
 | k77+1, b70, l75, x76 => (if x76 < (IntKind.i64.wrap x12) then ((qWord N p0 b70 (IntKind.i64.wrap ((IntKind.i64.wrap ((IntKind.i64.wrap (p1 + 2)) + (IntKind.i64.wrap ((6 : Int) * x76)))) + 4))).bind fun (x95, b94) => ((qFeat N p0 b94 (IntKind.i64.wrap (p1 + (IntKind.i64.wrap x95))) p2).bind fun (_x102, _x103, _x104, _x105, l106, b109, b101) => (match b109 with | true => ((qTag N p0 b101 (IntKind.i64.wrap ((IntKind.i64.wrap (p1 + 2)) + (IntKind.i64.wrap ((6 : Int) * x76))))).bind fun (x126, x127, x128, x129, b125) => ((apg l75 ([((x126, x127, x128, x129), l106)] : List ((Int × Int × Int × Int) × List Int))).bind fun l143 => qFeats_L1 N p0 p1 p2 x12 k77 b125 l143 (IntKind.i64.wrap (x76 + 1)))) | false => some (Ctl.ret (([] : List ((Int × Int × Int × Int) × List Int)), 50, b101))))) else some (Ctl.go (b70, l75)))
def qFeats (N : Nat) (p0 : List Int) (p0s_0 : Bool) (p1 : Int) (p2 : Int) : Option (List ((Int × Int × Int × Int) × List Int) × Int × Bool) :=
 ((qWord N p0 p0s_0 p1).bind fun (x12, b11) => ((((qBad N p0 b11).bind fun b26 => (match b26 with | true => some (Ctl.ret (([] : List ((Int × Int × Int × Int) × List Int)), 50, b11)) | false => (if (IntKind.i64.wrap x12) > 512 then some (Ctl.ret (([] : List ((Int × Int × Int × Int) × List Int)), 50, b11)) else some (Ctl.go ())))) : Option (Ctl (Unit) (List ((Int × Int × Int × Int) × List Int) × Int × Bool))).bind fun | Ctl.go () => ((qFeats_L1 N p0 p1 p2 x12 N b11 ([] : List ((Int × Int × Int × Int) × List Int)) 0 : Option (Ctl (Bool × List ((Int × Int × Int × Int) × List Int)) (List ((Int × Int × Int × Int) × List Int) × Int × Bool))).bind fun | Ctl.go (b51, l56) => some (l56, 0, b51) | Ctl.ret r => some r) | Ctl.ret r => some r))
def qFeats_R (p0 : List Int) (p0s_0 : Bool) (p1 : Int) (p2 : Int) (g0 : Nat) (A0 : Option Addr) (c0 : Nat) (g0s : Nat) (r : List ((Int × Int × Int × Int) × List Int) × Int × Bool) (w0 : World) (v : Value) (w : World) : Prop := ∃ (A0' : Option Addr) (c0' : Nat) (vs0' : List Value) (ft' : List Nat), v = .tuple #[.slice A0' r.1.length c0', .int .i64 r.2.1] ∧ St (foots [boxE g0 [.pointer (some ⟨g0s, 0, none⟩), .slice A0 p0.length c0] 72, boxE g0s [.bool p0s_0] 69]) w0 w [boxE g0 [.pointer (some ⟨g0s, 0, none⟩), .slice A0 p0.length c0] 72, boxE g0s [.bool r.2.2] 69, rowG 52 5 (.slice A0' r.1.length c0') r.1.length vs0', poolE ft' w] ∧ (fEach (pairE encapiTag (rowOf (intE .i64))) vs0' r.1).rd w ft'
theorem qFeats_ok (N : Nat) (p0 : List Int) (p0s_0 : Bool) (p1 : Int) (p2 : Int) (g0 : Nat) (A0 : Option Addr) (c0 : Nat) (g0s : Nat) (r : List ((Int × Int × Int × Int) × List Int) × Int × Bool) (hF : qFeats N p0 p0s_0 p1 p2 = some r) (w0 : World) (hv0 : Vw (foots [boxE g0 [.pointer (some ⟨g0s, 0, none⟩), .slice A0 p0.length c0] 72, boxE g0s [.bool p0s_0] 69]) .u8 w0 A0 c0 p0) (hl : St (foots [boxE g0 [.pointer (some ⟨g0s, 0, none⟩), .slice A0 p0.length c0] 72, boxE g0s [.bool p0s_0] 69]) w0 w0 [boxE g0 [.pointer (some ⟨g0s, 0, none⟩), .slice A0 p0.length c0] 72, boxE g0s [.bool p0s_0] 69]) :
  Calls Try.prog 47 #[.pointer (some ⟨g0, 0, none⟩), .int .i64 p1, .int .i64 p2] w0 fun e w => ∃ v, e = .returned v ∧ qFeats_R p0 p0s_0 p1 p2 g0 A0 c0 g0s r w0 v w := by
 have hS0 := (hl).pool0
 unfold qFeats at hF
 refine calls_of Try.func47 rfl ⟨((vP g0) :: (i6 p1) :: (i6 p2) :: un 55 ([])).toArray, []⟩ (by kernel_rfl) (gx_seq (fun K1 hK2 => gx_region (gx_k (nS) w0 (gx_k (i6 0) w0 (gx_nil (gx_thenN (hK2 _ _ (gx_scope 0 rfl (fun J3 hJ4 => ?_)))))))))
 refine gx_seq (fun K5 hK6 => gx_region (gx_k (nS) w0 (gx_nil (gx_thenN (hK6 _ _ (gx_seq (fun K7 hK8 => gx_region ?_)))))))
 refine gx_k (vP g0) w0 (gx_k (i6 p1) w0 ?_)
 have hP9 : St _ _ w0 ([boxE g0 [vP g0s, .slice A0 p0.length c0] 72, boxE g0s [.bool p0s_0] 69] ++ [poolE ([]) w0]) := hS0
 obtain ⟨⟨x12, b11⟩, hc10, hF⟩ := bind_in hF
 try dsimp only at hF
 refine gx_c _ (qWord_ok N p0 p0s_0 p1 g0 A0 c0 g0s _ hc10 w0 (hP9.vwA hv0) hP9.part) ?_
 rintro _ w13 ⟨rfl, hT15⟩
 have hS14 : St _ _ w13 [poolE ([]) w0, boxE g0 [vP g0s, .slice A0 p0.length c0] 72, boxE g0s [.bool b11] 69] := hP9.lendN _ hT15
 refine gx_k (i6 (iw x12)) w13 (gx_k (i6 (iw x12)) w13 (gx_nil (gx_thenN (hK8 _ _ ?_))))
 obtain ⟨c19, hE20, hO21⟩ := bind_in hF
 refine gx_cut (fun a w => selfA (fun u18 => ⟨((vP g0) :: (i6 p1) :: (i6 p2) :: un 3 ((nS) :: (i6 0) :: (nS) :: (i6 (iw x12)) :: un 4 ((vP g0) :: (i6 p1) :: (u6 x12) :: (i6 (iw x12)) :: dd u18 18 6 (un 34 ([]))))).toArray, []⟩) a ∧ Ctl.go () = c19 ∧ St (foots [boxE g0 [vP g0s, .slice A0 p0.length c0] 72, boxE g0s [.bool p0s_0] 69]) w0 w [poolE ([]) w0, boxE g0 [vP g0s, .slice A0 p0.length c0] 72, boxE g0s [.bool b11] 69]) ?_ ?_
 refine gx_seq (fun K22 hK23 => gx_region (gx_k (vP g0) w13 ?_))
 have hP24 : St _ _ w13 ([boxE g0 [vP g0s, .slice A0 p0.length c0] 72, boxE g0s [.bool b11] 69] ++ [poolE ([]) w0]) := hS14.pick [1, 2, 0] rfl rfl
 obtain ⟨b26, hc25, hE20⟩ := bind_in hE20
 try dsimp only at hE20
 refine gx_c _ (qBad_ok N p0 b11 g0 A0 c0 g0s _ hc25 w13 (hP24.vwA hv0) hP24.part) ?_
 rintro _ w27 ⟨rfl, hT29⟩
 have hS28 : St _ _ w27 [poolE ([]) w0, boxE g0 [vP g0s, .slice A0 p0.length c0] 72, boxE g0s [.bool b11] 69] := hP24.lendN _ hT29
 refine gx_k (.bool b26) w27 ?_
 rcases b26 with _ | _
 try dsimp only at hE20
 refine gx_k (i6 (iw x12)) w27 ?_
 rcases if_in hE20 with ⟨h37, hE20⟩ | ⟨h37, hE20⟩
 refine gx_v (.bool true) w27 (rbE (decide_eq_true h37)) (gx_k (.bool true) w27 (gx_nil (gx_thenN (hK23 _ _ (gx_yes (by kernel_rfl) (gx_goto (gx_thenG ?_)))))))
 obtain rfl := sj hE20
 try dsimp only at hO21
 refine gx_jmpG (hJ4 _ _ (gx_seq (fun K38 hK39 => gx_pass (gx_thenN (hK39 _ _ (gx_seq (fun K40 hK41 => gx_region ?_)))))))
 refine gx_k (nS) w27 (gx_k (i6 50) w27 (gx_nil (gx_thenN (hK41 _ _ (gx_ret (gx_jmpR ?_))))))
 have hS42 : St _ _ w27 [poolE ([]) w0, boxE g0 [vP g0s, .slice A0 p0.length c0] 72, boxE g0s [.bool b11] 69, rowG 52 5 (.slice none (([] : List ((Int × Int × Int × Int) × List Int)).length) 0) (([] : List ((Int × Int × Int × Int) × List Int)).length) ([])] := hS28.nilrowN 52 5
 have hf43 : (fEach (pairE encapiTag (rowOf (intE .i64))) [] []).rd w0 ([]) := each_nil
 have hS44 : St _ _ w27 [poolE ([]) w27, boxE g0 [vP g0s, .slice A0 p0.length c0] 72, boxE g0s [.bool b11] 69, rowG 52 5 (.slice none (([] : List ((Int × Int × Int × Int) × List Int)).length) 0) (([] : List ((Int × Int × Int × Int) × List Int)).length) ([])] := hS42.renew 0 rfl
 obtain rfl := sj hO21
 exact gxF (.tuple #[.slice none (([] : List ((Int × Int × Int × Int) × List Int)).length) 0, i6 50]) ⟨_, rfl, none, 0, ([]), ([]), rfl, (hS44.pick [1, 2, 3, 0] rfl rfl), (hS42.now 0 rfl hf43)⟩
 refine gx_v (.bool false) w27 (rbE (decide_eq_false h37)) (gx_k (.bool false) w27 (gx_nil (gx_thenN (hK23 _ _ (gx_no (by kernel_rfl) (gx_pass (gx_thenN ?_)))))))
 exact ⟨selfA_i (by kernel_rfl), (sj hE20), hS28⟩
 try dsimp only at hE20
 refine gx_o (gx_o (gx_k (.bool true) w27 (gx_nil (gx_thenN (hK23 _ _ (gx_yes (by kernel_rfl) (gx_goto (gx_thenG ?_))))))))
 obtain rfl := sj hE20
 try dsimp only at hO21
 refine gx_jmpG (hJ4 _ _ (gx_seq (fun K30 hK31 => gx_pass (gx_thenN (hK31 _ _ (gx_seq (fun K32 hK33 => gx_region ?_)))))))
 refine gx_k (nS) w27 (gx_k (i6 50) w27 (gx_nil (gx_thenN (hK33 _ _ (gx_ret (gx_jmpR ?_))))))
 have hS34 : St _ _ w27 [poolE ([]) w0, boxE g0 [vP g0s, .slice A0 p0.length c0] 72, boxE g0s [.bool b11] 69, rowG 52 5 (.slice none (([] : List ((Int × Int × Int × Int) × List Int)).length) 0) (([] : List ((Int × Int × Int × Int) × List Int)).length) ([])] := hS28.nilrowN 52 5
 have hf35 : (fEach (pairE encapiTag (rowOf (intE .i64))) [] []).rd w0 ([]) := each_nil
 have hS36 : St _ _ w27 [poolE ([]) w27, boxE g0 [vP g0s, .slice A0 p0.length c0] 72, boxE g0s [.bool b11] 69, rowG 52 5 (.slice none (([] : List ((Int × Int × Int × Int) × List Int)).length) 0) (([] : List ((Int × Int × Int × Int) × List Int)).length) ([])] := hS34.renew 0 rfl
 obtain rfl := sj hO21
 exact gxF (.tuple #[.slice none (([] : List ((Int × Int × Int × Int) × List Int)).length) 0, i6 50]) ⟨_, rfl, none, 0, ([]), ([]), rfl, (hS36.pick [1, 2, 3, 0] rfl rfl), (hS34.now 0 rfl hf35)⟩
 rintro _ w16 ⟨hq167, rfl, hS17⟩
 obtain ⟨u18, rfl⟩ := selfA_u hq167
 try dsimp only at hO21
 obtain ⟨c57, hE58, hO59⟩ := bind_in hO21
 refine gx_cut (fun a w => ∃ (b51 : Bool) (l56 : List ((Int × Int × Int × Int) × List Int)) (ft48 : List Nat) (W49 : World) (A52 : Option Addr) (c53 : Nat) (vs54 : List Value), selfA (fun u47 => ⟨((vP g0) :: (i6 p1) :: (i6 p2) :: un 3 ((nS) :: (i6 0) :: (.slice A52 l56.length c53) :: (i6 (iw x12)) :: dd u47 10 4 ((vP g0) :: (i6 p1) :: (u6 x12) :: (i6 (iw x12)) :: dd u18 18 6 (dd u47 24 33 (undef :: []))))).toArray, []⟩) a ∧ Ctl.go (b51, l56) = c57 ∧ St (foots [boxE g0 [vP g0s, .slice A0 p0.length c0] 72, boxE g0s [.bool p0s_0] 69]) w0 w [poolE ft48 W49, boxE g0 [vP g0s, .slice A0 p0.length c0] 72, boxE g0s [.bool b51] 69, rowG 52 5 (.slice A52 l56.length c53) l56.length vs54] ∧ Turn (foots [boxE g0 [vP g0s, .slice A0 p0.length c0] 72, boxE g0s [.bool p0s_0] 69]) w0 w0 ([]) W49 ft48 ∧ (fEach (pairE encapiTag (rowOf (intE .i64))) vs54 l56).rd W49 ft48) ?_ ?_
 refine gx_seq (fun K60 hK61 => gx_region (gx_k (i6 (iw x12)) w16 (gx_k (i6 0) w16 (gx_nil (gx_thenN (hK61 _ _ (gx_block ?_)))))))
 have hS62 : St _ _ w16 [poolE ([]) w0, boxE g0 [vP g0s, .slice A0 p0.length c0] 72, boxE g0s [.bool b11] 69, rowG 52 5 (.slice none (([] : List ((Int × Int × Int × Int) × List Int)).length) 0) (([] : List ((Int × Int × Int × Int) × List Int)).length) ([])] := hS17.nilrowN 52 5
 have hf63 : (fEach (pairE encapiTag (rowOf (intE .i64))) [] []).rd w0 ([]) := each_nil
 refine gx_loop (fun k a w => ∃ (b70 : Bool) (l75 : List ((Int × Int × Int × Int) × List Int)) (x76 : Int) (ft67 : List Nat) (W68 : World) (A71 : Option Addr) (c72 : Nat) (vs73 : List Value), selfA (fun u66 => ⟨((vP g0) :: (i6 p1) :: (i6 p2) :: un 3 ((nS) :: (i6 0) :: (.slice A71 l75.length c72) :: (i6 (iw x12)) :: dd u66 10 4 ((vP g0) :: (i6 p1) :: (u6 x12) :: (i6 (iw x12)) :: dd u18 18 6 ((i6 (iw x12)) :: (i6 x76) :: dd u66 26 31 (undef :: []))))).toArray, []⟩) a ∧ qFeats_L1 N p0 p1 p2 x12 k b70 l75 x76 = some c57 ∧ St (foots [boxE g0 [vP g0s, .slice A0 p0.length c0] 72, boxE g0s [.bool p0s_0] 69]) w0 w [poolE ft67 W68, boxE g0 [vP g0s, .slice A0 p0.length c0] 72, boxE g0s [.bool b70] 69, rowG 52 5 (.slice A71 l75.length c72) l75.length vs73] ∧ Turn (foots [boxE g0 [vP g0s, .slice A0 p0.length c0] 72, boxE g0s [.bool p0s_0] 69]) w0 w0 ([]) W68 ft67 ∧ (fEach (pairE encapiTag (rowOf (intE .i64))) vs73 l75).rd W68 ft67) N ?_ ?_
 exact ⟨b11, ([] : List ((Int × Int × Int × Int) × List Int)), 0, ([]), w0, none, 0, ([]), selfA_i (by kernel_rfl), hE58, hS62, (Turn.refl _ _ _ _), hf63⟩
 rintro k77 _ w64 ⟨b70, l75, x76, ft67, W68, A71, c72, vs73, hq160, hL78, hS65, hT69, hf74⟩
 obtain ⟨u66, rfl⟩ := selfA_u hq160
 rcases k77 with _ | k77
 cases hL78
 first | rw [qFeats_L1] at hL78 | unfold qFeats_L1 at hL78
 refine gx_seq (fun K79 hK80 => gx_region ?_)
 rcases if_in hL78 with ⟨h81, hL78⟩ | ⟨h81, hL78⟩
 refine gx_v (.bool true) w64 (rbE (decide_eq_true h81)) (gx_nil (gx_thenN (hK80 _ _ (gx_seq (fun K82 hK83 => gx_yes (by kernel_rfl) (gx_pass (gx_thenN ?_)))))))
 refine hK83 _ _ (gx_seq (fun K84 hK85 => gx_block (gx_seq (fun K86 hK87 => gx_region (gx_k (i6 x76) w64 (gx_k (i6 x76) w64 (gx_nil (gx_thenN ?_))))))))
 refine hK87 _ _ (gx_seq (fun K88 hK89 => gx_region (gx_k (i6 p1) w64 (gx_k (i6 (iw (p1 + 2))) w64 (gx_k (i6 x76) w64 (gx_k (i6 (iw ((6 : Int) * x76))) w64 (gx_k (i6 (iw ((iw (p1 + 2)) + (iw ((6 : Int) * x76))))) w64 (gx_k (i6 (iw ((iw (p1 + 2)) + (iw ((6 : Int) * x76))))) w64 (gx_nil (gx_thenN (hK89 _ _ (gx_seq (fun K90 hK91 => ?_)))))))))))))
 refine gx_region (gx_k (vP g0) w64 (gx_k (i6 p1) w64 (gx_k (vP g0) w64 (gx_k (i6 (iw ((iw (p1 + 2)) + (iw ((6 : Int) * x76))))) w64 (gx_k (i6 (iw ((iw ((iw (p1 + 2)) + (iw ((6 : Int) * x76)))) + 4))) w64 ?_)))))
 have hP92 : St _ _ w64 ([boxE g0 [vP g0s, .slice A0 p0.length c0] 72, boxE g0s [.bool b70] 69] ++ [poolE ft67 W68, rowG 52 5 (.slice A71 l75.length c72) l75.length vs73]) := hS65.pick [1, 2, 0, 3] rfl rfl
 obtain ⟨⟨x95, b94⟩, hc93, hL78⟩ := bind_in hL78
 try dsimp only at hL78
 refine gx_c _ (qWord_ok N p0 b70 (iw ((iw ((iw (p1 + 2)) + (iw ((6 : Int) * x76)))) + 4)) g0 A0 c0 g0s _ hc93 w64 (hP92.vwA hv0) hP92.part) ?_
 rintro _ w96 ⟨rfl, hT98⟩
 have hS97 : St _ _ w96 [poolE ft67 W68, rowG 52 5 (.slice A71 l75.length c72) l75.length vs73, boxE g0 [vP g0s, .slice A0 p0.length c0] 72, boxE g0s [.bool b94] 69] := hP92.lendN _ hT98
 refine gx_k (i6 (iw x95)) w96 (gx_k (i6 (iw (p1 + (iw x95)))) w96 (gx_k (i6 p2) w96 ?_))
 have hP99 : St _ _ w96 ([boxE g0 [vP g0s, .slice A0 p0.length c0] 72, boxE g0s [.bool b94] 69] ++ [poolE ft67 W68, rowG 52 5 (.slice A71 l75.length c72) l75.length vs73]) := hS97.pick [2, 3, 0, 1] rfl rfl
 obtain ⟨⟨x102, x103, x104, x105, l106, b109, b101⟩, hc100, hL78⟩ := bind_in hL78
 try dsimp only at hL78
 refine gx_c _ (qFeat_ok N p0 b94 (iw (p1 + (iw x95))) p2 g0 A0 c0 g0s _ hc100 w96 (hP99.vwA hv0) hP99.part) ?_
 rintro _ w110 ⟨A107, c108, rfl, hT112⟩
 have hS111 : St _ _ w110 [poolE ft67 W68, rowG 52 5 (.slice A71 l75.length c72) l75.length vs73, boxE g0 [vP g0s, .slice A0 p0.length c0] 72, boxE g0s [.bool b101] 69, rowE .i64 3 A107 c108 l106] := hP99.lendN _ hT112
 refine gx_k (.tuple #[.agg #[.int .u8 x102, .int .u8 x103, .int .u8 x104, .int .u8 x105, .slice A107 l106.length c108], .bool b109]) w110 (gx_k (.agg #[.int .u8 x102, .int .u8 x103, .int .u8 x104, .int .u8 x105, .slice A107 l106.length c108]) w110 (gx_k (.bool b109) w110 (gx_r (st_boxed [.int .u8 0, .int .u8 0, .int .u8 0, .int .u8 0, nS] 52 hS111 (by kernel_rfl)) ?_)))
 rintro _ w113 ⟨rfl, hS114⟩
 have hS114 : St _ _ w113 [poolE ft67 W68, rowG 52 5 (.slice A71 l75.length c72) l75.length vs73, boxE g0 [vP g0s, .slice A0 p0.length c0] 72, boxE g0s [.bool b101] 69, rowE .i64 3 A107 c108 l106, boxE w110.heap.size [.int .u8 0, .int .u8 0, .int .u8 0, .int .u8 0, nS] 52] := hS114
 refine gx_s (st_storeG (cs := [.int .u8 0, .int .u8 0, .int .u8 0, .int .u8 0, nS]) (ds := [.int .u8 x102, .int .u8 x103, .int .u8 x104, .int .u8 x105, .slice A107 l106.length c108]) rfl (by kernel_rfl) (by kernel_rfl) (by kernel_rfl) rfl rfl hS114 5 rfl) ?_
 rintro w115 hS116
 have hS116 : St _ _ w115 [poolE ft67 W68, rowG 52 5 (.slice A71 l75.length c72) l75.length vs73, boxE g0 [vP g0s, .slice A0 p0.length c0] 72, boxE g0s [.bool b101] 69, rowE .i64 3 A107 c108 l106, boxE w110.heap.size [.int .u8 x102, .int .u8 x103, .int .u8 x104, .int .u8 x105, .slice A107 l106.length c108] 52] := hS116
 refine gx_k (.bool b109) w115 (gx_nil (gx_thenN (hK91 _ _ (gx_seq (fun K117 hK118 => gx_seq (fun K119 hK120 => gx_region (gx_k (.bool b109) w115 ?_)))))))
 rcases b109 with _ | _
 try dsimp only at hL78
 refine gx_k (.bool true) w115 (gx_nil (gx_thenN (hK120 _ _ (gx_yes (by kernel_rfl) (gx_goto (gx_thenG (gx_blkG ?_)))))))
 refine gx_thenG (gx_thenG (gx_blkG (gx_thenG ?_)))
 obtain rfl := sj hL78
 try dsimp only at hO59
 refine gx_jmpG (hJ4 _ _ (gx_seq (fun K151 hK152 => gx_pass (gx_thenN (hK152 _ _ (gx_seq (fun K153 hK154 => gx_region ?_)))))))
 refine gx_k (nS) w115 (gx_k (i6 50) w115 (gx_nil (gx_thenN (hK154 _ _ (gx_ret (gx_jmpR ?_))))))
 have hS155 : St _ _ w115 [poolE ft67 W68, rowG 52 5 (.slice A71 l75.length c72) l75.length vs73, boxE g0 [vP g0s, .slice A0 p0.length c0] 72, boxE g0s [.bool b101] 69, rowE .i64 3 A107 c108 l106, boxE w110.heap.size [.int .u8 x102, .int .u8 x103, .int .u8 x104, .int .u8 x105, .slice A107 l106.length c108] 52, rowG 52 5 (.slice none (([] : List ((Int × Int × Int × Int) × List Int)).length) 0) (([] : List ((Int × Int × Int × Int) × List Int)).length) ([])] := hS116.nilrowN 52 5
 have hf156 : (fEach (pairE encapiTag (rowOf (intE .i64))) [] []).rd W68 ft67 := each_nil
 have hS157 : St _ _ w115 [poolE ft67 w115, rowG 52 5 (.slice A71 l75.length c72) l75.length vs73, boxE g0 [vP g0s, .slice A0 p0.length c0] 72, boxE g0s [.bool b101] 69, rowE .i64 3 A107 c108 l106, boxE w110.heap.size [.int .u8 x102, .int .u8 x103, .int .u8 x104, .int .u8 x105, .slice A107 l106.length c108] 52, rowG 52 5 (.slice none (([] : List ((Int × Int × Int × Int) × List Int)).length) 0) (([] : List ((Int × Int × Int × Int) × List Int)).length) ([])] := hS155.renew 0 rfl
 obtain rfl := sj hO59
 exact gxF (.tuple #[.slice none (([] : List ((Int × Int × Int × Int) × List Int)).length) 0, i6 50]) ⟨_, rfl, none, 0, ([]), ft67, rfl, (hS157.pick [2, 3, 6, 0] rfl rfl), (hS155.now 0 rfl hf156)⟩
 try dsimp only at hL78
 refine gx_k (.bool false) w115 (gx_nil (gx_thenN (hK120 _ _ (gx_no (by kernel_rfl) (gx_pass (gx_thenN (hK118 _ _ ?_)))))))
 refine gx_seq (fun K121 hK122 => gx_region (gx_k (vP g0) w115 (gx_k (i6 (iw ((iw (p1 + 2)) + (iw ((6 : Int) * x76))))) w115 ?_)))
 have hP123 : St _ _ w115 ([boxE g0 [vP g0s, .slice A0 p0.length c0] 72, boxE g0s [.bool b101] 69] ++ [poolE ft67 W68, rowG 52 5 (.slice A71 l75.length c72) l75.length vs73, rowE .i64 3 A107 c108 l106, boxE w110.heap.size [.int .u8 x102, .int .u8 x103, .int .u8 x104, .int .u8 x105, .slice A107 l106.length c108] 52]) := hS116.pick [2, 3, 0, 1, 4, 5] rfl rfl
 obtain ⟨⟨x126, x127, x128, x129, b125⟩, hc124, hL78⟩ := bind_in hL78
 try dsimp only at hL78
 refine gx_c _ (qTag_ok N p0 b101 (iw ((iw (p1 + 2)) + (iw ((6 : Int) * x76)))) g0 A0 c0 g0s _ hc124 w115 (hP123.vwA hv0) hP123.part) ?_
 rintro _ w130 ⟨rfl, hT132⟩
 have hS131 : St _ _ w130 [poolE ft67 W68, rowG 52 5 (.slice A71 l75.length c72) l75.length vs73, rowE .i64 3 A107 c108 l106, boxE w110.heap.size [.int .u8 x102, .int .u8 x103, .int .u8 x104, .int .u8 x105, .slice A107 l106.length c108] 52, boxE g0 [vP g0s, .slice A0 p0.length c0] 72, boxE g0s [.bool b125] 69] := hP123.lendN _ hT132
 refine gx_k (vP w110.heap.size) w130 (gx_s (st_storeGP (cs := [.int .u8 x102, .int .u8 x103, .int .u8 x104, .int .u8 x105, .slice A107 l106.length c108]) (ds := [.int .u8 x126, .int .u8 x127, .int .u8 x128, .int .u8 x129]) (cs' := [.int .u8 x126, .int .u8 x127, .int .u8 x128, .int .u8 x129, .slice A107 l106.length c108]) 0 rfl (by kernel_rfl) (by kernel_rfl) (by kernel_rfl) rfl hS131 3 rfl (by show 0 + 4 ≤ 5; decide) rfl) ?_)
 rintro w133 hS134
 have hS134 : St _ _ w133 [poolE ft67 W68, rowG 52 5 (.slice A71 l75.length c72) l75.length vs73, rowE .i64 3 A107 c108 l106, boxE w110.heap.size [.int .u8 x126, .int .u8 x127, .int .u8 x128, .int .u8 x129, .slice A107 l106.length c108] 52, boxE g0 [vP g0s, .slice A0 p0.length c0] 72, boxE g0s [.bool b125] 69] := hS134
 refine gx_nil (gx_thenN (hK122 _ _ (gx_region (gx_k (.slice A71 l75.length c72) w133 (gx_v (.agg #[.int .u8 x126, .int .u8 x127, .int .u8 x128, .int .u8 x129, .slice A107 l106.length c108]) w133 (run_loadG (d := _) rfl (by kernel_rfl) (hS134.get 3 rfl) rfl rfl (by kernel_rfl)) ?_)))))
 obtain ⟨ft135, W136, hS137, hT138, hf139⟩ := hS134.freezeE 2 0 rfl rfl (by decide)
 have hS137 : St _ _ w133 [poolE ft135 W136, rowG 52 5 (.slice A71 l75.length c72) l75.length vs73, boxE w110.heap.size [.int .u8 x126, .int .u8 x127, .int .u8 x128, .int .u8 x129, .slice A107 l106.length c108] 52, boxE g0 [vP g0s, .slice A0 p0.length c0] 72, boxE g0s [.bool b125] 69] := hS137
 have hT138 : Turn (foots [boxE g0 [vP g0s, .slice A0 p0.length c0] 72, boxE g0s [.bool p0s_0] 69]) w0 W68 ft67 W136 ft135 := hT138
 have hf139 : (fSl (intE .i64) A107 c108 (List.map (Value.int .i64) l106) l106).rd W136 ft135 := hf139
 have hf140 : (fEach (pairE encapiTag (rowOf (intE .i64))) [.int .u8 x126, .int .u8 x127, .int .u8 x128, .int .u8 x129, .slice A107 l106.length c108] [((x126, x127, x128, x129), l106)]).rd W136 ft135 := (each_cons (rd_pair (rd_pair (rd_intg .u8 x126) (rd_pair (rd_intg .u8 x127) (rd_pair (rd_intg .u8 x128) (rd_intg .u8 x129)))) (rd_row rfl hf139)) each_nil)
 refine gx_r (st_madeP (e := (pairE encapiTag (rowOf (intE .i64)))) 52 1 [.int .u8 x126, .int .u8 x127, .int .u8 x128, .int .u8 x129, .slice A107 l106.length c108] [((x126, x127, x128, x129), l106)] hS137 rfl hf140 (by decide) (by kernel_rfl)) ?_
 rintro _ w141 ⟨rfl, hS142⟩
 have hS142 : St _ _ w141 [poolE ft135 W136, rowG 52 5 (.slice A71 l75.length c72) l75.length vs73, boxE w110.heap.size [.int .u8 x126, .int .u8 x127, .int .u8 x128, .int .u8 x129, .slice A107 l106.length c108] 52, boxE g0 [vP g0s, .slice A0 p0.length c0] 72, boxE g0s [.bool b125] 69, rowG 52 5 (.slice (some ⟨w133.heap.size, 0, none⟩) 1 1) 1 ([.int .u8 x126, .int .u8 x127, .int .u8 x128, .int .u8 x129, .slice A107 l106.length c108])] := hS142
 obtain ⟨l143, ha144, hL78⟩ := bind_in hL78
 refine gx_r (st_appendP (e := (pairE encapiTag (rowOf (intE .i64)))) rfl (by kernel_rfl) (by kernel_rfl) hS142 1 rfl rfl (show 1 = ([((x126, x127, x128, x129), l106)] : List ((Int × Int × Int × Int) × List Int)).length from rfl) (hT138.pool hf74) hf140 (rowG_lies (e := (pairE encapiTag (rowOf (intE .i64)))) (show 1 = ([((x126, x127, x128, x129), l106)] : List ((Int × Int × Int × Int) × List Int)).length from rfl) (hS142.get 5 rfl)) (rowG_spec (e := (pairE encapiTag (rowOf (intE .i64)))) (show 1 = ([((x126, x127, x128, x129), l106)] : List ((Int × Int × Int × Int) × List Int)).length from rfl) (hS142.get 5 rfl)).2.2.1 ha144 (by kernel_rfl) (by kernel_rfl) (by decide)) ?_
 rintro _ w149 ⟨A145, c146, vs147, rfl, hf148, hS150⟩
 have hS150 : St _ _ w149 [poolE ft135 W136, rowG 52 5 (.slice A145 l143.length c146) l143.length vs147, boxE w110.heap.size [.int .u8 x126, .int .u8 x127, .int .u8 x128, .int .u8 x129, .slice A107 l106.length c108] 52, boxE g0 [vP g0s, .slice A0 p0.length c0] 72, boxE g0s [.bool b125] 69, rowG 52 5 (.slice (some ⟨w133.heap.size, 0, none⟩) 1 1) 1 ([.int .u8 x126, .int .u8 x127, .int .u8 x128, .int .u8 x129, .slice A107 l106.length c108])] := hS150
 refine gx_k (.slice A145 l143.length c146) w149 (gx_nil (gx_blkN (gx_thenN (hK85 _ _ (gx_region (gx_k (i6 (iw (x76 + 1))) w149 (gx_k (i6 (iw (x76 + 1))) w149 (gx_nil ?_))))))))
 refine gx_thenN ?_
 exact ⟨k77, Nat.lt_succ_self k77, b125, l143, (iw (x76 + 1)), ft135, W136, A145, c146, vs147, selfA_i (by kernel_rfl), hL78, (hS150.pick [0, 3, 4, 1] rfl rfl), (Turn.trans hT69 hT138), hf148⟩
 refine gx_v (.bool false) w64 (rbE (decide_eq_false h81)) (gx_nil (gx_thenN (hK80 _ _ (gx_seq (fun K158 hK159 => gx_no (by kernel_rfl) (gx_exit (gx_thenE ?_)))))))
 refine gx_thenE (gx_blkE (gx_thenN ?_))
 exact ⟨b70, l75, ft67, W68, A71, c72, vs73, selfA_i (by kernel_rfl), (sj hL78), hS65, hT69, hf74⟩
 rintro _ w45 ⟨b51, l56, ft48, W49, A52, c53, vs54, hq166, rfl, hS46, hT50, hf55⟩
 obtain ⟨u47, rfl⟩ := selfA_u hq166
 try dsimp only at hO59
 refine gx_seq (fun K161 hK162 => gx_seq (fun K163 hK164 => gx_region (gx_k (.slice A52 l56.length c53) w45 (gx_k (.slice A52 l56.length c53) w45 (gx_k (i6 0) w45 (gx_nil (gx_thenN (hK164 _ _ (gx_ret ?_)))))))))
 refine gx_thenR (gx_jmpR ?_)
 have hS165 : St _ _ w45 [poolE ft48 w45, boxE g0 [vP g0s, .slice A0 p0.length c0] 72, boxE g0s [.bool b51] 69, rowG 52 5 (.slice A52 l56.length c53) l56.length vs54] := hS46.renew 0 rfl
 obtain rfl := sj hO59
 exact gxF (.tuple #[.slice A52 l56.length c53, i6 0]) ⟨_, rfl, A52, c53, vs54, ft48, rfl, (hS165.pick [1, 2, 3, 0] rfl rfl), (hS46.now 0 rfl hf55)⟩
end Go.Proofs.Ytgjlpiljacecpaa
