/-
  The program, walked.
-/
import Derived.Test.YtapfdafmhiilkaaP1
namespace Go.Proofs.Ytapfdafmhiilkaa
open Go Go.RowKit
set_option linter.unusedVariables false

def pStand (_N : Nat) (p0_0 : List (Int × Int × Bool)) (_p0_1 : Int) (_p0_2 : Int) (_p0_3 : Int) (_p0_4 : List Int) (_p0_5 : List Int) (_p0_6 : Int) (p0_7 : List Int) (p0_8 : List Int) (p1 : Int) : Option (List Int × List Int) :=
 ((hdx p0_0).bind fun ((x6, _x7, _b8), _r5) => ((ix p0_7 p1).bind fun _x25 => ((setx p0_7 p1 x6).bind fun l29 => ((hdx p0_0).bind fun ((_x35, x36, _b37), _r34) => (if x36 ≠ 0 then ((hdx p0_0).bind fun ((_x58, x59, _b60), _r57) => ((ix p0_8 p1).bind fun _x77 => ((setx p0_8 p1 x59).bind fun l81 => some (l29, l81)))) else some (l29, p0_8))))))

set_option linter.unusedVariables false in
def pStand_R (p0_0 : List (Int × Int × Bool)) (p0_1 : Int) (p0_2 : Int) (p0_3 : Int) (p0_4 : List Int) (p0_5 : List Int) (p0_6 : Int) (p0_7 : List Int) (p0_8 : List Int) (p1 : Int) (g0 : Nat) (A0_0 : Option Addr) (ft0_0 : List Nat) (A0_4 : Option Addr) (c0_4 : Nat) (A0_5 : Option Addr) (c0_5 : Nat) (A0_7 : Option Addr) (c0_7 : Nat) (A0_8 : Option Addr) (c0_8 : Nat) (r : List Int × List Int) (w0 : World) (v : Value) (w : World) : Prop := ∃ (Al0_7' : Option Addr) (cl0_7' : Nat) (Al0_8' : Option Addr) (cl0_8' : Nat), v = .tuple #[] ∧ St (foots [boxE g0 [.pointer A0_0, .int .i64 p0_1, .int .i64 p0_2, .int .i64 p0_3, .slice A0_4 p0_4.length c0_4, .slice A0_5 p0_5.length c0_5, .int .u8 p0_6, .slice A0_7 p0_7.length c0_7, .slice A0_8 p0_8.length c0_8] 84, rowE .u8 5 A0_7 c0_7 p0_7, rowE .u8 26 A0_8 c0_8 p0_8]) w0 w [boxE g0 [.pointer A0_0, .int .i64 p0_1, .int .i64 p0_2, .int .i64 p0_3, .slice A0_4 p0_4.length c0_4, .slice A0_5 p0_5.length c0_5, .int .u8 p0_6, .slice Al0_7' r.1.length cl0_7', .slice Al0_8' r.2.length cl0_8'] 84, rowE .u8 5 Al0_7' cl0_7' r.1, rowE .u8 26 Al0_8' cl0_8' r.2]

set_option maxRecDepth 100000 in
set_option maxHeartbeats 4000000 in
theorem pStand_ok (N : Nat) (p0_0 : List (Int × Int × Bool)) (p0_1 : Int) (p0_2 : Int) (p0_3 : Int) (p0_4 : List Int) (p0_5 : List Int) (p0_6 : Int) (p0_7 : List Int) (p0_8 : List Int) (p1 : Int) (g0 : Nat) (A0_0 : Option Addr) (ft0_0 : List Nat) (A0_4 : Option Addr) (c0_4 : Nat) (A0_5 : Option Addr) (c0_5 : Nat) (A0_7 : Option Addr) (c0_7 : Nat) (A0_8 : Option Addr) (c0_8 : Nat) (r : List Int × List Int) (hF : pStand N p0_0 p0_1 p0_2 p0_3 p0_4 p0_5 p0_6 p0_7 p0_8 p1 = some r) (w0 : World) (hv0_0 : (fCh 100 entembedentry A0_0 p0_0).rd w0 ft0_0) (ho0_0 : Off (foots [boxE g0 [.pointer A0_0, .int .i64 p0_1, .int .i64 p0_2, .int .i64 p0_3, .slice A0_4 p0_4.length c0_4, .slice A0_5 p0_5.length c0_5, .int .u8 p0_6, .slice A0_7 p0_7.length c0_7, .slice A0_8 p0_8.length c0_8] 84, rowE .u8 5 A0_7 c0_7 p0_7, rowE .u8 26 A0_8 c0_8 p0_8]) w0 ft0_0) (_hv0_4 : Vw (foots [boxE g0 [.pointer A0_0, .int .i64 p0_1, .int .i64 p0_2, .int .i64 p0_3, .slice A0_4 p0_4.length c0_4, .slice A0_5 p0_5.length c0_5, .int .u8 p0_6, .slice A0_7 p0_7.length c0_7, .slice A0_8 p0_8.length c0_8] 84, rowE .u8 5 A0_7 c0_7 p0_7, rowE .u8 26 A0_8 c0_8 p0_8]) .u8 w0 A0_4 c0_4 p0_4) (_hv0_5 : Vw (foots [boxE g0 [.pointer A0_0, .int .i64 p0_1, .int .i64 p0_2, .int .i64 p0_3, .slice A0_4 p0_4.length c0_4, .slice A0_5 p0_5.length c0_5, .int .u8 p0_6, .slice A0_7 p0_7.length c0_7, .slice A0_8 p0_8.length c0_8] 84, rowE .u8 5 A0_7 c0_7 p0_7, rowE .u8 26 A0_8 c0_8 p0_8]) .i64 w0 A0_5 c0_5 p0_5) (hl : St (foots [boxE g0 [.pointer A0_0, .int .i64 p0_1, .int .i64 p0_2, .int .i64 p0_3, .slice A0_4 p0_4.length c0_4, .slice A0_5 p0_5.length c0_5, .int .u8 p0_6, .slice A0_7 p0_7.length c0_7, .slice A0_8 p0_8.length c0_8] 84, rowE .u8 5 A0_7 c0_7 p0_7, rowE .u8 26 A0_8 c0_8 p0_8]) w0 w0 [boxE g0 [.pointer A0_0, .int .i64 p0_1, .int .i64 p0_2, .int .i64 p0_3, .slice A0_4 p0_4.length c0_4, .slice A0_5 p0_5.length c0_5, .int .u8 p0_6, .slice A0_7 p0_7.length c0_7, .slice A0_8 p0_8.length c0_8] 84, rowE .u8 5 A0_7 c0_7 p0_7, rowE .u8 26 A0_8 c0_8 p0_8]) :
  Calls Try.prog 58 #[.pointer (some ⟨g0, 0, none⟩), .int .i64 p1] w0 fun e w => ∃ v, e = .returned v ∧ pStand_R p0_0 p0_1 p0_2 p0_3 p0_4 p0_5 p0_6 p0_7 p0_8 p1 g0 A0_0 ft0_0 A0_4 c0_4 A0_5 c0_5 A0_7 c0_7 A0_8 c0_8 r w0 v w := by
 have hS0 := (hl).pool0
 unfold pStand at hF
 refine calls_of Try.func58 rfl ⟨((.pointer (some ⟨g0, 0, none⟩)) :: (.int .i64 p1) :: un 39 ([])).toArray, []⟩ (by kernel_rfl) ?_
 refine gx_seq (fun K1 hK2 => ?_)
 refine gd_start (fun w => St (foots [boxE g0 [.pointer A0_0, .int .i64 p0_1, .int .i64 p0_2, .int .i64 p0_3, .slice A0_4 p0_4.length c0_4, .slice A0_5 p0_5.length c0_5, .int .u8 p0_6, .slice A0_7 p0_7.length c0_7, .slice A0_8 p0_8.length c0_8] 84, rowE .u8 5 A0_7 c0_7 p0_7, rowE .u8 26 A0_8 c0_8 p0_8]) w0 w [boxE g0 [.pointer A0_0, .int .i64 p0_1, .int .i64 p0_2, .int .i64 p0_3, .slice A0_4 p0_4.length c0_4, .slice A0_5 p0_5.length c0_5, .int .u8 p0_6, .slice A0_7 p0_7.length c0_7, .slice A0_8 p0_8.length c0_8] 84, rowE .u8 26 A0_8 c0_8 p0_8, poolE ([]) w0]) 15 #[false, false, false, false, false, false, false, false, false, false, false, false, false, false, false] (by kernel_rfl) (by kernel_rfl) ?_
 have hS4 := hS0.drew
 generalize w0.drew = w3 at hS4 ⊢
 refine gd1 0 { dst := some 4, op := _, type := _, pos := _, after := _, guard := _ } (.pointer (some ⟨g0, 0, none⟩)) rfl (hS4.pick [0, 2, 3] rfl rfl) (fun w hSw => by kernel_rfl) ?_
 refine gd1 1 { dst := some 5, op := _, type := _, pos := _, after := _, guard := _ } (.pointer (some ⟨g0, 0, none⟩)) rfl (hS4.pick [0, 2, 3] rfl rfl) (fun w hSw => by kernel_rfl) ?_
 refine gd1 2 { dst := some 6, op := _, type := _, pos := _, after := _, guard := _ } (.pointer (some ⟨g0, 7, none⟩)) rfl (hS4.pick [0, 2, 3] rfl rfl) (fun w hSw => by kernel_rfl) ?_
 refine gd1 3 { dst := some 7, op := _, type := _, pos := _, after := _, guard := _ } (.slice A0_7 p0_7.length c0_7) rfl (hS4.pick [0, 2, 3] rfl rfl) (fun w hSw => run_load1 rfl (by kernel_rfl) (fun _ => by kernel_rfl) (hSw.box 0 rfl 7 rfl)) ?_
 refine gd1 4 { dst := some 8, op := _, type := _, pos := _, after := _, guard := _ } (.int .i64 p1) rfl (hS4.pick [0, 2, 3] rfl rfl) (fun w hSw => by kernel_rfl) ?_
 refine gd1 5 { dst := some 9, op := _, type := _, pos := _, after := _, guard := _ } (.pointer (some ⟨g0, 0, none⟩)) rfl (hS4.pick [0, 2, 3] rfl rfl) (fun w hSw => by kernel_rfl) ?_
 refine gd1 6 { dst := some 10, op := _, type := _, pos := _, after := _, guard := _ } (.pointer (some ⟨g0, 0, none⟩)) rfl (hS4.pick [0, 2, 3] rfl rfl) (fun w hSw => by kernel_rfl) ?_
 refine gd1 7 { dst := some 11, op := _, type := _, pos := _, after := _, guard := _ } (.pointer (some ⟨g0, 0, none⟩)) rfl (hS4.pick [0, 2, 3] rfl rfl) (fun w hSw => by kernel_rfl) ?_
 refine gd1 8 { dst := some 12, op := _, type := _, pos := _, after := _, guard := _ } (.pointer (some ⟨g0, 0, none⟩)) rfl (hS4.pick [0, 2, 3] rfl rfl) (fun w hSw => by kernel_rfl) ?_
 refine gd1 9 { dst := some 13, op := _, type := _, pos := _, after := _, guard := _ } (.pointer A0_0) rfl (hS4.pick [0, 2, 3] rfl rfl) (fun w hSw => run_load1 rfl (by kernel_rfl) (fun _ => by kernel_rfl) (hSw.box 0 rfl 0 rfl)) ?_
 obtain ⟨⟨⟨x6, x7, b8⟩, r5⟩, h9, hF⟩ := bind_in hF
 try dsimp only at hF
 obtain ⟨g10, A11, e12, hA13, hb14, h15, hf16⟩ := ch_open hv0_0 h9
 obtain ⟨e17, e18, rfl, h19, h20⟩ := h15
 obtain rfl := h19
 obtain ⟨e21, e22, rfl, h23, h24⟩ := h20
 obtain rfl := h23
 obtain rfl := h24
 have hb14 : (fBlk 100 g10 [.pointer A11, .int .u8 x6, .int .u8 x7, .bool b8]).rd w0 ft0_0 := hb14
 refine gd1 10 { dst := some 14, op := _, type := _, pos := _, after := _, guard := _ } (.pointer (some ⟨g10, 0, none⟩)) rfl (hS4.pick [0, 2, 3] rfl rfl) (fun w hSw => run_nilck rfl (by kernel_rfl) hA13) ?_
 refine gd1 11 { dst := some 15, op := _, type := _, pos := _, after := _, guard := _ } (.pointer (some ⟨g10, 1, none⟩)) rfl (hS4.pick [0, 2, 3] rfl rfl) (fun w hSw => by kernel_rfl) ?_
 refine gd1 12 { dst := some 16, op := _, type := _, pos := _, after := _, guard := _ } (.int .u8 x6) rfl (hS4.pick [0, 2, 3] rfl rfl) (fun w hSw => run_blk (off := 1) rfl (by kernel_rfl) (fun _ => by kernel_rfl) (hSw.inn ho0_0 hb14) rfl) ?_
 obtain ⟨x25, hx26, hF⟩ := bind_in hF
 refine gd1 13 { dst := some 17, op := _, type := _, pos := _, after := _, guard := _ } (.pointer (Option.map (fun (p : Addr) => p.add (Int.toNat p1 * 1)) A0_7)) rfl (hS4.pick [0, 2, 3] rfl rfl) (fun w hSw => run_ixaddr (E := 5) (s := 1) (k := .i64) (c := c0_7) rfl (by kernel_rfl) (by kernel_rfl) (by kernel_rfl) (fun _ => by kernel_rfl) (ix_in hx26).1 (ix_in hx26).2.1 (num_nil (hS4.row 1 rfl).1)) ?_
 obtain ⟨l29, hx30, hF⟩ := bind_in hF
 refine gdS 14 { dst := none, op := _, type := _, pos := _, after := _, guard := _ } rfl (st_storeix rfl (by kernel_rfl) (by kernel_rfl) (fun _ => by kernel_rfl) hS4 1 rfl hx30) ?_
 rintro w27 hS28
 have hS28 : St _ _ w27 [boxE g0 [.pointer A0_0, .int .i64 p0_1, .int .i64 p0_2, .int .i64 p0_3, .slice A0_4 p0_4.length c0_4, .slice A0_5 p0_5.length c0_5, .int .u8 p0_6, .slice A0_7 p0_7.length c0_7, .slice A0_8 p0_8.length c0_8] 84, rowE .u8 5 A0_7 c0_7 l29, rowE .u8 26 A0_8 c0_8 p0_8, poolE ([]) w0] := hS28
 refine ⟨(hS28.pick [0, 2, 3] rfl rfl), ?_⟩
 refine gd_done (by kernel_rfl) ?_
 have hS31 : St _ _ w27 [boxE g0 [.pointer A0_0, .int .i64 p0_1, .int .i64 p0_2, .int .i64 p0_3, .slice A0_4 p0_4.length c0_4, .slice A0_5 p0_5.length c0_5, .int .u8 p0_6, .slice A0_7 l29.length c0_7, .slice A0_8 p0_8.length c0_8] 84, rowE .u8 5 A0_7 c0_7 l29, rowE .u8 26 A0_8 c0_8 p0_8, poolE ([]) w0] := (show [boxE g0 [.pointer A0_0, .int .i64 p0_1, .int .i64 p0_2, .int .i64 p0_3, .slice A0_4 p0_4.length c0_4, .slice A0_5 p0_5.length c0_5, .int .u8 p0_6, .slice A0_7 p0_7.length c0_7, .slice A0_8 p0_8.length c0_8] 84, rowE .u8 5 A0_7 c0_7 l29, rowE .u8 26 A0_8 c0_8 p0_8, poolE ([]) w0] = [boxE g0 [.pointer A0_0, .int .i64 p0_1, .int .i64 p0_2, .int .i64 p0_3, .slice A0_4 p0_4.length c0_4, .slice A0_5 p0_5.length c0_5, .int .u8 p0_6, .slice A0_7 l29.length c0_7, .slice A0_8 p0_8.length c0_8] 84, rowE .u8 5 A0_7 c0_7 l29, rowE .u8 26 A0_8 c0_8 p0_8, poolE ([]) w0] by rw [show p0_7.length = l29.length from (setx_len hx30).symm]) ▸ hS28
 refine gx_thenN ?_
 refine hK2 _ _ ?_
 refine gx_seq (fun K32 hK33 => ?_)
 refine gx_region ?_
 refine gx_k (.pointer (some ⟨g0, 0, none⟩)) w27 (gx_k (.pointer (some ⟨g0, 0, none⟩)) w27 (gx_k (.pointer (some ⟨g0, 0, none⟩)) w27 (gx_k (.pointer (some ⟨g0, 0, none⟩)) w27 ?_)))
 refine gx_v (.pointer A0_0) w27 (run_load1 rfl (by kernel_rfl) (fun _ => by kernel_rfl) (hS31.box 0 rfl 0 rfl)) ?_
 obtain ⟨⟨⟨x35, x36, b37⟩, r34⟩, h38, hF⟩ := bind_in hF
 try dsimp only at hF
 obtain ⟨g39, A40, e41, hA42, hb43, h44, hf45⟩ := ch_open hv0_0 h38
 obtain ⟨e46, e47, rfl, h48, h49⟩ := h44
 obtain rfl := h48
 obtain ⟨e50, e51, rfl, h52, h53⟩ := h49
 obtain rfl := h52
 obtain rfl := h53
 have hb43 : (fBlk 100 g39 [.pointer A40, .int .u8 x35, .int .u8 x36, .bool b37]).rd w0 ft0_0 := hb43
 refine gx_v (.pointer (some ⟨g39, 0, none⟩)) w27 (run_nilck rfl (by kernel_rfl) hA42) ?_
 refine gx_k (.pointer (some ⟨g39, 2, none⟩)) w27 ?_
 refine gx_v (.int .u8 x36) w27 (run_blk (off := 2) rfl (by kernel_rfl) (fun _ => by kernel_rfl) (hS31.inn ho0_0 hb43) rfl) ?_
 rcases if_in hF with ⟨h54, hF⟩ | ⟨h54, hF⟩
 ·refine gx_v (.bool true) w27 (run_boolE (ne_yes h54) (by kernel_rfl)) ?_
  refine gx_nil ?_
  refine gx_thenN ?_
  refine hK33 _ _ ?_
  refine gx_yes (by kernel_rfl) ?_
  refine gd_start (fun w => St (foots [boxE g0 [.pointer A0_0, .int .i64 p0_1, .int .i64 p0_2, .int .i64 p0_3, .slice A0_4 p0_4.length c0_4, .slice A0_5 p0_5.length c0_5, .int .u8 p0_6, .slice A0_7 p0_7.length c0_7, .slice A0_8 p0_8.length c0_8] 84, rowE .u8 5 A0_7 c0_7 p0_7, rowE .u8 26 A0_8 c0_8 p0_8]) w0 w [boxE g0 [.pointer A0_0, .int .i64 p0_1, .int .i64 p0_2, .int .i64 p0_3, .slice A0_4 p0_4.length c0_4, .slice A0_5 p0_5.length c0_5, .int .u8 p0_6, .slice A0_7 l29.length c0_7, .slice A0_8 p0_8.length c0_8] 84, rowE .u8 5 A0_7 c0_7 l29, poolE ([]) w0]) 15 #[false, false, false, false, false, false, false, false, false, false, false, false, false, false, false] (by kernel_rfl) (by kernel_rfl) ?_
  have hS56 := hS31.drew
  generalize w27.drew = w55 at hS56 ⊢
  refine gd1 0 { dst := some 27, op := _, type := _, pos := _, after := _, guard := _ } (.pointer (some ⟨g0, 0, none⟩)) rfl (hS56.pick [0, 1, 3] rfl rfl) (fun w hSw => by kernel_rfl) ?_
  refine gd1 1 { dst := some 28, op := _, type := _, pos := _, after := _, guard := _ } (.pointer (some ⟨g0, 0, none⟩)) rfl (hS56.pick [0, 1, 3] rfl rfl) (fun w hSw => by kernel_rfl) ?_
  refine gd1 2 { dst := some 29, op := _, type := _, pos := _, after := _, guard := _ } (.pointer (some ⟨g0, 8, none⟩)) rfl (hS56.pick [0, 1, 3] rfl rfl) (fun w hSw => by kernel_rfl) ?_
  refine gd1 3 { dst := some 30, op := _, type := _, pos := _, after := _, guard := _ } (.slice A0_8 p0_8.length c0_8) rfl (hS56.pick [0, 1, 3] rfl rfl) (fun w hSw => run_load1 rfl (by kernel_rfl) (fun _ => by kernel_rfl) (hSw.box 0 rfl 8 rfl)) ?_
  refine gd1 4 { dst := some 31, op := _, type := _, pos := _, after := _, guard := _ } (.int .i64 p1) rfl (hS56.pick [0, 1, 3] rfl rfl) (fun w hSw => by kernel_rfl) ?_
  refine gd1 5 { dst := some 32, op := _, type := _, pos := _, after := _, guard := _ } (.pointer (some ⟨g0, 0, none⟩)) rfl (hS56.pick [0, 1, 3] rfl rfl) (fun w hSw => by kernel_rfl) ?_
  refine gd1 6 { dst := some 33, op := _, type := _, pos := _, after := _, guard := _ } (.pointer (some ⟨g0, 0, none⟩)) rfl (hS56.pick [0, 1, 3] rfl rfl) (fun w hSw => by kernel_rfl) ?_
  refine gd1 7 { dst := some 34, op := _, type := _, pos := _, after := _, guard := _ } (.pointer (some ⟨g0, 0, none⟩)) rfl (hS56.pick [0, 1, 3] rfl rfl) (fun w hSw => by kernel_rfl) ?_
  refine gd1 8 { dst := some 35, op := _, type := _, pos := _, after := _, guard := _ } (.pointer (some ⟨g0, 0, none⟩)) rfl (hS56.pick [0, 1, 3] rfl rfl) (fun w hSw => by kernel_rfl) ?_
  refine gd1 9 { dst := some 36, op := _, type := _, pos := _, after := _, guard := _ } (.pointer A0_0) rfl (hS56.pick [0, 1, 3] rfl rfl) (fun w hSw => run_load1 rfl (by kernel_rfl) (fun _ => by kernel_rfl) (hSw.box 0 rfl 0 rfl)) ?_
  obtain ⟨⟨⟨x58, x59, b60⟩, r57⟩, h61, hF⟩ := bind_in hF
  try dsimp only at hF
  obtain ⟨g62, A63, e64, hA65, hb66, h67, hf68⟩ := ch_open hv0_0 h61
  obtain ⟨e69, e70, rfl, h71, h72⟩ := h67
  obtain rfl := h71
  obtain ⟨e73, e74, rfl, h75, h76⟩ := h72
  obtain rfl := h75
  obtain rfl := h76
  have hb66 : (fBlk 100 g62 [.pointer A63, .int .u8 x58, .int .u8 x59, .bool b60]).rd w0 ft0_0 := hb66
  refine gd1 10 { dst := some 37, op := _, type := _, pos := _, after := _, guard := _ } (.pointer (some ⟨g62, 0, none⟩)) rfl (hS56.pick [0, 1, 3] rfl rfl) (fun w hSw => run_nilck rfl (by kernel_rfl) hA65) ?_
  refine gd1 11 { dst := some 38, op := _, type := _, pos := _, after := _, guard := _ } (.pointer (some ⟨g62, 2, none⟩)) rfl (hS56.pick [0, 1, 3] rfl rfl) (fun w hSw => by kernel_rfl) ?_
  refine gd1 12 { dst := some 39, op := _, type := _, pos := _, after := _, guard := _ } (.int .u8 x59) rfl (hS56.pick [0, 1, 3] rfl rfl) (fun w hSw => run_blk (off := 2) rfl (by kernel_rfl) (fun _ => by kernel_rfl) (hSw.inn ho0_0 hb66) rfl) ?_
  obtain ⟨x77, hx78, hF⟩ := bind_in hF
  refine gd1 13 { dst := some 40, op := _, type := _, pos := _, after := _, guard := _ } (.pointer (Option.map (fun (p : Addr) => p.add (Int.toNat p1 * 1)) A0_8)) rfl (hS56.pick [0, 1, 3] rfl rfl) (fun w hSw => run_ixaddr (E := 26) (s := 1) (k := .i64) (c := c0_8) rfl (by kernel_rfl) (by kernel_rfl) (by kernel_rfl) (fun _ => by kernel_rfl) (ix_in hx78).1 (ix_in hx78).2.1 (num_nil (hS56.row 2 rfl).1)) ?_
  obtain ⟨l81, hx82, hF⟩ := bind_in hF
  refine gdS 14 { dst := none, op := _, type := _, pos := _, after := _, guard := _ } rfl (st_storeix rfl (by kernel_rfl) (by kernel_rfl) (fun _ => by kernel_rfl) hS56 2 rfl hx82) ?_
  rintro w79 hS80
  have hS80 : St _ _ w79 [boxE g0 [.pointer A0_0, .int .i64 p0_1, .int .i64 p0_2, .int .i64 p0_3, .slice A0_4 p0_4.length c0_4, .slice A0_5 p0_5.length c0_5, .int .u8 p0_6, .slice A0_7 l29.length c0_7, .slice A0_8 p0_8.length c0_8] 84, rowE .u8 5 A0_7 c0_7 l29, rowE .u8 26 A0_8 c0_8 l81, poolE ([]) w0] := hS80
  refine ⟨(hS80.pick [0, 1, 3] rfl rfl), ?_⟩
  refine gd_done (by kernel_rfl) ?_
  have hS83 : St _ _ w79 [boxE g0 [.pointer A0_0, .int .i64 p0_1, .int .i64 p0_2, .int .i64 p0_3, .slice A0_4 p0_4.length c0_4, .slice A0_5 p0_5.length c0_5, .int .u8 p0_6, .slice A0_7 l29.length c0_7, .slice A0_8 l81.length c0_8] 84, rowE .u8 5 A0_7 c0_7 l29, rowE .u8 26 A0_8 c0_8 l81, poolE ([]) w0] := (show [boxE g0 [.pointer A0_0, .int .i64 p0_1, .int .i64 p0_2, .int .i64 p0_3, .slice A0_4 p0_4.length c0_4, .slice A0_5 p0_5.length c0_5, .int .u8 p0_6, .slice A0_7 l29.length c0_7, .slice A0_8 p0_8.length c0_8] 84, rowE .u8 5 A0_7 c0_7 l29, rowE .u8 26 A0_8 c0_8 l81, poolE ([]) w0] = [boxE g0 [.pointer A0_0, .int .i64 p0_1, .int .i64 p0_2, .int .i64 p0_3, .slice A0_4 p0_4.length c0_4, .slice A0_5 p0_5.length c0_5, .int .u8 p0_6, .slice A0_7 l29.length c0_7, .slice A0_8 l81.length c0_8] 84, rowE .u8 5 A0_7 c0_7 l29, rowE .u8 26 A0_8 c0_8 l81, poolE ([]) w0] by rw [show p0_8.length = l81.length from (setx_len hx82).symm]) ▸ hS80
  obtain rfl := Option.some.inj hF
  exact gx_finN (.tuple #[]) (by kernel_rfl) (by kernel_rfl) ⟨_, rfl, A0_7, c0_7, A0_8, c0_8, rfl, (hS83.pick [0, 1, 2] rfl rfl)⟩
 ·refine gx_v (.bool false) w27 (run_boolE (ne_no h54) (by kernel_rfl)) ?_
  refine gx_nil ?_
  refine gx_thenN ?_
  refine hK33 _ _ ?_
  refine gx_no (by kernel_rfl) ?_
  refine gx_pass ?_
  obtain rfl := Option.some.inj hF
  exact gx_finN (.tuple #[]) (by kernel_rfl) (by kernel_rfl) ⟨_, rfl, A0_7, c0_7, A0_8, c0_8, rfl, (hS31.pick [0, 1, 2] rfl rfl)⟩

def pRemove (_N : Nat) (_p0_0 : List (Int × Int × Bool)) (_p0_1 : Int) (_p0_2 : Int) (_p0_3 : Int) (_p0_4 : List Int) (_p0_5 : List Int) (p0_6 : Int) (p0_7 : List Int) (p0_8 : List Int) (p1 : Int) : Option (List Int × List Int) :=
 ((ix p0_8 p1).bind fun _x5 => ((setx p0_8 p1 10).bind fun l9 => ((ix p0_7 p1).bind fun _x11 => ((setx p0_7 p1 p0_6).bind fun l15 => (if p1 > 0 then ((ix l15 (IntKind.i64.wrap (p1 - 1))).bind fun x24 => ((ix l15 p1).bind fun _x26 => ((setx l15 p1 x24).bind fun l30 => some (l30, l9)))) else some (l15, l9))))))

set_option linter.unusedVariables false in
def pRemove_R (p0_0 : List (Int × Int × Bool)) (p0_1 : Int) (p0_2 : Int) (p0_3 : Int) (p0_4 : List Int) (p0_5 : List Int) (p0_6 : Int) (p0_7 : List Int) (p0_8 : List Int) (p1 : Int) (g0 : Nat) (A0_0 : Option Addr) (ft0_0 : List Nat) (A0_4 : Option Addr) (c0_4 : Nat) (A0_5 : Option Addr) (c0_5 : Nat) (A0_7 : Option Addr) (c0_7 : Nat) (A0_8 : Option Addr) (c0_8 : Nat) (r : List Int × List Int) (w0 : World) (v : Value) (w : World) : Prop := ∃ (Al0_7' : Option Addr) (cl0_7' : Nat) (Al0_8' : Option Addr) (cl0_8' : Nat), v = .tuple #[] ∧ St (foots [boxE g0 [.pointer A0_0, .int .i64 p0_1, .int .i64 p0_2, .int .i64 p0_3, .slice A0_4 p0_4.length c0_4, .slice A0_5 p0_5.length c0_5, .int .u8 p0_6, .slice A0_7 p0_7.length c0_7, .slice A0_8 p0_8.length c0_8] 84, rowE .u8 5 A0_7 c0_7 p0_7, rowE .u8 26 A0_8 c0_8 p0_8]) w0 w [boxE g0 [.pointer A0_0, .int .i64 p0_1, .int .i64 p0_2, .int .i64 p0_3, .slice A0_4 p0_4.length c0_4, .slice A0_5 p0_5.length c0_5, .int .u8 p0_6, .slice Al0_7' r.1.length cl0_7', .slice Al0_8' r.2.length cl0_8'] 84, rowE .u8 5 Al0_7' cl0_7' r.1, rowE .u8 26 Al0_8' cl0_8' r.2]

set_option maxRecDepth 100000 in
set_option maxHeartbeats 4000000 in
theorem pRemove_ok (N : Nat) (p0_0 : List (Int × Int × Bool)) (p0_1 : Int) (p0_2 : Int) (p0_3 : Int) (p0_4 : List Int) (p0_5 : List Int) (p0_6 : Int) (p0_7 : List Int) (p0_8 : List Int) (p1 : Int) (g0 : Nat) (A0_0 : Option Addr) (ft0_0 : List Nat) (A0_4 : Option Addr) (c0_4 : Nat) (A0_5 : Option Addr) (c0_5 : Nat) (A0_7 : Option Addr) (c0_7 : Nat) (A0_8 : Option Addr) (c0_8 : Nat) (r : List Int × List Int) (hF : pRemove N p0_0 p0_1 p0_2 p0_3 p0_4 p0_5 p0_6 p0_7 p0_8 p1 = some r) (w0 : World) (_hv0_0 : (fCh 100 entembedentry A0_0 p0_0).rd w0 ft0_0) (_ho0_0 : Off (foots [boxE g0 [.pointer A0_0, .int .i64 p0_1, .int .i64 p0_2, .int .i64 p0_3, .slice A0_4 p0_4.length c0_4, .slice A0_5 p0_5.length c0_5, .int .u8 p0_6, .slice A0_7 p0_7.length c0_7, .slice A0_8 p0_8.length c0_8] 84, rowE .u8 5 A0_7 c0_7 p0_7, rowE .u8 26 A0_8 c0_8 p0_8]) w0 ft0_0) (_hv0_4 : Vw (foots [boxE g0 [.pointer A0_0, .int .i64 p0_1, .int .i64 p0_2, .int .i64 p0_3, .slice A0_4 p0_4.length c0_4, .slice A0_5 p0_5.length c0_5, .int .u8 p0_6, .slice A0_7 p0_7.length c0_7, .slice A0_8 p0_8.length c0_8] 84, rowE .u8 5 A0_7 c0_7 p0_7, rowE .u8 26 A0_8 c0_8 p0_8]) .u8 w0 A0_4 c0_4 p0_4) (_hv0_5 : Vw (foots [boxE g0 [.pointer A0_0, .int .i64 p0_1, .int .i64 p0_2, .int .i64 p0_3, .slice A0_4 p0_4.length c0_4, .slice A0_5 p0_5.length c0_5, .int .u8 p0_6, .slice A0_7 p0_7.length c0_7, .slice A0_8 p0_8.length c0_8] 84, rowE .u8 5 A0_7 c0_7 p0_7, rowE .u8 26 A0_8 c0_8 p0_8]) .i64 w0 A0_5 c0_5 p0_5) (hl : St (foots [boxE g0 [.pointer A0_0, .int .i64 p0_1, .int .i64 p0_2, .int .i64 p0_3, .slice A0_4 p0_4.length c0_4, .slice A0_5 p0_5.length c0_5, .int .u8 p0_6, .slice A0_7 p0_7.length c0_7, .slice A0_8 p0_8.length c0_8] 84, rowE .u8 5 A0_7 c0_7 p0_7, rowE .u8 26 A0_8 c0_8 p0_8]) w0 w0 [boxE g0 [.pointer A0_0, .int .i64 p0_1, .int .i64 p0_2, .int .i64 p0_3, .slice A0_4 p0_4.length c0_4, .slice A0_5 p0_5.length c0_5, .int .u8 p0_6, .slice A0_7 p0_7.length c0_7, .slice A0_8 p0_8.length c0_8] 84, rowE .u8 5 A0_7 c0_7 p0_7, rowE .u8 26 A0_8 c0_8 p0_8]) :
  Calls Try.prog 59 #[.pointer (some ⟨g0, 0, none⟩), .int .i64 p1] w0 fun e w => ∃ v, e = .returned v ∧ pRemove_R p0_0 p0_1 p0_2 p0_3 p0_4 p0_5 p0_6 p0_7 p0_8 p1 g0 A0_0 ft0_0 A0_4 c0_4 A0_5 c0_5 A0_7 c0_7 A0_8 c0_8 r w0 v w := by
 have hS0 := (hl).pool0
 unfold pRemove at hF
 refine calls_of Try.func59 rfl ⟨((.pointer (some ⟨g0, 0, none⟩)) :: (.int .i64 p1) :: un 34 ([])).toArray, []⟩ (by kernel_rfl) ?_
 refine gx_seq (fun K1 hK2 => ?_)
 refine gd_start (fun w => St (foots [boxE g0 [.pointer A0_0, .int .i64 p0_1, .int .i64 p0_2, .int .i64 p0_3, .slice A0_4 p0_4.length c0_4, .slice A0_5 p0_5.length c0_5, .int .u8 p0_6, .slice A0_7 p0_7.length c0_7, .slice A0_8 p0_8.length c0_8] 84, rowE .u8 5 A0_7 c0_7 p0_7, rowE .u8 26 A0_8 c0_8 p0_8]) w0 w [boxE g0 [.pointer A0_0, .int .i64 p0_1, .int .i64 p0_2, .int .i64 p0_3, .slice A0_4 p0_4.length c0_4, .slice A0_5 p0_5.length c0_5, .int .u8 p0_6, .slice A0_7 p0_7.length c0_7, .slice A0_8 p0_8.length c0_8] 84, poolE ([]) w0]) 18 #[false, false, false, false, false, false, false, false, false, false, false, false, false, false, false, false, false, false] (by kernel_rfl) (by kernel_rfl) ?_
 have hS4 := hS0.drew
 generalize w0.drew = w3 at hS4 ⊢
 refine gd1 0 { dst := some 4, op := _, type := _, pos := _, after := _, guard := _ } (.pointer (some ⟨g0, 0, none⟩)) rfl (hS4.pick [0, 3] rfl rfl) (fun w hSw => by kernel_rfl) ?_
 refine gd1 1 { dst := some 5, op := _, type := _, pos := _, after := _, guard := _ } (.pointer (some ⟨g0, 0, none⟩)) rfl (hS4.pick [0, 3] rfl rfl) (fun w hSw => by kernel_rfl) ?_
 refine gd1 2 { dst := some 6, op := _, type := _, pos := _, after := _, guard := _ } (.pointer (some ⟨g0, 8, none⟩)) rfl (hS4.pick [0, 3] rfl rfl) (fun w hSw => by kernel_rfl) ?_
 refine gd1 3 { dst := some 7, op := _, type := _, pos := _, after := _, guard := _ } (.slice A0_8 p0_8.length c0_8) rfl (hS4.pick [0, 3] rfl rfl) (fun w hSw => run_load1 rfl (by kernel_rfl) (fun _ => by kernel_rfl) (hSw.box 0 rfl 8 rfl)) ?_
 refine gd1 4 { dst := some 8, op := _, type := _, pos := _, after := _, guard := _ } (.int .i64 p1) rfl (hS4.pick [0, 3] rfl rfl) (fun w hSw => by kernel_rfl) ?_
 refine gd1 5 { dst := some 9, op := _, type := _, pos := _, after := _, guard := _ } (.pointer (some ⟨g0, 0, none⟩)) rfl (hS4.pick [0, 3] rfl rfl) (fun w hSw => by kernel_rfl) ?_
 refine gd1 6 { dst := some 10, op := _, type := _, pos := _, after := _, guard := _ } (.pointer (some ⟨g0, 0, none⟩)) rfl (hS4.pick [0, 3] rfl rfl) (fun w hSw => by kernel_rfl) ?_
 refine gd1 7 { dst := some 11, op := _, type := _, pos := _, after := _, guard := _ } (.pointer (some ⟨g0, 7, none⟩)) rfl (hS4.pick [0, 3] rfl rfl) (fun w hSw => by kernel_rfl) ?_
 refine gd1 8 { dst := some 12, op := _, type := _, pos := _, after := _, guard := _ } (.slice A0_7 p0_7.length c0_7) rfl (hS4.pick [0, 3] rfl rfl) (fun w hSw => run_load1 rfl (by kernel_rfl) (fun _ => by kernel_rfl) (hSw.box 0 rfl 7 rfl)) ?_
 refine gd1 9 { dst := some 13, op := _, type := _, pos := _, after := _, guard := _ } (.int .i64 p1) rfl (hS4.pick [0, 3] rfl rfl) (fun w hSw => by kernel_rfl) ?_
 refine gd1 10 { dst := some 14, op := _, type := _, pos := _, after := _, guard := _ } (.pointer (some ⟨g0, 0, none⟩)) rfl (hS4.pick [0, 3] rfl rfl) (fun w hSw => by kernel_rfl) ?_
 refine gd1 11 { dst := some 15, op := _, type := _, pos := _, after := _, guard := _ } (.pointer (some ⟨g0, 0, none⟩)) rfl (hS4.pick [0, 3] rfl rfl) (fun w hSw => by kernel_rfl) ?_
 refine gd1 12 { dst := some 16, op := _, type := _, pos := _, after := _, guard := _ } (.pointer (some ⟨g0, 6, none⟩)) rfl (hS4.pick [0, 3] rfl rfl) (fun w hSw => by kernel_rfl) ?_
 refine gd1 13 { dst := some 17, op := _, type := _, pos := _, after := _, guard := _ } (.int .u8 p0_6) rfl (hS4.pick [0, 3] rfl rfl) (fun w hSw => run_load1 rfl (by kernel_rfl) (fun _ => by kernel_rfl) (hSw.box 0 rfl 6 rfl)) ?_
 obtain ⟨x5, hx6, hF⟩ := bind_in hF
 refine gd1 14 { dst := some 18, op := _, type := _, pos := _, after := _, guard := _ } (.pointer (Option.map (fun (p : Addr) => p.add (Int.toNat p1 * 1)) A0_8)) rfl (hS4.pick [0, 3] rfl rfl) (fun w hSw => run_ixaddr (E := 26) (s := 1) (k := .i64) (c := c0_8) rfl (by kernel_rfl) (by kernel_rfl) (by kernel_rfl) (fun _ => by kernel_rfl) (ix_in hx6).1 (ix_in hx6).2.1 (num_nil (hS4.row 2 rfl).1)) ?_
 obtain ⟨l9, hx10, hF⟩ := bind_in hF
 refine gdS 15 { dst := none, op := _, type := _, pos := _, after := _, guard := _ } rfl (st_storeix rfl (by kernel_rfl) (by kernel_rfl) (fun _ => by kernel_rfl) hS4 2 rfl hx10) ?_
 rintro w7 hS8
 have hS8 : St _ _ w7 [boxE g0 [.pointer A0_0, .int .i64 p0_1, .int .i64 p0_2, .int .i64 p0_3, .slice A0_4 p0_4.length c0_4, .slice A0_5 p0_5.length c0_5, .int .u8 p0_6, .slice A0_7 p0_7.length c0_7, .slice A0_8 p0_8.length c0_8] 84, rowE .u8 5 A0_7 c0_7 p0_7, rowE .u8 26 A0_8 c0_8 l9, poolE ([]) w0] := hS8
 refine ⟨(hS8.pick [0, 3] rfl rfl), ?_⟩
 obtain ⟨x11, hx12, hF⟩ := bind_in hF
 refine gd1 16 { dst := some 19, op := _, type := _, pos := _, after := _, guard := _ } (.pointer (Option.map (fun (p : Addr) => p.add (Int.toNat p1 * 1)) A0_7)) rfl (hS8.pick [0, 3] rfl rfl) (fun w hSw => run_ixaddr (E := 5) (s := 1) (k := .i64) (c := c0_7) rfl (by kernel_rfl) (by kernel_rfl) (by kernel_rfl) (fun _ => by kernel_rfl) (ix_in hx12).1 (ix_in hx12).2.1 (num_nil (hS8.row 1 rfl).1)) ?_
 obtain ⟨l15, hx16, hF⟩ := bind_in hF
 refine gdS 17 { dst := none, op := _, type := _, pos := _, after := _, guard := _ } rfl (st_storeix rfl (by kernel_rfl) (by kernel_rfl) (fun _ => by kernel_rfl) hS8 1 rfl hx16) ?_
 rintro w13 hS14
 have hS14 : St _ _ w13 [boxE g0 [.pointer A0_0, .int .i64 p0_1, .int .i64 p0_2, .int .i64 p0_3, .slice A0_4 p0_4.length c0_4, .slice A0_5 p0_5.length c0_5, .int .u8 p0_6, .slice A0_7 p0_7.length c0_7, .slice A0_8 p0_8.length c0_8] 84, rowE .u8 5 A0_7 c0_7 l15, rowE .u8 26 A0_8 c0_8 l9, poolE ([]) w0] := hS14
 refine ⟨(hS14.pick [0, 3] rfl rfl), ?_⟩
 refine gd_done (by kernel_rfl) ?_
 have hS17 : St _ _ w13 [boxE g0 [.pointer A0_0, .int .i64 p0_1, .int .i64 p0_2, .int .i64 p0_3, .slice A0_4 p0_4.length c0_4, .slice A0_5 p0_5.length c0_5, .int .u8 p0_6, .slice A0_7 l15.length c0_7, .slice A0_8 p0_8.length c0_8] 84, rowE .u8 5 A0_7 c0_7 l15, rowE .u8 26 A0_8 c0_8 l9, poolE ([]) w0] := (show [boxE g0 [.pointer A0_0, .int .i64 p0_1, .int .i64 p0_2, .int .i64 p0_3, .slice A0_4 p0_4.length c0_4, .slice A0_5 p0_5.length c0_5, .int .u8 p0_6, .slice A0_7 p0_7.length c0_7, .slice A0_8 p0_8.length c0_8] 84, rowE .u8 5 A0_7 c0_7 l15, rowE .u8 26 A0_8 c0_8 l9, poolE ([]) w0] = [boxE g0 [.pointer A0_0, .int .i64 p0_1, .int .i64 p0_2, .int .i64 p0_3, .slice A0_4 p0_4.length c0_4, .slice A0_5 p0_5.length c0_5, .int .u8 p0_6, .slice A0_7 l15.length c0_7, .slice A0_8 p0_8.length c0_8] 84, rowE .u8 5 A0_7 c0_7 l15, rowE .u8 26 A0_8 c0_8 l9, poolE ([]) w0] by rw [show p0_7.length = l15.length from (setx_len hx16).symm]) ▸ hS14
 have hS18 : St _ _ w13 [boxE g0 [.pointer A0_0, .int .i64 p0_1, .int .i64 p0_2, .int .i64 p0_3, .slice A0_4 p0_4.length c0_4, .slice A0_5 p0_5.length c0_5, .int .u8 p0_6, .slice A0_7 l15.length c0_7, .slice A0_8 l9.length c0_8] 84, rowE .u8 5 A0_7 c0_7 l15, rowE .u8 26 A0_8 c0_8 l9, poolE ([]) w0] := (show [boxE g0 [.pointer A0_0, .int .i64 p0_1, .int .i64 p0_2, .int .i64 p0_3, .slice A0_4 p0_4.length c0_4, .slice A0_5 p0_5.length c0_5, .int .u8 p0_6, .slice A0_7 l15.length c0_7, .slice A0_8 p0_8.length c0_8] 84, rowE .u8 5 A0_7 c0_7 l15, rowE .u8 26 A0_8 c0_8 l9, poolE ([]) w0] = [boxE g0 [.pointer A0_0, .int .i64 p0_1, .int .i64 p0_2, .int .i64 p0_3, .slice A0_4 p0_4.length c0_4, .slice A0_5 p0_5.length c0_5, .int .u8 p0_6, .slice A0_7 l15.length c0_7, .slice A0_8 l9.length c0_8] 84, rowE .u8 5 A0_7 c0_7 l15, rowE .u8 26 A0_8 c0_8 l9, poolE ([]) w0] by rw [show p0_8.length = l9.length from (setx_len hx10).symm]) ▸ hS17
 refine gx_thenN ?_
 refine hK2 _ _ ?_
 refine gx_seq (fun K19 hK20 => ?_)
 refine gx_region ?_
 refine gx_k (.int .i64 p1) w13 ?_
 rcases if_in hF with ⟨h21, hF⟩ | ⟨h21, hF⟩
 ·refine gx_v (.bool true) w13 (run_boolE (decide_eq_true h21) (by kernel_rfl)) ?_
  refine gx_nil ?_
  refine gx_thenN ?_
  refine hK20 _ _ ?_
  refine gx_yes (by kernel_rfl) ?_
  refine gd_start (fun w => St (foots [boxE g0 [.pointer A0_0, .int .i64 p0_1, .int .i64 p0_2, .int .i64 p0_3, .slice A0_4 p0_4.length c0_4, .slice A0_5 p0_5.length c0_5, .int .u8 p0_6, .slice A0_7 p0_7.length c0_7, .slice A0_8 p0_8.length c0_8] 84, rowE .u8 5 A0_7 c0_7 p0_7, rowE .u8 26 A0_8 c0_8 p0_8]) w0 w [boxE g0 [.pointer A0_0, .int .i64 p0_1, .int .i64 p0_2, .int .i64 p0_3, .slice A0_4 p0_4.length c0_4, .slice A0_5 p0_5.length c0_5, .int .u8 p0_6, .slice A0_7 l15.length c0_7, .slice A0_8 l9.length c0_8] 84, rowE .u8 26 A0_8 c0_8 l9, poolE ([]) w0]) 15 #[false, false, false, false, false, false, false, false, false, false, false, false, false, false, false] (by kernel_rfl) (by kernel_rfl) ?_
  have hS23 := hS18.drew
  generalize w13.drew = w22 at hS23 ⊢
  refine gd1 0 { dst := some 22, op := _, type := _, pos := _, after := _, guard := _ } (.pointer (some ⟨g0, 0, none⟩)) rfl (hS23.pick [0, 2, 3] rfl rfl) (fun w hSw => by kernel_rfl) ?_
  refine gd1 1 { dst := some 23, op := _, type := _, pos := _, after := _, guard := _ } (.pointer (some ⟨g0, 0, none⟩)) rfl (hS23.pick [0, 2, 3] rfl rfl) (fun w hSw => by kernel_rfl) ?_
  refine gd1 2 { dst := some 24, op := _, type := _, pos := _, after := _, guard := _ } (.pointer (some ⟨g0, 7, none⟩)) rfl (hS23.pick [0, 2, 3] rfl rfl) (fun w hSw => by kernel_rfl) ?_
  refine gd1 3 { dst := some 25, op := _, type := _, pos := _, after := _, guard := _ } (.slice A0_7 l15.length c0_7) rfl (hS23.pick [0, 2, 3] rfl rfl) (fun w hSw => run_load1 rfl (by kernel_rfl) (fun _ => by kernel_rfl) (hSw.box 0 rfl 7 rfl)) ?_
  refine gd1 4 { dst := some 26, op := _, type := _, pos := _, after := _, guard := _ } (.int .i64 p1) rfl (hS23.pick [0, 2, 3] rfl rfl) (fun w hSw => by kernel_rfl) ?_
  refine gd1 5 { dst := some 27, op := _, type := _, pos := _, after := _, guard := _ } (.pointer (some ⟨g0, 0, none⟩)) rfl (hS23.pick [0, 2, 3] rfl rfl) (fun w hSw => by kernel_rfl) ?_
  refine gd1 6 { dst := some 28, op := _, type := _, pos := _, after := _, guard := _ } (.pointer (some ⟨g0, 0, none⟩)) rfl (hS23.pick [0, 2, 3] rfl rfl) (fun w hSw => by kernel_rfl) ?_
  refine gd1 7 { dst := some 29, op := _, type := _, pos := _, after := _, guard := _ } (.pointer (some ⟨g0, 7, none⟩)) rfl (hS23.pick [0, 2, 3] rfl rfl) (fun w hSw => by kernel_rfl) ?_
  refine gd1 8 { dst := some 30, op := _, type := _, pos := _, after := _, guard := _ } (.slice A0_7 l15.length c0_7) rfl (hS23.pick [0, 2, 3] rfl rfl) (fun w hSw => run_load1 rfl (by kernel_rfl) (fun _ => by kernel_rfl) (hSw.box 0 rfl 7 rfl)) ?_
  refine gd1 9 { dst := some 31, op := _, type := _, pos := _, after := _, guard := _ } (.int .i64 p1) rfl (hS23.pick [0, 2, 3] rfl rfl) (fun w hSw => by kernel_rfl) ?_
  refine gd1 10 { dst := some 32, op := _, type := _, pos := _, after := _, guard := _ } (.int .i64 (IntKind.i64.wrap (p1 - 1))) rfl (hS23.pick [0, 2, 3] rfl rfl) (fun w hSw => by kernel_rfl) ?_
  obtain ⟨x24, hx25, hF⟩ := bind_in hF
  refine gd1 11 { dst := some 33, op := _, type := _, pos := _, after := _, guard := _ } (.pointer (Option.map (fun (p : Addr) => p.add (Int.toNat (IntKind.i64.wrap (p1 - 1)) * 1)) A0_7)) rfl (hS23.pick [0, 2, 3] rfl rfl) (fun w hSw => run_ixaddr (E := 5) (s := 1) (k := .i64) (c := c0_7) rfl (by kernel_rfl) (by kernel_rfl) (by kernel_rfl) (fun _ => by kernel_rfl) (ix_in hx25).1 (ix_in hx25).2.1 (num_nil (hS23.row 1 rfl).1)) ?_
  refine gdR 12 { dst := some 34, op := _, type := _, pos := _, after := _, guard := _ } (R := fun v w => v = .int .u8 x24 ∧ w22 = w) rfl ⟨_, _, run_loadix rfl (by kernel_rfl) (fun _ => by kernel_rfl) (hS23.row 1 rfl).1 hx25, rfl, rfl⟩ ?_
  rintro _ _ ⟨rfl, rfl⟩
  refine ⟨(hS23.pick [0, 2, 3] rfl rfl), ?_⟩
  obtain ⟨x26, hx27, hF⟩ := bind_in hF
  refine gd1 13 { dst := some 35, op := _, type := _, pos := _, after := _, guard := _ } (.pointer (Option.map (fun (p : Addr) => p.add (Int.toNat p1 * 1)) A0_7)) rfl (hS23.pick [0, 2, 3] rfl rfl) (fun w hSw => run_ixaddr (E := 5) (s := 1) (k := .i64) (c := c0_7) rfl (by kernel_rfl) (by kernel_rfl) (by kernel_rfl) (fun _ => by kernel_rfl) (ix_in hx27).1 (ix_in hx27).2.1 (num_nil (hS23.row 1 rfl).1)) ?_
  obtain ⟨l30, hx31, hF⟩ := bind_in hF
  refine gdS 14 { dst := none, op := _, type := _, pos := _, after := _, guard := _ } rfl (st_storeix rfl (by kernel_rfl) (by kernel_rfl) (fun _ => by kernel_rfl) hS23 1 rfl hx31) ?_
  rintro w28 hS29
  have hS29 : St _ _ w28 [boxE g0 [.pointer A0_0, .int .i64 p0_1, .int .i64 p0_2, .int .i64 p0_3, .slice A0_4 p0_4.length c0_4, .slice A0_5 p0_5.length c0_5, .int .u8 p0_6, .slice A0_7 l15.length c0_7, .slice A0_8 l9.length c0_8] 84, rowE .u8 5 A0_7 c0_7 l30, rowE .u8 26 A0_8 c0_8 l9, poolE ([]) w0] := hS29
  refine ⟨(hS29.pick [0, 2, 3] rfl rfl), ?_⟩
  refine gd_done (by kernel_rfl) ?_
  have hS32 : St _ _ w28 [boxE g0 [.pointer A0_0, .int .i64 p0_1, .int .i64 p0_2, .int .i64 p0_3, .slice A0_4 p0_4.length c0_4, .slice A0_5 p0_5.length c0_5, .int .u8 p0_6, .slice A0_7 l30.length c0_7, .slice A0_8 l9.length c0_8] 84, rowE .u8 5 A0_7 c0_7 l30, rowE .u8 26 A0_8 c0_8 l9, poolE ([]) w0] := (show [boxE g0 [.pointer A0_0, .int .i64 p0_1, .int .i64 p0_2, .int .i64 p0_3, .slice A0_4 p0_4.length c0_4, .slice A0_5 p0_5.length c0_5, .int .u8 p0_6, .slice A0_7 l15.length c0_7, .slice A0_8 l9.length c0_8] 84, rowE .u8 5 A0_7 c0_7 l30, rowE .u8 26 A0_8 c0_8 l9, poolE ([]) w0] = [boxE g0 [.pointer A0_0, .int .i64 p0_1, .int .i64 p0_2, .int .i64 p0_3, .slice A0_4 p0_4.length c0_4, .slice A0_5 p0_5.length c0_5, .int .u8 p0_6, .slice A0_7 l30.length c0_7, .slice A0_8 l9.length c0_8] 84, rowE .u8 5 A0_7 c0_7 l30, rowE .u8 26 A0_8 c0_8 l9, poolE ([]) w0] by rw [show l15.length = l30.length from (setx_len hx31).symm]) ▸ hS29
  obtain rfl := Option.some.inj hF
  exact gx_finN (.tuple #[]) (by kernel_rfl) (by kernel_rfl) ⟨_, rfl, A0_7, c0_7, A0_8, c0_8, rfl, (hS32.pick [0, 1, 2] rfl rfl)⟩
 ·refine gx_v (.bool false) w13 (run_boolE (decide_eq_false h21) (by kernel_rfl)) ?_
  refine gx_nil ?_
  refine gx_thenN ?_
  refine hK20 _ _ ?_
  refine gx_no (by kernel_rfl) ?_
  refine gx_pass ?_
  obtain rfl := Option.some.inj hF
  exact gx_finN (.tuple #[]) (by kernel_rfl) (by kernel_rfl) ⟨_, rfl, A0_7, c0_7, A0_8, c0_8, rfl, (hS18.pick [0, 1, 2] rfl rfl)⟩

def pAgain (N : Nat) (_p0_0 : List (Int × Int × Bool)) (_p0_1 : Int) (_p0_2 : Int) (_p0_3 : Int) (_p0_4 : List Int) (_p0_5 : List Int) (p0_6 : Int) (p0_7 : List Int) (_p0_8 : List Int) (p1 : Int) : Option (List (Int × Int × Bool) × Int × Int × Int × List Int) :=
 ((ix p0_7 p1).bind fun _x5 => ((setx p0_7 p1 p0_6).bind fun l9 => ((pStackOf N p0_6).bind fun (l14, x17, x18, x19) => some (l14, x17, x18, x19, l9))))

set_option linter.unusedVariables false in
def pAgain_R (p0_0 : List (Int × Int × Bool)) (p0_1 : Int) (p0_2 : Int) (p0_3 : Int) (p0_4 : List Int) (p0_5 : List Int) (p0_6 : Int) (p0_7 : List Int) (p0_8 : List Int) (p1 : Int) (g0 : Nat) (A0_0 : Option Addr) (ft0_0 : List Nat) (A0_4 : Option Addr) (c0_4 : Nat) (A0_5 : Option Addr) (c0_5 : Nat) (A0_7 : Option Addr) (c0_7 : Nat) (A0_8 : Option Addr) (c0_8 : Nat) (r : List (Int × Int × Bool) × Int × Int × Int × List Int) (w0 : World) (v : Value) (w : World) : Prop := ∃ (Al0_0' : Option Addr) (Al0_7' : Option Addr) (cl0_7' : Nat) (Al0_8' : Option Addr) (cl0_8' : Nat) (ft' : List Nat), v = .tuple #[] ∧ St (foots [boxE g0 [.pointer A0_0, .int .i64 p0_1, .int .i64 p0_2, .int .i64 p0_3, .slice A0_4 p0_4.length c0_4, .slice A0_5 p0_5.length c0_5, .int .u8 p0_6, .slice A0_7 p0_7.length c0_7, .slice A0_8 p0_8.length c0_8] 84, rowE .u8 5 A0_7 c0_7 p0_7, rowE .u8 26 A0_8 c0_8 p0_8]) w0 w [boxE g0 [.pointer Al0_0', .int .i64 r.2.1, .int .i64 r.2.2.1, .int .i64 r.2.2.2.1, .slice A0_4 p0_4.length c0_4, .slice A0_5 p0_5.length c0_5, .int .u8 p0_6, .slice Al0_7' r.2.2.2.2.length cl0_7', .slice Al0_8' p0_8.length cl0_8'] 84, rowE .u8 5 Al0_7' cl0_7' r.2.2.2.2, rowE .u8 26 Al0_8' cl0_8' p0_8, poolE ft' w] ∧ (fCh 100 entembedentry Al0_0' r.1).rd w (ft' ++ (ft0_0))

set_option maxRecDepth 100000 in
set_option maxHeartbeats 4000000 in
theorem pAgain_ok (N : Nat) (p0_0 : List (Int × Int × Bool)) (p0_1 : Int) (p0_2 : Int) (p0_3 : Int) (p0_4 : List Int) (p0_5 : List Int) (p0_6 : Int) (p0_7 : List Int) (p0_8 : List Int) (p1 : Int) (g0 : Nat) (A0_0 : Option Addr) (ft0_0 : List Nat) (A0_4 : Option Addr) (c0_4 : Nat) (A0_5 : Option Addr) (c0_5 : Nat) (A0_7 : Option Addr) (c0_7 : Nat) (A0_8 : Option Addr) (c0_8 : Nat) (r : List (Int × Int × Bool) × Int × Int × Int × List Int) (hF : pAgain N p0_0 p0_1 p0_2 p0_3 p0_4 p0_5 p0_6 p0_7 p0_8 p1 = some r) (w0 : World) (_hv0_0 : (fCh 100 entembedentry A0_0 p0_0).rd w0 ft0_0) (ho0_0 : Off (foots [boxE g0 [.pointer A0_0, .int .i64 p0_1, .int .i64 p0_2, .int .i64 p0_3, .slice A0_4 p0_4.length c0_4, .slice A0_5 p0_5.length c0_5, .int .u8 p0_6, .slice A0_7 p0_7.length c0_7, .slice A0_8 p0_8.length c0_8] 84, rowE .u8 5 A0_7 c0_7 p0_7, rowE .u8 26 A0_8 c0_8 p0_8]) w0 ft0_0) (_hv0_4 : Vw (foots [boxE g0 [.pointer A0_0, .int .i64 p0_1, .int .i64 p0_2, .int .i64 p0_3, .slice A0_4 p0_4.length c0_4, .slice A0_5 p0_5.length c0_5, .int .u8 p0_6, .slice A0_7 p0_7.length c0_7, .slice A0_8 p0_8.length c0_8] 84, rowE .u8 5 A0_7 c0_7 p0_7, rowE .u8 26 A0_8 c0_8 p0_8]) .u8 w0 A0_4 c0_4 p0_4) (_hv0_5 : Vw (foots [boxE g0 [.pointer A0_0, .int .i64 p0_1, .int .i64 p0_2, .int .i64 p0_3, .slice A0_4 p0_4.length c0_4, .slice A0_5 p0_5.length c0_5, .int .u8 p0_6, .slice A0_7 p0_7.length c0_7, .slice A0_8 p0_8.length c0_8] 84, rowE .u8 5 A0_7 c0_7 p0_7, rowE .u8 26 A0_8 c0_8 p0_8]) .i64 w0 A0_5 c0_5 p0_5) (hl : St (foots [boxE g0 [.pointer A0_0, .int .i64 p0_1, .int .i64 p0_2, .int .i64 p0_3, .slice A0_4 p0_4.length c0_4, .slice A0_5 p0_5.length c0_5, .int .u8 p0_6, .slice A0_7 p0_7.length c0_7, .slice A0_8 p0_8.length c0_8] 84, rowE .u8 5 A0_7 c0_7 p0_7, rowE .u8 26 A0_8 c0_8 p0_8]) w0 w0 [boxE g0 [.pointer A0_0, .int .i64 p0_1, .int .i64 p0_2, .int .i64 p0_3, .slice A0_4 p0_4.length c0_4, .slice A0_5 p0_5.length c0_5, .int .u8 p0_6, .slice A0_7 p0_7.length c0_7, .slice A0_8 p0_8.length c0_8] 84, rowE .u8 5 A0_7 c0_7 p0_7, rowE .u8 26 A0_8 c0_8 p0_8]) :
  Calls Try.prog 60 #[.pointer (some ⟨g0, 0, none⟩), .int .i64 p1] w0 fun e w => ∃ v, e = .returned v ∧ pAgain_R p0_0 p0_1 p0_2 p0_3 p0_4 p0_5 p0_6 p0_7 p0_8 p1 g0 A0_0 ft0_0 A0_4 c0_4 A0_5 c0_5 A0_7 c0_7 A0_8 c0_8 r w0 v w := by
 have hS0 := (hl).pool0
 unfold pAgain at hF
 refine calls_of Try.func60 rfl ⟨((.pointer (some ⟨g0, 0, none⟩)) :: (.int .i64 p1) :: un 20 ([])).toArray, []⟩ (by kernel_rfl) ?_
 refine gx_seq (fun K1 hK2 => ?_)
 refine gd_start (fun w => St (foots [boxE g0 [.pointer A0_0, .int .i64 p0_1, .int .i64 p0_2, .int .i64 p0_3, .slice A0_4 p0_4.length c0_4, .slice A0_5 p0_5.length c0_5, .int .u8 p0_6, .slice A0_7 p0_7.length c0_7, .slice A0_8 p0_8.length c0_8] 84, rowE .u8 5 A0_7 c0_7 p0_7, rowE .u8 26 A0_8 c0_8 p0_8]) w0 w [boxE g0 [.pointer A0_0, .int .i64 p0_1, .int .i64 p0_2, .int .i64 p0_3, .slice A0_4 p0_4.length c0_4, .slice A0_5 p0_5.length c0_5, .int .u8 p0_6, .slice A0_7 p0_7.length c0_7, .slice A0_8 p0_8.length c0_8] 84, rowE .u8 26 A0_8 c0_8 p0_8, poolE ([]) w0]) 11 #[false, false, false, false, false, false, false, false, false, false, false] (by kernel_rfl) (by kernel_rfl) ?_
 have hS4 := hS0.drew
 generalize w0.drew = w3 at hS4 ⊢
 refine gd1 0 { dst := some 4, op := _, type := _, pos := _, after := _, guard := _ } (.pointer (some ⟨g0, 0, none⟩)) rfl (hS4.pick [0, 2, 3] rfl rfl) (fun w hSw => by kernel_rfl) ?_
 refine gd1 1 { dst := some 5, op := _, type := _, pos := _, after := _, guard := _ } (.pointer (some ⟨g0, 0, none⟩)) rfl (hS4.pick [0, 2, 3] rfl rfl) (fun w hSw => by kernel_rfl) ?_
 refine gd1 2 { dst := some 6, op := _, type := _, pos := _, after := _, guard := _ } (.pointer (some ⟨g0, 7, none⟩)) rfl (hS4.pick [0, 2, 3] rfl rfl) (fun w hSw => by kernel_rfl) ?_
 refine gd1 3 { dst := some 7, op := _, type := _, pos := _, after := _, guard := _ } (.slice A0_7 p0_7.length c0_7) rfl (hS4.pick [0, 2, 3] rfl rfl) (fun w hSw => run_load1 rfl (by kernel_rfl) (fun _ => by kernel_rfl) (hSw.box 0 rfl 7 rfl)) ?_
 refine gd1 4 { dst := some 8, op := _, type := _, pos := _, after := _, guard := _ } (.int .i64 p1) rfl (hS4.pick [0, 2, 3] rfl rfl) (fun w hSw => by kernel_rfl) ?_
 refine gd1 5 { dst := some 9, op := _, type := _, pos := _, after := _, guard := _ } (.pointer (some ⟨g0, 0, none⟩)) rfl (hS4.pick [0, 2, 3] rfl rfl) (fun w hSw => by kernel_rfl) ?_
 refine gd1 6 { dst := some 10, op := _, type := _, pos := _, after := _, guard := _ } (.pointer (some ⟨g0, 0, none⟩)) rfl (hS4.pick [0, 2, 3] rfl rfl) (fun w hSw => by kernel_rfl) ?_
 refine gd1 7 { dst := some 11, op := _, type := _, pos := _, after := _, guard := _ } (.pointer (some ⟨g0, 6, none⟩)) rfl (hS4.pick [0, 2, 3] rfl rfl) (fun w hSw => by kernel_rfl) ?_
 refine gd1 8 { dst := some 12, op := _, type := _, pos := _, after := _, guard := _ } (.int .u8 p0_6) rfl (hS4.pick [0, 2, 3] rfl rfl) (fun w hSw => run_load1 rfl (by kernel_rfl) (fun _ => by kernel_rfl) (hSw.box 0 rfl 6 rfl)) ?_
 obtain ⟨x5, hx6, hF⟩ := bind_in hF
 refine gd1 9 { dst := some 13, op := _, type := _, pos := _, after := _, guard := _ } (.pointer (Option.map (fun (p : Addr) => p.add (Int.toNat p1 * 1)) A0_7)) rfl (hS4.pick [0, 2, 3] rfl rfl) (fun w hSw => run_ixaddr (E := 5) (s := 1) (k := .i64) (c := c0_7) rfl (by kernel_rfl) (by kernel_rfl) (by kernel_rfl) (fun _ => by kernel_rfl) (ix_in hx6).1 (ix_in hx6).2.1 (num_nil (hS4.row 1 rfl).1)) ?_
 obtain ⟨l9, hx10, hF⟩ := bind_in hF
 refine gdS 10 { dst := none, op := _, type := _, pos := _, after := _, guard := _ } rfl (st_storeix rfl (by kernel_rfl) (by kernel_rfl) (fun _ => by kernel_rfl) hS4 1 rfl hx10) ?_
 rintro w7 hS8
 have hS8 : St _ _ w7 [boxE g0 [.pointer A0_0, .int .i64 p0_1, .int .i64 p0_2, .int .i64 p0_3, .slice A0_4 p0_4.length c0_4, .slice A0_5 p0_5.length c0_5, .int .u8 p0_6, .slice A0_7 p0_7.length c0_7, .slice A0_8 p0_8.length c0_8] 84, rowE .u8 5 A0_7 c0_7 l9, rowE .u8 26 A0_8 c0_8 p0_8, poolE ([]) w0] := hS8
 refine ⟨(hS8.pick [0, 2, 3] rfl rfl), ?_⟩
 refine gd_done (by kernel_rfl) ?_
 have hS11 : St _ _ w7 [boxE g0 [.pointer A0_0, .int .i64 p0_1, .int .i64 p0_2, .int .i64 p0_3, .slice A0_4 p0_4.length c0_4, .slice A0_5 p0_5.length c0_5, .int .u8 p0_6, .slice A0_7 l9.length c0_7, .slice A0_8 p0_8.length c0_8] 84, rowE .u8 5 A0_7 c0_7 l9, rowE .u8 26 A0_8 c0_8 p0_8, poolE ([]) w0] := (show [boxE g0 [.pointer A0_0, .int .i64 p0_1, .int .i64 p0_2, .int .i64 p0_3, .slice A0_4 p0_4.length c0_4, .slice A0_5 p0_5.length c0_5, .int .u8 p0_6, .slice A0_7 p0_7.length c0_7, .slice A0_8 p0_8.length c0_8] 84, rowE .u8 5 A0_7 c0_7 l9, rowE .u8 26 A0_8 c0_8 p0_8, poolE ([]) w0] = [boxE g0 [.pointer A0_0, .int .i64 p0_1, .int .i64 p0_2, .int .i64 p0_3, .slice A0_4 p0_4.length c0_4, .slice A0_5 p0_5.length c0_5, .int .u8 p0_6, .slice A0_7 l9.length c0_7, .slice A0_8 p0_8.length c0_8] 84, rowE .u8 5 A0_7 c0_7 l9, rowE .u8 26 A0_8 c0_8 p0_8, poolE ([]) w0] by rw [show p0_7.length = l9.length from (setx_len hx10).symm]) ▸ hS8
 refine gx_thenN ?_
 refine hK2 _ _ ?_
 refine gx_region ?_
 refine gx_k (.pointer (some ⟨g0, 0, none⟩)) w7 (gx_k (.pointer (some ⟨g0, 0, none⟩)) w7 (gx_k (.pointer (some ⟨g0, 0, none⟩)) w7 (gx_k (.pointer (some ⟨g0, 6, none⟩)) w7 ?_)))
 refine gx_v (.int .u8 p0_6) w7 (run_load1 rfl (by kernel_rfl) (fun _ => by kernel_rfl) (hS11.box 0 rfl 6 rfl)) ?_
 have hP12 : St _ _ w7 ([] ++ [boxE g0 [.pointer A0_0, .int .i64 p0_1, .int .i64 p0_2, .int .i64 p0_3, .slice A0_4 p0_4.length c0_4, .slice A0_5 p0_5.length c0_5, .int .u8 p0_6, .slice A0_7 l9.length c0_7, .slice A0_8 p0_8.length c0_8] 84, rowE .u8 5 A0_7 c0_7 l9, rowE .u8 26 A0_8 c0_8 p0_8, poolE ([]) w0]) := hS11
 obtain ⟨⟨l14, x17, x18, x19⟩, hc13, hF⟩ := bind_in hF
 try dsimp only at hF
 refine gx_c (pStackOf_R (l14, x17, x18, x19) w7) (pStackOf_ok N p0_6 _ hc13 w7 ) ?_
 rintro _ w21 ⟨A15, ft20, rfl, hT23, hf16⟩
 have hS22 : St _ _ w21 [boxE g0 [.pointer A0_0, .int .i64 p0_1, .int .i64 p0_2, .int .i64 p0_3, .slice A0_4 p0_4.length c0_4, .slice A0_5 p0_5.length c0_5, .int .u8 p0_6, .slice A0_7 l9.length c0_7, .slice A0_8 p0_8.length c0_8] 84, rowE .u8 5 A0_7 c0_7 l9, rowE .u8 26 A0_8 c0_8 p0_8, poolE ([]) w0, poolE ft20 w21] := hS11.take _ hT23
 obtain ⟨ft24, W25, hS26, hT27, hU28, hU29, hU30⟩ := hS22.mergeW 4 3 rfl rfl (by decide)
 have hS26 : St _ _ w21 [boxE g0 [.pointer A0_0, .int .i64 p0_1, .int .i64 p0_2, .int .i64 p0_3, .slice A0_4 p0_4.length c0_4, .slice A0_5 p0_5.length c0_5, .int .u8 p0_6, .slice A0_7 l9.length c0_7, .slice A0_8 p0_8.length c0_8] 84, rowE .u8 5 A0_7 c0_7 l9, rowE .u8 26 A0_8 c0_8 p0_8, poolE ft24 W25] := hS26
 have hT27 : Turn (foots [boxE g0 [.pointer A0_0, .int .i64 p0_1, .int .i64 p0_2, .int .i64 p0_3, .slice A0_4 p0_4.length c0_4, .slice A0_5 p0_5.length c0_5, .int .u8 p0_6, .slice A0_7 p0_7.length c0_7, .slice A0_8 p0_8.length c0_8] 84, rowE .u8 5 A0_7 c0_7 p0_7, rowE .u8 26 A0_8 c0_8 p0_8]) w0 w0 ([]) W25 ft24 := hT27
 have hf31 : (fCh 100 entembedentry A15 l14).rd W25 ft24 := hU28 _ hf16
 refine gx_k (.pointer (some ⟨g0, 0, none⟩)) w21 (gx_k (.pointer (some ⟨g0, 0, none⟩)) w21 ?_)
 refine gx_s (st_storeGP (cs := [.pointer A0_0, .int .i64 p0_1, .int .i64 p0_2, .int .i64 p0_3, .slice A0_4 p0_4.length c0_4, .slice A0_5 p0_5.length c0_5, .int .u8 p0_6, .slice A0_7 l9.length c0_7, .slice A0_8 p0_8.length c0_8]) (ds := [.pointer A15, .int .i64 x17, .int .i64 x18, .int .i64 x19]) (cs' := [.pointer A15, .int .i64 x17, .int .i64 x18, .int .i64 x19, .slice A0_4 p0_4.length c0_4, .slice A0_5 p0_5.length c0_5, .int .u8 p0_6, .slice A0_7 l9.length c0_7, .slice A0_8 p0_8.length c0_8]) 0 rfl (by kernel_rfl) (by kernel_rfl) (by kernel_rfl) rfl hS26 0 rfl (by show 0 + 4 ≤ 9; decide) rfl) ?_
 rintro w32 hS33
 have hS33 : St _ _ w32 [boxE g0 [.pointer A15, .int .i64 x17, .int .i64 x18, .int .i64 x19, .slice A0_4 p0_4.length c0_4, .slice A0_5 p0_5.length c0_5, .int .u8 p0_6, .slice A0_7 l9.length c0_7, .slice A0_8 p0_8.length c0_8] 84, rowE .u8 5 A0_7 c0_7 l9, rowE .u8 26 A0_8 c0_8 p0_8, poolE ft24 W25] := hS33
 refine gx_nil ?_
 have hS34 : St _ _ w32 [boxE g0 [.pointer A15, .int .i64 x17, .int .i64 x18, .int .i64 x19, .slice A0_4 p0_4.length c0_4, .slice A0_5 p0_5.length c0_5, .int .u8 p0_6, .slice A0_7 l9.length c0_7, .slice A0_8 p0_8.length c0_8] 84, rowE .u8 5 A0_7 c0_7 l9, rowE .u8 26 A0_8 c0_8 p0_8, poolE ft24 w32] := hS33.renew 3 rfl
 obtain rfl := Option.some.inj hF
 exact gx_finN (.tuple #[]) (by kernel_rfl) (by kernel_rfl) ⟨_, rfl, A15, A0_7, c0_7, A0_8, c0_8, ft24, rfl, hS34, (hS33.nowM 3 rfl (hT27.inn (Inn.of ho0_0)) (Fc.mix (ft0_0) hf31))⟩

def pEmbed (N : Nat) (p0_0 : List (Int × Int × Bool)) (p0_1 : Int) (p0_2 : Int) (p0_3 : Int) (p0_4 : List Int) (p0_5 : List Int) (p0_6 : Int) (p0_7 : List Int) (p0_8 : List Int) (p1 : Int) (p2 : Int) (p3 : Int) : Option (List (Int × Int × Bool) × Int × List Int × List Int) :=
 ((pRemove N p0_0 p0_1 p0_2 p0_3 p0_4 p0_5 p0_6 p0_7 p0_8 p1).bind fun (l5, l8) => ((pBegE N p0_0 p0_1 p0_2 p0_3 p0_4 p0_5 p0_6 l5 l8 p2 p3).bind fun (l16, x19) => some (l16, x19, l5, l8)))

set_option linter.unusedVariables false in
def pEmbed_R (p0_0 : List (Int × Int × Bool)) (p0_1 : Int) (p0_2 : Int) (p0_3 : Int) (p0_4 : List Int) (p0_5 : List Int) (p0_6 : Int) (p0_7 : List Int) (p0_8 : List Int) (p1 : Int) (p2 : Int) (p3 : Int) (g0 : Nat) (A0_0 : Option Addr) (ft0_0 : List Nat) (A0_4 : Option Addr) (c0_4 : Nat) (A0_5 : Option Addr) (c0_5 : Nat) (A0_7 : Option Addr) (c0_7 : Nat) (A0_8 : Option Addr) (c0_8 : Nat) (r : List (Int × Int × Bool) × Int × List Int × List Int) (w0 : World) (v : Value) (w : World) : Prop := ∃ (Al0_0' : Option Addr) (Al0_7' : Option Addr) (cl0_7' : Nat) (Al0_8' : Option Addr) (cl0_8' : Nat) (ft' : List Nat), v = .tuple #[] ∧ St (foots [boxE g0 [.pointer A0_0, .int .i64 p0_1, .int .i64 p0_2, .int .i64 p0_3, .slice A0_4 p0_4.length c0_4, .slice A0_5 p0_5.length c0_5, .int .u8 p0_6, .slice A0_7 p0_7.length c0_7, .slice A0_8 p0_8.length c0_8] 84, rowE .u8 5 A0_7 c0_7 p0_7, rowE .u8 26 A0_8 c0_8 p0_8]) w0 w [boxE g0 [.pointer Al0_0', .int .i64 p0_1, .int .i64 p0_2, .int .i64 r.2.1, .slice A0_4 p0_4.length c0_4, .slice A0_5 p0_5.length c0_5, .int .u8 p0_6, .slice Al0_7' r.2.2.1.length cl0_7', .slice Al0_8' r.2.2.2.length cl0_8'] 84, rowE .u8 5 Al0_7' cl0_7' r.2.2.1, rowE .u8 26 Al0_8' cl0_8' r.2.2.2, poolE ft' w] ∧ (fCh 100 entembedentry Al0_0' r.1).rd w (ft' ++ (ft0_0))

set_option maxRecDepth 100000 in
set_option maxHeartbeats 4000000 in
theorem pEmbed_ok (N : Nat) (p0_0 : List (Int × Int × Bool)) (p0_1 : Int) (p0_2 : Int) (p0_3 : Int) (p0_4 : List Int) (p0_5 : List Int) (p0_6 : Int) (p0_7 : List Int) (p0_8 : List Int) (p1 : Int) (p2 : Int) (p3 : Int) (g0 : Nat) (A0_0 : Option Addr) (ft0_0 : List Nat) (A0_4 : Option Addr) (c0_4 : Nat) (A0_5 : Option Addr) (c0_5 : Nat) (A0_7 : Option Addr) (c0_7 : Nat) (A0_8 : Option Addr) (c0_8 : Nat) (r : List (Int × Int × Bool) × Int × List Int × List Int) (hF : pEmbed N p0_0 p0_1 p0_2 p0_3 p0_4 p0_5 p0_6 p0_7 p0_8 p1 p2 p3 = some r) (w0 : World) (hv0_0 : (fCh 100 entembedentry A0_0 p0_0).rd w0 ft0_0) (ho0_0 : Off (foots [boxE g0 [.pointer A0_0, .int .i64 p0_1, .int .i64 p0_2, .int .i64 p0_3, .slice A0_4 p0_4.length c0_4, .slice A0_5 p0_5.length c0_5, .int .u8 p0_6, .slice A0_7 p0_7.length c0_7, .slice A0_8 p0_8.length c0_8] 84, rowE .u8 5 A0_7 c0_7 p0_7, rowE .u8 26 A0_8 c0_8 p0_8]) w0 ft0_0) (hv0_4 : Vw (foots [boxE g0 [.pointer A0_0, .int .i64 p0_1, .int .i64 p0_2, .int .i64 p0_3, .slice A0_4 p0_4.length c0_4, .slice A0_5 p0_5.length c0_5, .int .u8 p0_6, .slice A0_7 p0_7.length c0_7, .slice A0_8 p0_8.length c0_8] 84, rowE .u8 5 A0_7 c0_7 p0_7, rowE .u8 26 A0_8 c0_8 p0_8]) .u8 w0 A0_4 c0_4 p0_4) (hv0_5 : Vw (foots [boxE g0 [.pointer A0_0, .int .i64 p0_1, .int .i64 p0_2, .int .i64 p0_3, .slice A0_4 p0_4.length c0_4, .slice A0_5 p0_5.length c0_5, .int .u8 p0_6, .slice A0_7 p0_7.length c0_7, .slice A0_8 p0_8.length c0_8] 84, rowE .u8 5 A0_7 c0_7 p0_7, rowE .u8 26 A0_8 c0_8 p0_8]) .i64 w0 A0_5 c0_5 p0_5) (hl : St (foots [boxE g0 [.pointer A0_0, .int .i64 p0_1, .int .i64 p0_2, .int .i64 p0_3, .slice A0_4 p0_4.length c0_4, .slice A0_5 p0_5.length c0_5, .int .u8 p0_6, .slice A0_7 p0_7.length c0_7, .slice A0_8 p0_8.length c0_8] 84, rowE .u8 5 A0_7 c0_7 p0_7, rowE .u8 26 A0_8 c0_8 p0_8]) w0 w0 [boxE g0 [.pointer A0_0, .int .i64 p0_1, .int .i64 p0_2, .int .i64 p0_3, .slice A0_4 p0_4.length c0_4, .slice A0_5 p0_5.length c0_5, .int .u8 p0_6, .slice A0_7 p0_7.length c0_7, .slice A0_8 p0_8.length c0_8] 84, rowE .u8 5 A0_7 c0_7 p0_7, rowE .u8 26 A0_8 c0_8 p0_8]) :
  Calls Try.prog 70 #[.pointer (some ⟨g0, 0, none⟩), .int .i64 p1, .int .u8 p2, .int .u8 p3] w0 fun e w => ∃ v, e = .returned v ∧ pEmbed_R p0_0 p0_1 p0_2 p0_3 p0_4 p0_5 p0_6 p0_7 p0_8 p1 p2 p3 g0 A0_0 ft0_0 A0_4 c0_4 A0_5 c0_5 A0_7 c0_7 A0_8 c0_8 r w0 v w := by
 have hS0 := (hl).pool0
 unfold pEmbed at hF
 refine calls_of Try.func70 rfl ⟨((.pointer (some ⟨g0, 0, none⟩)) :: (.int .i64 p1) :: (.int .u8 p2) :: (.int .u8 p3) :: un 13 ([])).toArray, []⟩ (by kernel_rfl) ?_
 refine gx_seq (fun K1 hK2 => ?_)
 refine gx_region ?_
 refine gx_k (.pointer (some ⟨g0, 0, none⟩)) w0 (gx_k (.int .i64 p1) w0 ?_)
 have hP3 : St _ _ w0 ([boxE g0 [.pointer A0_0, .int .i64 p0_1, .int .i64 p0_2, .int .i64 p0_3, .slice A0_4 p0_4.length c0_4, .slice A0_5 p0_5.length c0_5, .int .u8 p0_6, .slice A0_7 p0_7.length c0_7, .slice A0_8 p0_8.length c0_8] 84, rowE .u8 5 A0_7 c0_7 p0_7, rowE .u8 26 A0_8 c0_8 p0_8] ++ [poolE ([]) w0]) := hS0
 obtain ⟨⟨l5, l8⟩, hc4, hF⟩ := bind_in hF
 try dsimp only at hF
 refine gx_c (pRemove_R p0_0 p0_1 p0_2 p0_3 p0_4 p0_5 p0_6 p0_7 p0_8 p1 g0 A0_0 ft0_0 A0_4 c0_4 A0_5 c0_5 A0_7 c0_7 A0_8 c0_8 (l5, l8) w0) (pRemove_ok N p0_0 p0_1 p0_2 p0_3 p0_4 p0_5 p0_6 p0_7 p0_8 p1 g0 A0_0 ft0_0 A0_4 c0_4 A0_5 c0_5 A0_7 c0_7 A0_8 c0_8 _ hc4 w0 (hS0.inn ho0_0 hv0_0) (hP3.offIA ho0_0) (hP3.vwA hv0_4) (hP3.vwA hv0_5) hP3.part) ?_
 rintro _ w11 ⟨A6, c7, A9, c10, rfl, hT13⟩
 have hS12 : St _ _ w11 [poolE ([]) w0, boxE g0 [.pointer A0_0, .int .i64 p0_1, .int .i64 p0_2, .int .i64 p0_3, .slice A0_4 p0_4.length c0_4, .slice A0_5 p0_5.length c0_5, .int .u8 p0_6, .slice A6 l5.length c7, .slice A9 l8.length c10] 84, rowE .u8 5 A6 c7 l5, rowE .u8 26 A9 c10 l8] := hP3.lendN _ hT13
 refine gx_nil ?_
 refine gx_thenN ?_
 refine hK2 _ _ ?_
 refine gx_region ?_
 refine gx_k (.pointer (some ⟨g0, 0, none⟩)) w11 (gx_k (.pointer (some ⟨g0, 0, none⟩)) w11 (gx_k (.pointer (some ⟨g0, 0, none⟩)) w11 (gx_k (.int .u8 p2) w11 (gx_k (.int .u8 p3) w11 ?_))))
 have hP14 : St _ _ w11 ([boxE g0 [.pointer A0_0, .int .i64 p0_1, .int .i64 p0_2, .int .i64 p0_3, .slice A0_4 p0_4.length c0_4, .slice A0_5 p0_5.length c0_5, .int .u8 p0_6, .slice A6 l5.length c7, .slice A9 l8.length c10] 84] ++ [poolE ([]) w0, rowE .u8 5 A6 c7 l5, rowE .u8 26 A9 c10 l8]) := hS12.pick [1, 0, 2, 3] rfl rfl
 obtain ⟨⟨l16, x19⟩, hc15, hF⟩ := bind_in hF
 try dsimp only at hF
 refine gx_c (pBegE_R p0_0 p0_1 p0_2 p0_3 p0_4 p0_5 p0_6 l5 l8 p2 p3 g0 A0_0 ft0_0 A0_4 c0_4 A0_5 c0_5 A6 c7 A9 c10 (l16, x19) w11) (pBegE_ok N p0_0 p0_1 p0_2 p0_3 p0_4 p0_5 p0_6 l5 l8 p2 p3 g0 A0_0 ft0_0 A0_4 c0_4 A0_5 c0_5 A6 c7 A9 c10 _ hc15 w11 (hS12.inn ho0_0 hv0_0) (hP14.offIA ho0_0) (hP14.vwA hv0_4) (hP14.vwA hv0_5) (hP14.vwB 1 rfl) (hP14.vwB 2 rfl) hP14.part) ?_
 rintro _ w21 ⟨A17, ft20, rfl, hT23, hf18⟩
 have hS22 : St _ _ w21 [poolE ([]) w0, rowE .u8 5 A6 c7 l5, rowE .u8 26 A9 c10 l8, boxE g0 [.pointer A17, .int .i64 p0_1, .int .i64 p0_2, .int .i64 x19, .slice A0_4 p0_4.length c0_4, .slice A0_5 p0_5.length c0_5, .int .u8 p0_6, .slice A6 l5.length c7, .slice A9 l8.length c10] 84, poolE ft20 w21] := hP14.lendN _ hT23
 obtain ⟨ft24, W25, hS26, hT27, hU28, hU29, hU30⟩ := hS22.mergeW 4 0 rfl rfl (by decide)
 have hS26 : St _ _ w21 [poolE ft24 W25, rowE .u8 5 A6 c7 l5, rowE .u8 26 A9 c10 l8, boxE g0 [.pointer A17, .int .i64 p0_1, .int .i64 p0_2, .int .i64 x19, .slice A0_4 p0_4.length c0_4, .slice A0_5 p0_5.length c0_5, .int .u8 p0_6, .slice A6 l5.length c7, .slice A9 l8.length c10] 84] := hS26
 have hT27 : Turn (foots [boxE g0 [.pointer A0_0, .int .i64 p0_1, .int .i64 p0_2, .int .i64 p0_3, .slice A0_4 p0_4.length c0_4, .slice A0_5 p0_5.length c0_5, .int .u8 p0_6, .slice A0_7 p0_7.length c0_7, .slice A0_8 p0_8.length c0_8] 84, rowE .u8 5 A0_7 c0_7 p0_7, rowE .u8 26 A0_8 c0_8 p0_8]) w0 w0 ([]) W25 ft24 := hT27
 have hf31 : (fCh 100 entembedentry A17 l16).rd W25 (ft24 ++ (ft0_0)) := hU30 _ _ (ft0_0) (fun k hk => by simp only [List.mem_append] at hk ⊢; grind) hf18
 refine gx_nil ?_
 have hS32 : St _ _ w21 [poolE ft24 w21, rowE .u8 5 A6 c7 l5, rowE .u8 26 A9 c10 l8, boxE g0 [.pointer A17, .int .i64 p0_1, .int .i64 p0_2, .int .i64 x19, .slice A0_4 p0_4.length c0_4, .slice A0_5 p0_5.length c0_5, .int .u8 p0_6, .slice A6 l5.length c7, .slice A9 l8.length c10] 84] := hS26.renew 0 rfl
 obtain rfl := Option.some.inj hF
 exact gx_finN (.tuple #[]) (by kernel_rfl) (by kernel_rfl) ⟨_, rfl, A17, A6, c7, A9, c10, ft24, rfl, (hS32.pick [3, 1, 2, 0] rfl rfl), (hS26.nowM 0 rfl (hT27.inn (Inn.of ho0_0)) hf31)⟩

def pEmL (N : Nat) (p0_0 : List (Int × Int × Bool)) (p0_1 : Int) (p0_2 : Int) (p0_3 : Int) (p0_4 : List Int) (p0_5 : List Int) (p0_6 : Int) (p0_7 : List Int) (p0_8 : List Int) (p1 : Int) : Option (List (Int × Int × Bool) × Int × List Int × List Int) :=
 ((pEmbed N p0_0 p0_1 p0_2 p0_3 p0_4 p0_5 p0_6 p0_7 p0_8 p1 (1 : Int) (0 : Int)).bind fun (l3, x6, l7, l10) => some (l3, x6, l7, l10))

set_option linter.unusedVariables false in
def pEmL_R (p0_0 : List (Int × Int × Bool)) (p0_1 : Int) (p0_2 : Int) (p0_3 : Int) (p0_4 : List Int) (p0_5 : List Int) (p0_6 : Int) (p0_7 : List Int) (p0_8 : List Int) (p1 : Int) (g0 : Nat) (A0_0 : Option Addr) (ft0_0 : List Nat) (A0_4 : Option Addr) (c0_4 : Nat) (A0_5 : Option Addr) (c0_5 : Nat) (A0_7 : Option Addr) (c0_7 : Nat) (A0_8 : Option Addr) (c0_8 : Nat) (r : List (Int × Int × Bool) × Int × List Int × List Int) (w0 : World) (v : Value) (w : World) : Prop := ∃ (Al0_0' : Option Addr) (Al0_7' : Option Addr) (cl0_7' : Nat) (Al0_8' : Option Addr) (cl0_8' : Nat) (ft' : List Nat), v = .tuple #[] ∧ St (foots [boxE g0 [.pointer A0_0, .int .i64 p0_1, .int .i64 p0_2, .int .i64 p0_3, .slice A0_4 p0_4.length c0_4, .slice A0_5 p0_5.length c0_5, .int .u8 p0_6, .slice A0_7 p0_7.length c0_7, .slice A0_8 p0_8.length c0_8] 84, rowE .u8 5 A0_7 c0_7 p0_7, rowE .u8 26 A0_8 c0_8 p0_8]) w0 w [boxE g0 [.pointer Al0_0', .int .i64 p0_1, .int .i64 p0_2, .int .i64 r.2.1, .slice A0_4 p0_4.length c0_4, .slice A0_5 p0_5.length c0_5, .int .u8 p0_6, .slice Al0_7' r.2.2.1.length cl0_7', .slice Al0_8' r.2.2.2.length cl0_8'] 84, rowE .u8 5 Al0_7' cl0_7' r.2.2.1, rowE .u8 26 Al0_8' cl0_8' r.2.2.2, poolE ft' w] ∧ (fCh 100 entembedentry Al0_0' r.1).rd w (ft' ++ (ft0_0))

set_option maxRecDepth 100000 in
set_option maxHeartbeats 4000000 in
theorem pEmL_ok (N : Nat) (p0_0 : List (Int × Int × Bool)) (p0_1 : Int) (p0_2 : Int) (p0_3 : Int) (p0_4 : List Int) (p0_5 : List Int) (p0_6 : Int) (p0_7 : List Int) (p0_8 : List Int) (p1 : Int) (g0 : Nat) (A0_0 : Option Addr) (ft0_0 : List Nat) (A0_4 : Option Addr) (c0_4 : Nat) (A0_5 : Option Addr) (c0_5 : Nat) (A0_7 : Option Addr) (c0_7 : Nat) (A0_8 : Option Addr) (c0_8 : Nat) (r : List (Int × Int × Bool) × Int × List Int × List Int) (hF : pEmL N p0_0 p0_1 p0_2 p0_3 p0_4 p0_5 p0_6 p0_7 p0_8 p1 = some r) (w0 : World) (hv0_0 : (fCh 100 entembedentry A0_0 p0_0).rd w0 ft0_0) (ho0_0 : Off (foots [boxE g0 [.pointer A0_0, .int .i64 p0_1, .int .i64 p0_2, .int .i64 p0_3, .slice A0_4 p0_4.length c0_4, .slice A0_5 p0_5.length c0_5, .int .u8 p0_6, .slice A0_7 p0_7.length c0_7, .slice A0_8 p0_8.length c0_8] 84, rowE .u8 5 A0_7 c0_7 p0_7, rowE .u8 26 A0_8 c0_8 p0_8]) w0 ft0_0) (hv0_4 : Vw (foots [boxE g0 [.pointer A0_0, .int .i64 p0_1, .int .i64 p0_2, .int .i64 p0_3, .slice A0_4 p0_4.length c0_4, .slice A0_5 p0_5.length c0_5, .int .u8 p0_6, .slice A0_7 p0_7.length c0_7, .slice A0_8 p0_8.length c0_8] 84, rowE .u8 5 A0_7 c0_7 p0_7, rowE .u8 26 A0_8 c0_8 p0_8]) .u8 w0 A0_4 c0_4 p0_4) (hv0_5 : Vw (foots [boxE g0 [.pointer A0_0, .int .i64 p0_1, .int .i64 p0_2, .int .i64 p0_3, .slice A0_4 p0_4.length c0_4, .slice A0_5 p0_5.length c0_5, .int .u8 p0_6, .slice A0_7 p0_7.length c0_7, .slice A0_8 p0_8.length c0_8] 84, rowE .u8 5 A0_7 c0_7 p0_7, rowE .u8 26 A0_8 c0_8 p0_8]) .i64 w0 A0_5 c0_5 p0_5) (hl : St (foots [boxE g0 [.pointer A0_0, .int .i64 p0_1, .int .i64 p0_2, .int .i64 p0_3, .slice A0_4 p0_4.length c0_4, .slice A0_5 p0_5.length c0_5, .int .u8 p0_6, .slice A0_7 p0_7.length c0_7, .slice A0_8 p0_8.length c0_8] 84, rowE .u8 5 A0_7 c0_7 p0_7, rowE .u8 26 A0_8 c0_8 p0_8]) w0 w0 [boxE g0 [.pointer A0_0, .int .i64 p0_1, .int .i64 p0_2, .int .i64 p0_3, .slice A0_4 p0_4.length c0_4, .slice A0_5 p0_5.length c0_5, .int .u8 p0_6, .slice A0_7 p0_7.length c0_7, .slice A0_8 p0_8.length c0_8] 84, rowE .u8 5 A0_7 c0_7 p0_7, rowE .u8 26 A0_8 c0_8 p0_8]) :
  Calls Try.prog 61 #[.pointer (some ⟨g0, 0, none⟩), .int .i64 p1] w0 fun e w => ∃ v, e = .returned v ∧ pEmL_R p0_0 p0_1 p0_2 p0_3 p0_4 p0_5 p0_6 p0_7 p0_8 p1 g0 A0_0 ft0_0 A0_4 c0_4 A0_5 c0_5 A0_7 c0_7 A0_8 c0_8 r w0 v w := by
 have hS0 := (hl).pool0
 unfold pEmL at hF
 refine calls_of Try.func61 rfl ⟨((.pointer (some ⟨g0, 0, none⟩)) :: (.int .i64 p1) :: un 5 ([])).toArray, []⟩ (by kernel_rfl) ?_
 refine gx_region ?_
 refine gx_k (.pointer (some ⟨g0, 0, none⟩)) w0 (gx_k (.int .i64 p1) w0 ?_)
 have hP1 : St _ _ w0 ([boxE g0 [.pointer A0_0, .int .i64 p0_1, .int .i64 p0_2, .int .i64 p0_3, .slice A0_4 p0_4.length c0_4, .slice A0_5 p0_5.length c0_5, .int .u8 p0_6, .slice A0_7 p0_7.length c0_7, .slice A0_8 p0_8.length c0_8] 84, rowE .u8 5 A0_7 c0_7 p0_7, rowE .u8 26 A0_8 c0_8 p0_8] ++ [poolE ([]) w0]) := hS0
 obtain ⟨⟨l3, x6, l7, l10⟩, hc2, hF⟩ := bind_in hF
 try dsimp only at hF
 refine gx_c (pEmbed_R p0_0 p0_1 p0_2 p0_3 p0_4 p0_5 p0_6 p0_7 p0_8 p1 (1 : Int) (0 : Int) g0 A0_0 ft0_0 A0_4 c0_4 A0_5 c0_5 A0_7 c0_7 A0_8 c0_8 (l3, x6, l7, l10) w0) (pEmbed_ok N p0_0 p0_1 p0_2 p0_3 p0_4 p0_5 p0_6 p0_7 p0_8 p1 (1 : Int) (0 : Int) g0 A0_0 ft0_0 A0_4 c0_4 A0_5 c0_5 A0_7 c0_7 A0_8 c0_8 _ hc2 w0 (hS0.inn ho0_0 hv0_0) (hP1.offIA ho0_0) (hP1.vwA hv0_4) (hP1.vwA hv0_5) hP1.part) ?_
 rintro _ w14 ⟨A4, A8, c9, A11, c12, ft13, rfl, hT16, hf5⟩
 have hS15 : St _ _ w14 [poolE ([]) w0, boxE g0 [.pointer A4, .int .i64 p0_1, .int .i64 p0_2, .int .i64 x6, .slice A0_4 p0_4.length c0_4, .slice A0_5 p0_5.length c0_5, .int .u8 p0_6, .slice A8 l7.length c9, .slice A11 l10.length c12] 84, rowE .u8 5 A8 c9 l7, rowE .u8 26 A11 c12 l10, poolE ft13 w14] := hP1.lendN _ hT16
 obtain ⟨ft17, W18, hS19, hT20, hU21, hU22, hU23⟩ := hS15.mergeW 4 0 rfl rfl (by decide)
 have hS19 : St _ _ w14 [poolE ft17 W18, boxE g0 [.pointer A4, .int .i64 p0_1, .int .i64 p0_2, .int .i64 x6, .slice A0_4 p0_4.length c0_4, .slice A0_5 p0_5.length c0_5, .int .u8 p0_6, .slice A8 l7.length c9, .slice A11 l10.length c12] 84, rowE .u8 5 A8 c9 l7, rowE .u8 26 A11 c12 l10] := hS19
 have hT20 : Turn (foots [boxE g0 [.pointer A0_0, .int .i64 p0_1, .int .i64 p0_2, .int .i64 p0_3, .slice A0_4 p0_4.length c0_4, .slice A0_5 p0_5.length c0_5, .int .u8 p0_6, .slice A0_7 p0_7.length c0_7, .slice A0_8 p0_8.length c0_8] 84, rowE .u8 5 A0_7 c0_7 p0_7, rowE .u8 26 A0_8 c0_8 p0_8]) w0 w0 ([]) W18 ft17 := hT20
 have hf24 : (fCh 100 entembedentry A4 l3).rd W18 (ft17 ++ (ft0_0)) := hU23 _ _ (ft0_0) (fun k hk => by simp only [List.mem_append] at hk ⊢; grind) hf5
 refine gx_nil ?_
 have hS25 : St _ _ w14 [poolE ft17 w14, boxE g0 [.pointer A4, .int .i64 p0_1, .int .i64 p0_2, .int .i64 x6, .slice A0_4 p0_4.length c0_4, .slice A0_5 p0_5.length c0_5, .int .u8 p0_6, .slice A8 l7.length c9, .slice A11 l10.length c12] 84, rowE .u8 5 A8 c9 l7, rowE .u8 26 A11 c12 l10] := hS19.renew 0 rfl
 obtain rfl := Option.some.inj hF
 exact gx_finN (.tuple #[]) (by kernel_rfl) (by kernel_rfl) ⟨_, rfl, A4, A8, c9, A11, c12, ft17, rfl, (hS25.pick [1, 2, 3, 0] rfl rfl), (hS19.nowM 0 rfl (hT20.inn (Inn.of ho0_0)) hf24)⟩

def pEmR (N : Nat) (p0_0 : List (Int × Int × Bool)) (p0_1 : Int) (p0_2 : Int) (p0_3 : Int) (p0_4 : List Int) (p0_5 : List Int) (p0_6 : Int) (p0_7 : List Int) (p0_8 : List Int) (p1 : Int) : Option (List (Int × Int × Bool) × Int × List Int × List Int) :=
 ((pEmbed N p0_0 p0_1 p0_2 p0_3 p0_4 p0_5 p0_6 p0_7 p0_8 p1 (2 : Int) (0 : Int)).bind fun (l3, x6, l7, l10) => some (l3, x6, l7, l10))

set_option linter.unusedVariables false in
def pEmR_R (p0_0 : List (Int × Int × Bool)) (p0_1 : Int) (p0_2 : Int) (p0_3 : Int) (p0_4 : List Int) (p0_5 : List Int) (p0_6 : Int) (p0_7 : List Int) (p0_8 : List Int) (p1 : Int) (g0 : Nat) (A0_0 : Option Addr) (ft0_0 : List Nat) (A0_4 : Option Addr) (c0_4 : Nat) (A0_5 : Option Addr) (c0_5 : Nat) (A0_7 : Option Addr) (c0_7 : Nat) (A0_8 : Option Addr) (c0_8 : Nat) (r : List (Int × Int × Bool) × Int × List Int × List Int) (w0 : World) (v : Value) (w : World) : Prop := ∃ (Al0_0' : Option Addr) (Al0_7' : Option Addr) (cl0_7' : Nat) (Al0_8' : Option Addr) (cl0_8' : Nat) (ft' : List Nat), v = .tuple #[] ∧ St (foots [boxE g0 [.pointer A0_0, .int .i64 p0_1, .int .i64 p0_2, .int .i64 p0_3, .slice A0_4 p0_4.length c0_4, .slice A0_5 p0_5.length c0_5, .int .u8 p0_6, .slice A0_7 p0_7.length c0_7, .slice A0_8 p0_8.length c0_8] 84, rowE .u8 5 A0_7 c0_7 p0_7, rowE .u8 26 A0_8 c0_8 p0_8]) w0 w [boxE g0 [.pointer Al0_0', .int .i64 p0_1, .int .i64 p0_2, .int .i64 r.2.1, .slice A0_4 p0_4.length c0_4, .slice A0_5 p0_5.length c0_5, .int .u8 p0_6, .slice Al0_7' r.2.2.1.length cl0_7', .slice Al0_8' r.2.2.2.length cl0_8'] 84, rowE .u8 5 Al0_7' cl0_7' r.2.2.1, rowE .u8 26 Al0_8' cl0_8' r.2.2.2, poolE ft' w] ∧ (fCh 100 entembedentry Al0_0' r.1).rd w (ft' ++ (ft0_0))

set_option maxRecDepth 100000 in
set_option maxHeartbeats 4000000 in
theorem pEmR_ok (N : Nat) (p0_0 : List (Int × Int × Bool)) (p0_1 : Int) (p0_2 : Int) (p0_3 : Int) (p0_4 : List Int) (p0_5 : List Int) (p0_6 : Int) (p0_7 : List Int) (p0_8 : List Int) (p1 : Int) (g0 : Nat) (A0_0 : Option Addr) (ft0_0 : List Nat) (A0_4 : Option Addr) (c0_4 : Nat) (A0_5 : Option Addr) (c0_5 : Nat) (A0_7 : Option Addr) (c0_7 : Nat) (A0_8 : Option Addr) (c0_8 : Nat) (r : List (Int × Int × Bool) × Int × List Int × List Int) (hF : pEmR N p0_0 p0_1 p0_2 p0_3 p0_4 p0_5 p0_6 p0_7 p0_8 p1 = some r) (w0 : World) (hv0_0 : (fCh 100 entembedentry A0_0 p0_0).rd w0 ft0_0) (ho0_0 : Off (foots [boxE g0 [.pointer A0_0, .int .i64 p0_1, .int .i64 p0_2, .int .i64 p0_3, .slice A0_4 p0_4.length c0_4, .slice A0_5 p0_5.length c0_5, .int .u8 p0_6, .slice A0_7 p0_7.length c0_7, .slice A0_8 p0_8.length c0_8] 84, rowE .u8 5 A0_7 c0_7 p0_7, rowE .u8 26 A0_8 c0_8 p0_8]) w0 ft0_0) (hv0_4 : Vw (foots [boxE g0 [.pointer A0_0, .int .i64 p0_1, .int .i64 p0_2, .int .i64 p0_3, .slice A0_4 p0_4.length c0_4, .slice A0_5 p0_5.length c0_5, .int .u8 p0_6, .slice A0_7 p0_7.length c0_7, .slice A0_8 p0_8.length c0_8] 84, rowE .u8 5 A0_7 c0_7 p0_7, rowE .u8 26 A0_8 c0_8 p0_8]) .u8 w0 A0_4 c0_4 p0_4) (hv0_5 : Vw (foots [boxE g0 [.pointer A0_0, .int .i64 p0_1, .int .i64 p0_2, .int .i64 p0_3, .slice A0_4 p0_4.length c0_4, .slice A0_5 p0_5.length c0_5, .int .u8 p0_6, .slice A0_7 p0_7.length c0_7, .slice A0_8 p0_8.length c0_8] 84, rowE .u8 5 A0_7 c0_7 p0_7, rowE .u8 26 A0_8 c0_8 p0_8]) .i64 w0 A0_5 c0_5 p0_5) (hl : St (foots [boxE g0 [.pointer A0_0, .int .i64 p0_1, .int .i64 p0_2, .int .i64 p0_3, .slice A0_4 p0_4.length c0_4, .slice A0_5 p0_5.length c0_5, .int .u8 p0_6, .slice A0_7 p0_7.length c0_7, .slice A0_8 p0_8.length c0_8] 84, rowE .u8 5 A0_7 c0_7 p0_7, rowE .u8 26 A0_8 c0_8 p0_8]) w0 w0 [boxE g0 [.pointer A0_0, .int .i64 p0_1, .int .i64 p0_2, .int .i64 p0_3, .slice A0_4 p0_4.length c0_4, .slice A0_5 p0_5.length c0_5, .int .u8 p0_6, .slice A0_7 p0_7.length c0_7, .slice A0_8 p0_8.length c0_8] 84, rowE .u8 5 A0_7 c0_7 p0_7, rowE .u8 26 A0_8 c0_8 p0_8]) :
  Calls Try.prog 62 #[.pointer (some ⟨g0, 0, none⟩), .int .i64 p1] w0 fun e w => ∃ v, e = .returned v ∧ pEmR_R p0_0 p0_1 p0_2 p0_3 p0_4 p0_5 p0_6 p0_7 p0_8 p1 g0 A0_0 ft0_0 A0_4 c0_4 A0_5 c0_5 A0_7 c0_7 A0_8 c0_8 r w0 v w := by
 have hS0 := (hl).pool0
 unfold pEmR at hF
 refine calls_of Try.func62 rfl ⟨((.pointer (some ⟨g0, 0, none⟩)) :: (.int .i64 p1) :: un 5 ([])).toArray, []⟩ (by kernel_rfl) ?_
 refine gx_region ?_
 refine gx_k (.pointer (some ⟨g0, 0, none⟩)) w0 (gx_k (.int .i64 p1) w0 ?_)
 have hP1 : St _ _ w0 ([boxE g0 [.pointer A0_0, .int .i64 p0_1, .int .i64 p0_2, .int .i64 p0_3, .slice A0_4 p0_4.length c0_4, .slice A0_5 p0_5.length c0_5, .int .u8 p0_6, .slice A0_7 p0_7.length c0_7, .slice A0_8 p0_8.length c0_8] 84, rowE .u8 5 A0_7 c0_7 p0_7, rowE .u8 26 A0_8 c0_8 p0_8] ++ [poolE ([]) w0]) := hS0
 obtain ⟨⟨l3, x6, l7, l10⟩, hc2, hF⟩ := bind_in hF
 try dsimp only at hF
 refine gx_c (pEmbed_R p0_0 p0_1 p0_2 p0_3 p0_4 p0_5 p0_6 p0_7 p0_8 p1 (2 : Int) (0 : Int) g0 A0_0 ft0_0 A0_4 c0_4 A0_5 c0_5 A0_7 c0_7 A0_8 c0_8 (l3, x6, l7, l10) w0) (pEmbed_ok N p0_0 p0_1 p0_2 p0_3 p0_4 p0_5 p0_6 p0_7 p0_8 p1 (2 : Int) (0 : Int) g0 A0_0 ft0_0 A0_4 c0_4 A0_5 c0_5 A0_7 c0_7 A0_8 c0_8 _ hc2 w0 (hS0.inn ho0_0 hv0_0) (hP1.offIA ho0_0) (hP1.vwA hv0_4) (hP1.vwA hv0_5) hP1.part) ?_
 rintro _ w14 ⟨A4, A8, c9, A11, c12, ft13, rfl, hT16, hf5⟩
 have hS15 : St _ _ w14 [poolE ([]) w0, boxE g0 [.pointer A4, .int .i64 p0_1, .int .i64 p0_2, .int .i64 x6, .slice A0_4 p0_4.length c0_4, .slice A0_5 p0_5.length c0_5, .int .u8 p0_6, .slice A8 l7.length c9, .slice A11 l10.length c12] 84, rowE .u8 5 A8 c9 l7, rowE .u8 26 A11 c12 l10, poolE ft13 w14] := hP1.lendN _ hT16
 obtain ⟨ft17, W18, hS19, hT20, hU21, hU22, hU23⟩ := hS15.mergeW 4 0 rfl rfl (by decide)
 have hS19 : St _ _ w14 [poolE ft17 W18, boxE g0 [.pointer A4, .int .i64 p0_1, .int .i64 p0_2, .int .i64 x6, .slice A0_4 p0_4.length c0_4, .slice A0_5 p0_5.length c0_5, .int .u8 p0_6, .slice A8 l7.length c9, .slice A11 l10.length c12] 84, rowE .u8 5 A8 c9 l7, rowE .u8 26 A11 c12 l10] := hS19
 have hT20 : Turn (foots [boxE g0 [.pointer A0_0, .int .i64 p0_1, .int .i64 p0_2, .int .i64 p0_3, .slice A0_4 p0_4.length c0_4, .slice A0_5 p0_5.length c0_5, .int .u8 p0_6, .slice A0_7 p0_7.length c0_7, .slice A0_8 p0_8.length c0_8] 84, rowE .u8 5 A0_7 c0_7 p0_7, rowE .u8 26 A0_8 c0_8 p0_8]) w0 w0 ([]) W18 ft17 := hT20
 have hf24 : (fCh 100 entembedentry A4 l3).rd W18 (ft17 ++ (ft0_0)) := hU23 _ _ (ft0_0) (fun k hk => by simp only [List.mem_append] at hk ⊢; grind) hf5
 refine gx_nil ?_
 have hS25 : St _ _ w14 [poolE ft17 w14, boxE g0 [.pointer A4, .int .i64 p0_1, .int .i64 p0_2, .int .i64 x6, .slice A0_4 p0_4.length c0_4, .slice A0_5 p0_5.length c0_5, .int .u8 p0_6, .slice A8 l7.length c9, .slice A11 l10.length c12] 84, rowE .u8 5 A8 c9 l7, rowE .u8 26 A11 c12 l10] := hS19.renew 0 rfl
 obtain rfl := Option.some.inj hF
 exact gx_finN (.tuple #[]) (by kernel_rfl) (by kernel_rfl) ⟨_, rfl, A4, A8, c9, A11, c12, ft17, rfl, (hS25.pick [1, 2, 3, 0] rfl rfl), (hS19.nowM 0 rfl (hT20.inn (Inn.of ho0_0)) hf24)⟩

def pOvL (N : Nat) (p0_0 : List (Int × Int × Bool)) (p0_1 : Int) (p0_2 : Int) (p0_3 : Int) (p0_4 : List Int) (p0_5 : List Int) (p0_6 : Int) (p0_7 : List Int) (p0_8 : List Int) (p1 : Int) : Option (List (Int × Int × Bool) × Int × List Int × List Int) :=
 ((pEmbed N p0_0 p0_1 p0_2 p0_3 p0_4 p0_5 p0_6 p0_7 p0_8 p1 (1 : Int) (1 : Int)).bind fun (l3, x6, l7, l10) => some (l3, x6, l7, l10))

set_option linter.unusedVariables false in
def pOvL_R (p0_0 : List (Int × Int × Bool)) (p0_1 : Int) (p0_2 : Int) (p0_3 : Int) (p0_4 : List Int) (p0_5 : List Int) (p0_6 : Int) (p0_7 : List Int) (p0_8 : List Int) (p1 : Int) (g0 : Nat) (A0_0 : Option Addr) (ft0_0 : List Nat) (A0_4 : Option Addr) (c0_4 : Nat) (A0_5 : Option Addr) (c0_5 : Nat) (A0_7 : Option Addr) (c0_7 : Nat) (A0_8 : Option Addr) (c0_8 : Nat) (r : List (Int × Int × Bool) × Int × List Int × List Int) (w0 : World) (v : Value) (w : World) : Prop := ∃ (Al0_0' : Option Addr) (Al0_7' : Option Addr) (cl0_7' : Nat) (Al0_8' : Option Addr) (cl0_8' : Nat) (ft' : List Nat), v = .tuple #[] ∧ St (foots [boxE g0 [.pointer A0_0, .int .i64 p0_1, .int .i64 p0_2, .int .i64 p0_3, .slice A0_4 p0_4.length c0_4, .slice A0_5 p0_5.length c0_5, .int .u8 p0_6, .slice A0_7 p0_7.length c0_7, .slice A0_8 p0_8.length c0_8] 84, rowE .u8 5 A0_7 c0_7 p0_7, rowE .u8 26 A0_8 c0_8 p0_8]) w0 w [boxE g0 [.pointer Al0_0', .int .i64 p0_1, .int .i64 p0_2, .int .i64 r.2.1, .slice A0_4 p0_4.length c0_4, .slice A0_5 p0_5.length c0_5, .int .u8 p0_6, .slice Al0_7' r.2.2.1.length cl0_7', .slice Al0_8' r.2.2.2.length cl0_8'] 84, rowE .u8 5 Al0_7' cl0_7' r.2.2.1, rowE .u8 26 Al0_8' cl0_8' r.2.2.2, poolE ft' w] ∧ (fCh 100 entembedentry Al0_0' r.1).rd w (ft' ++ (ft0_0))

set_option maxRecDepth 100000 in
set_option maxHeartbeats 4000000 in
theorem pOvL_ok (N : Nat) (p0_0 : List (Int × Int × Bool)) (p0_1 : Int) (p0_2 : Int) (p0_3 : Int) (p0_4 : List Int) (p0_5 : List Int) (p0_6 : Int) (p0_7 : List Int) (p0_8 : List Int) (p1 : Int) (g0 : Nat) (A0_0 : Option Addr) (ft0_0 : List Nat) (A0_4 : Option Addr) (c0_4 : Nat) (A0_5 : Option Addr) (c0_5 : Nat) (A0_7 : Option Addr) (c0_7 : Nat) (A0_8 : Option Addr) (c0_8 : Nat) (r : List (Int × Int × Bool) × Int × List Int × List Int) (hF : pOvL N p0_0 p0_1 p0_2 p0_3 p0_4 p0_5 p0_6 p0_7 p0_8 p1 = some r) (w0 : World) (hv0_0 : (fCh 100 entembedentry A0_0 p0_0).rd w0 ft0_0) (ho0_0 : Off (foots [boxE g0 [.pointer A0_0, .int .i64 p0_1, .int .i64 p0_2, .int .i64 p0_3, .slice A0_4 p0_4.length c0_4, .slice A0_5 p0_5.length c0_5, .int .u8 p0_6, .slice A0_7 p0_7.length c0_7, .slice A0_8 p0_8.length c0_8] 84, rowE .u8 5 A0_7 c0_7 p0_7, rowE .u8 26 A0_8 c0_8 p0_8]) w0 ft0_0) (hv0_4 : Vw (foots [boxE g0 [.pointer A0_0, .int .i64 p0_1, .int .i64 p0_2, .int .i64 p0_3, .slice A0_4 p0_4.length c0_4, .slice A0_5 p0_5.length c0_5, .int .u8 p0_6, .slice A0_7 p0_7.length c0_7, .slice A0_8 p0_8.length c0_8] 84, rowE .u8 5 A0_7 c0_7 p0_7, rowE .u8 26 A0_8 c0_8 p0_8]) .u8 w0 A0_4 c0_4 p0_4) (hv0_5 : Vw (foots [boxE g0 [.pointer A0_0, .int .i64 p0_1, .int .i64 p0_2, .int .i64 p0_3, .slice A0_4 p0_4.length c0_4, .slice A0_5 p0_5.length c0_5, .int .u8 p0_6, .slice A0_7 p0_7.length c0_7, .slice A0_8 p0_8.length c0_8] 84, rowE .u8 5 A0_7 c0_7 p0_7, rowE .u8 26 A0_8 c0_8 p0_8]) .i64 w0 A0_5 c0_5 p0_5) (hl : St (foots [boxE g0 [.pointer A0_0, .int .i64 p0_1, .int .i64 p0_2, .int .i64 p0_3, .slice A0_4 p0_4.length c0_4, .slice A0_5 p0_5.length c0_5, .int .u8 p0_6, .slice A0_7 p0_7.length c0_7, .slice A0_8 p0_8.length c0_8] 84, rowE .u8 5 A0_7 c0_7 p0_7, rowE .u8 26 A0_8 c0_8 p0_8]) w0 w0 [boxE g0 [.pointer A0_0, .int .i64 p0_1, .int .i64 p0_2, .int .i64 p0_3, .slice A0_4 p0_4.length c0_4, .slice A0_5 p0_5.length c0_5, .int .u8 p0_6, .slice A0_7 p0_7.length c0_7, .slice A0_8 p0_8.length c0_8] 84, rowE .u8 5 A0_7 c0_7 p0_7, rowE .u8 26 A0_8 c0_8 p0_8]) :
  Calls Try.prog 63 #[.pointer (some ⟨g0, 0, none⟩), .int .i64 p1] w0 fun e w => ∃ v, e = .returned v ∧ pOvL_R p0_0 p0_1 p0_2 p0_3 p0_4 p0_5 p0_6 p0_7 p0_8 p1 g0 A0_0 ft0_0 A0_4 c0_4 A0_5 c0_5 A0_7 c0_7 A0_8 c0_8 r w0 v w := by
 have hS0 := (hl).pool0
 unfold pOvL at hF
 refine calls_of Try.func63 rfl ⟨((.pointer (some ⟨g0, 0, none⟩)) :: (.int .i64 p1) :: un 5 ([])).toArray, []⟩ (by kernel_rfl) ?_
 refine gx_region ?_
 refine gx_k (.pointer (some ⟨g0, 0, none⟩)) w0 (gx_k (.int .i64 p1) w0 ?_)
 have hP1 : St _ _ w0 ([boxE g0 [.pointer A0_0, .int .i64 p0_1, .int .i64 p0_2, .int .i64 p0_3, .slice A0_4 p0_4.length c0_4, .slice A0_5 p0_5.length c0_5, .int .u8 p0_6, .slice A0_7 p0_7.length c0_7, .slice A0_8 p0_8.length c0_8] 84, rowE .u8 5 A0_7 c0_7 p0_7, rowE .u8 26 A0_8 c0_8 p0_8] ++ [poolE ([]) w0]) := hS0
 obtain ⟨⟨l3, x6, l7, l10⟩, hc2, hF⟩ := bind_in hF
 try dsimp only at hF
 refine gx_c (pEmbed_R p0_0 p0_1 p0_2 p0_3 p0_4 p0_5 p0_6 p0_7 p0_8 p1 (1 : Int) (1 : Int) g0 A0_0 ft0_0 A0_4 c0_4 A0_5 c0_5 A0_7 c0_7 A0_8 c0_8 (l3, x6, l7, l10) w0) (pEmbed_ok N p0_0 p0_1 p0_2 p0_3 p0_4 p0_5 p0_6 p0_7 p0_8 p1 (1 : Int) (1 : Int) g0 A0_0 ft0_0 A0_4 c0_4 A0_5 c0_5 A0_7 c0_7 A0_8 c0_8 _ hc2 w0 (hS0.inn ho0_0 hv0_0) (hP1.offIA ho0_0) (hP1.vwA hv0_4) (hP1.vwA hv0_5) hP1.part) ?_
 rintro _ w14 ⟨A4, A8, c9, A11, c12, ft13, rfl, hT16, hf5⟩
 have hS15 : St _ _ w14 [poolE ([]) w0, boxE g0 [.pointer A4, .int .i64 p0_1, .int .i64 p0_2, .int .i64 x6, .slice A0_4 p0_4.length c0_4, .slice A0_5 p0_5.length c0_5, .int .u8 p0_6, .slice A8 l7.length c9, .slice A11 l10.length c12] 84, rowE .u8 5 A8 c9 l7, rowE .u8 26 A11 c12 l10, poolE ft13 w14] := hP1.lendN _ hT16
 obtain ⟨ft17, W18, hS19, hT20, hU21, hU22, hU23⟩ := hS15.mergeW 4 0 rfl rfl (by decide)
 have hS19 : St _ _ w14 [poolE ft17 W18, boxE g0 [.pointer A4, .int .i64 p0_1, .int .i64 p0_2, .int .i64 x6, .slice A0_4 p0_4.length c0_4, .slice A0_5 p0_5.length c0_5, .int .u8 p0_6, .slice A8 l7.length c9, .slice A11 l10.length c12] 84, rowE .u8 5 A8 c9 l7, rowE .u8 26 A11 c12 l10] := hS19
 have hT20 : Turn (foots [boxE g0 [.pointer A0_0, .int .i64 p0_1, .int .i64 p0_2, .int .i64 p0_3, .slice A0_4 p0_4.length c0_4, .slice A0_5 p0_5.length c0_5, .int .u8 p0_6, .slice A0_7 p0_7.length c0_7, .slice A0_8 p0_8.length c0_8] 84, rowE .u8 5 A0_7 c0_7 p0_7, rowE .u8 26 A0_8 c0_8 p0_8]) w0 w0 ([]) W18 ft17 := hT20
 have hf24 : (fCh 100 entembedentry A4 l3).rd W18 (ft17 ++ (ft0_0)) := hU23 _ _ (ft0_0) (fun k hk => by simp only [List.mem_append] at hk ⊢; grind) hf5
 refine gx_nil ?_
 have hS25 : St _ _ w14 [poolE ft17 w14, boxE g0 [.pointer A4, .int .i64 p0_1, .int .i64 p0_2, .int .i64 x6, .slice A0_4 p0_4.length c0_4, .slice A0_5 p0_5.length c0_5, .int .u8 p0_6, .slice A8 l7.length c9, .slice A11 l10.length c12] 84, rowE .u8 5 A8 c9 l7, rowE .u8 26 A11 c12 l10] := hS19.renew 0 rfl
 obtain rfl := Option.some.inj hF
 exact gx_finN (.tuple #[]) (by kernel_rfl) (by kernel_rfl) ⟨_, rfl, A4, A8, c9, A11, c12, ft17, rfl, (hS25.pick [1, 2, 3, 0] rfl rfl), (hS19.nowM 0 rfl (hT20.inn (Inn.of ho0_0)) hf24)⟩

def pOvR (N : Nat) (p0_0 : List (Int × Int × Bool)) (p0_1 : Int) (p0_2 : Int) (p0_3 : Int) (p0_4 : List Int) (p0_5 : List Int) (p0_6 : Int) (p0_7 : List Int) (p0_8 : List Int) (p1 : Int) : Option (List (Int × Int × Bool) × Int × List Int × List Int) :=
 ((pEmbed N p0_0 p0_1 p0_2 p0_3 p0_4 p0_5 p0_6 p0_7 p0_8 p1 (2 : Int) (2 : Int)).bind fun (l3, x6, l7, l10) => some (l3, x6, l7, l10))

set_option linter.unusedVariables false in
def pOvR_R (p0_0 : List (Int × Int × Bool)) (p0_1 : Int) (p0_2 : Int) (p0_3 : Int) (p0_4 : List Int) (p0_5 : List Int) (p0_6 : Int) (p0_7 : List Int) (p0_8 : List Int) (p1 : Int) (g0 : Nat) (A0_0 : Option Addr) (ft0_0 : List Nat) (A0_4 : Option Addr) (c0_4 : Nat) (A0_5 : Option Addr) (c0_5 : Nat) (A0_7 : Option Addr) (c0_7 : Nat) (A0_8 : Option Addr) (c0_8 : Nat) (r : List (Int × Int × Bool) × Int × List Int × List Int) (w0 : World) (v : Value) (w : World) : Prop := ∃ (Al0_0' : Option Addr) (Al0_7' : Option Addr) (cl0_7' : Nat) (Al0_8' : Option Addr) (cl0_8' : Nat) (ft' : List Nat), v = .tuple #[] ∧ St (foots [boxE g0 [.pointer A0_0, .int .i64 p0_1, .int .i64 p0_2, .int .i64 p0_3, .slice A0_4 p0_4.length c0_4, .slice A0_5 p0_5.length c0_5, .int .u8 p0_6, .slice A0_7 p0_7.length c0_7, .slice A0_8 p0_8.length c0_8] 84, rowE .u8 5 A0_7 c0_7 p0_7, rowE .u8 26 A0_8 c0_8 p0_8]) w0 w [boxE g0 [.pointer Al0_0', .int .i64 p0_1, .int .i64 p0_2, .int .i64 r.2.1, .slice A0_4 p0_4.length c0_4, .slice A0_5 p0_5.length c0_5, .int .u8 p0_6, .slice Al0_7' r.2.2.1.length cl0_7', .slice Al0_8' r.2.2.2.length cl0_8'] 84, rowE .u8 5 Al0_7' cl0_7' r.2.2.1, rowE .u8 26 Al0_8' cl0_8' r.2.2.2, poolE ft' w] ∧ (fCh 100 entembedentry Al0_0' r.1).rd w (ft' ++ (ft0_0))

set_option maxRecDepth 100000 in
set_option maxHeartbeats 4000000 in
theorem pOvR_ok (N : Nat) (p0_0 : List (Int × Int × Bool)) (p0_1 : Int) (p0_2 : Int) (p0_3 : Int) (p0_4 : List Int) (p0_5 : List Int) (p0_6 : Int) (p0_7 : List Int) (p0_8 : List Int) (p1 : Int) (g0 : Nat) (A0_0 : Option Addr) (ft0_0 : List Nat) (A0_4 : Option Addr) (c0_4 : Nat) (A0_5 : Option Addr) (c0_5 : Nat) (A0_7 : Option Addr) (c0_7 : Nat) (A0_8 : Option Addr) (c0_8 : Nat) (r : List (Int × Int × Bool) × Int × List Int × List Int) (hF : pOvR N p0_0 p0_1 p0_2 p0_3 p0_4 p0_5 p0_6 p0_7 p0_8 p1 = some r) (w0 : World) (hv0_0 : (fCh 100 entembedentry A0_0 p0_0).rd w0 ft0_0) (ho0_0 : Off (foots [boxE g0 [.pointer A0_0, .int .i64 p0_1, .int .i64 p0_2, .int .i64 p0_3, .slice A0_4 p0_4.length c0_4, .slice A0_5 p0_5.length c0_5, .int .u8 p0_6, .slice A0_7 p0_7.length c0_7, .slice A0_8 p0_8.length c0_8] 84, rowE .u8 5 A0_7 c0_7 p0_7, rowE .u8 26 A0_8 c0_8 p0_8]) w0 ft0_0) (hv0_4 : Vw (foots [boxE g0 [.pointer A0_0, .int .i64 p0_1, .int .i64 p0_2, .int .i64 p0_3, .slice A0_4 p0_4.length c0_4, .slice A0_5 p0_5.length c0_5, .int .u8 p0_6, .slice A0_7 p0_7.length c0_7, .slice A0_8 p0_8.length c0_8] 84, rowE .u8 5 A0_7 c0_7 p0_7, rowE .u8 26 A0_8 c0_8 p0_8]) .u8 w0 A0_4 c0_4 p0_4) (hv0_5 : Vw (foots [boxE g0 [.pointer A0_0, .int .i64 p0_1, .int .i64 p0_2, .int .i64 p0_3, .slice A0_4 p0_4.length c0_4, .slice A0_5 p0_5.length c0_5, .int .u8 p0_6, .slice A0_7 p0_7.length c0_7, .slice A0_8 p0_8.length c0_8] 84, rowE .u8 5 A0_7 c0_7 p0_7, rowE .u8 26 A0_8 c0_8 p0_8]) .i64 w0 A0_5 c0_5 p0_5) (hl : St (foots [boxE g0 [.pointer A0_0, .int .i64 p0_1, .int .i64 p0_2, .int .i64 p0_3, .slice A0_4 p0_4.length c0_4, .slice A0_5 p0_5.length c0_5, .int .u8 p0_6, .slice A0_7 p0_7.length c0_7, .slice A0_8 p0_8.length c0_8] 84, rowE .u8 5 A0_7 c0_7 p0_7, rowE .u8 26 A0_8 c0_8 p0_8]) w0 w0 [boxE g0 [.pointer A0_0, .int .i64 p0_1, .int .i64 p0_2, .int .i64 p0_3, .slice A0_4 p0_4.length c0_4, .slice A0_5 p0_5.length c0_5, .int .u8 p0_6, .slice A0_7 p0_7.length c0_7, .slice A0_8 p0_8.length c0_8] 84, rowE .u8 5 A0_7 c0_7 p0_7, rowE .u8 26 A0_8 c0_8 p0_8]) :
  Calls Try.prog 64 #[.pointer (some ⟨g0, 0, none⟩), .int .i64 p1] w0 fun e w => ∃ v, e = .returned v ∧ pOvR_R p0_0 p0_1 p0_2 p0_3 p0_4 p0_5 p0_6 p0_7 p0_8 p1 g0 A0_0 ft0_0 A0_4 c0_4 A0_5 c0_5 A0_7 c0_7 A0_8 c0_8 r w0 v w := by
 have hS0 := (hl).pool0
 unfold pOvR at hF
 refine calls_of Try.func64 rfl ⟨((.pointer (some ⟨g0, 0, none⟩)) :: (.int .i64 p1) :: un 5 ([])).toArray, []⟩ (by kernel_rfl) ?_
 refine gx_region ?_
 refine gx_k (.pointer (some ⟨g0, 0, none⟩)) w0 (gx_k (.int .i64 p1) w0 ?_)
 have hP1 : St _ _ w0 ([boxE g0 [.pointer A0_0, .int .i64 p0_1, .int .i64 p0_2, .int .i64 p0_3, .slice A0_4 p0_4.length c0_4, .slice A0_5 p0_5.length c0_5, .int .u8 p0_6, .slice A0_7 p0_7.length c0_7, .slice A0_8 p0_8.length c0_8] 84, rowE .u8 5 A0_7 c0_7 p0_7, rowE .u8 26 A0_8 c0_8 p0_8] ++ [poolE ([]) w0]) := hS0
 obtain ⟨⟨l3, x6, l7, l10⟩, hc2, hF⟩ := bind_in hF
 try dsimp only at hF
 refine gx_c (pEmbed_R p0_0 p0_1 p0_2 p0_3 p0_4 p0_5 p0_6 p0_7 p0_8 p1 (2 : Int) (2 : Int) g0 A0_0 ft0_0 A0_4 c0_4 A0_5 c0_5 A0_7 c0_7 A0_8 c0_8 (l3, x6, l7, l10) w0) (pEmbed_ok N p0_0 p0_1 p0_2 p0_3 p0_4 p0_5 p0_6 p0_7 p0_8 p1 (2 : Int) (2 : Int) g0 A0_0 ft0_0 A0_4 c0_4 A0_5 c0_5 A0_7 c0_7 A0_8 c0_8 _ hc2 w0 (hS0.inn ho0_0 hv0_0) (hP1.offIA ho0_0) (hP1.vwA hv0_4) (hP1.vwA hv0_5) hP1.part) ?_
 rintro _ w14 ⟨A4, A8, c9, A11, c12, ft13, rfl, hT16, hf5⟩
 have hS15 : St _ _ w14 [poolE ([]) w0, boxE g0 [.pointer A4, .int .i64 p0_1, .int .i64 p0_2, .int .i64 x6, .slice A0_4 p0_4.length c0_4, .slice A0_5 p0_5.length c0_5, .int .u8 p0_6, .slice A8 l7.length c9, .slice A11 l10.length c12] 84, rowE .u8 5 A8 c9 l7, rowE .u8 26 A11 c12 l10, poolE ft13 w14] := hP1.lendN _ hT16
 obtain ⟨ft17, W18, hS19, hT20, hU21, hU22, hU23⟩ := hS15.mergeW 4 0 rfl rfl (by decide)
 have hS19 : St _ _ w14 [poolE ft17 W18, boxE g0 [.pointer A4, .int .i64 p0_1, .int .i64 p0_2, .int .i64 x6, .slice A0_4 p0_4.length c0_4, .slice A0_5 p0_5.length c0_5, .int .u8 p0_6, .slice A8 l7.length c9, .slice A11 l10.length c12] 84, rowE .u8 5 A8 c9 l7, rowE .u8 26 A11 c12 l10] := hS19
 have hT20 : Turn (foots [boxE g0 [.pointer A0_0, .int .i64 p0_1, .int .i64 p0_2, .int .i64 p0_3, .slice A0_4 p0_4.length c0_4, .slice A0_5 p0_5.length c0_5, .int .u8 p0_6, .slice A0_7 p0_7.length c0_7, .slice A0_8 p0_8.length c0_8] 84, rowE .u8 5 A0_7 c0_7 p0_7, rowE .u8 26 A0_8 c0_8 p0_8]) w0 w0 ([]) W18 ft17 := hT20
 have hf24 : (fCh 100 entembedentry A4 l3).rd W18 (ft17 ++ (ft0_0)) := hU23 _ _ (ft0_0) (fun k hk => by simp only [List.mem_append] at hk ⊢; grind) hf5
 refine gx_nil ?_
 have hS25 : St _ _ w14 [poolE ft17 w14, boxE g0 [.pointer A4, .int .i64 p0_1, .int .i64 p0_2, .int .i64 x6, .slice A0_4 p0_4.length c0_4, .slice A0_5 p0_5.length c0_5, .int .u8 p0_6, .slice A8 l7.length c9, .slice A11 l10.length c12] 84, rowE .u8 5 A8 c9 l7, rowE .u8 26 A11 c12 l10] := hS19.renew 0 rfl
 obtain rfl := Option.some.inj hF
 exact gx_finN (.tuple #[]) (by kernel_rfl) (by kernel_rfl) ⟨_, rfl, A4, A8, c9, A11, c12, ft17, rfl, (hS25.pick [1, 2, 3, 0] rfl rfl), (hS19.nowM 0 rfl (hT20.inn (Inn.of ho0_0)) hf24)⟩

def pLeE (N : Nat) (p0_0 : List (Int × Int × Bool)) (p0_1 : Int) (p0_2 : Int) (p0_3 : Int) (p0_4 : List Int) (p0_5 : List Int) (p0_6 : Int) (p0_7 : List Int) (p0_8 : List Int) (p1 : Int) : Option (List (Int × Int × Bool) × Int × List Int × List Int) :=
 ((pRemove N p0_0 p0_1 p0_2 p0_3 p0_4 p0_5 p0_6 p0_7 p0_8 p1).bind fun (l5, l8) => ((pEndE N p0_0 p0_1 p0_2 p0_3 p0_4 p0_5 p0_6 l5 l8).bind fun (l16, x19) => some (l16, x19, l5, l8)))

set_option linter.unusedVariables false in
def pLeE_R (p0_0 : List (Int × Int × Bool)) (p0_1 : Int) (p0_2 : Int) (p0_3 : Int) (p0_4 : List Int) (p0_5 : List Int) (p0_6 : Int) (p0_7 : List Int) (p0_8 : List Int) (p1 : Int) (g0 : Nat) (A0_0 : Option Addr) (ft0_0 : List Nat) (A0_4 : Option Addr) (c0_4 : Nat) (A0_5 : Option Addr) (c0_5 : Nat) (A0_7 : Option Addr) (c0_7 : Nat) (A0_8 : Option Addr) (c0_8 : Nat) (r : List (Int × Int × Bool) × Int × List Int × List Int) (w0 : World) (v : Value) (w : World) : Prop := ∃ (Al0_0' : Option Addr) (Al0_7' : Option Addr) (cl0_7' : Nat) (Al0_8' : Option Addr) (cl0_8' : Nat) (ft' : List Nat), v = .tuple #[] ∧ St (foots [boxE g0 [.pointer A0_0, .int .i64 p0_1, .int .i64 p0_2, .int .i64 p0_3, .slice A0_4 p0_4.length c0_4, .slice A0_5 p0_5.length c0_5, .int .u8 p0_6, .slice A0_7 p0_7.length c0_7, .slice A0_8 p0_8.length c0_8] 84, rowE .u8 5 A0_7 c0_7 p0_7, rowE .u8 26 A0_8 c0_8 p0_8]) w0 w [boxE g0 [.pointer Al0_0', .int .i64 p0_1, .int .i64 p0_2, .int .i64 r.2.1, .slice A0_4 p0_4.length c0_4, .slice A0_5 p0_5.length c0_5, .int .u8 p0_6, .slice Al0_7' r.2.2.1.length cl0_7', .slice Al0_8' r.2.2.2.length cl0_8'] 84, rowE .u8 5 Al0_7' cl0_7' r.2.2.1, rowE .u8 26 Al0_8' cl0_8' r.2.2.2, poolE ft' w] ∧ (fCh 100 entembedentry Al0_0' r.1).rd w (ft' ++ (ft0_0))

set_option maxRecDepth 100000 in
set_option maxHeartbeats 4000000 in
theorem pLeE_ok (N : Nat) (p0_0 : List (Int × Int × Bool)) (p0_1 : Int) (p0_2 : Int) (p0_3 : Int) (p0_4 : List Int) (p0_5 : List Int) (p0_6 : Int) (p0_7 : List Int) (p0_8 : List Int) (p1 : Int) (g0 : Nat) (A0_0 : Option Addr) (ft0_0 : List Nat) (A0_4 : Option Addr) (c0_4 : Nat) (A0_5 : Option Addr) (c0_5 : Nat) (A0_7 : Option Addr) (c0_7 : Nat) (A0_8 : Option Addr) (c0_8 : Nat) (r : List (Int × Int × Bool) × Int × List Int × List Int) (hF : pLeE N p0_0 p0_1 p0_2 p0_3 p0_4 p0_5 p0_6 p0_7 p0_8 p1 = some r) (w0 : World) (hv0_0 : (fCh 100 entembedentry A0_0 p0_0).rd w0 ft0_0) (ho0_0 : Off (foots [boxE g0 [.pointer A0_0, .int .i64 p0_1, .int .i64 p0_2, .int .i64 p0_3, .slice A0_4 p0_4.length c0_4, .slice A0_5 p0_5.length c0_5, .int .u8 p0_6, .slice A0_7 p0_7.length c0_7, .slice A0_8 p0_8.length c0_8] 84, rowE .u8 5 A0_7 c0_7 p0_7, rowE .u8 26 A0_8 c0_8 p0_8]) w0 ft0_0) (hv0_4 : Vw (foots [boxE g0 [.pointer A0_0, .int .i64 p0_1, .int .i64 p0_2, .int .i64 p0_3, .slice A0_4 p0_4.length c0_4, .slice A0_5 p0_5.length c0_5, .int .u8 p0_6, .slice A0_7 p0_7.length c0_7, .slice A0_8 p0_8.length c0_8] 84, rowE .u8 5 A0_7 c0_7 p0_7, rowE .u8 26 A0_8 c0_8 p0_8]) .u8 w0 A0_4 c0_4 p0_4) (hv0_5 : Vw (foots [boxE g0 [.pointer A0_0, .int .i64 p0_1, .int .i64 p0_2, .int .i64 p0_3, .slice A0_4 p0_4.length c0_4, .slice A0_5 p0_5.length c0_5, .int .u8 p0_6, .slice A0_7 p0_7.length c0_7, .slice A0_8 p0_8.length c0_8] 84, rowE .u8 5 A0_7 c0_7 p0_7, rowE .u8 26 A0_8 c0_8 p0_8]) .i64 w0 A0_5 c0_5 p0_5) (hl : St (foots [boxE g0 [.pointer A0_0, .int .i64 p0_1, .int .i64 p0_2, .int .i64 p0_3, .slice A0_4 p0_4.length c0_4, .slice A0_5 p0_5.length c0_5, .int .u8 p0_6, .slice A0_7 p0_7.length c0_7, .slice A0_8 p0_8.length c0_8] 84, rowE .u8 5 A0_7 c0_7 p0_7, rowE .u8 26 A0_8 c0_8 p0_8]) w0 w0 [boxE g0 [.pointer A0_0, .int .i64 p0_1, .int .i64 p0_2, .int .i64 p0_3, .slice A0_4 p0_4.length c0_4, .slice A0_5 p0_5.length c0_5, .int .u8 p0_6, .slice A0_7 p0_7.length c0_7, .slice A0_8 p0_8.length c0_8] 84, rowE .u8 5 A0_7 c0_7 p0_7, rowE .u8 26 A0_8 c0_8 p0_8]) :
  Calls Try.prog 65 #[.pointer (some ⟨g0, 0, none⟩), .int .i64 p1] w0 fun e w => ∃ v, e = .returned v ∧ pLeE_R p0_0 p0_1 p0_2 p0_3 p0_4 p0_5 p0_6 p0_7 p0_8 p1 g0 A0_0 ft0_0 A0_4 c0_4 A0_5 c0_5 A0_7 c0_7 A0_8 c0_8 r w0 v w := by
 have hS0 := (hl).pool0
 unfold pLeE at hF
 refine calls_of Try.func65 rfl ⟨((.pointer (some ⟨g0, 0, none⟩)) :: (.int .i64 p1) :: un 9 ([])).toArray, []⟩ (by kernel_rfl) ?_
 refine gx_seq (fun K1 hK2 => ?_)
 refine gx_region ?_
 refine gx_k (.pointer (some ⟨g0, 0, none⟩)) w0 (gx_k (.int .i64 p1) w0 ?_)
 have hP3 : St _ _ w0 ([boxE g0 [.pointer A0_0, .int .i64 p0_1, .int .i64 p0_2, .int .i64 p0_3, .slice A0_4 p0_4.length c0_4, .slice A0_5 p0_5.length c0_5, .int .u8 p0_6, .slice A0_7 p0_7.length c0_7, .slice A0_8 p0_8.length c0_8] 84, rowE .u8 5 A0_7 c0_7 p0_7, rowE .u8 26 A0_8 c0_8 p0_8] ++ [poolE ([]) w0]) := hS0
 obtain ⟨⟨l5, l8⟩, hc4, hF⟩ := bind_in hF
 try dsimp only at hF
 refine gx_c (pRemove_R p0_0 p0_1 p0_2 p0_3 p0_4 p0_5 p0_6 p0_7 p0_8 p1 g0 A0_0 ft0_0 A0_4 c0_4 A0_5 c0_5 A0_7 c0_7 A0_8 c0_8 (l5, l8) w0) (pRemove_ok N p0_0 p0_1 p0_2 p0_3 p0_4 p0_5 p0_6 p0_7 p0_8 p1 g0 A0_0 ft0_0 A0_4 c0_4 A0_5 c0_5 A0_7 c0_7 A0_8 c0_8 _ hc4 w0 (hS0.inn ho0_0 hv0_0) (hP3.offIA ho0_0) (hP3.vwA hv0_4) (hP3.vwA hv0_5) hP3.part) ?_
 rintro _ w11 ⟨A6, c7, A9, c10, rfl, hT13⟩
 have hS12 : St _ _ w11 [poolE ([]) w0, boxE g0 [.pointer A0_0, .int .i64 p0_1, .int .i64 p0_2, .int .i64 p0_3, .slice A0_4 p0_4.length c0_4, .slice A0_5 p0_5.length c0_5, .int .u8 p0_6, .slice A6 l5.length c7, .slice A9 l8.length c10] 84, rowE .u8 5 A6 c7 l5, rowE .u8 26 A9 c10 l8] := hP3.lendN _ hT13
 refine gx_nil ?_
 refine gx_thenN ?_
 refine hK2 _ _ ?_
 refine gx_region ?_
 refine gx_k (.pointer (some ⟨g0, 0, none⟩)) w11 (gx_k (.pointer (some ⟨g0, 0, none⟩)) w11 (gx_k (.pointer (some ⟨g0, 0, none⟩)) w11 ?_))
 have hP14 : St _ _ w11 ([boxE g0 [.pointer A0_0, .int .i64 p0_1, .int .i64 p0_2, .int .i64 p0_3, .slice A0_4 p0_4.length c0_4, .slice A0_5 p0_5.length c0_5, .int .u8 p0_6, .slice A6 l5.length c7, .slice A9 l8.length c10] 84] ++ [poolE ([]) w0, rowE .u8 5 A6 c7 l5, rowE .u8 26 A9 c10 l8]) := hS12.pick [1, 0, 2, 3] rfl rfl
 obtain ⟨⟨l16, x19⟩, hc15, hF⟩ := bind_in hF
 try dsimp only at hF
 refine gx_c (pEndE_R p0_0 p0_1 p0_2 p0_3 p0_4 p0_5 p0_6 l5 l8 g0 A0_0 ft0_0 A0_4 c0_4 A0_5 c0_5 A6 c7 A9 c10 (l16, x19) w11) (pEndE_ok N p0_0 p0_1 p0_2 p0_3 p0_4 p0_5 p0_6 l5 l8 g0 A0_0 ft0_0 A0_4 c0_4 A0_5 c0_5 A6 c7 A9 c10 _ hc15 w11 (hS12.inn ho0_0 hv0_0) (hP14.offIA ho0_0) (hP14.vwA hv0_4) (hP14.vwA hv0_5) (hP14.vwB 1 rfl) (hP14.vwB 2 rfl) hP14.part) ?_
 rintro _ w21 ⟨A17, ft20, rfl, hT23, hf18⟩
 have hS22 : St _ _ w21 [poolE ([]) w0, rowE .u8 5 A6 c7 l5, rowE .u8 26 A9 c10 l8, boxE g0 [.pointer A17, .int .i64 p0_1, .int .i64 p0_2, .int .i64 x19, .slice A0_4 p0_4.length c0_4, .slice A0_5 p0_5.length c0_5, .int .u8 p0_6, .slice A6 l5.length c7, .slice A9 l8.length c10] 84, poolE ft20 w21] := hP14.lendN _ hT23
 obtain ⟨ft24, W25, hS26, hT27, hU28, hU29, hU30⟩ := hS22.mergeW 4 0 rfl rfl (by decide)
 have hS26 : St _ _ w21 [poolE ft24 W25, rowE .u8 5 A6 c7 l5, rowE .u8 26 A9 c10 l8, boxE g0 [.pointer A17, .int .i64 p0_1, .int .i64 p0_2, .int .i64 x19, .slice A0_4 p0_4.length c0_4, .slice A0_5 p0_5.length c0_5, .int .u8 p0_6, .slice A6 l5.length c7, .slice A9 l8.length c10] 84] := hS26
 have hT27 : Turn (foots [boxE g0 [.pointer A0_0, .int .i64 p0_1, .int .i64 p0_2, .int .i64 p0_3, .slice A0_4 p0_4.length c0_4, .slice A0_5 p0_5.length c0_5, .int .u8 p0_6, .slice A0_7 p0_7.length c0_7, .slice A0_8 p0_8.length c0_8] 84, rowE .u8 5 A0_7 c0_7 p0_7, rowE .u8 26 A0_8 c0_8 p0_8]) w0 w0 ([]) W25 ft24 := hT27
 have hf31 : (fCh 100 entembedentry A17 l16).rd W25 (ft24 ++ (ft0_0)) := hU30 _ _ (ft0_0) (fun k hk => by simp only [List.mem_append] at hk ⊢; grind) hf18
 refine gx_nil ?_
 have hS32 : St _ _ w21 [poolE ft24 w21, rowE .u8 5 A6 c7 l5, rowE .u8 26 A9 c10 l8, boxE g0 [.pointer A17, .int .i64 p0_1, .int .i64 p0_2, .int .i64 x19, .slice A0_4 p0_4.length c0_4, .slice A0_5 p0_5.length c0_5, .int .u8 p0_6, .slice A6 l5.length c7, .slice A9 l8.length c10] 84] := hS26.renew 0 rfl
 obtain rfl := Option.some.inj hF
 exact gx_finN (.tuple #[]) (by kernel_rfl) (by kernel_rfl) ⟨_, rfl, A17, A6, c7, A9, c10, ft24, rfl, (hS32.pick [3, 1, 2, 0] rfl rfl), (hS26.nowM 0 rfl (hT27.inn (Inn.of ho0_0)) hf31)⟩

def pIsol (N : Nat) (p0_0 : List (Int × Int × Bool)) (p0_1 : Int) (p0_2 : Int) (p0_3 : Int) (p0_4 : List Int) (p0_5 : List Int) (p0_6 : Int) (p0_7 : List Int) (p0_8 : List Int) (p1 : Int) (p2 : Int) : Option (List (Int × Int × Bool) × Int × Int × List Int × List Int) :=
 ((pStand N p0_0 p0_1 p0_2 p0_3 p0_4 p0_5 p0_6 p0_7 p0_8 p1).bind fun (l5, l8) => ((pBegI N p0_0 p0_1 p0_2 p0_3 p0_4 p0_5 p0_6 l5 l8 p2).bind fun (l16, x19, x20) => some (l16, x19, x20, l5, l8)))

set_option linter.unusedVariables false in
def pIsol_R (p0_0 : List (Int × Int × Bool)) (p0_1 : Int) (p0_2 : Int) (p0_3 : Int) (p0_4 : List Int) (p0_5 : List Int) (p0_6 : Int) (p0_7 : List Int) (p0_8 : List Int) (p1 : Int) (p2 : Int) (g0 : Nat) (A0_0 : Option Addr) (ft0_0 : List Nat) (A0_4 : Option Addr) (c0_4 : Nat) (A0_5 : Option Addr) (c0_5 : Nat) (A0_7 : Option Addr) (c0_7 : Nat) (A0_8 : Option Addr) (c0_8 : Nat) (r : List (Int × Int × Bool) × Int × Int × List Int × List Int) (w0 : World) (v : Value) (w : World) : Prop := ∃ (Al0_0' : Option Addr) (Al0_7' : Option Addr) (cl0_7' : Nat) (Al0_8' : Option Addr) (cl0_8' : Nat) (ft' : List Nat), v = .tuple #[] ∧ St (foots [boxE g0 [.pointer A0_0, .int .i64 p0_1, .int .i64 p0_2, .int .i64 p0_3, .slice A0_4 p0_4.length c0_4, .slice A0_5 p0_5.length c0_5, .int .u8 p0_6, .slice A0_7 p0_7.length c0_7, .slice A0_8 p0_8.length c0_8] 84, rowE .u8 5 A0_7 c0_7 p0_7, rowE .u8 26 A0_8 c0_8 p0_8]) w0 w [boxE g0 [.pointer Al0_0', .int .i64 r.2.1, .int .i64 r.2.2.1, .int .i64 p0_3, .slice A0_4 p0_4.length c0_4, .slice A0_5 p0_5.length c0_5, .int .u8 p0_6, .slice Al0_7' r.2.2.2.1.length cl0_7', .slice Al0_8' r.2.2.2.2.length cl0_8'] 84, rowE .u8 5 Al0_7' cl0_7' r.2.2.2.1, rowE .u8 26 Al0_8' cl0_8' r.2.2.2.2, poolE ft' w] ∧ (fCh 100 entembedentry Al0_0' r.1).rd w (ft' ++ (ft0_0))

set_option maxRecDepth 100000 in
set_option maxHeartbeats 4000000 in
theorem pIsol_ok (N : Nat) (p0_0 : List (Int × Int × Bool)) (p0_1 : Int) (p0_2 : Int) (p0_3 : Int) (p0_4 : List Int) (p0_5 : List Int) (p0_6 : Int) (p0_7 : List Int) (p0_8 : List Int) (p1 : Int) (p2 : Int) (g0 : Nat) (A0_0 : Option Addr) (ft0_0 : List Nat) (A0_4 : Option Addr) (c0_4 : Nat) (A0_5 : Option Addr) (c0_5 : Nat) (A0_7 : Option Addr) (c0_7 : Nat) (A0_8 : Option Addr) (c0_8 : Nat) (r : List (Int × Int × Bool) × Int × Int × List Int × List Int) (hF : pIsol N p0_0 p0_1 p0_2 p0_3 p0_4 p0_5 p0_6 p0_7 p0_8 p1 p2 = some r) (w0 : World) (hv0_0 : (fCh 100 entembedentry A0_0 p0_0).rd w0 ft0_0) (ho0_0 : Off (foots [boxE g0 [.pointer A0_0, .int .i64 p0_1, .int .i64 p0_2, .int .i64 p0_3, .slice A0_4 p0_4.length c0_4, .slice A0_5 p0_5.length c0_5, .int .u8 p0_6, .slice A0_7 p0_7.length c0_7, .slice A0_8 p0_8.length c0_8] 84, rowE .u8 5 A0_7 c0_7 p0_7, rowE .u8 26 A0_8 c0_8 p0_8]) w0 ft0_0) (hv0_4 : Vw (foots [boxE g0 [.pointer A0_0, .int .i64 p0_1, .int .i64 p0_2, .int .i64 p0_3, .slice A0_4 p0_4.length c0_4, .slice A0_5 p0_5.length c0_5, .int .u8 p0_6, .slice A0_7 p0_7.length c0_7, .slice A0_8 p0_8.length c0_8] 84, rowE .u8 5 A0_7 c0_7 p0_7, rowE .u8 26 A0_8 c0_8 p0_8]) .u8 w0 A0_4 c0_4 p0_4) (hv0_5 : Vw (foots [boxE g0 [.pointer A0_0, .int .i64 p0_1, .int .i64 p0_2, .int .i64 p0_3, .slice A0_4 p0_4.length c0_4, .slice A0_5 p0_5.length c0_5, .int .u8 p0_6, .slice A0_7 p0_7.length c0_7, .slice A0_8 p0_8.length c0_8] 84, rowE .u8 5 A0_7 c0_7 p0_7, rowE .u8 26 A0_8 c0_8 p0_8]) .i64 w0 A0_5 c0_5 p0_5) (hl : St (foots [boxE g0 [.pointer A0_0, .int .i64 p0_1, .int .i64 p0_2, .int .i64 p0_3, .slice A0_4 p0_4.length c0_4, .slice A0_5 p0_5.length c0_5, .int .u8 p0_6, .slice A0_7 p0_7.length c0_7, .slice A0_8 p0_8.length c0_8] 84, rowE .u8 5 A0_7 c0_7 p0_7, rowE .u8 26 A0_8 c0_8 p0_8]) w0 w0 [boxE g0 [.pointer A0_0, .int .i64 p0_1, .int .i64 p0_2, .int .i64 p0_3, .slice A0_4 p0_4.length c0_4, .slice A0_5 p0_5.length c0_5, .int .u8 p0_6, .slice A0_7 p0_7.length c0_7, .slice A0_8 p0_8.length c0_8] 84, rowE .u8 5 A0_7 c0_7 p0_7, rowE .u8 26 A0_8 c0_8 p0_8]) :
  Calls Try.prog 72 #[.pointer (some ⟨g0, 0, none⟩), .int .i64 p1, .int .u8 p2] w0 fun e w => ∃ v, e = .returned v ∧ pIsol_R p0_0 p0_1 p0_2 p0_3 p0_4 p0_5 p0_6 p0_7 p0_8 p1 p2 g0 A0_0 ft0_0 A0_4 c0_4 A0_5 c0_5 A0_7 c0_7 A0_8 c0_8 r w0 v w := by
 have hS0 := (hl).pool0
 unfold pIsol at hF
 refine calls_of Try.func72 rfl ⟨((.pointer (some ⟨g0, 0, none⟩)) :: (.int .i64 p1) :: (.int .u8 p2) :: un 11 ([])).toArray, []⟩ (by kernel_rfl) ?_
 refine gx_seq (fun K1 hK2 => ?_)
 refine gx_region ?_
 refine gx_k (.pointer (some ⟨g0, 0, none⟩)) w0 (gx_k (.int .i64 p1) w0 ?_)
 have hP3 : St _ _ w0 ([boxE g0 [.pointer A0_0, .int .i64 p0_1, .int .i64 p0_2, .int .i64 p0_3, .slice A0_4 p0_4.length c0_4, .slice A0_5 p0_5.length c0_5, .int .u8 p0_6, .slice A0_7 p0_7.length c0_7, .slice A0_8 p0_8.length c0_8] 84, rowE .u8 5 A0_7 c0_7 p0_7, rowE .u8 26 A0_8 c0_8 p0_8] ++ [poolE ([]) w0]) := hS0
 obtain ⟨⟨l5, l8⟩, hc4, hF⟩ := bind_in hF
 try dsimp only at hF
 refine gx_c (pStand_R p0_0 p0_1 p0_2 p0_3 p0_4 p0_5 p0_6 p0_7 p0_8 p1 g0 A0_0 ft0_0 A0_4 c0_4 A0_5 c0_5 A0_7 c0_7 A0_8 c0_8 (l5, l8) w0) (pStand_ok N p0_0 p0_1 p0_2 p0_3 p0_4 p0_5 p0_6 p0_7 p0_8 p1 g0 A0_0 ft0_0 A0_4 c0_4 A0_5 c0_5 A0_7 c0_7 A0_8 c0_8 _ hc4 w0 (hS0.inn ho0_0 hv0_0) (hP3.offIA ho0_0) (hP3.vwA hv0_4) (hP3.vwA hv0_5) hP3.part) ?_
 rintro _ w11 ⟨A6, c7, A9, c10, rfl, hT13⟩
 have hS12 : St _ _ w11 [poolE ([]) w0, boxE g0 [.pointer A0_0, .int .i64 p0_1, .int .i64 p0_2, .int .i64 p0_3, .slice A0_4 p0_4.length c0_4, .slice A0_5 p0_5.length c0_5, .int .u8 p0_6, .slice A6 l5.length c7, .slice A9 l8.length c10] 84, rowE .u8 5 A6 c7 l5, rowE .u8 26 A9 c10 l8] := hP3.lendN _ hT13
 refine gx_nil ?_
 refine gx_thenN ?_
 refine hK2 _ _ ?_
 refine gx_region ?_
 refine gx_k (.pointer (some ⟨g0, 0, none⟩)) w11 (gx_k (.pointer (some ⟨g0, 0, none⟩)) w11 (gx_k (.pointer (some ⟨g0, 0, none⟩)) w11 (gx_k (.int .u8 p2) w11 ?_)))
 have hP14 : St _ _ w11 ([boxE g0 [.pointer A0_0, .int .i64 p0_1, .int .i64 p0_2, .int .i64 p0_3, .slice A0_4 p0_4.length c0_4, .slice A0_5 p0_5.length c0_5, .int .u8 p0_6, .slice A6 l5.length c7, .slice A9 l8.length c10] 84] ++ [poolE ([]) w0, rowE .u8 5 A6 c7 l5, rowE .u8 26 A9 c10 l8]) := hS12.pick [1, 0, 2, 3] rfl rfl
 obtain ⟨⟨l16, x19, x20⟩, hc15, hF⟩ := bind_in hF
 try dsimp only at hF
 refine gx_c (pBegI_R p0_0 p0_1 p0_2 p0_3 p0_4 p0_5 p0_6 l5 l8 p2 g0 A0_0 ft0_0 A0_4 c0_4 A0_5 c0_5 A6 c7 A9 c10 (l16, x19, x20) w11) (pBegI_ok N p0_0 p0_1 p0_2 p0_3 p0_4 p0_5 p0_6 l5 l8 p2 g0 A0_0 ft0_0 A0_4 c0_4 A0_5 c0_5 A6 c7 A9 c10 _ hc15 w11 (hS12.inn ho0_0 hv0_0) (hP14.offIA ho0_0) (hP14.vwA hv0_4) (hP14.vwA hv0_5) (hP14.vwB 1 rfl) (hP14.vwB 2 rfl) hP14.part) ?_
 rintro _ w22 ⟨A17, ft21, rfl, hT24, hf18⟩
 have hS23 : St _ _ w22 [poolE ([]) w0, rowE .u8 5 A6 c7 l5, rowE .u8 26 A9 c10 l8, boxE g0 [.pointer A17, .int .i64 x19, .int .i64 x20, .int .i64 p0_3, .slice A0_4 p0_4.length c0_4, .slice A0_5 p0_5.length c0_5, .int .u8 p0_6, .slice A6 l5.length c7, .slice A9 l8.length c10] 84, poolE ft21 w22] := hP14.lendN _ hT24
 obtain ⟨ft25, W26, hS27, hT28, hU29, hU30, hU31⟩ := hS23.mergeW 4 0 rfl rfl (by decide)
 have hS27 : St _ _ w22 [poolE ft25 W26, rowE .u8 5 A6 c7 l5, rowE .u8 26 A9 c10 l8, boxE g0 [.pointer A17, .int .i64 x19, .int .i64 x20, .int .i64 p0_3, .slice A0_4 p0_4.length c0_4, .slice A0_5 p0_5.length c0_5, .int .u8 p0_6, .slice A6 l5.length c7, .slice A9 l8.length c10] 84] := hS27
 have hT28 : Turn (foots [boxE g0 [.pointer A0_0, .int .i64 p0_1, .int .i64 p0_2, .int .i64 p0_3, .slice A0_4 p0_4.length c0_4, .slice A0_5 p0_5.length c0_5, .int .u8 p0_6, .slice A0_7 p0_7.length c0_7, .slice A0_8 p0_8.length c0_8] 84, rowE .u8 5 A0_7 c0_7 p0_7, rowE .u8 26 A0_8 c0_8 p0_8]) w0 w0 ([]) W26 ft25 := hT28
 have hf32 : (fCh 100 entembedentry A17 l16).rd W26 (ft25 ++ (ft0_0)) := hU31 _ _ (ft0_0) (fun k hk => by simp only [List.mem_append] at hk ⊢; grind) hf18
 refine gx_nil ?_
 have hS33 : St _ _ w22 [poolE ft25 w22, rowE .u8 5 A6 c7 l5, rowE .u8 26 A9 c10 l8, boxE g0 [.pointer A17, .int .i64 x19, .int .i64 x20, .int .i64 p0_3, .slice A0_4 p0_4.length c0_4, .slice A0_5 p0_5.length c0_5, .int .u8 p0_6, .slice A6 l5.length c7, .slice A9 l8.length c10] 84] := hS27.renew 0 rfl
 obtain rfl := Option.some.inj hF
 exact gx_finN (.tuple #[]) (by kernel_rfl) (by kernel_rfl) ⟨_, rfl, A17, A6, c7, A9, c10, ft25, rfl, (hS33.pick [3, 1, 2, 0] rfl rfl), (hS27.nowM 0 rfl (hT28.inn (Inn.of ho0_0)) hf32)⟩

def pIsL (N : Nat) (p0_0 : List (Int × Int × Bool)) (p0_1 : Int) (p0_2 : Int) (p0_3 : Int) (p0_4 : List Int) (p0_5 : List Int) (p0_6 : Int) (p0_7 : List Int) (p0_8 : List Int) (p1 : Int) : Option (List (Int × Int × Bool) × Int × Int × List Int × List Int) :=
 ((pIsol N p0_0 p0_1 p0_2 p0_3 p0_4 p0_5 p0_6 p0_7 p0_8 p1 (1 : Int)).bind fun (l3, x6, x7, l8, l11) => some (l3, x6, x7, l8, l11))

set_option linter.unusedVariables false in
def pIsL_R (p0_0 : List (Int × Int × Bool)) (p0_1 : Int) (p0_2 : Int) (p0_3 : Int) (p0_4 : List Int) (p0_5 : List Int) (p0_6 : Int) (p0_7 : List Int) (p0_8 : List Int) (p1 : Int) (g0 : Nat) (A0_0 : Option Addr) (ft0_0 : List Nat) (A0_4 : Option Addr) (c0_4 : Nat) (A0_5 : Option Addr) (c0_5 : Nat) (A0_7 : Option Addr) (c0_7 : Nat) (A0_8 : Option Addr) (c0_8 : Nat) (r : List (Int × Int × Bool) × Int × Int × List Int × List Int) (w0 : World) (v : Value) (w : World) : Prop := ∃ (Al0_0' : Option Addr) (Al0_7' : Option Addr) (cl0_7' : Nat) (Al0_8' : Option Addr) (cl0_8' : Nat) (ft' : List Nat), v = .tuple #[] ∧ St (foots [boxE g0 [.pointer A0_0, .int .i64 p0_1, .int .i64 p0_2, .int .i64 p0_3, .slice A0_4 p0_4.length c0_4, .slice A0_5 p0_5.length c0_5, .int .u8 p0_6, .slice A0_7 p0_7.length c0_7, .slice A0_8 p0_8.length c0_8] 84, rowE .u8 5 A0_7 c0_7 p0_7, rowE .u8 26 A0_8 c0_8 p0_8]) w0 w [boxE g0 [.pointer Al0_0', .int .i64 r.2.1, .int .i64 r.2.2.1, .int .i64 p0_3, .slice A0_4 p0_4.length c0_4, .slice A0_5 p0_5.length c0_5, .int .u8 p0_6, .slice Al0_7' r.2.2.2.1.length cl0_7', .slice Al0_8' r.2.2.2.2.length cl0_8'] 84, rowE .u8 5 Al0_7' cl0_7' r.2.2.2.1, rowE .u8 26 Al0_8' cl0_8' r.2.2.2.2, poolE ft' w] ∧ (fCh 100 entembedentry Al0_0' r.1).rd w (ft' ++ (ft0_0))

set_option maxRecDepth 100000 in
set_option maxHeartbeats 4000000 in
theorem pIsL_ok (N : Nat) (p0_0 : List (Int × Int × Bool)) (p0_1 : Int) (p0_2 : Int) (p0_3 : Int) (p0_4 : List Int) (p0_5 : List Int) (p0_6 : Int) (p0_7 : List Int) (p0_8 : List Int) (p1 : Int) (g0 : Nat) (A0_0 : Option Addr) (ft0_0 : List Nat) (A0_4 : Option Addr) (c0_4 : Nat) (A0_5 : Option Addr) (c0_5 : Nat) (A0_7 : Option Addr) (c0_7 : Nat) (A0_8 : Option Addr) (c0_8 : Nat) (r : List (Int × Int × Bool) × Int × Int × List Int × List Int) (hF : pIsL N p0_0 p0_1 p0_2 p0_3 p0_4 p0_5 p0_6 p0_7 p0_8 p1 = some r) (w0 : World) (hv0_0 : (fCh 100 entembedentry A0_0 p0_0).rd w0 ft0_0) (ho0_0 : Off (foots [boxE g0 [.pointer A0_0, .int .i64 p0_1, .int .i64 p0_2, .int .i64 p0_3, .slice A0_4 p0_4.length c0_4, .slice A0_5 p0_5.length c0_5, .int .u8 p0_6, .slice A0_7 p0_7.length c0_7, .slice A0_8 p0_8.length c0_8] 84, rowE .u8 5 A0_7 c0_7 p0_7, rowE .u8 26 A0_8 c0_8 p0_8]) w0 ft0_0) (hv0_4 : Vw (foots [boxE g0 [.pointer A0_0, .int .i64 p0_1, .int .i64 p0_2, .int .i64 p0_3, .slice A0_4 p0_4.length c0_4, .slice A0_5 p0_5.length c0_5, .int .u8 p0_6, .slice A0_7 p0_7.length c0_7, .slice A0_8 p0_8.length c0_8] 84, rowE .u8 5 A0_7 c0_7 p0_7, rowE .u8 26 A0_8 c0_8 p0_8]) .u8 w0 A0_4 c0_4 p0_4) (hv0_5 : Vw (foots [boxE g0 [.pointer A0_0, .int .i64 p0_1, .int .i64 p0_2, .int .i64 p0_3, .slice A0_4 p0_4.length c0_4, .slice A0_5 p0_5.length c0_5, .int .u8 p0_6, .slice A0_7 p0_7.length c0_7, .slice A0_8 p0_8.length c0_8] 84, rowE .u8 5 A0_7 c0_7 p0_7, rowE .u8 26 A0_8 c0_8 p0_8]) .i64 w0 A0_5 c0_5 p0_5) (hl : St (foots [boxE g0 [.pointer A0_0, .int .i64 p0_1, .int .i64 p0_2, .int .i64 p0_3, .slice A0_4 p0_4.length c0_4, .slice A0_5 p0_5.length c0_5, .int .u8 p0_6, .slice A0_7 p0_7.length c0_7, .slice A0_8 p0_8.length c0_8] 84, rowE .u8 5 A0_7 c0_7 p0_7, rowE .u8 26 A0_8 c0_8 p0_8]) w0 w0 [boxE g0 [.pointer A0_0, .int .i64 p0_1, .int .i64 p0_2, .int .i64 p0_3, .slice A0_4 p0_4.length c0_4, .slice A0_5 p0_5.length c0_5, .int .u8 p0_6, .slice A0_7 p0_7.length c0_7, .slice A0_8 p0_8.length c0_8] 84, rowE .u8 5 A0_7 c0_7 p0_7, rowE .u8 26 A0_8 c0_8 p0_8]) :
  Calls Try.prog 66 #[.pointer (some ⟨g0, 0, none⟩), .int .i64 p1] w0 fun e w => ∃ v, e = .returned v ∧ pIsL_R p0_0 p0_1 p0_2 p0_3 p0_4 p0_5 p0_6 p0_7 p0_8 p1 g0 A0_0 ft0_0 A0_4 c0_4 A0_5 c0_5 A0_7 c0_7 A0_8 c0_8 r w0 v w := by
 have hS0 := (hl).pool0
 unfold pIsL at hF
 refine calls_of Try.func66 rfl ⟨((.pointer (some ⟨g0, 0, none⟩)) :: (.int .i64 p1) :: un 5 ([])).toArray, []⟩ (by kernel_rfl) ?_
 refine gx_region ?_
 refine gx_k (.pointer (some ⟨g0, 0, none⟩)) w0 (gx_k (.int .i64 p1) w0 ?_)
 have hP1 : St _ _ w0 ([boxE g0 [.pointer A0_0, .int .i64 p0_1, .int .i64 p0_2, .int .i64 p0_3, .slice A0_4 p0_4.length c0_4, .slice A0_5 p0_5.length c0_5, .int .u8 p0_6, .slice A0_7 p0_7.length c0_7, .slice A0_8 p0_8.length c0_8] 84, rowE .u8 5 A0_7 c0_7 p0_7, rowE .u8 26 A0_8 c0_8 p0_8] ++ [poolE ([]) w0]) := hS0
 obtain ⟨⟨l3, x6, x7, l8, l11⟩, hc2, hF⟩ := bind_in hF
 try dsimp only at hF
 refine gx_c (pIsol_R p0_0 p0_1 p0_2 p0_3 p0_4 p0_5 p0_6 p0_7 p0_8 p1 (1 : Int) g0 A0_0 ft0_0 A0_4 c0_4 A0_5 c0_5 A0_7 c0_7 A0_8 c0_8 (l3, x6, x7, l8, l11) w0) (pIsol_ok N p0_0 p0_1 p0_2 p0_3 p0_4 p0_5 p0_6 p0_7 p0_8 p1 (1 : Int) g0 A0_0 ft0_0 A0_4 c0_4 A0_5 c0_5 A0_7 c0_7 A0_8 c0_8 _ hc2 w0 (hS0.inn ho0_0 hv0_0) (hP1.offIA ho0_0) (hP1.vwA hv0_4) (hP1.vwA hv0_5) hP1.part) ?_
 rintro _ w15 ⟨A4, A9, c10, A12, c13, ft14, rfl, hT17, hf5⟩
 have hS16 : St _ _ w15 [poolE ([]) w0, boxE g0 [.pointer A4, .int .i64 x6, .int .i64 x7, .int .i64 p0_3, .slice A0_4 p0_4.length c0_4, .slice A0_5 p0_5.length c0_5, .int .u8 p0_6, .slice A9 l8.length c10, .slice A12 l11.length c13] 84, rowE .u8 5 A9 c10 l8, rowE .u8 26 A12 c13 l11, poolE ft14 w15] := hP1.lendN _ hT17
 obtain ⟨ft18, W19, hS20, hT21, hU22, hU23, hU24⟩ := hS16.mergeW 4 0 rfl rfl (by decide)
 have hS20 : St _ _ w15 [poolE ft18 W19, boxE g0 [.pointer A4, .int .i64 x6, .int .i64 x7, .int .i64 p0_3, .slice A0_4 p0_4.length c0_4, .slice A0_5 p0_5.length c0_5, .int .u8 p0_6, .slice A9 l8.length c10, .slice A12 l11.length c13] 84, rowE .u8 5 A9 c10 l8, rowE .u8 26 A12 c13 l11] := hS20
 have hT21 : Turn (foots [boxE g0 [.pointer A0_0, .int .i64 p0_1, .int .i64 p0_2, .int .i64 p0_3, .slice A0_4 p0_4.length c0_4, .slice A0_5 p0_5.length c0_5, .int .u8 p0_6, .slice A0_7 p0_7.length c0_7, .slice A0_8 p0_8.length c0_8] 84, rowE .u8 5 A0_7 c0_7 p0_7, rowE .u8 26 A0_8 c0_8 p0_8]) w0 w0 ([]) W19 ft18 := hT21
 have hf25 : (fCh 100 entembedentry A4 l3).rd W19 (ft18 ++ (ft0_0)) := hU24 _ _ (ft0_0) (fun k hk => by simp only [List.mem_append] at hk ⊢; grind) hf5
 refine gx_nil ?_
 have hS26 : St _ _ w15 [poolE ft18 w15, boxE g0 [.pointer A4, .int .i64 x6, .int .i64 x7, .int .i64 p0_3, .slice A0_4 p0_4.length c0_4, .slice A0_5 p0_5.length c0_5, .int .u8 p0_6, .slice A9 l8.length c10, .slice A12 l11.length c13] 84, rowE .u8 5 A9 c10 l8, rowE .u8 26 A12 c13 l11] := hS20.renew 0 rfl
 obtain rfl := Option.some.inj hF
 exact gx_finN (.tuple #[]) (by kernel_rfl) (by kernel_rfl) ⟨_, rfl, A4, A9, c10, A12, c13, ft18, rfl, (hS26.pick [1, 2, 3, 0] rfl rfl), (hS20.nowM 0 rfl (hT21.inn (Inn.of ho0_0)) hf25)⟩

def pIsR (N : Nat) (p0_0 : List (Int × Int × Bool)) (p0_1 : Int) (p0_2 : Int) (p0_3 : Int) (p0_4 : List Int) (p0_5 : List Int) (p0_6 : Int) (p0_7 : List Int) (p0_8 : List Int) (p1 : Int) : Option (List (Int × Int × Bool) × Int × Int × List Int × List Int) :=
 ((pIsol N p0_0 p0_1 p0_2 p0_3 p0_4 p0_5 p0_6 p0_7 p0_8 p1 (2 : Int)).bind fun (l3, x6, x7, l8, l11) => some (l3, x6, x7, l8, l11))

set_option linter.unusedVariables false in
def pIsR_R (p0_0 : List (Int × Int × Bool)) (p0_1 : Int) (p0_2 : Int) (p0_3 : Int) (p0_4 : List Int) (p0_5 : List Int) (p0_6 : Int) (p0_7 : List Int) (p0_8 : List Int) (p1 : Int) (g0 : Nat) (A0_0 : Option Addr) (ft0_0 : List Nat) (A0_4 : Option Addr) (c0_4 : Nat) (A0_5 : Option Addr) (c0_5 : Nat) (A0_7 : Option Addr) (c0_7 : Nat) (A0_8 : Option Addr) (c0_8 : Nat) (r : List (Int × Int × Bool) × Int × Int × List Int × List Int) (w0 : World) (v : Value) (w : World) : Prop := ∃ (Al0_0' : Option Addr) (Al0_7' : Option Addr) (cl0_7' : Nat) (Al0_8' : Option Addr) (cl0_8' : Nat) (ft' : List Nat), v = .tuple #[] ∧ St (foots [boxE g0 [.pointer A0_0, .int .i64 p0_1, .int .i64 p0_2, .int .i64 p0_3, .slice A0_4 p0_4.length c0_4, .slice A0_5 p0_5.length c0_5, .int .u8 p0_6, .slice A0_7 p0_7.length c0_7, .slice A0_8 p0_8.length c0_8] 84, rowE .u8 5 A0_7 c0_7 p0_7, rowE .u8 26 A0_8 c0_8 p0_8]) w0 w [boxE g0 [.pointer Al0_0', .int .i64 r.2.1, .int .i64 r.2.2.1, .int .i64 p0_3, .slice A0_4 p0_4.length c0_4, .slice A0_5 p0_5.length c0_5, .int .u8 p0_6, .slice Al0_7' r.2.2.2.1.length cl0_7', .slice Al0_8' r.2.2.2.2.length cl0_8'] 84, rowE .u8 5 Al0_7' cl0_7' r.2.2.2.1, rowE .u8 26 Al0_8' cl0_8' r.2.2.2.2, poolE ft' w] ∧ (fCh 100 entembedentry Al0_0' r.1).rd w (ft' ++ (ft0_0))

set_option maxRecDepth 100000 in
set_option maxHeartbeats 4000000 in
theorem pIsR_ok (N : Nat) (p0_0 : List (Int × Int × Bool)) (p0_1 : Int) (p0_2 : Int) (p0_3 : Int) (p0_4 : List Int) (p0_5 : List Int) (p0_6 : Int) (p0_7 : List Int) (p0_8 : List Int) (p1 : Int) (g0 : Nat) (A0_0 : Option Addr) (ft0_0 : List Nat) (A0_4 : Option Addr) (c0_4 : Nat) (A0_5 : Option Addr) (c0_5 : Nat) (A0_7 : Option Addr) (c0_7 : Nat) (A0_8 : Option Addr) (c0_8 : Nat) (r : List (Int × Int × Bool) × Int × Int × List Int × List Int) (hF : pIsR N p0_0 p0_1 p0_2 p0_3 p0_4 p0_5 p0_6 p0_7 p0_8 p1 = some r) (w0 : World) (hv0_0 : (fCh 100 entembedentry A0_0 p0_0).rd w0 ft0_0) (ho0_0 : Off (foots [boxE g0 [.pointer A0_0, .int .i64 p0_1, .int .i64 p0_2, .int .i64 p0_3, .slice A0_4 p0_4.length c0_4, .slice A0_5 p0_5.length c0_5, .int .u8 p0_6, .slice A0_7 p0_7.length c0_7, .slice A0_8 p0_8.length c0_8] 84, rowE .u8 5 A0_7 c0_7 p0_7, rowE .u8 26 A0_8 c0_8 p0_8]) w0 ft0_0) (hv0_4 : Vw (foots [boxE g0 [.pointer A0_0, .int .i64 p0_1, .int .i64 p0_2, .int .i64 p0_3, .slice A0_4 p0_4.length c0_4, .slice A0_5 p0_5.length c0_5, .int .u8 p0_6, .slice A0_7 p0_7.length c0_7, .slice A0_8 p0_8.length c0_8] 84, rowE .u8 5 A0_7 c0_7 p0_7, rowE .u8 26 A0_8 c0_8 p0_8]) .u8 w0 A0_4 c0_4 p0_4) (hv0_5 : Vw (foots [boxE g0 [.pointer A0_0, .int .i64 p0_1, .int .i64 p0_2, .int .i64 p0_3, .slice A0_4 p0_4.length c0_4, .slice A0_5 p0_5.length c0_5, .int .u8 p0_6, .slice A0_7 p0_7.length c0_7, .slice A0_8 p0_8.length c0_8] 84, rowE .u8 5 A0_7 c0_7 p0_7, rowE .u8 26 A0_8 c0_8 p0_8]) .i64 w0 A0_5 c0_5 p0_5) (hl : St (foots [boxE g0 [.pointer A0_0, .int .i64 p0_1, .int .i64 p0_2, .int .i64 p0_3, .slice A0_4 p0_4.length c0_4, .slice A0_5 p0_5.length c0_5, .int .u8 p0_6, .slice A0_7 p0_7.length c0_7, .slice A0_8 p0_8.length c0_8] 84, rowE .u8 5 A0_7 c0_7 p0_7, rowE .u8 26 A0_8 c0_8 p0_8]) w0 w0 [boxE g0 [.pointer A0_0, .int .i64 p0_1, .int .i64 p0_2, .int .i64 p0_3, .slice A0_4 p0_4.length c0_4, .slice A0_5 p0_5.length c0_5, .int .u8 p0_6, .slice A0_7 p0_7.length c0_7, .slice A0_8 p0_8.length c0_8] 84, rowE .u8 5 A0_7 c0_7 p0_7, rowE .u8 26 A0_8 c0_8 p0_8]) :
  Calls Try.prog 67 #[.pointer (some ⟨g0, 0, none⟩), .int .i64 p1] w0 fun e w => ∃ v, e = .returned v ∧ pIsR_R p0_0 p0_1 p0_2 p0_3 p0_4 p0_5 p0_6 p0_7 p0_8 p1 g0 A0_0 ft0_0 A0_4 c0_4 A0_5 c0_5 A0_7 c0_7 A0_8 c0_8 r w0 v w := by
 have hS0 := (hl).pool0
 unfold pIsR at hF
 refine calls_of Try.func67 rfl ⟨((.pointer (some ⟨g0, 0, none⟩)) :: (.int .i64 p1) :: un 5 ([])).toArray, []⟩ (by kernel_rfl) ?_
 refine gx_region ?_
 refine gx_k (.pointer (some ⟨g0, 0, none⟩)) w0 (gx_k (.int .i64 p1) w0 ?_)
 have hP1 : St _ _ w0 ([boxE g0 [.pointer A0_0, .int .i64 p0_1, .int .i64 p0_2, .int .i64 p0_3, .slice A0_4 p0_4.length c0_4, .slice A0_5 p0_5.length c0_5, .int .u8 p0_6, .slice A0_7 p0_7.length c0_7, .slice A0_8 p0_8.length c0_8] 84, rowE .u8 5 A0_7 c0_7 p0_7, rowE .u8 26 A0_8 c0_8 p0_8] ++ [poolE ([]) w0]) := hS0
 obtain ⟨⟨l3, x6, x7, l8, l11⟩, hc2, hF⟩ := bind_in hF
 try dsimp only at hF
 refine gx_c (pIsol_R p0_0 p0_1 p0_2 p0_3 p0_4 p0_5 p0_6 p0_7 p0_8 p1 (2 : Int) g0 A0_0 ft0_0 A0_4 c0_4 A0_5 c0_5 A0_7 c0_7 A0_8 c0_8 (l3, x6, x7, l8, l11) w0) (pIsol_ok N p0_0 p0_1 p0_2 p0_3 p0_4 p0_5 p0_6 p0_7 p0_8 p1 (2 : Int) g0 A0_0 ft0_0 A0_4 c0_4 A0_5 c0_5 A0_7 c0_7 A0_8 c0_8 _ hc2 w0 (hS0.inn ho0_0 hv0_0) (hP1.offIA ho0_0) (hP1.vwA hv0_4) (hP1.vwA hv0_5) hP1.part) ?_
 rintro _ w15 ⟨A4, A9, c10, A12, c13, ft14, rfl, hT17, hf5⟩
 have hS16 : St _ _ w15 [poolE ([]) w0, boxE g0 [.pointer A4, .int .i64 x6, .int .i64 x7, .int .i64 p0_3, .slice A0_4 p0_4.length c0_4, .slice A0_5 p0_5.length c0_5, .int .u8 p0_6, .slice A9 l8.length c10, .slice A12 l11.length c13] 84, rowE .u8 5 A9 c10 l8, rowE .u8 26 A12 c13 l11, poolE ft14 w15] := hP1.lendN _ hT17
 obtain ⟨ft18, W19, hS20, hT21, hU22, hU23, hU24⟩ := hS16.mergeW 4 0 rfl rfl (by decide)
 have hS20 : St _ _ w15 [poolE ft18 W19, boxE g0 [.pointer A4, .int .i64 x6, .int .i64 x7, .int .i64 p0_3, .slice A0_4 p0_4.length c0_4, .slice A0_5 p0_5.length c0_5, .int .u8 p0_6, .slice A9 l8.length c10, .slice A12 l11.length c13] 84, rowE .u8 5 A9 c10 l8, rowE .u8 26 A12 c13 l11] := hS20
 have hT21 : Turn (foots [boxE g0 [.pointer A0_0, .int .i64 p0_1, .int .i64 p0_2, .int .i64 p0_3, .slice A0_4 p0_4.length c0_4, .slice A0_5 p0_5.length c0_5, .int .u8 p0_6, .slice A0_7 p0_7.length c0_7, .slice A0_8 p0_8.length c0_8] 84, rowE .u8 5 A0_7 c0_7 p0_7, rowE .u8 26 A0_8 c0_8 p0_8]) w0 w0 ([]) W19 ft18 := hT21
 have hf25 : (fCh 100 entembedentry A4 l3).rd W19 (ft18 ++ (ft0_0)) := hU24 _ _ (ft0_0) (fun k hk => by simp only [List.mem_append] at hk ⊢; grind) hf5
 refine gx_nil ?_
 have hS26 : St _ _ w15 [poolE ft18 w15, boxE g0 [.pointer A4, .int .i64 x6, .int .i64 x7, .int .i64 p0_3, .slice A0_4 p0_4.length c0_4, .slice A0_5 p0_5.length c0_5, .int .u8 p0_6, .slice A9 l8.length c10, .slice A12 l11.length c13] 84, rowE .u8 5 A9 c10 l8, rowE .u8 26 A12 c13 l11] := hS20.renew 0 rfl
 obtain rfl := Option.some.inj hF
 exact gx_finN (.tuple #[]) (by kernel_rfl) (by kernel_rfl) ⟨_, rfl, A4, A9, c10, A12, c13, ft18, rfl, (hS26.pick [1, 2, 3, 0] rfl rfl), (hS20.nowM 0 rfl (hT21.inn (Inn.of ho0_0)) hf25)⟩

def pIsT (N : Nat) (p0_0 : List (Int × Int × Bool)) (p0_1 : Int) (p0_2 : Int) (p0_3 : Int) (p0_4 : List Int) (p0_5 : List Int) (p0_6 : Int) (p0_7 : List Int) (p0_8 : List Int) (p1 : Int) : Option (List (Int × Int × Bool) × Int × Int × List Int × List Int) :=
 ((ix p0_5 p1).bind fun x3 => (((if x3 < 0 then some (((p0_4.length : Nat) : Int)) else some (x3)) : Option (Int)).bind fun x8 => ((pStrong N p0_4 p0_5 (IntKind.i64.wrap (p1 + 1)) x8).bind fun x25 => ((pRw N x25).bind fun b31 => (match b31 with | true => ((pIsol N p0_0 p0_1 p0_2 p0_3 p0_4 p0_5 p0_6 p0_7 p0_8 p1 (2 : Int)).bind fun (l37, x40, x41, l42, l45) => some (l37, x40, x41, l42, l45)) | false => ((pIsol N p0_0 p0_1 p0_2 p0_3 p0_4 p0_5 p0_6 p0_7 p0_8 p1 (1 : Int)).bind fun (l63, x66, x67, l68, l71) => some (l63, x66, x67, l68, l71)))))))

set_option linter.unusedVariables false in
def pIsT_R (p0_0 : List (Int × Int × Bool)) (p0_1 : Int) (p0_2 : Int) (p0_3 : Int) (p0_4 : List Int) (p0_5 : List Int) (p0_6 : Int) (p0_7 : List Int) (p0_8 : List Int) (p1 : Int) (g0 : Nat) (A0_0 : Option Addr) (ft0_0 : List Nat) (A0_4 : Option Addr) (c0_4 : Nat) (A0_5 : Option Addr) (c0_5 : Nat) (A0_7 : Option Addr) (c0_7 : Nat) (A0_8 : Option Addr) (c0_8 : Nat) (r : List (Int × Int × Bool) × Int × Int × List Int × List Int) (w0 : World) (v : Value) (w : World) : Prop := ∃ (Al0_0' : Option Addr) (Al0_7' : Option Addr) (cl0_7' : Nat) (Al0_8' : Option Addr) (cl0_8' : Nat) (ft' : List Nat), v = .tuple #[] ∧ St (foots [boxE g0 [.pointer A0_0, .int .i64 p0_1, .int .i64 p0_2, .int .i64 p0_3, .slice A0_4 p0_4.length c0_4, .slice A0_5 p0_5.length c0_5, .int .u8 p0_6, .slice A0_7 p0_7.length c0_7, .slice A0_8 p0_8.length c0_8] 84, rowE .u8 5 A0_7 c0_7 p0_7, rowE .u8 26 A0_8 c0_8 p0_8]) w0 w [boxE g0 [.pointer Al0_0', .int .i64 r.2.1, .int .i64 r.2.2.1, .int .i64 p0_3, .slice A0_4 p0_4.length c0_4, .slice A0_5 p0_5.length c0_5, .int .u8 p0_6, .slice Al0_7' r.2.2.2.1.length cl0_7', .slice Al0_8' r.2.2.2.2.length cl0_8'] 84, rowE .u8 5 Al0_7' cl0_7' r.2.2.2.1, rowE .u8 26 Al0_8' cl0_8' r.2.2.2.2, poolE ft' w] ∧ (fCh 100 entembedentry Al0_0' r.1).rd w (ft' ++ (ft0_0))

set_option maxRecDepth 100000 in
set_option maxHeartbeats 4000000 in
theorem pIsT_ok (N : Nat) (p0_0 : List (Int × Int × Bool)) (p0_1 : Int) (p0_2 : Int) (p0_3 : Int) (p0_4 : List Int) (p0_5 : List Int) (p0_6 : Int) (p0_7 : List Int) (p0_8 : List Int) (p1 : Int) (g0 : Nat) (A0_0 : Option Addr) (ft0_0 : List Nat) (A0_4 : Option Addr) (c0_4 : Nat) (A0_5 : Option Addr) (c0_5 : Nat) (A0_7 : Option Addr) (c0_7 : Nat) (A0_8 : Option Addr) (c0_8 : Nat) (r : List (Int × Int × Bool) × Int × Int × List Int × List Int) (hF : pIsT N p0_0 p0_1 p0_2 p0_3 p0_4 p0_5 p0_6 p0_7 p0_8 p1 = some r) (w0 : World) (hv0_0 : (fCh 100 entembedentry A0_0 p0_0).rd w0 ft0_0) (ho0_0 : Off (foots [boxE g0 [.pointer A0_0, .int .i64 p0_1, .int .i64 p0_2, .int .i64 p0_3, .slice A0_4 p0_4.length c0_4, .slice A0_5 p0_5.length c0_5, .int .u8 p0_6, .slice A0_7 p0_7.length c0_7, .slice A0_8 p0_8.length c0_8] 84, rowE .u8 5 A0_7 c0_7 p0_7, rowE .u8 26 A0_8 c0_8 p0_8]) w0 ft0_0) (hv0_4 : Vw (foots [boxE g0 [.pointer A0_0, .int .i64 p0_1, .int .i64 p0_2, .int .i64 p0_3, .slice A0_4 p0_4.length c0_4, .slice A0_5 p0_5.length c0_5, .int .u8 p0_6, .slice A0_7 p0_7.length c0_7, .slice A0_8 p0_8.length c0_8] 84, rowE .u8 5 A0_7 c0_7 p0_7, rowE .u8 26 A0_8 c0_8 p0_8]) .u8 w0 A0_4 c0_4 p0_4) (hv0_5 : Vw (foots [boxE g0 [.pointer A0_0, .int .i64 p0_1, .int .i64 p0_2, .int .i64 p0_3, .slice A0_4 p0_4.length c0_4, .slice A0_5 p0_5.length c0_5, .int .u8 p0_6, .slice A0_7 p0_7.length c0_7, .slice A0_8 p0_8.length c0_8] 84, rowE .u8 5 A0_7 c0_7 p0_7, rowE .u8 26 A0_8 c0_8 p0_8]) .i64 w0 A0_5 c0_5 p0_5) (hl : St (foots [boxE g0 [.pointer A0_0, .int .i64 p0_1, .int .i64 p0_2, .int .i64 p0_3, .slice A0_4 p0_4.length c0_4, .slice A0_5 p0_5.length c0_5, .int .u8 p0_6, .slice A0_7 p0_7.length c0_7, .slice A0_8 p0_8.length c0_8] 84, rowE .u8 5 A0_7 c0_7 p0_7, rowE .u8 26 A0_8 c0_8 p0_8]) w0 w0 [boxE g0 [.pointer A0_0, .int .i64 p0_1, .int .i64 p0_2, .int .i64 p0_3, .slice A0_4 p0_4.length c0_4, .slice A0_5 p0_5.length c0_5, .int .u8 p0_6, .slice A0_7 p0_7.length c0_7, .slice A0_8 p0_8.length c0_8] 84, rowE .u8 5 A0_7 c0_7 p0_7, rowE .u8 26 A0_8 c0_8 p0_8]) :
  Calls Try.prog 68 #[.pointer (some ⟨g0, 0, none⟩), .int .i64 p1] w0 fun e w => ∃ v, e = .returned v ∧ pIsT_R p0_0 p0_1 p0_2 p0_3 p0_4 p0_5 p0_6 p0_7 p0_8 p1 g0 A0_0 ft0_0 A0_4 c0_4 A0_5 c0_5 A0_7 c0_7 A0_8 c0_8 r w0 v w := by
 have hS0 := (hl).pool0
 unfold pIsT at hF
 refine calls_of Try.func68 rfl ⟨((.pointer (some ⟨g0, 0, none⟩)) :: (.int .i64 p1) :: un 35 ([])).toArray, []⟩ (by kernel_rfl) ?_
 refine gx_seq (fun K1 hK2 => ?_)
 refine gx_region ?_
 refine gx_k (.pointer (some ⟨g0, 0, none⟩)) w0 (gx_k (.pointer (some ⟨g0, 0, none⟩)) w0 (gx_k (.pointer (some ⟨g0, 5, none⟩)) w0 ?_))
 refine gx_v (.slice A0_5 p0_5.length c0_5) w0 (run_load1 rfl (by kernel_rfl) (fun _ => by kernel_rfl) (hS0.box 0 rfl 5 rfl)) ?_
 refine gx_k (.int .i64 p1) w0 ?_
 obtain ⟨x3, hx4, hF⟩ := bind_in hF
 refine gx_v (.pointer (Option.map (fun (p : Addr) => p.add (Int.toNat p1 * 1)) A0_5)) w0 (run_ixaddr (E := 3) (s := 1) (k := .i64) (c := c0_5) rfl (by kernel_rfl) (by kernel_rfl) (by kernel_rfl) (fun _ => by kernel_rfl) (ix_in hx4).1 (ix_in hx4).2.1 (num_nil (hS0.view hv0_5))) ?_
 refine gx_v (.int .i64 x3) w0 (run_loadix rfl (by kernel_rfl) (fun _ => by kernel_rfl) (hS0.view hv0_5) hx4) ?_
 refine gx_k (.int .i64 x3) w0 ?_
 refine gx_nil ?_
 refine gx_thenN ?_
 refine hK2 _ _ ?_
 obtain ⟨c9, hE10, hO11⟩ := bind_in hF
 refine gx_cut (fun a w => ∃ (x8 : Int), selfA (fun u7 => ⟨((.pointer (some ⟨g0, 0, none⟩)) :: (.int .i64 p1) :: undef :: undef :: (.int .i64 x8) :: undef :: (.pointer (some ⟨g0, 0, none⟩)) :: (.pointer (some ⟨g0, 0, none⟩)) :: (.pointer (some ⟨g0, 5, none⟩)) :: (u7 9) :: (.int .i64 p1) :: (.pointer (Option.map (fun (p : Addr) => p.add (Int.toNat p1 * 1)) A0_5)) :: (.int .i64 x3) :: dd u7 13 7 (un 17 ([]))).toArray, []⟩) a ∧ x8 = c9 ∧ St (foots [boxE g0 [.pointer A0_0, .int .i64 p0_1, .int .i64 p0_2, .int .i64 p0_3, .slice A0_4 p0_4.length c0_4, .slice A0_5 p0_5.length c0_5, .int .u8 p0_6, .slice A0_7 p0_7.length c0_7, .slice A0_8 p0_8.length c0_8] 84, rowE .u8 5 A0_7 c0_7 p0_7, rowE .u8 26 A0_8 c0_8 p0_8]) w0 w [poolE ([]) w0, rowE .u8 5 A0_7 c0_7 p0_7, rowE .u8 26 A0_8 c0_8 p0_8, boxE g0 [.pointer A0_0, .int .i64 p0_1, .int .i64 p0_2, .int .i64 p0_3, .slice A0_4 p0_4.length c0_4, .slice A0_5 p0_5.length c0_5, .int .u8 p0_6, .slice A0_7 p0_7.length c0_7, .slice A0_8 p0_8.length c0_8] 84]) ?_ ?_
 ·refine gx_seq (fun K12 hK13 => ?_)
  refine gx_region ?_
  refine gx_k (.int .i64 x3) w0 ?_
  rcases if_in hE10 with ⟨h14, hE10⟩ | ⟨h14, hE10⟩
  ·refine gx_v (.bool true) w0 (run_boolE (decide_eq_true h14) (by kernel_rfl)) ?_
   refine gx_nil ?_
   refine gx_thenN ?_
   refine hK13 _ _ ?_
   refine gx_yes (by kernel_rfl) ?_
   refine gx_region ?_
   refine gx_k (.pointer (some ⟨g0, 0, none⟩)) w0 (gx_k (.pointer (some ⟨g0, 0, none⟩)) w0 (gx_k (.pointer (some ⟨g0, 4, none⟩)) w0 ?_))
   refine gx_v (.slice A0_4 p0_4.length c0_4) w0 (run_load1 rfl (by kernel_rfl) (fun _ => by kernel_rfl) (hS0.box 0 rfl 4 rfl)) ?_
   refine gx_k (.int .i64 ((p0_4.length : Nat) : Int)) w0 (gx_k (.int .i64 ((p0_4.length : Nat) : Int)) w0 ?_)
   refine gx_nil ?_
   refine gx_thenN ?_
   exact ⟨((p0_4.length : Nat) : Int), selfA_i (by kernel_rfl), (Option.some.inj hE10), (hS0.pick [3, 1, 2, 0] rfl rfl)⟩
  ·refine gx_v (.bool false) w0 (run_boolE (decide_eq_false h14) (by kernel_rfl)) ?_
   refine gx_nil ?_
   refine gx_thenN ?_
   refine hK13 _ _ ?_
   refine gx_no (by kernel_rfl) ?_
   refine gx_pass ?_
   refine gx_thenN ?_
   exact ⟨x3, selfA_i (by kernel_rfl), (Option.some.inj hE10), (hS0.pick [3, 1, 2, 0] rfl rfl)⟩
 ·rintro _ w5 ⟨x8, hq87, rfl, hS6⟩
  obtain ⟨u7, rfl⟩ := selfA_u hq87
  try dsimp only at hO11
  refine gx_seq (fun K15 hK16 => ?_)
  refine gx_region ?_
  refine gx_k (.int .u8 1) w5 ?_
  refine gx_nil ?_
  refine gx_thenN ?_
  refine hK16 _ _ ?_
  refine gx_seq (fun K17 hK18 => ?_)
  refine gx_seq (fun K19 hK20 => ?_)
  refine gd_start (fun w => St (foots [boxE g0 [.pointer A0_0, .int .i64 p0_1, .int .i64 p0_2, .int .i64 p0_3, .slice A0_4 p0_4.length c0_4, .slice A0_5 p0_5.length c0_5, .int .u8 p0_6, .slice A0_7 p0_7.length c0_7, .slice A0_8 p0_8.length c0_8] 84, rowE .u8 5 A0_7 c0_7 p0_7, rowE .u8 26 A0_8 c0_8 p0_8]) w0 w [poolE ([]) w0, rowE .u8 5 A0_7 c0_7 p0_7, rowE .u8 26 A0_8 c0_8 p0_8, boxE g0 [.pointer A0_0, .int .i64 p0_1, .int .i64 p0_2, .int .i64 p0_3, .slice A0_4 p0_4.length c0_4, .slice A0_5 p0_5.length c0_5, .int .u8 p0_6, .slice A0_7 p0_7.length c0_7, .slice A0_8 p0_8.length c0_8] 84]) 13 #[false, false, false, false, false, false, false, false, false, false, false, false, false] (by kernel_rfl) (by kernel_rfl) ?_
  have hS22 := hS6.drew
  generalize w5.drew = w21 at hS22 ⊢
  refine gd1 0 { dst := some 20, op := _, type := _, pos := _, after := _, guard := _ } (.pointer (some ⟨g0, 0, none⟩)) rfl hS22 (fun w hSw => by kernel_rfl) ?_
  refine gd1 1 { dst := some 21, op := _, type := _, pos := _, after := _, guard := _ } (.pointer (some ⟨g0, 0, none⟩)) rfl hS22 (fun w hSw => by kernel_rfl) ?_
  refine gd1 2 { dst := some 22, op := _, type := _, pos := _, after := _, guard := _ } (.pointer (some ⟨g0, 4, none⟩)) rfl hS22 (fun w hSw => by kernel_rfl) ?_
  refine gd1 3 { dst := some 23, op := _, type := _, pos := _, after := _, guard := _ } (.slice A0_4 p0_4.length c0_4) rfl hS22 (fun w hSw => run_load1 rfl (by kernel_rfl) (fun _ => by kernel_rfl) (hSw.box 3 rfl 4 rfl)) ?_
  refine gd1 4 { dst := some 24, op := _, type := _, pos := _, after := _, guard := _ } (.pointer (some ⟨g0, 0, none⟩)) rfl hS22 (fun w hSw => by kernel_rfl) ?_
  refine gd1 5 { dst := some 25, op := _, type := _, pos := _, after := _, guard := _ } (.pointer (some ⟨g0, 0, none⟩)) rfl hS22 (fun w hSw => by kernel_rfl) ?_
  refine gd1 6 { dst := some 26, op := _, type := _, pos := _, after := _, guard := _ } (.pointer (some ⟨g0, 5, none⟩)) rfl hS22 (fun w hSw => by kernel_rfl) ?_
  refine gd1 7 { dst := some 27, op := _, type := _, pos := _, after := _, guard := _ } (.slice A0_5 p0_5.length c0_5) rfl hS22 (fun w hSw => run_load1 rfl (by kernel_rfl) (fun _ => by kernel_rfl) (hSw.box 3 rfl 5 rfl)) ?_
  refine gd1 8 { dst := some 28, op := _, type := _, pos := _, after := _, guard := _ } (.int .i64 p1) rfl hS22 (fun w hSw => by kernel_rfl) ?_
  refine gd1 9 { dst := some 29, op := _, type := _, pos := _, after := _, guard := _ } (.int .i64 (IntKind.i64.wrap (p1 + 1))) rfl hS22 (fun w hSw => by kernel_rfl) ?_
  refine gd1 10 { dst := some 30, op := _, type := _, pos := _, after := _, guard := _ } (.int .i64 x8) rfl hS22 (fun w hSw => by kernel_rfl) ?_
  have hP23 : St _ _ w21 ([] ++ [poolE ([]) w0, rowE .u8 5 A0_7 c0_7 p0_7, rowE .u8 26 A0_8 c0_8 p0_8, boxE g0 [.pointer A0_0, .int .i64 p0_1, .int .i64 p0_2, .int .i64 p0_3, .slice A0_4 p0_4.length c0_4, .slice A0_5 p0_5.length c0_5, .int .u8 p0_6, .slice A0_7 p0_7.length c0_7, .slice A0_8 p0_8.length c0_8] 84]) := hS22
  obtain ⟨x25, hc24, hO11⟩ := bind_in hO11
  try dsimp only at hO11
  refine gdC 11 { dst := some 31, op := _, type := _, pos := _, after := _, guard := _ } (pStrong_R x25 w21) rfl (by kernel_rfl) (pStrong_ok N p0_4 p0_5 (IntKind.i64.wrap (p1 + 1)) x8 A0_4 c0_4 A0_5 c0_5 _ hc24 w21 (hP23.vwA hv0_4) (hP23.vwA hv0_5)) ?_
  rintro _ w26 ⟨rfl, hT28⟩
  have hS27 : St _ _ w26 [poolE ([]) w0, rowE .u8 5 A0_7 c0_7 p0_7, rowE .u8 26 A0_8 c0_8 p0_8, boxE g0 [.pointer A0_0, .int .i64 p0_1, .int .i64 p0_2, .int .i64 p0_3, .slice A0_4 p0_4.length c0_4, .slice A0_5 p0_5.length c0_5, .int .u8 p0_6, .slice A0_7 p0_7.length c0_7, .slice A0_8 p0_8.length c0_8] 84] := hS22.take _ hT28
  refine ⟨hS27, ?_⟩
  have hP29 : St _ _ w26 ([] ++ [poolE ([]) w0, rowE .u8 5 A0_7 c0_7 p0_7, rowE .u8 26 A0_8 c0_8 p0_8, boxE g0 [.pointer A0_0, .int .i64 p0_1, .int .i64 p0_2, .int .i64 p0_3, .slice A0_4 p0_4.length c0_4, .slice A0_5 p0_5.length c0_5, .int .u8 p0_6, .slice A0_7 p0_7.length c0_7, .slice A0_8 p0_8.length c0_8] 84]) := hS27
  obtain ⟨b31, hc30, hO11⟩ := bind_in hO11
  try dsimp only at hO11
  refine gdC 12 { dst := some 32, op := _, type := _, pos := _, after := _, guard := _ } (pRw_R b31 w26) rfl (by kernel_rfl) (pRw_ok N x25 _ hc30 w26 ) ?_
  rintro _ w32 ⟨rfl, hT34⟩
  have hS33 : St _ _ w32 [poolE ([]) w0, rowE .u8 5 A0_7 c0_7 p0_7, rowE .u8 26 A0_8 c0_8 p0_8, boxE g0 [.pointer A0_0, .int .i64 p0_1, .int .i64 p0_2, .int .i64 p0_3, .slice A0_4 p0_4.length c0_4, .slice A0_5 p0_5.length c0_5, .int .u8 p0_6, .slice A0_7 p0_7.length c0_7, .slice A0_8 p0_8.length c0_8] 84] := hS27.take _ hT34
  refine ⟨hS33, ?_⟩
  refine gd_done (by kernel_rfl) ?_
  refine gx_thenN ?_
  refine hK20 _ _ ?_
  cases b31 with
  | true =>
   try dsimp only at hO11
   refine gx_yes (by kernel_rfl) ?_
   refine gx_region ?_
   refine gx_k (.int .u8 2) w32 ?_
   refine gx_nil ?_
   refine gx_thenN ?_
   refine hK18 _ _ ?_
   refine gx_region ?_
   refine gx_k (.pointer (some ⟨g0, 0, none⟩)) w32 (gx_k (.int .i64 p1) w32 (gx_k (.int .u8 2) w32 ?_))
   have hP35 : St _ _ w32 ([boxE g0 [.pointer A0_0, .int .i64 p0_1, .int .i64 p0_2, .int .i64 p0_3, .slice A0_4 p0_4.length c0_4, .slice A0_5 p0_5.length c0_5, .int .u8 p0_6, .slice A0_7 p0_7.length c0_7, .slice A0_8 p0_8.length c0_8] 84, rowE .u8 5 A0_7 c0_7 p0_7, rowE .u8 26 A0_8 c0_8 p0_8] ++ [poolE ([]) w0]) := hS33.pick [3, 1, 2, 0] rfl rfl
   obtain ⟨⟨l37, x40, x41, l42, l45⟩, hc36, hO11⟩ := bind_in hO11
   try dsimp only at hO11
   refine gx_c (pIsol_R p0_0 p0_1 p0_2 p0_3 p0_4 p0_5 p0_6 p0_7 p0_8 p1 (2 : Int) g0 A0_0 ft0_0 A0_4 c0_4 A0_5 c0_5 A0_7 c0_7 A0_8 c0_8 (l37, x40, x41, l42, l45) w32) (pIsol_ok N p0_0 p0_1 p0_2 p0_3 p0_4 p0_5 p0_6 p0_7 p0_8 p1 (2 : Int) g0 A0_0 ft0_0 A0_4 c0_4 A0_5 c0_5 A0_7 c0_7 A0_8 c0_8 _ hc36 w32 (hS33.inn ho0_0 hv0_0) (hP35.offIA ho0_0) (hP35.vwA hv0_4) (hP35.vwA hv0_5) hP35.part) ?_
   rintro _ w49 ⟨A38, A43, c44, A46, c47, ft48, rfl, hT51, hf39⟩
   have hS50 : St _ _ w49 [poolE ([]) w0, boxE g0 [.pointer A38, .int .i64 x40, .int .i64 x41, .int .i64 p0_3, .slice A0_4 p0_4.length c0_4, .slice A0_5 p0_5.length c0_5, .int .u8 p0_6, .slice A43 l42.length c44, .slice A46 l45.length c47] 84, rowE .u8 5 A43 c44 l42, rowE .u8 26 A46 c47 l45, poolE ft48 w49] := hP35.lendN _ hT51
   obtain ⟨ft52, W53, hS54, hT55, hU56, hU57, hU58⟩ := hS50.mergeW 4 0 rfl rfl (by decide)
   have hS54 : St _ _ w49 [poolE ft52 W53, boxE g0 [.pointer A38, .int .i64 x40, .int .i64 x41, .int .i64 p0_3, .slice A0_4 p0_4.length c0_4, .slice A0_5 p0_5.length c0_5, .int .u8 p0_6, .slice A43 l42.length c44, .slice A46 l45.length c47] 84, rowE .u8 5 A43 c44 l42, rowE .u8 26 A46 c47 l45] := hS54
   have hT55 : Turn (foots [boxE g0 [.pointer A0_0, .int .i64 p0_1, .int .i64 p0_2, .int .i64 p0_3, .slice A0_4 p0_4.length c0_4, .slice A0_5 p0_5.length c0_5, .int .u8 p0_6, .slice A0_7 p0_7.length c0_7, .slice A0_8 p0_8.length c0_8] 84, rowE .u8 5 A0_7 c0_7 p0_7, rowE .u8 26 A0_8 c0_8 p0_8]) w0 w0 ([]) W53 ft52 := hT55
   have hf59 : (fCh 100 entembedentry A38 l37).rd W53 (ft52 ++ (ft0_0)) := hU58 _ _ (ft0_0) (fun k hk => by simp only [List.mem_append] at hk ⊢; grind) hf39
   refine gx_nil ?_
   have hS60 : St _ _ w49 [poolE ft52 w49, boxE g0 [.pointer A38, .int .i64 x40, .int .i64 x41, .int .i64 p0_3, .slice A0_4 p0_4.length c0_4, .slice A0_5 p0_5.length c0_5, .int .u8 p0_6, .slice A43 l42.length c44, .slice A46 l45.length c47] 84, rowE .u8 5 A43 c44 l42, rowE .u8 26 A46 c47 l45] := hS54.renew 0 rfl
   obtain rfl := Option.some.inj hO11
   exact gx_finN (.tuple #[]) (by kernel_rfl) (by kernel_rfl) ⟨_, rfl, A38, A43, c44, A46, c47, ft52, rfl, (hS60.pick [1, 2, 3, 0] rfl rfl), (hS54.nowM 0 rfl (hT55.inn (Inn.of ho0_0)) hf59)⟩
  | false =>
   try dsimp only at hO11
   refine gx_no (by kernel_rfl) ?_
   refine gx_pass ?_
   refine gx_thenN ?_
   refine hK18 _ _ ?_
   refine gx_region ?_
   refine gx_k (.pointer (some ⟨g0, 0, none⟩)) w32 (gx_k (.int .i64 p1) w32 (gx_k (.int .u8 1) w32 ?_))
   have hP61 : St _ _ w32 ([boxE g0 [.pointer A0_0, .int .i64 p0_1, .int .i64 p0_2, .int .i64 p0_3, .slice A0_4 p0_4.length c0_4, .slice A0_5 p0_5.length c0_5, .int .u8 p0_6, .slice A0_7 p0_7.length c0_7, .slice A0_8 p0_8.length c0_8] 84, rowE .u8 5 A0_7 c0_7 p0_7, rowE .u8 26 A0_8 c0_8 p0_8] ++ [poolE ([]) w0]) := hS33.pick [3, 1, 2, 0] rfl rfl
   obtain ⟨⟨l63, x66, x67, l68, l71⟩, hc62, hO11⟩ := bind_in hO11
   try dsimp only at hO11
   refine gx_c (pIsol_R p0_0 p0_1 p0_2 p0_3 p0_4 p0_5 p0_6 p0_7 p0_8 p1 (1 : Int) g0 A0_0 ft0_0 A0_4 c0_4 A0_5 c0_5 A0_7 c0_7 A0_8 c0_8 (l63, x66, x67, l68, l71) w32) (pIsol_ok N p0_0 p0_1 p0_2 p0_3 p0_4 p0_5 p0_6 p0_7 p0_8 p1 (1 : Int) g0 A0_0 ft0_0 A0_4 c0_4 A0_5 c0_5 A0_7 c0_7 A0_8 c0_8 _ hc62 w32 (hS33.inn ho0_0 hv0_0) (hP61.offIA ho0_0) (hP61.vwA hv0_4) (hP61.vwA hv0_5) hP61.part) ?_
   rintro _ w75 ⟨A64, A69, c70, A72, c73, ft74, rfl, hT77, hf65⟩
   have hS76 : St _ _ w75 [poolE ([]) w0, boxE g0 [.pointer A64, .int .i64 x66, .int .i64 x67, .int .i64 p0_3, .slice A0_4 p0_4.length c0_4, .slice A0_5 p0_5.length c0_5, .int .u8 p0_6, .slice A69 l68.length c70, .slice A72 l71.length c73] 84, rowE .u8 5 A69 c70 l68, rowE .u8 26 A72 c73 l71, poolE ft74 w75] := hP61.lendN _ hT77
   obtain ⟨ft78, W79, hS80, hT81, hU82, hU83, hU84⟩ := hS76.mergeW 4 0 rfl rfl (by decide)
   have hS80 : St _ _ w75 [poolE ft78 W79, boxE g0 [.pointer A64, .int .i64 x66, .int .i64 x67, .int .i64 p0_3, .slice A0_4 p0_4.length c0_4, .slice A0_5 p0_5.length c0_5, .int .u8 p0_6, .slice A69 l68.length c70, .slice A72 l71.length c73] 84, rowE .u8 5 A69 c70 l68, rowE .u8 26 A72 c73 l71] := hS80
   have hT81 : Turn (foots [boxE g0 [.pointer A0_0, .int .i64 p0_1, .int .i64 p0_2, .int .i64 p0_3, .slice A0_4 p0_4.length c0_4, .slice A0_5 p0_5.length c0_5, .int .u8 p0_6, .slice A0_7 p0_7.length c0_7, .slice A0_8 p0_8.length c0_8] 84, rowE .u8 5 A0_7 c0_7 p0_7, rowE .u8 26 A0_8 c0_8 p0_8]) w0 w0 ([]) W79 ft78 := hT81
   have hf85 : (fCh 100 entembedentry A64 l63).rd W79 (ft78 ++ (ft0_0)) := hU84 _ _ (ft0_0) (fun k hk => by simp only [List.mem_append] at hk ⊢; grind) hf65
   refine gx_nil ?_
   have hS86 : St _ _ w75 [poolE ft78 w75, boxE g0 [.pointer A64, .int .i64 x66, .int .i64 x67, .int .i64 p0_3, .slice A0_4 p0_4.length c0_4, .slice A0_5 p0_5.length c0_5, .int .u8 p0_6, .slice A69 l68.length c70, .slice A72 l71.length c73] 84, rowE .u8 5 A69 c70 l68, rowE .u8 26 A72 c73 l71] := hS80.renew 0 rfl
   obtain rfl := Option.some.inj hO11
   exact gx_finN (.tuple #[]) (by kernel_rfl) (by kernel_rfl) ⟨_, rfl, A64, A69, c70, A72, c73, ft78, rfl, (hS86.pick [1, 2, 3, 0] rfl rfl), (hS80.nowM 0 rfl (hT81.inn (Inn.of ho0_0)) hf85)⟩

def pLeI (N : Nat) (p0_0 : List (Int × Int × Bool)) (p0_1 : Int) (p0_2 : Int) (p0_3 : Int) (p0_4 : List Int) (p0_5 : List Int) (p0_6 : Int) (p0_7 : List Int) (p0_8 : List Int) (p1 : Int) : Option (List (Int × Int × Bool) × Int × Int × Int × List Int × List Int) :=
 ((pEndI N p0_0 p0_1 p0_2 p0_3 p0_4 p0_5 p0_6 p0_7 p0_8).bind fun (l5, x8, x9, x10) => ((pStand N l5 x8 x9 x10 p0_4 p0_5 p0_6 p0_7 p0_8 p1).bind fun (l25, l28) => some (l5, x8, x9, x10, l25, l28)))

set_option linter.unusedVariables false in
def pLeI_R (p0_0 : List (Int × Int × Bool)) (p0_1 : Int) (p0_2 : Int) (p0_3 : Int) (p0_4 : List Int) (p0_5 : List Int) (p0_6 : Int) (p0_7 : List Int) (p0_8 : List Int) (p1 : Int) (g0 : Nat) (A0_0 : Option Addr) (ft0_0 : List Nat) (A0_4 : Option Addr) (c0_4 : Nat) (A0_5 : Option Addr) (c0_5 : Nat) (A0_7 : Option Addr) (c0_7 : Nat) (A0_8 : Option Addr) (c0_8 : Nat) (r : List (Int × Int × Bool) × Int × Int × Int × List Int × List Int) (w0 : World) (v : Value) (w : World) : Prop := ∃ (Al0_0' : Option Addr) (Al0_7' : Option Addr) (cl0_7' : Nat) (Al0_8' : Option Addr) (cl0_8' : Nat) (ft' : List Nat), v = .tuple #[] ∧ St (foots [boxE g0 [.pointer A0_0, .int .i64 p0_1, .int .i64 p0_2, .int .i64 p0_3, .slice A0_4 p0_4.length c0_4, .slice A0_5 p0_5.length c0_5, .int .u8 p0_6, .slice A0_7 p0_7.length c0_7, .slice A0_8 p0_8.length c0_8] 84, rowE .u8 5 A0_7 c0_7 p0_7, rowE .u8 26 A0_8 c0_8 p0_8]) w0 w [boxE g0 [.pointer Al0_0', .int .i64 r.2.1, .int .i64 r.2.2.1, .int .i64 r.2.2.2.1, .slice A0_4 p0_4.length c0_4, .slice A0_5 p0_5.length c0_5, .int .u8 p0_6, .slice Al0_7' r.2.2.2.2.1.length cl0_7', .slice Al0_8' r.2.2.2.2.2.length cl0_8'] 84, rowE .u8 5 Al0_7' cl0_7' r.2.2.2.2.1, rowE .u8 26 Al0_8' cl0_8' r.2.2.2.2.2, poolE ft' w] ∧ (fCh 100 entembedentry Al0_0' r.1).rd w (ft' ++ (ft0_0))

set_option maxRecDepth 100000 in
set_option maxHeartbeats 4000000 in
theorem pLeI_ok (N : Nat) (p0_0 : List (Int × Int × Bool)) (p0_1 : Int) (p0_2 : Int) (p0_3 : Int) (p0_4 : List Int) (p0_5 : List Int) (p0_6 : Int) (p0_7 : List Int) (p0_8 : List Int) (p1 : Int) (g0 : Nat) (A0_0 : Option Addr) (ft0_0 : List Nat) (A0_4 : Option Addr) (c0_4 : Nat) (A0_5 : Option Addr) (c0_5 : Nat) (A0_7 : Option Addr) (c0_7 : Nat) (A0_8 : Option Addr) (c0_8 : Nat) (r : List (Int × Int × Bool) × Int × Int × Int × List Int × List Int) (hF : pLeI N p0_0 p0_1 p0_2 p0_3 p0_4 p0_5 p0_6 p0_7 p0_8 p1 = some r) (w0 : World) (hv0_0 : (fCh 100 entembedentry A0_0 p0_0).rd w0 ft0_0) (ho0_0 : Off (foots [boxE g0 [.pointer A0_0, .int .i64 p0_1, .int .i64 p0_2, .int .i64 p0_3, .slice A0_4 p0_4.length c0_4, .slice A0_5 p0_5.length c0_5, .int .u8 p0_6, .slice A0_7 p0_7.length c0_7, .slice A0_8 p0_8.length c0_8] 84, rowE .u8 5 A0_7 c0_7 p0_7, rowE .u8 26 A0_8 c0_8 p0_8]) w0 ft0_0) (hv0_4 : Vw (foots [boxE g0 [.pointer A0_0, .int .i64 p0_1, .int .i64 p0_2, .int .i64 p0_3, .slice A0_4 p0_4.length c0_4, .slice A0_5 p0_5.length c0_5, .int .u8 p0_6, .slice A0_7 p0_7.length c0_7, .slice A0_8 p0_8.length c0_8] 84, rowE .u8 5 A0_7 c0_7 p0_7, rowE .u8 26 A0_8 c0_8 p0_8]) .u8 w0 A0_4 c0_4 p0_4) (hv0_5 : Vw (foots [boxE g0 [.pointer A0_0, .int .i64 p0_1, .int .i64 p0_2, .int .i64 p0_3, .slice A0_4 p0_4.length c0_4, .slice A0_5 p0_5.length c0_5, .int .u8 p0_6, .slice A0_7 p0_7.length c0_7, .slice A0_8 p0_8.length c0_8] 84, rowE .u8 5 A0_7 c0_7 p0_7, rowE .u8 26 A0_8 c0_8 p0_8]) .i64 w0 A0_5 c0_5 p0_5) (hl : St (foots [boxE g0 [.pointer A0_0, .int .i64 p0_1, .int .i64 p0_2, .int .i64 p0_3, .slice A0_4 p0_4.length c0_4, .slice A0_5 p0_5.length c0_5, .int .u8 p0_6, .slice A0_7 p0_7.length c0_7, .slice A0_8 p0_8.length c0_8] 84, rowE .u8 5 A0_7 c0_7 p0_7, rowE .u8 26 A0_8 c0_8 p0_8]) w0 w0 [boxE g0 [.pointer A0_0, .int .i64 p0_1, .int .i64 p0_2, .int .i64 p0_3, .slice A0_4 p0_4.length c0_4, .slice A0_5 p0_5.length c0_5, .int .u8 p0_6, .slice A0_7 p0_7.length c0_7, .slice A0_8 p0_8.length c0_8] 84, rowE .u8 5 A0_7 c0_7 p0_7, rowE .u8 26 A0_8 c0_8 p0_8]) :
  Calls Try.prog 69 #[.pointer (some ⟨g0, 0, none⟩), .int .i64 p1] w0 fun e w => ∃ v, e = .returned v ∧ pLeI_R p0_0 p0_1 p0_2 p0_3 p0_4 p0_5 p0_6 p0_7 p0_8 p1 g0 A0_0 ft0_0 A0_4 c0_4 A0_5 c0_5 A0_7 c0_7 A0_8 c0_8 r w0 v w := by
 have hS0 := (hl).pool0
 unfold pLeI at hF
 refine calls_of Try.func69 rfl ⟨((.pointer (some ⟨g0, 0, none⟩)) :: (.int .i64 p1) :: un 9 ([])).toArray, []⟩ (by kernel_rfl) ?_
 refine gx_seq (fun K1 hK2 => ?_)
 refine gx_region ?_
 refine gx_k (.pointer (some ⟨g0, 0, none⟩)) w0 (gx_k (.pointer (some ⟨g0, 0, none⟩)) w0 (gx_k (.pointer (some ⟨g0, 0, none⟩)) w0 ?_))
 have hP3 : St _ _ w0 ([boxE g0 [.pointer A0_0, .int .i64 p0_1, .int .i64 p0_2, .int .i64 p0_3, .slice A0_4 p0_4.length c0_4, .slice A0_5 p0_5.length c0_5, .int .u8 p0_6, .slice A0_7 p0_7.length c0_7, .slice A0_8 p0_8.length c0_8] 84] ++ [rowE .u8 5 A0_7 c0_7 p0_7, rowE .u8 26 A0_8 c0_8 p0_8, poolE ([]) w0]) := hS0
 obtain ⟨⟨l5, x8, x9, x10⟩, hc4, hF⟩ := bind_in hF
 try dsimp only at hF
 refine gx_c (pEndI_R p0_0 p0_1 p0_2 p0_3 p0_4 p0_5 p0_6 p0_7 p0_8 g0 A0_0 ft0_0 A0_4 c0_4 A0_5 c0_5 A0_7 c0_7 A0_8 c0_8 (l5, x8, x9, x10) w0) (pEndI_ok N p0_0 p0_1 p0_2 p0_3 p0_4 p0_5 p0_6 p0_7 p0_8 g0 A0_0 ft0_0 A0_4 c0_4 A0_5 c0_5 A0_7 c0_7 A0_8 c0_8 _ hc4 w0 (hS0.inn ho0_0 hv0_0) (hP3.offIA ho0_0) (hP3.vwA hv0_4) (hP3.vwA hv0_5) (hP3.vwB 0 rfl) (hP3.vwB 1 rfl) hP3.part) ?_
 rintro _ w12 ⟨A6, ft11, rfl, hT14, hf7⟩
 have hS13 : St _ _ w12 [rowE .u8 5 A0_7 c0_7 p0_7, rowE .u8 26 A0_8 c0_8 p0_8, poolE ([]) w0, boxE g0 [.pointer A6, .int .i64 x8, .int .i64 x9, .int .i64 x10, .slice A0_4 p0_4.length c0_4, .slice A0_5 p0_5.length c0_5, .int .u8 p0_6, .slice A0_7 p0_7.length c0_7, .slice A0_8 p0_8.length c0_8] 84, poolE ft11 w12] := hP3.lendN _ hT14
 obtain ⟨ft15, W16, hS17, hT18, hU19, hU20, hU21⟩ := hS13.mergeW 4 2 rfl rfl (by decide)
 have hS17 : St _ _ w12 [rowE .u8 5 A0_7 c0_7 p0_7, rowE .u8 26 A0_8 c0_8 p0_8, poolE ft15 W16, boxE g0 [.pointer A6, .int .i64 x8, .int .i64 x9, .int .i64 x10, .slice A0_4 p0_4.length c0_4, .slice A0_5 p0_5.length c0_5, .int .u8 p0_6, .slice A0_7 p0_7.length c0_7, .slice A0_8 p0_8.length c0_8] 84] := hS17
 have hT18 : Turn (foots [boxE g0 [.pointer A0_0, .int .i64 p0_1, .int .i64 p0_2, .int .i64 p0_3, .slice A0_4 p0_4.length c0_4, .slice A0_5 p0_5.length c0_5, .int .u8 p0_6, .slice A0_7 p0_7.length c0_7, .slice A0_8 p0_8.length c0_8] 84, rowE .u8 5 A0_7 c0_7 p0_7, rowE .u8 26 A0_8 c0_8 p0_8]) w0 w0 ([]) W16 ft15 := hT18
 have hf22 : (fCh 100 entembedentry A6 l5).rd W16 (ft15 ++ (ft0_0)) := hU21 _ _ (ft0_0) (fun k hk => by simp only [List.mem_append] at hk ⊢; grind) hf7
 refine gx_nil ?_
 refine gx_thenN ?_
 refine hK2 _ _ ?_
 refine gx_region ?_
 refine gx_k (.pointer (some ⟨g0, 0, none⟩)) w12 (gx_k (.int .i64 p1) w12 ?_)
 have hP23 : St _ _ w12 ([boxE g0 [.pointer A6, .int .i64 x8, .int .i64 x9, .int .i64 x10, .slice A0_4 p0_4.length c0_4, .slice A0_5 p0_5.length c0_5, .int .u8 p0_6, .slice A0_7 p0_7.length c0_7, .slice A0_8 p0_8.length c0_8] 84, rowE .u8 5 A0_7 c0_7 p0_7, rowE .u8 26 A0_8 c0_8 p0_8] ++ [poolE ft15 W16]) := hS17.pick [3, 0, 1, 2] rfl rfl
 obtain ⟨⟨l25, l28⟩, hc24, hF⟩ := bind_in hF
 try dsimp only at hF
 refine gx_c (pStand_R l5 x8 x9 x10 p0_4 p0_5 p0_6 p0_7 p0_8 p1 g0 A6 (ft15 ++ (ft0_0)) A0_4 c0_4 A0_5 c0_5 A0_7 c0_7 A0_8 c0_8 (l25, l28) w12) (pStand_ok N l5 x8 x9 x10 p0_4 p0_5 p0_6 p0_7 p0_8 p1 g0 A6 (ft15 ++ (ft0_0)) A0_4 c0_4 A0_5 c0_5 A0_7 c0_7 A0_8 c0_8 _ hc24 w12 (hS17.nowM 2 rfl (hT18.inn (Inn.of ho0_0)) hf22) (hP23.offMA 0 rfl (hT18.inn (Inn.of ho0_0))) (hP23.vwA hv0_4) (hP23.vwA hv0_5) hP23.part) ?_
 rintro _ w31 ⟨A26, c27, A29, c30, rfl, hT33⟩
 have hS32 : St _ _ w31 [poolE ft15 W16, boxE g0 [.pointer A6, .int .i64 x8, .int .i64 x9, .int .i64 x10, .slice A0_4 p0_4.length c0_4, .slice A0_5 p0_5.length c0_5, .int .u8 p0_6, .slice A26 l25.length c27, .slice A29 l28.length c30] 84, rowE .u8 5 A26 c27 l25, rowE .u8 26 A29 c30 l28] := hP23.lendN _ hT33
 refine gx_nil ?_
 have hS34 : St _ _ w31 [poolE ft15 w31, boxE g0 [.pointer A6, .int .i64 x8, .int .i64 x9, .int .i64 x10, .slice A0_4 p0_4.length c0_4, .slice A0_5 p0_5.length c0_5, .int .u8 p0_6, .slice A26 l25.length c27, .slice A29 l28.length c30] 84, rowE .u8 5 A26 c27 l25, rowE .u8 26 A29 c30 l28] := hS32.renew 0 rfl
 obtain rfl := Option.some.inj hF
 exact gx_finN (.tuple #[]) (by kernel_rfl) (by kernel_rfl) ⟨_, rfl, A6, A26, c27, A29, c30, ft15, rfl, (hS34.pick [1, 2, 3, 0] rfl rfl), (hS32.nowM 0 rfl (hT18.inn (Inn.of ho0_0)) hf22)⟩

end Go.Proofs.Ytapfdafmhiilkaa
