/-
  The program, walked.
-/
import Derived.Test.YtapfdafmhiilkaaP0
namespace Go.Proofs.Ytapfdafmhiilkaa
open Go Go.RowKit
set_option linter.unusedVariables false

abbrev entembedentry : Enc (Int × Int × Bool) := (pairE (intE .u8) (pairE (intE .u8) boolE))

def pNext (_N : Nat) (p0 : List (Int × Int × Bool)) (p1 : Int) : Option (Int) :=
 (if p1 = 2 then ((hdx p0).bind fun ((x11, _x12, _b13), _r10) => some (ior .u8 (IntKind.u8.wrap (x11 + 1)) 1)) else ((hdx p0).bind fun ((x33, _x34, _b35), _r32) => some (iandn .u8 (IntKind.u8.wrap (x33 + 2)) 1)))

set_option linter.unusedVariables false in
def pNext_R (r : Int) (w0 : World) (v : Value) (w : World) : Prop := v = .int .u8 r ∧ St [] w0 w []

set_option maxRecDepth 100000 in
set_option maxHeartbeats 4000000 in
theorem pNext_ok (N : Nat) (p0 : List (Int × Int × Bool)) (p1 : Int) (A0 : Option Addr) (ft0 : List Nat) (r : Int) (hF : pNext N p0 p1 = some r) (w0 : World) (hv0 : (fCh 100 entembedentry A0 p0).rd w0 ft0) (ho0 : Off [] w0 ft0) :
  Calls Try.prog 77 #[.pointer A0, .int .u8 p1] w0 fun e w => ∃ v, e = .returned v ∧ pNext_R r w0 v w := by
 have hS0 := (St.start w0).pool0
 unfold pNext at hF
 refine calls_of Try.func77 rfl ⟨((.pointer A0) :: (.int .u8 p1) :: un 17 ([])).toArray, []⟩ (by kernel_rfl) ?_
 refine gx_seq (fun K1 hK2 => ?_)
 refine gx_region ?_
 refine gx_k (.int .u8 0) w0 ?_
 refine gx_nil ?_
 refine gx_thenN ?_
 refine hK2 _ _ ?_
 refine gx_seq (fun K3 hK4 => ?_)
 refine gx_seq (fun K5 hK6 => ?_)
 refine gx_region ?_
 refine gx_k (.int .u8 p1) w0 ?_
 rcases if_in hF with ⟨h7, hF⟩ | ⟨h7, hF⟩
 ·refine gx_v (.bool true) w0 (run_boolE (decide_eq_true h7) (by kernel_rfl)) ?_
  refine gx_nil ?_
  refine gx_thenN ?_
  refine hK6 _ _ ?_
  refine gx_yes (by kernel_rfl) ?_
  refine gx_seq (fun K8 hK9 => ?_)
  refine gx_region ?_
  refine gx_k (.pointer A0) w0 ?_
  obtain ⟨⟨⟨x11, x12, b13⟩, r10⟩, h14, hF⟩ := bind_in hF
  try dsimp only at hF
  obtain ⟨g15, A16, e17, hA18, hb19, h20, hf21⟩ := ch_open hv0 h14
  obtain ⟨e22, e23, rfl, h24, h25⟩ := h20
  obtain rfl := h24
  obtain ⟨e26, e27, rfl, h28, h29⟩ := h25
  obtain rfl := h28
  obtain rfl := h29
  have hb19 : (fBlk 100 g15 [.pointer A16, .int .u8 x11, .int .u8 x12, .bool b13]).rd w0 ft0 := hb19
  refine gx_v (.pointer (some ⟨g15, 0, none⟩)) w0 (run_nilck rfl (by kernel_rfl) hA18) ?_
  refine gx_k (.pointer (some ⟨g15, 1, none⟩)) w0 ?_
  refine gx_v (.int .u8 x11) w0 (run_blk (off := 1) rfl (by kernel_rfl) (fun _ => by kernel_rfl) (hS0.inn ho0 hb19) rfl) ?_
  refine gx_k (.int .u8 (IntKind.u8.wrap (x11 + 1))) w0 (gx_k (.int .u8 (ior .u8 (IntKind.u8.wrap (x11 + 1)) 1)) w0 (gx_k (.int .u8 (ior .u8 (IntKind.u8.wrap (x11 + 1)) 1)) w0 ?_))
  refine gx_nil ?_
  refine gx_thenN ?_
  refine hK9 _ _ ?_
  refine gx_ret ?_
  refine gx_thenR ?_
  obtain rfl := Option.some.inj hF
  exact gx_fin (.int .u8 (ior .u8 (IntKind.u8.wrap (x11 + 1)) 1)) (by kernel_rfl) (by kernel_rfl) ⟨_, rfl, rfl, (hS0.pick [] rfl rfl)⟩
 ·refine gx_v (.bool false) w0 (run_boolE (decide_eq_false h7) (by kernel_rfl)) ?_
  refine gx_nil ?_
  refine gx_thenN ?_
  refine hK6 _ _ ?_
  refine gx_no (by kernel_rfl) ?_
  refine gx_pass ?_
  refine gx_thenN ?_
  refine hK4 _ _ ?_
  refine gx_seq (fun K30 hK31 => ?_)
  refine gx_region ?_
  refine gx_k (.pointer A0) w0 ?_
  obtain ⟨⟨⟨x33, x34, b35⟩, r32⟩, h36, hF⟩ := bind_in hF
  try dsimp only at hF
  obtain ⟨g37, A38, e39, hA40, hb41, h42, hf43⟩ := ch_open hv0 h36
  obtain ⟨e44, e45, rfl, h46, h47⟩ := h42
  obtain rfl := h46
  obtain ⟨e48, e49, rfl, h50, h51⟩ := h47
  obtain rfl := h50
  obtain rfl := h51
  have hb41 : (fBlk 100 g37 [.pointer A38, .int .u8 x33, .int .u8 x34, .bool b35]).rd w0 ft0 := hb41
  refine gx_v (.pointer (some ⟨g37, 0, none⟩)) w0 (run_nilck rfl (by kernel_rfl) hA40) ?_
  refine gx_k (.pointer (some ⟨g37, 1, none⟩)) w0 ?_
  refine gx_v (.int .u8 x33) w0 (run_blk (off := 1) rfl (by kernel_rfl) (fun _ => by kernel_rfl) (hS0.inn ho0 hb41) rfl) ?_
  refine gx_k (.int .u8 (IntKind.u8.wrap (x33 + 2))) w0 (gx_k (.int .u8 (iandn .u8 (IntKind.u8.wrap (x33 + 2)) 1)) w0 (gx_k (.int .u8 (iandn .u8 (IntKind.u8.wrap (x33 + 2)) 1)) w0 ?_))
  refine gx_nil ?_
  refine gx_thenN ?_
  refine hK31 _ _ ?_
  refine gx_ret ?_
  obtain rfl := Option.some.inj hF
  exact gx_fin (.int .u8 (iandn .u8 (IntKind.u8.wrap (x33 + 2)) 1)) (by kernel_rfl) (by kernel_rfl) ⟨_, rfl, rfl, (hS0.pick [] rfl rfl)⟩

def pStackOf (_N : Nat) (p0 : Int) : Option (List (Int × Int × Bool) × Int × Int × Int) :=
 some (((p0, 0, false) :: ([] : List (Int × Int × Bool))), 0, 0, 0)

set_option linter.unusedVariables false in
def pStackOf_R (r : List (Int × Int × Bool) × Int × Int × Int) (w0 : World) (v : Value) (w : World) : Prop := ∃ (A0_0' : Option Addr) (ft' : List Nat), v = .agg #[.pointer A0_0', .int .i64 r.2.1, .int .i64 r.2.2.1, .int .i64 r.2.2.2] ∧ St [] w0 w [poolE ft' w] ∧ (fCh 100 entembedentry A0_0' r.1).rd w ft'

set_option maxRecDepth 100000 in
set_option maxHeartbeats 4000000 in
theorem pStackOf_ok (N : Nat) (p0 : Int)  (r : List (Int × Int × Bool) × Int × Int × Int) (hF : pStackOf N p0 = some r) (w0 : World)  :
  Calls Try.prog 47 #[.int .u8 p0] w0 fun e w => ∃ v, e = .returned v ∧ pStackOf_R r w0 v w := by
 have hS0 := (St.start w0).pool0
 unfold pStackOf at hF
 refine calls_of Try.func47 rfl ⟨((.int .u8 p0) :: un 6 ([])).toArray, []⟩ (by kernel_rfl) ?_
 refine gx_seq (fun K1 hK2 => ?_)
 refine gx_region ?_
 refine gx_r (st_boxed [.pointer none, .int .i64 0, .int .i64 0, .int .i64 0] 80 hS0 (by kernel_rfl)) ?_
 rintro _ w3 ⟨rfl, hS4⟩
 have hS4 : St _ _ w3 [poolE ([]) w0, boxE w0.heap.size [.pointer none, .int .i64 0, .int .i64 0, .int .i64 0] 80] := hS4
 refine gx_nil ?_
 refine gx_thenN ?_
 refine hK2 _ _ ?_
 refine gx_seq (fun K5 hK6 => ?_)
 refine gx_region ?_
 refine gx_k (.int .u8 p0) w3 (gx_k (.agg #[.pointer none, .int .u8 p0, .int .u8 0, .bool false]) w3 ?_)
 refine gx_r (st_boxed [.pointer none, .int .u8 p0, .int .u8 0, .bool false] 100 hS4 (by kernel_rfl)) ?_
 rintro _ w7 ⟨rfl, hS8⟩
 have hS8 : St _ _ w7 [poolE ([]) w0, boxE w0.heap.size [.pointer none, .int .i64 0, .int .i64 0, .int .i64 0] 80, boxE w3.heap.size [.pointer none, .int .u8 p0, .int .u8 0, .bool false] 100] := hS8
 refine gx_k (.agg #[.pointer (some ⟨w3.heap.size, 0, none⟩), .int .i64 0, .int .i64 0, .int .i64 0]) w7 ?_
 obtain ⟨ft9, W10, hS11, hT12, hf13⟩ := hS8.freezeC (e := entembedentry) (T := 100) (B := none) (c := [.int .u8 p0, .int .u8 0, .bool false]) (x := (p0, 0, false)) (l := ([] : List (Int × Int × Bool))) 2 0 rfl rfl (by decide) (rd_pair (rd_intg .u8 p0) (rd_pair (rd_intg .u8 (0 : Int)) (rd_bool false))) ch_nil
 have hS11 : St _ _ w7 [poolE ft9 W10, boxE w0.heap.size [.pointer none, .int .i64 0, .int .i64 0, .int .i64 0] 80] := hS11
 have hT12 : Turn [] w0 w0 ([]) W10 ft9 := hT12
 have hf13 : (fCh 100 entembedentry (some ⟨w3.heap.size, 0, none⟩) ((p0, 0, false) :: ([] : List (Int × Int × Bool)))).rd W10 ft9 := hf13
 refine gx_s (st_storeG (cs := [.pointer none, .int .i64 0, .int .i64 0, .int .i64 0]) (ds := [.pointer (some ⟨w3.heap.size, 0, none⟩), .int .i64 0, .int .i64 0, .int .i64 0]) rfl (by kernel_rfl) (by kernel_rfl) (by kernel_rfl) rfl rfl hS11 1 rfl) ?_
 rintro w14 hS15
 have hS15 : St _ _ w14 [poolE ft9 W10, boxE w0.heap.size [.pointer (some ⟨w3.heap.size, 0, none⟩), .int .i64 0, .int .i64 0, .int .i64 0] 80] := hS15
 refine gx_nil ?_
 refine gx_thenN ?_
 refine hK6 _ _ ?_
 refine gx_ret ?_
 have hS16 : St _ _ w14 [poolE ft9 w14, boxE w0.heap.size [.pointer (some ⟨w3.heap.size, 0, none⟩), .int .i64 0, .int .i64 0, .int .i64 0] 80] := hS15.renew 0 rfl
 obtain rfl := Option.some.inj hF
 exact gx_fin (.agg #[.pointer (some ⟨w3.heap.size, 0, none⟩), .int .i64 0, .int .i64 0, .int .i64 0]) (by kernel_rfl) (res_cell rfl _ _ w0.heap.size _ _ _ (by kernel_rfl) (hS16.get 1 rfl) (by kernel_rfl) (by kernel_rfl)) ⟨_, rfl, (some ⟨w3.heap.size, 0, none⟩), ft9, rfl, (hS16.pick [0] rfl rfl), (hS15.now 0 rfl hf13)⟩

def pPush (N : Nat) (p0_0 : List (Int × Int × Bool)) (_p0_1 : Int) (p0_2 : Int) (p0_3 : Int) (_p0_4 : List Int) (_p0_5 : List Int) (_p0_6 : Int) (_p0_7 : List Int) (_p0_8 : List Int) (p1 : Int) (p2 : Int) (p3 : Bool) : Option (Bool × List (Int × Int × Bool)) :=
 ((pNext N p0_0 p1).bind fun x7 => (((((if x7 > 125 then some (true) else (if p0_2 > 0 then some (true) else some (false))) : Option (Bool)).bind fun b22 => (match b22 with | true => some (Ctl.ret (false, p0_0)) | false => (if p0_3 > 0 then some (Ctl.ret (false, p0_0)) else some (Ctl.go ())))) : Option (Ctl (Unit) (Bool × List (Int × Int × Bool)))).bind fun | Ctl.go () => some (true, ((x7, p2, p3) :: p0_0)) | Ctl.ret r => some r))

set_option linter.unusedVariables false in
def pPush_R (p0_0 : List (Int × Int × Bool)) (p0_1 : Int) (p0_2 : Int) (p0_3 : Int) (p0_4 : List Int) (p0_5 : List Int) (p0_6 : Int) (p0_7 : List Int) (p0_8 : List Int) (p1 : Int) (p2 : Int) (p3 : Bool) (g0 : Nat) (A0_0 : Option Addr) (ft0_0 : List Nat) (A0_4 : Option Addr) (c0_4 : Nat) (A0_5 : Option Addr) (c0_5 : Nat) (A0_7 : Option Addr) (c0_7 : Nat) (A0_8 : Option Addr) (c0_8 : Nat) (r : Bool × List (Int × Int × Bool)) (w0 : World) (v : Value) (w : World) : Prop := ∃ (Al0_0' : Option Addr) (ft' : List Nat), v = .bool r.1 ∧ St (foots [boxE g0 [.pointer A0_0, .int .i64 p0_1, .int .i64 p0_2, .int .i64 p0_3, .slice A0_4 p0_4.length c0_4, .slice A0_5 p0_5.length c0_5, .int .u8 p0_6, .slice A0_7 p0_7.length c0_7, .slice A0_8 p0_8.length c0_8] 84]) w0 w [boxE g0 [.pointer Al0_0', .int .i64 p0_1, .int .i64 p0_2, .int .i64 p0_3, .slice A0_4 p0_4.length c0_4, .slice A0_5 p0_5.length c0_5, .int .u8 p0_6, .slice A0_7 p0_7.length c0_7, .slice A0_8 p0_8.length c0_8] 84, poolE ft' w] ∧ (fCh 100 entembedentry Al0_0' r.2).rd w (ft' ++ (ft0_0))

set_option maxRecDepth 100000 in
set_option maxHeartbeats 4000000 in
theorem pPush_ok (N : Nat) (p0_0 : List (Int × Int × Bool)) (p0_1 : Int) (p0_2 : Int) (p0_3 : Int) (p0_4 : List Int) (p0_5 : List Int) (p0_6 : Int) (p0_7 : List Int) (p0_8 : List Int) (p1 : Int) (p2 : Int) (p3 : Bool) (g0 : Nat) (A0_0 : Option Addr) (ft0_0 : List Nat) (A0_4 : Option Addr) (c0_4 : Nat) (A0_5 : Option Addr) (c0_5 : Nat) (A0_7 : Option Addr) (c0_7 : Nat) (A0_8 : Option Addr) (c0_8 : Nat) (r : Bool × List (Int × Int × Bool)) (hF : pPush N p0_0 p0_1 p0_2 p0_3 p0_4 p0_5 p0_6 p0_7 p0_8 p1 p2 p3 = some r) (w0 : World) (hv0_0 : (fCh 100 entembedentry A0_0 p0_0).rd w0 ft0_0) (ho0_0 : Off (foots [boxE g0 [.pointer A0_0, .int .i64 p0_1, .int .i64 p0_2, .int .i64 p0_3, .slice A0_4 p0_4.length c0_4, .slice A0_5 p0_5.length c0_5, .int .u8 p0_6, .slice A0_7 p0_7.length c0_7, .slice A0_8 p0_8.length c0_8] 84]) w0 ft0_0) (_hv0_4 : Vw (foots [boxE g0 [.pointer A0_0, .int .i64 p0_1, .int .i64 p0_2, .int .i64 p0_3, .slice A0_4 p0_4.length c0_4, .slice A0_5 p0_5.length c0_5, .int .u8 p0_6, .slice A0_7 p0_7.length c0_7, .slice A0_8 p0_8.length c0_8] 84]) .u8 w0 A0_4 c0_4 p0_4) (_hv0_5 : Vw (foots [boxE g0 [.pointer A0_0, .int .i64 p0_1, .int .i64 p0_2, .int .i64 p0_3, .slice A0_4 p0_4.length c0_4, .slice A0_5 p0_5.length c0_5, .int .u8 p0_6, .slice A0_7 p0_7.length c0_7, .slice A0_8 p0_8.length c0_8] 84]) .i64 w0 A0_5 c0_5 p0_5) (_hv0_7 : Vw (foots [boxE g0 [.pointer A0_0, .int .i64 p0_1, .int .i64 p0_2, .int .i64 p0_3, .slice A0_4 p0_4.length c0_4, .slice A0_5 p0_5.length c0_5, .int .u8 p0_6, .slice A0_7 p0_7.length c0_7, .slice A0_8 p0_8.length c0_8] 84]) .u8 w0 A0_7 c0_7 p0_7) (_hv0_8 : Vw (foots [boxE g0 [.pointer A0_0, .int .i64 p0_1, .int .i64 p0_2, .int .i64 p0_3, .slice A0_4 p0_4.length c0_4, .slice A0_5 p0_5.length c0_5, .int .u8 p0_6, .slice A0_7 p0_7.length c0_7, .slice A0_8 p0_8.length c0_8] 84]) .u8 w0 A0_8 c0_8 p0_8) (hl : St (foots [boxE g0 [.pointer A0_0, .int .i64 p0_1, .int .i64 p0_2, .int .i64 p0_3, .slice A0_4 p0_4.length c0_4, .slice A0_5 p0_5.length c0_5, .int .u8 p0_6, .slice A0_7 p0_7.length c0_7, .slice A0_8 p0_8.length c0_8] 84]) w0 w0 [boxE g0 [.pointer A0_0, .int .i64 p0_1, .int .i64 p0_2, .int .i64 p0_3, .slice A0_4 p0_4.length c0_4, .slice A0_5 p0_5.length c0_5, .int .u8 p0_6, .slice A0_7 p0_7.length c0_7, .slice A0_8 p0_8.length c0_8] 84]) :
  Calls Try.prog 76 #[.pointer (some ⟨g0, 0, none⟩), .int .u8 p1, .int .u8 p2, .bool p3] w0 fun e w => ∃ v, e = .returned v ∧ pPush_R p0_0 p0_1 p0_2 p0_3 p0_4 p0_5 p0_6 p0_7 p0_8 p1 p2 p3 g0 A0_0 ft0_0 A0_4 c0_4 A0_5 c0_5 A0_7 c0_7 A0_8 c0_8 r w0 v w := by
 have hS0 := (hl).pool0
 unfold pPush at hF
 refine calls_of Try.func76 rfl ⟨((.pointer (some ⟨g0, 0, none⟩)) :: (.int .u8 p1) :: (.int .u8 p2) :: (.bool p3) :: un 40 ([])).toArray, []⟩ (by kernel_rfl) ?_
 refine gx_seq (fun K1 hK2 => ?_)
 refine gx_region ?_
 refine gx_k (.bool false) w0 ?_
 refine gx_nil ?_
 refine gx_thenN ?_
 refine hK2 _ _ ?_
 refine gx_seq (fun K3 hK4 => ?_)
 refine gx_region ?_
 refine gx_k (.pointer (some ⟨g0, 0, none⟩)) w0 (gx_k (.pointer (some ⟨g0, 0, none⟩)) w0 (gx_k (.pointer (some ⟨g0, 0, none⟩)) w0 ?_))
 refine gx_v (.pointer A0_0) w0 (run_load1 rfl (by kernel_rfl) (fun _ => by kernel_rfl) (hS0.box 0 rfl 0 rfl)) ?_
 refine gx_k (.int .u8 p1) w0 ?_
 have hP5 : St _ _ w0 ([] ++ [boxE g0 [.pointer A0_0, .int .i64 p0_1, .int .i64 p0_2, .int .i64 p0_3, .slice A0_4 p0_4.length c0_4, .slice A0_5 p0_5.length c0_5, .int .u8 p0_6, .slice A0_7 p0_7.length c0_7, .slice A0_8 p0_8.length c0_8] 84, poolE ([]) w0]) := hS0
 obtain ⟨x7, hc6, hF⟩ := bind_in hF
 try dsimp only at hF
 refine gx_c (pNext_R x7 w0) (pNext_ok N p0_0 p1 A0_0 ft0_0 _ hc6 w0 (hS0.inn ho0_0 hv0_0) (hP5.offIA ho0_0)) ?_
 rintro _ w8 ⟨rfl, hT10⟩
 have hS9 : St _ _ w8 [boxE g0 [.pointer A0_0, .int .i64 p0_1, .int .i64 p0_2, .int .i64 p0_3, .slice A0_4 p0_4.length c0_4, .slice A0_5 p0_5.length c0_5, .int .u8 p0_6, .slice A0_7 p0_7.length c0_7, .slice A0_8 p0_8.length c0_8] 84, poolE ([]) w0] := hS0.take _ hT10
 refine gx_k (.int .u8 x7) w8 ?_
 refine gx_nil ?_
 refine gx_thenN ?_
 refine hK4 _ _ ?_
 obtain ⟨c14, hE15, hO16⟩ := bind_in hF
 refine gx_cut (fun a w => selfA (fun u13 => ⟨((.pointer (some ⟨g0, 0, none⟩)) :: (.int .u8 p1) :: (.int .u8 p2) :: (.bool p3) :: un 4 ((u13 8) :: (.int .u8 x7) :: (.pointer (some ⟨g0, 0, none⟩)) :: (.pointer (some ⟨g0, 0, none⟩)) :: (.pointer (some ⟨g0, 0, none⟩)) :: (.pointer A0_0) :: (.int .u8 p1) :: (.int .u8 x7) :: dd u13 16 16 (un 12 ([])))).toArray, []⟩) a ∧ Ctl.go () = c14 ∧ St (foots [boxE g0 [.pointer A0_0, .int .i64 p0_1, .int .i64 p0_2, .int .i64 p0_3, .slice A0_4 p0_4.length c0_4, .slice A0_5 p0_5.length c0_5, .int .u8 p0_6, .slice A0_7 p0_7.length c0_7, .slice A0_8 p0_8.length c0_8] 84]) w0 w [poolE ([]) w0, boxE g0 [.pointer A0_0, .int .i64 p0_1, .int .i64 p0_2, .int .i64 p0_3, .slice A0_4 p0_4.length c0_4, .slice A0_5 p0_5.length c0_5, .int .u8 p0_6, .slice A0_7 p0_7.length c0_7, .slice A0_8 p0_8.length c0_8] 84]) ?_ ?_
 ·refine gx_seq (fun K17 hK18 => ?_)
  refine gx_region ?_
  refine gx_k (.int .u8 x7) w8 ?_
  obtain ⟨c23, hE24, hO25⟩ := bind_in hE15
  refine gx_part (l1 := [_, _, _, _, _, _, _, _]) (fun a w => ∃ (b22 : Bool), selfA (fun u21 => ⟨((.pointer (some ⟨g0, 0, none⟩)) :: (.int .u8 p1) :: (.int .u8 p2) :: (.bool p3) :: un 4 ((.bool false) :: (.int .u8 x7) :: (.pointer (some ⟨g0, 0, none⟩)) :: (.pointer (some ⟨g0, 0, none⟩)) :: (.pointer (some ⟨g0, 0, none⟩)) :: (.pointer A0_0) :: (.int .u8 p1) :: (.int .u8 x7) :: (.int .u8 x7) :: dd u21 17 7 ((.bool b22) :: un 19 ([])))).toArray, []⟩) a ∧ b22 = c23 ∧ St (foots [boxE g0 [.pointer A0_0, .int .i64 p0_1, .int .i64 p0_2, .int .i64 p0_3, .slice A0_4 p0_4.length c0_4, .slice A0_5 p0_5.length c0_5, .int .u8 p0_6, .slice A0_7 p0_7.length c0_7, .slice A0_8 p0_8.length c0_8] 84]) w0 w [poolE ([]) w0, boxE g0 [.pointer A0_0, .int .i64 p0_1, .int .i64 p0_2, .int .i64 p0_3, .slice A0_4 p0_4.length c0_4, .slice A0_5 p0_5.length c0_5, .int .u8 p0_6, .slice A0_7 p0_7.length c0_7, .slice A0_8 p0_8.length c0_8] 84]) rfl ?_ ?_
  ·rcases if_in hE24 with ⟨h27, hE24⟩ | ⟨h27, hE24⟩
   ·refine gx_v (.bool true) w8 (run_boolE (decide_eq_true h27) (by kernel_rfl)) ?_
    refine gx_k (.bool true) w8 (gx_o (gx_o (gx_o (gx_o (gx_o (gx_k (.bool true) w8 ?_))))))
    refine gx_nil ?_
    refine gx_thenN ?_
    exact ⟨true, selfA_i (by kernel_rfl), (Option.some.inj hE24), (hS9.pick [1, 0] rfl rfl)⟩
   ·refine gx_v (.bool false) w8 (run_boolE (decide_eq_false h27) (by kernel_rfl)) ?_
    refine gx_k (.bool false) w8 (gx_k (.pointer (some ⟨g0, 0, none⟩)) w8 (gx_k (.pointer (some ⟨g0, 0, none⟩)) w8 (gx_k (.pointer (some ⟨g0, 2, none⟩)) w8 ?_)))
    refine gx_v (.int .i64 p0_2) w8 (run_load1 rfl (by kernel_rfl) (fun _ => by kernel_rfl) (hS9.box 0 rfl 2 rfl)) ?_
    rcases if_in hE24 with ⟨h28, hE24⟩ | ⟨h28, hE24⟩
    ·refine gx_v (.bool true) w8 (run_boolE (decide_eq_true h28) (by kernel_rfl)) ?_
     refine gx_k (.bool true) w8 ?_
     refine gx_nil ?_
     refine gx_thenN ?_
     exact ⟨true, selfA_i (by kernel_rfl), (Option.some.inj hE24), (hS9.pick [1, 0] rfl rfl)⟩
    ·refine gx_v (.bool false) w8 (run_boolE (decide_eq_false h28) (by kernel_rfl)) ?_
     refine gx_k (.bool false) w8 ?_
     refine gx_nil ?_
     refine gx_thenN ?_
     exact ⟨false, selfA_i (by kernel_rfl), (Option.some.inj hE24), (hS9.pick [1, 0] rfl rfl)⟩
  ·rintro _ w19 ⟨b22, hq26, rfl, hS20⟩
   obtain ⟨u21, rfl⟩ := selfA_u hq26
   try dsimp only at hO25
   refine gx_k (.bool b22) w19 ?_
   cases b22 with
   | true =>
    try dsimp only at hO25
    refine gx_o (gx_o (gx_o (gx_o (gx_o (gx_k (.bool true) w19 ?_)))))
    refine gx_nil ?_
    refine gx_thenN ?_
    refine hK18 _ _ ?_
    refine gx_yes (by kernel_rfl) ?_
    refine gx_seq (fun K29 hK30 => ?_)
    refine gx_region ?_
    refine gx_k (.bool false) w19 ?_
    refine gx_nil ?_
    refine gx_thenN ?_
    refine hK30 _ _ ?_
    refine gx_ret ?_
    refine gx_thenR ?_
    obtain rfl := Option.some.inj hO25
    try dsimp only at hO16
    have hS31 : St _ _ w19 [poolE ([]) w19, boxE g0 [.pointer A0_0, .int .i64 p0_1, .int .i64 p0_2, .int .i64 p0_3, .slice A0_4 p0_4.length c0_4, .slice A0_5 p0_5.length c0_5, .int .u8 p0_6, .slice A0_7 p0_7.length c0_7, .slice A0_8 p0_8.length c0_8] 84] := hS20.renew 0 rfl
    obtain rfl := Option.some.inj hO16
    exact gx_fin (.bool false) (by kernel_rfl) (by kernel_rfl) ⟨_, rfl, A0_0, ([]), rfl, (hS31.pick [1, 0] rfl rfl), (hS20.nowM 0 rfl (Inn.of ho0_0) (Inn.take (Inn.of ho0_0) ([]) (fun k hk => by simp [hk]) hv0_0))⟩
   | false =>
    try dsimp only at hO25
    refine gx_k (.pointer (some ⟨g0, 0, none⟩)) w19 (gx_k (.pointer (some ⟨g0, 0, none⟩)) w19 (gx_k (.pointer (some ⟨g0, 3, none⟩)) w19 ?_))
    refine gx_v (.int .i64 p0_3) w19 (run_load1 rfl (by kernel_rfl) (fun _ => by kernel_rfl) (hS20.box 1 rfl 3 rfl)) ?_
    rcases if_in hO25 with ⟨h32, hO25⟩ | ⟨h32, hO25⟩
    ·refine gx_v (.bool true) w19 (run_boolE (decide_eq_true h32) (by kernel_rfl)) ?_
     refine gx_k (.bool true) w19 ?_
     refine gx_nil ?_
     refine gx_thenN ?_
     refine hK18 _ _ ?_
     refine gx_yes (by kernel_rfl) ?_
     refine gx_seq (fun K33 hK34 => ?_)
     refine gx_region ?_
     refine gx_k (.bool false) w19 ?_
     refine gx_nil ?_
     refine gx_thenN ?_
     refine hK34 _ _ ?_
     refine gx_ret ?_
     refine gx_thenR ?_
     obtain rfl := Option.some.inj hO25
     try dsimp only at hO16
     have hS35 : St _ _ w19 [poolE ([]) w19, boxE g0 [.pointer A0_0, .int .i64 p0_1, .int .i64 p0_2, .int .i64 p0_3, .slice A0_4 p0_4.length c0_4, .slice A0_5 p0_5.length c0_5, .int .u8 p0_6, .slice A0_7 p0_7.length c0_7, .slice A0_8 p0_8.length c0_8] 84] := hS20.renew 0 rfl
     obtain rfl := Option.some.inj hO16
     exact gx_fin (.bool false) (by kernel_rfl) (by kernel_rfl) ⟨_, rfl, A0_0, ([]), rfl, (hS35.pick [1, 0] rfl rfl), (hS20.nowM 0 rfl (Inn.of ho0_0) (Inn.take (Inn.of ho0_0) ([]) (fun k hk => by simp [hk]) hv0_0))⟩
    ·refine gx_v (.bool false) w19 (run_boolE (decide_eq_false h32) (by kernel_rfl)) ?_
     refine gx_k (.bool false) w19 ?_
     refine gx_nil ?_
     refine gx_thenN ?_
     refine hK18 _ _ ?_
     refine gx_no (by kernel_rfl) ?_
     refine gx_pass ?_
     refine gx_thenN ?_
     exact ⟨selfA_i (by kernel_rfl), (Option.some.inj hO25), hS20⟩
 ·rintro _ w11 ⟨hq50, rfl, hS12⟩
  obtain ⟨u13, rfl⟩ := selfA_u hq50
  try dsimp only at hO16
  refine gx_seq (fun K36 hK37 => ?_)
  refine gx_region ?_
  refine gx_k (.pointer (some ⟨g0, 0, none⟩)) w11 (gx_k (.pointer (some ⟨g0, 0, none⟩)) w11 (gx_k (.pointer (some ⟨g0, 0, none⟩)) w11 (gx_k (.pointer (some ⟨g0, 0, none⟩)) w11 ?_)))
  refine gx_v (.pointer A0_0) w11 (run_load1 rfl (by kernel_rfl) (fun _ => by kernel_rfl) (hS12.box 1 rfl 0 rfl)) ?_
  refine gx_k (.int .u8 x7) w11 (gx_k (.int .u8 p2) w11 (gx_k (.bool p3) w11 (gx_k (.agg #[.pointer A0_0, .int .u8 x7, .int .u8 p2, .bool p3]) w11 ?_)))
  refine gx_r (st_boxed [.pointer A0_0, .int .u8 x7, .int .u8 p2, .bool p3] 100 hS12 (by kernel_rfl)) ?_
  rintro _ w38 ⟨rfl, hS39⟩
  have hS39 : St _ _ w38 [poolE ([]) w0, boxE g0 [.pointer A0_0, .int .i64 p0_1, .int .i64 p0_2, .int .i64 p0_3, .slice A0_4 p0_4.length c0_4, .slice A0_5 p0_5.length c0_5, .int .u8 p0_6, .slice A0_7 p0_7.length c0_7, .slice A0_8 p0_8.length c0_8] 84, boxE w11.heap.size [.pointer A0_0, .int .u8 x7, .int .u8 p2, .bool p3] 100] := hS39
  refine gx_k (.pointer (some ⟨g0, 0, none⟩)) w38 (gx_k (.pointer (some ⟨g0, 0, none⟩)) w38 ?_)
  obtain ⟨ft40, W41, hS42, hT43, hf44⟩ := hS39.freezeCM (e := entembedentry) (T := 100) (B := A0_0) (c := [.int .u8 x7, .int .u8 p2, .bool p3]) (x := (x7, p2, p3)) (l := p0_0) 2 0 rfl rfl (by decide) (Inn.of ho0_0) (rd_pair (rd_intg .u8 x7) (rd_pair (rd_intg .u8 p2) (rd_bool p3))) (Inn.take (Inn.of ho0_0) ([]) (fun k hk => by simp [hk]) hv0_0)
  have hS42 : St _ _ w38 [poolE ft40 W41, boxE g0 [.pointer A0_0, .int .i64 p0_1, .int .i64 p0_2, .int .i64 p0_3, .slice A0_4 p0_4.length c0_4, .slice A0_5 p0_5.length c0_5, .int .u8 p0_6, .slice A0_7 p0_7.length c0_7, .slice A0_8 p0_8.length c0_8] 84] := hS42
  have hT43 : Turn (foots [boxE g0 [.pointer A0_0, .int .i64 p0_1, .int .i64 p0_2, .int .i64 p0_3, .slice A0_4 p0_4.length c0_4, .slice A0_5 p0_5.length c0_5, .int .u8 p0_6, .slice A0_7 p0_7.length c0_7, .slice A0_8 p0_8.length c0_8] 84]) w0 w0 ([]) W41 ft40 := hT43
  have hf44 : (fCh 100 entembedentry (some ⟨w11.heap.size, 0, none⟩) ((x7, p2, p3) :: p0_0)).rd W41 (ft40 ++ (ft0_0)) := hf44
  refine gx_s (st_store (j := 0) (v := (.pointer (some ⟨w11.heap.size, 0, none⟩))) rfl (by kernel_rfl) (by kernel_rfl) rfl (fun _ => by kernel_rfl) hS42 1 rfl (by show 0 < 9; decide)) ?_
  rintro w45 hS46
  have hS46 : St _ _ w45 [poolE ft40 W41, boxE g0 [.pointer (some ⟨w11.heap.size, 0, none⟩), .int .i64 p0_1, .int .i64 p0_2, .int .i64 p0_3, .slice A0_4 p0_4.length c0_4, .slice A0_5 p0_5.length c0_5, .int .u8 p0_6, .slice A0_7 p0_7.length c0_7, .slice A0_8 p0_8.length c0_8] 84] := hS46
  refine gx_nil ?_
  refine gx_thenN ?_
  refine hK37 _ _ ?_
  refine gx_seq (fun K47 hK48 => ?_)
  refine gx_region ?_
  refine gx_k (.bool true) w45 ?_
  refine gx_nil ?_
  refine gx_thenN ?_
  refine hK48 _ _ ?_
  refine gx_ret ?_
  have hS49 : St _ _ w45 [poolE ft40 w45, boxE g0 [.pointer (some ⟨w11.heap.size, 0, none⟩), .int .i64 p0_1, .int .i64 p0_2, .int .i64 p0_3, .slice A0_4 p0_4.length c0_4, .slice A0_5 p0_5.length c0_5, .int .u8 p0_6, .slice A0_7 p0_7.length c0_7, .slice A0_8 p0_8.length c0_8] 84] := hS46.renew 0 rfl
  obtain rfl := Option.some.inj hO16
  exact gx_fin (.bool true) (by kernel_rfl) (by kernel_rfl) ⟨_, rfl, (some ⟨w11.heap.size, 0, none⟩), ft40, rfl, (hS49.pick [1, 0] rfl rfl), (hS46.nowM 0 rfl (hT43.inn (Inn.of ho0_0)) hf44)⟩

def pBegE (N : Nat) (p0_0 : List (Int × Int × Bool)) (p0_1 : Int) (p0_2 : Int) (p0_3 : Int) (p0_4 : List Int) (p0_5 : List Int) (p0_6 : Int) (p0_7 : List Int) (p0_8 : List Int) (p1 : Int) (p2 : Int) : Option (List (Int × Int × Bool) × Int) :=
 ((((pPush N p0_0 p0_1 p0_2 p0_3 p0_4 p0_5 p0_6 p0_7 p0_8 p1 p2 false).bind fun (b19, l16) => (match b19 with | true => some ((l16, false)) | false => (if p0_2 = 0 then some ((l16, true)) else some ((l16, false))))) : Option (List (Int × Int × Bool) × Bool)).bind fun (l9, b10) => (match b10 with | true => some (l9, (IntKind.i64.wrap (p0_3 + 1))) | false => some (l9, p0_3)))

set_option linter.unusedVariables false in
def pBegE_R (p0_0 : List (Int × Int × Bool)) (p0_1 : Int) (p0_2 : Int) (p0_3 : Int) (p0_4 : List Int) (p0_5 : List Int) (p0_6 : Int) (p0_7 : List Int) (p0_8 : List Int) (p1 : Int) (p2 : Int) (g0 : Nat) (A0_0 : Option Addr) (ft0_0 : List Nat) (A0_4 : Option Addr) (c0_4 : Nat) (A0_5 : Option Addr) (c0_5 : Nat) (A0_7 : Option Addr) (c0_7 : Nat) (A0_8 : Option Addr) (c0_8 : Nat) (r : List (Int × Int × Bool) × Int) (w0 : World) (v : Value) (w : World) : Prop := ∃ (Al0_0' : Option Addr) (ft' : List Nat), v = .tuple #[] ∧ St (foots [boxE g0 [.pointer A0_0, .int .i64 p0_1, .int .i64 p0_2, .int .i64 p0_3, .slice A0_4 p0_4.length c0_4, .slice A0_5 p0_5.length c0_5, .int .u8 p0_6, .slice A0_7 p0_7.length c0_7, .slice A0_8 p0_8.length c0_8] 84]) w0 w [boxE g0 [.pointer Al0_0', .int .i64 p0_1, .int .i64 p0_2, .int .i64 r.2, .slice A0_4 p0_4.length c0_4, .slice A0_5 p0_5.length c0_5, .int .u8 p0_6, .slice A0_7 p0_7.length c0_7, .slice A0_8 p0_8.length c0_8] 84, poolE ft' w] ∧ (fCh 100 entembedentry Al0_0' r.1).rd w (ft' ++ (ft0_0))

set_option maxRecDepth 100000 in
set_option maxHeartbeats 4000000 in
theorem pBegE_ok (N : Nat) (p0_0 : List (Int × Int × Bool)) (p0_1 : Int) (p0_2 : Int) (p0_3 : Int) (p0_4 : List Int) (p0_5 : List Int) (p0_6 : Int) (p0_7 : List Int) (p0_8 : List Int) (p1 : Int) (p2 : Int) (g0 : Nat) (A0_0 : Option Addr) (ft0_0 : List Nat) (A0_4 : Option Addr) (c0_4 : Nat) (A0_5 : Option Addr) (c0_5 : Nat) (A0_7 : Option Addr) (c0_7 : Nat) (A0_8 : Option Addr) (c0_8 : Nat) (r : List (Int × Int × Bool) × Int) (hF : pBegE N p0_0 p0_1 p0_2 p0_3 p0_4 p0_5 p0_6 p0_7 p0_8 p1 p2 = some r) (w0 : World) (hv0_0 : (fCh 100 entembedentry A0_0 p0_0).rd w0 ft0_0) (ho0_0 : Off (foots [boxE g0 [.pointer A0_0, .int .i64 p0_1, .int .i64 p0_2, .int .i64 p0_3, .slice A0_4 p0_4.length c0_4, .slice A0_5 p0_5.length c0_5, .int .u8 p0_6, .slice A0_7 p0_7.length c0_7, .slice A0_8 p0_8.length c0_8] 84]) w0 ft0_0) (hv0_4 : Vw (foots [boxE g0 [.pointer A0_0, .int .i64 p0_1, .int .i64 p0_2, .int .i64 p0_3, .slice A0_4 p0_4.length c0_4, .slice A0_5 p0_5.length c0_5, .int .u8 p0_6, .slice A0_7 p0_7.length c0_7, .slice A0_8 p0_8.length c0_8] 84]) .u8 w0 A0_4 c0_4 p0_4) (hv0_5 : Vw (foots [boxE g0 [.pointer A0_0, .int .i64 p0_1, .int .i64 p0_2, .int .i64 p0_3, .slice A0_4 p0_4.length c0_4, .slice A0_5 p0_5.length c0_5, .int .u8 p0_6, .slice A0_7 p0_7.length c0_7, .slice A0_8 p0_8.length c0_8] 84]) .i64 w0 A0_5 c0_5 p0_5) (hv0_7 : Vw (foots [boxE g0 [.pointer A0_0, .int .i64 p0_1, .int .i64 p0_2, .int .i64 p0_3, .slice A0_4 p0_4.length c0_4, .slice A0_5 p0_5.length c0_5, .int .u8 p0_6, .slice A0_7 p0_7.length c0_7, .slice A0_8 p0_8.length c0_8] 84]) .u8 w0 A0_7 c0_7 p0_7) (hv0_8 : Vw (foots [boxE g0 [.pointer A0_0, .int .i64 p0_1, .int .i64 p0_2, .int .i64 p0_3, .slice A0_4 p0_4.length c0_4, .slice A0_5 p0_5.length c0_5, .int .u8 p0_6, .slice A0_7 p0_7.length c0_7, .slice A0_8 p0_8.length c0_8] 84]) .u8 w0 A0_8 c0_8 p0_8) (hl : St (foots [boxE g0 [.pointer A0_0, .int .i64 p0_1, .int .i64 p0_2, .int .i64 p0_3, .slice A0_4 p0_4.length c0_4, .slice A0_5 p0_5.length c0_5, .int .u8 p0_6, .slice A0_7 p0_7.length c0_7, .slice A0_8 p0_8.length c0_8] 84]) w0 w0 [boxE g0 [.pointer A0_0, .int .i64 p0_1, .int .i64 p0_2, .int .i64 p0_3, .slice A0_4 p0_4.length c0_4, .slice A0_5 p0_5.length c0_5, .int .u8 p0_6, .slice A0_7 p0_7.length c0_7, .slice A0_8 p0_8.length c0_8] 84]) :
  Calls Try.prog 74 #[.pointer (some ⟨g0, 0, none⟩), .int .u8 p1, .int .u8 p2] w0 fun e w => ∃ v, e = .returned v ∧ pBegE_R p0_0 p0_1 p0_2 p0_3 p0_4 p0_5 p0_6 p0_7 p0_8 p1 p2 g0 A0_0 ft0_0 A0_4 c0_4 A0_5 c0_5 A0_7 c0_7 A0_8 c0_8 r w0 v w := by
 have hS0 := (hl).pool0
 unfold pBegE at hF
 refine calls_of Try.func74 rfl ⟨((.pointer (some ⟨g0, 0, none⟩)) :: (.int .u8 p1) :: (.int .u8 p2) :: un 22 ([])).toArray, []⟩ (by kernel_rfl) ?_
 obtain ⟨c11, hE12, hO13⟩ := bind_in hF
 refine gx_cut (fun a w => ∃ (l9 : List (Int × Int × Bool)) (b10 : Bool) (ft4 : List Nat) (W5 : World) (A7 : Option Addr), selfA (fun u3 => ⟨((.pointer (some ⟨g0, 0, none⟩)) :: (.int .u8 p1) :: (.int .u8 p2) :: un 3 (dd u3 6 11 ((.bool b10) :: un 7 ([])))).toArray, []⟩) a ∧ (l9, b10) = c11 ∧ St (foots [boxE g0 [.pointer A0_0, .int .i64 p0_1, .int .i64 p0_2, .int .i64 p0_3, .slice A0_4 p0_4.length c0_4, .slice A0_5 p0_5.length c0_5, .int .u8 p0_6, .slice A0_7 p0_7.length c0_7, .slice A0_8 p0_8.length c0_8] 84]) w0 w [poolE ft4 W5, boxE g0 [.pointer A7, .int .i64 p0_1, .int .i64 p0_2, .int .i64 p0_3, .slice A0_4 p0_4.length c0_4, .slice A0_5 p0_5.length c0_5, .int .u8 p0_6, .slice A0_7 p0_7.length c0_7, .slice A0_8 p0_8.length c0_8] 84] ∧ Turn (foots [boxE g0 [.pointer A0_0, .int .i64 p0_1, .int .i64 p0_2, .int .i64 p0_3, .slice A0_4 p0_4.length c0_4, .slice A0_5 p0_5.length c0_5, .int .u8 p0_6, .slice A0_7 p0_7.length c0_7, .slice A0_8 p0_8.length c0_8] 84]) w0 w0 ([]) W5 ft4 ∧ (fCh 100 entembedentry A7 l9).rd W5 (ft4 ++ (ft0_0))) ?_ ?_
 ·refine gx_region ?_
  refine gx_k (.pointer (some ⟨g0, 0, none⟩)) w0 (gx_k (.int .u8 p1) w0 (gx_k (.int .u8 p2) w0 ?_))
  have hP14 : St _ _ w0 ([boxE g0 [.pointer A0_0, .int .i64 p0_1, .int .i64 p0_2, .int .i64 p0_3, .slice A0_4 p0_4.length c0_4, .slice A0_5 p0_5.length c0_5, .int .u8 p0_6, .slice A0_7 p0_7.length c0_7, .slice A0_8 p0_8.length c0_8] 84] ++ [poolE ([]) w0]) := hS0
  obtain ⟨⟨b19, l16⟩, hc15, hE12⟩ := bind_in hE12
  try dsimp only at hE12
  refine gx_c (pPush_R p0_0 p0_1 p0_2 p0_3 p0_4 p0_5 p0_6 p0_7 p0_8 p1 p2 false g0 A0_0 ft0_0 A0_4 c0_4 A0_5 c0_5 A0_7 c0_7 A0_8 c0_8 (b19, l16) w0) (pPush_ok N p0_0 p0_1 p0_2 p0_3 p0_4 p0_5 p0_6 p0_7 p0_8 p1 p2 false g0 A0_0 ft0_0 A0_4 c0_4 A0_5 c0_5 A0_7 c0_7 A0_8 c0_8 _ hc15 w0 (hS0.inn ho0_0 hv0_0) (hP14.offIA ho0_0) (hP14.vwA hv0_4) (hP14.vwA hv0_5) (hP14.vwA hv0_7) (hP14.vwA hv0_8) hP14.part) ?_
  rintro _ w21 ⟨A17, ft20, rfl, hT23, hf18⟩
  have hS22 : St _ _ w21 [poolE ([]) w0, boxE g0 [.pointer A17, .int .i64 p0_1, .int .i64 p0_2, .int .i64 p0_3, .slice A0_4 p0_4.length c0_4, .slice A0_5 p0_5.length c0_5, .int .u8 p0_6, .slice A0_7 p0_7.length c0_7, .slice A0_8 p0_8.length c0_8] 84, poolE ft20 w21] := hP14.lendN _ hT23
  obtain ⟨ft24, W25, hS26, hT27, hU28, hU29, hU30⟩ := hS22.mergeW 2 0 rfl rfl (by decide)
  have hS26 : St _ _ w21 [poolE ft24 W25, boxE g0 [.pointer A17, .int .i64 p0_1, .int .i64 p0_2, .int .i64 p0_3, .slice A0_4 p0_4.length c0_4, .slice A0_5 p0_5.length c0_5, .int .u8 p0_6, .slice A0_7 p0_7.length c0_7, .slice A0_8 p0_8.length c0_8] 84] := hS26
  have hT27 : Turn (foots [boxE g0 [.pointer A0_0, .int .i64 p0_1, .int .i64 p0_2, .int .i64 p0_3, .slice A0_4 p0_4.length c0_4, .slice A0_5 p0_5.length c0_5, .int .u8 p0_6, .slice A0_7 p0_7.length c0_7, .slice A0_8 p0_8.length c0_8] 84]) w0 w0 ([]) W25 ft24 := hT27
  have hf31 : (fCh 100 entembedentry A17 l16).rd W25 (ft24 ++ (ft0_0)) := hU30 _ _ (ft0_0) (fun k hk => by simp only [List.mem_append] at hk ⊢; grind) hf18
  cases b19 with
  | true =>
   try dsimp only at hE12
   refine gx_k (.bool false) w21 (gx_k (.bool false) w21 (gx_o (gx_o (gx_o (gx_o (gx_o (gx_k (.bool false) w21 ?_)))))))
   refine gx_nil ?_
   refine gx_thenN ?_
   exact ⟨l16, false, ft24, W25, A17, selfA_i (by kernel_rfl), (Option.some.inj hE12), hS26, hT27, hf31⟩
  | false =>
   try dsimp only at hE12
   refine gx_k (.bool true) w21 (gx_k (.bool true) w21 (gx_k (.pointer (some ⟨g0, 0, none⟩)) w21 (gx_k (.pointer (some ⟨g0, 0, none⟩)) w21 (gx_k (.pointer (some ⟨g0, 2, none⟩)) w21 ?_))))
   refine gx_v (.int .i64 p0_2) w21 (run_load1 rfl (by kernel_rfl) (fun _ => by kernel_rfl) (hS26.box 1 rfl 2 rfl)) ?_
   rcases if_in hE12 with ⟨h32, hE12⟩ | ⟨h32, hE12⟩
   ·refine gx_v (.bool true) w21 (run_boolE (decide_eq_true h32) (by kernel_rfl)) ?_
    refine gx_k (.bool true) w21 ?_
    refine gx_nil ?_
    refine gx_thenN ?_
    exact ⟨l16, true, ft24, W25, A17, selfA_i (by kernel_rfl), (Option.some.inj hE12), hS26, hT27, hf31⟩
   ·refine gx_v (.bool false) w21 (run_boolE (decide_eq_false h32) (by kernel_rfl)) ?_
    refine gx_k (.bool false) w21 ?_
    refine gx_nil ?_
    refine gx_thenN ?_
    exact ⟨l16, false, ft24, W25, A17, selfA_i (by kernel_rfl), (Option.some.inj hE12), hS26, hT27, hf31⟩
 ·rintro _ w1 ⟨l9, b10, ft4, W5, A7, hq37, rfl, hS2, hT6, hf8⟩
  obtain ⟨u3, rfl⟩ := selfA_u hq37
  try dsimp only at hO13
  cases b10 with
  | true =>
   try dsimp only at hO13
   refine gx_yes (by kernel_rfl) ?_
   refine gx_region ?_
   refine gx_k (.pointer (some ⟨g0, 0, none⟩)) w1 (gx_k (.pointer (some ⟨g0, 0, none⟩)) w1 (gx_k (.pointer (some ⟨g0, 3, none⟩)) w1 ?_))
   refine gx_v (.int .i64 p0_3) w1 (run_load1 rfl (by kernel_rfl) (fun _ => by kernel_rfl) (hS2.box 1 rfl 3 rfl)) ?_
   refine gx_k (.int .i64 (IntKind.i64.wrap (p0_3 + 1))) w1 (gx_k (.pointer (some ⟨g0, 0, none⟩)) w1 (gx_k (.pointer (some ⟨g0, 3, none⟩)) w1 ?_))
   refine gx_s (st_store (j := 3) (v := (.int .i64 (IntKind.i64.wrap (p0_3 + 1)))) rfl (by kernel_rfl) (by kernel_rfl) rfl (fun _ => by kernel_rfl) hS2 1 rfl (by show 3 < 9; decide)) ?_
   rintro w33 hS34
   have hS34 : St _ _ w33 [poolE ft4 W5, boxE g0 [.pointer A7, .int .i64 p0_1, .int .i64 p0_2, .int .i64 (IntKind.i64.wrap (p0_3 + 1)), .slice A0_4 p0_4.length c0_4, .slice A0_5 p0_5.length c0_5, .int .u8 p0_6, .slice A0_7 p0_7.length c0_7, .slice A0_8 p0_8.length c0_8] 84] := hS34
   refine gx_nil ?_
   have hS35 : St _ _ w33 [poolE ft4 w33, boxE g0 [.pointer A7, .int .i64 p0_1, .int .i64 p0_2, .int .i64 (IntKind.i64.wrap (p0_3 + 1)), .slice A0_4 p0_4.length c0_4, .slice A0_5 p0_5.length c0_5, .int .u8 p0_6, .slice A0_7 p0_7.length c0_7, .slice A0_8 p0_8.length c0_8] 84] := hS34.renew 0 rfl
   obtain rfl := Option.some.inj hO13
   exact gx_finN (.tuple #[]) (by kernel_rfl) (by kernel_rfl) ⟨_, rfl, A7, ft4, rfl, (hS35.pick [1, 0] rfl rfl), (hS34.nowM 0 rfl (hT6.inn (Inn.of ho0_0)) hf8)⟩
  | false =>
   try dsimp only at hO13
   refine gx_no (by kernel_rfl) ?_
   refine gx_pass ?_
   have hS36 : St _ _ w1 [poolE ft4 w1, boxE g0 [.pointer A7, .int .i64 p0_1, .int .i64 p0_2, .int .i64 p0_3, .slice A0_4 p0_4.length c0_4, .slice A0_5 p0_5.length c0_5, .int .u8 p0_6, .slice A0_7 p0_7.length c0_7, .slice A0_8 p0_8.length c0_8] 84] := hS2.renew 0 rfl
   obtain rfl := Option.some.inj hO13
   exact gx_finN (.tuple #[]) (by kernel_rfl) (by kernel_rfl) ⟨_, rfl, A7, ft4, rfl, (hS36.pick [1, 0] rfl rfl), (hS2.nowM 0 rfl (hT6.inn (Inn.of ho0_0)) hf8)⟩

def pEndE (_N : Nat) (p0_0 : List (Int × Int × Bool)) (_p0_1 : Int) (p0_2 : Int) (p0_3 : Int) (_p0_4 : List Int) (_p0_5 : List Int) (_p0_6 : Int) (_p0_7 : List Int) (_p0_8 : List Int) : Option (List (Int × Int × Bool) × Int) :=
 (if p0_2 > 0 then some (p0_0, p0_3) else (if p0_3 > 0 then some (p0_0, (IntKind.i64.wrap (p0_3 - 1))) else ((((hdx p0_0).bind fun ((_x19, _x20, b21), _r18) => (match b21 with | true => some (false) | false => ((hdx p0_0).bind fun ((_x39, _x40, _b41), r38) => (if r38.isEmpty = true then some (false) else some (true))))) : Option (Bool)).bind fun b14 => (match b14 with | true => ((hdx p0_0).bind fun ((_x60, _x61, _b62), r59) => some (r59, p0_3)) | false => some (p0_0, p0_3)))))

set_option linter.unusedVariables false in
def pEndE_R (p0_0 : List (Int × Int × Bool)) (p0_1 : Int) (p0_2 : Int) (p0_3 : Int) (p0_4 : List Int) (p0_5 : List Int) (p0_6 : Int) (p0_7 : List Int) (p0_8 : List Int) (g0 : Nat) (A0_0 : Option Addr) (ft0_0 : List Nat) (A0_4 : Option Addr) (c0_4 : Nat) (A0_5 : Option Addr) (c0_5 : Nat) (A0_7 : Option Addr) (c0_7 : Nat) (A0_8 : Option Addr) (c0_8 : Nat) (r : List (Int × Int × Bool) × Int) (w0 : World) (v : Value) (w : World) : Prop := ∃ (Al0_0' : Option Addr) (ft' : List Nat), v = .tuple #[] ∧ St (foots [boxE g0 [.pointer A0_0, .int .i64 p0_1, .int .i64 p0_2, .int .i64 p0_3, .slice A0_4 p0_4.length c0_4, .slice A0_5 p0_5.length c0_5, .int .u8 p0_6, .slice A0_7 p0_7.length c0_7, .slice A0_8 p0_8.length c0_8] 84]) w0 w [boxE g0 [.pointer Al0_0', .int .i64 p0_1, .int .i64 p0_2, .int .i64 r.2, .slice A0_4 p0_4.length c0_4, .slice A0_5 p0_5.length c0_5, .int .u8 p0_6, .slice A0_7 p0_7.length c0_7, .slice A0_8 p0_8.length c0_8] 84, poolE ft' w] ∧ (fCh 100 entembedentry Al0_0' r.1).rd w (ft' ++ (ft0_0))

set_option maxRecDepth 100000 in
set_option maxHeartbeats 4000000 in
theorem pEndE_ok (N : Nat) (p0_0 : List (Int × Int × Bool)) (p0_1 : Int) (p0_2 : Int) (p0_3 : Int) (p0_4 : List Int) (p0_5 : List Int) (p0_6 : Int) (p0_7 : List Int) (p0_8 : List Int) (g0 : Nat) (A0_0 : Option Addr) (ft0_0 : List Nat) (A0_4 : Option Addr) (c0_4 : Nat) (A0_5 : Option Addr) (c0_5 : Nat) (A0_7 : Option Addr) (c0_7 : Nat) (A0_8 : Option Addr) (c0_8 : Nat) (r : List (Int × Int × Bool) × Int) (hF : pEndE N p0_0 p0_1 p0_2 p0_3 p0_4 p0_5 p0_6 p0_7 p0_8 = some r) (w0 : World) (hv0_0 : (fCh 100 entembedentry A0_0 p0_0).rd w0 ft0_0) (ho0_0 : Off (foots [boxE g0 [.pointer A0_0, .int .i64 p0_1, .int .i64 p0_2, .int .i64 p0_3, .slice A0_4 p0_4.length c0_4, .slice A0_5 p0_5.length c0_5, .int .u8 p0_6, .slice A0_7 p0_7.length c0_7, .slice A0_8 p0_8.length c0_8] 84]) w0 ft0_0) (_hv0_4 : Vw (foots [boxE g0 [.pointer A0_0, .int .i64 p0_1, .int .i64 p0_2, .int .i64 p0_3, .slice A0_4 p0_4.length c0_4, .slice A0_5 p0_5.length c0_5, .int .u8 p0_6, .slice A0_7 p0_7.length c0_7, .slice A0_8 p0_8.length c0_8] 84]) .u8 w0 A0_4 c0_4 p0_4) (_hv0_5 : Vw (foots [boxE g0 [.pointer A0_0, .int .i64 p0_1, .int .i64 p0_2, .int .i64 p0_3, .slice A0_4 p0_4.length c0_4, .slice A0_5 p0_5.length c0_5, .int .u8 p0_6, .slice A0_7 p0_7.length c0_7, .slice A0_8 p0_8.length c0_8] 84]) .i64 w0 A0_5 c0_5 p0_5) (_hv0_7 : Vw (foots [boxE g0 [.pointer A0_0, .int .i64 p0_1, .int .i64 p0_2, .int .i64 p0_3, .slice A0_4 p0_4.length c0_4, .slice A0_5 p0_5.length c0_5, .int .u8 p0_6, .slice A0_7 p0_7.length c0_7, .slice A0_8 p0_8.length c0_8] 84]) .u8 w0 A0_7 c0_7 p0_7) (_hv0_8 : Vw (foots [boxE g0 [.pointer A0_0, .int .i64 p0_1, .int .i64 p0_2, .int .i64 p0_3, .slice A0_4 p0_4.length c0_4, .slice A0_5 p0_5.length c0_5, .int .u8 p0_6, .slice A0_7 p0_7.length c0_7, .slice A0_8 p0_8.length c0_8] 84]) .u8 w0 A0_8 c0_8 p0_8) (hl : St (foots [boxE g0 [.pointer A0_0, .int .i64 p0_1, .int .i64 p0_2, .int .i64 p0_3, .slice A0_4 p0_4.length c0_4, .slice A0_5 p0_5.length c0_5, .int .u8 p0_6, .slice A0_7 p0_7.length c0_7, .slice A0_8 p0_8.length c0_8] 84]) w0 w0 [boxE g0 [.pointer A0_0, .int .i64 p0_1, .int .i64 p0_2, .int .i64 p0_3, .slice A0_4 p0_4.length c0_4, .slice A0_5 p0_5.length c0_5, .int .u8 p0_6, .slice A0_7 p0_7.length c0_7, .slice A0_8 p0_8.length c0_8] 84]) :
  Calls Try.prog 71 #[.pointer (some ⟨g0, 0, none⟩)] w0 fun e w => ∃ v, e = .returned v ∧ pEndE_R p0_0 p0_1 p0_2 p0_3 p0_4 p0_5 p0_6 p0_7 p0_8 g0 A0_0 ft0_0 A0_4 c0_4 A0_5 c0_5 A0_7 c0_7 A0_8 c0_8 r w0 v w := by
 have hS0 := (hl).pool0
 unfold pEndE at hF
 refine calls_of Try.func71 rfl ⟨((.pointer (some ⟨g0, 0, none⟩)) :: un 49 ([])).toArray, []⟩ (by kernel_rfl) ?_
 refine gx_block ?_
 refine gx_seq (fun K1 hK2 => ?_)
 refine gx_region ?_
 refine gx_k (.pointer (some ⟨g0, 0, none⟩)) w0 (gx_k (.pointer (some ⟨g0, 0, none⟩)) w0 (gx_k (.pointer (some ⟨g0, 2, none⟩)) w0 ?_))
 refine gx_v (.int .i64 p0_2) w0 (run_load1 rfl (by kernel_rfl) (fun _ => by kernel_rfl) (hS0.box 0 rfl 2 rfl)) ?_
 rcases if_in hF with ⟨h3, hF⟩ | ⟨h3, hF⟩
 ·refine gx_v (.bool true) w0 (run_boolE (decide_eq_true h3) (by kernel_rfl)) ?_
  refine gx_k (.bool true) w0 ?_
  refine gx_nil ?_
  refine gx_thenN ?_
  refine hK2 _ _ ?_
  refine gx_yes (by kernel_rfl) ?_
  refine gx_pass ?_
  refine gx_blkN ?_
  have hS4 : St _ _ w0 [boxE g0 [.pointer A0_0, .int .i64 p0_1, .int .i64 p0_2, .int .i64 p0_3, .slice A0_4 p0_4.length c0_4, .slice A0_5 p0_5.length c0_5, .int .u8 p0_6, .slice A0_7 p0_7.length c0_7, .slice A0_8 p0_8.length c0_8] 84, poolE ([]) w0] := hS0.renew 1 rfl
  obtain rfl := Option.some.inj hF
  exact gx_finN (.tuple #[]) (by kernel_rfl) (by kernel_rfl) ⟨_, rfl, A0_0, ([]), rfl, hS4, (hS0.nowM 1 rfl (Inn.of ho0_0) (Inn.take (Inn.of ho0_0) ([]) (fun k hk => by simp [hk]) hv0_0))⟩
 ·refine gx_v (.bool false) w0 (run_boolE (decide_eq_false h3) (by kernel_rfl)) ?_
  refine gx_k (.bool false) w0 ?_
  refine gx_nil ?_
  refine gx_thenN ?_
  refine hK2 _ _ ?_
  refine gx_no (by kernel_rfl) ?_
  refine gx_seq (fun K5 hK6 => ?_)
  refine gx_region ?_
  refine gx_k (.pointer (some ⟨g0, 0, none⟩)) w0 (gx_k (.pointer (some ⟨g0, 0, none⟩)) w0 (gx_k (.pointer (some ⟨g0, 3, none⟩)) w0 ?_))
  refine gx_v (.int .i64 p0_3) w0 (run_load1 rfl (by kernel_rfl) (fun _ => by kernel_rfl) (hS0.box 0 rfl 3 rfl)) ?_
  rcases if_in hF with ⟨h7, hF⟩ | ⟨h7, hF⟩
  ·refine gx_v (.bool true) w0 (run_boolE (decide_eq_true h7) (by kernel_rfl)) ?_
   refine gx_k (.bool true) w0 ?_
   refine gx_nil ?_
   refine gx_thenN ?_
   refine hK6 _ _ ?_
   refine gx_yes (by kernel_rfl) ?_
   refine gx_region ?_
   refine gx_k (.pointer (some ⟨g0, 0, none⟩)) w0 (gx_k (.pointer (some ⟨g0, 0, none⟩)) w0 (gx_k (.pointer (some ⟨g0, 3, none⟩)) w0 ?_))
   refine gx_v (.int .i64 p0_3) w0 (run_load1 rfl (by kernel_rfl) (fun _ => by kernel_rfl) (hS0.box 0 rfl 3 rfl)) ?_
   refine gx_k (.int .i64 (IntKind.i64.wrap (p0_3 - 1))) w0 (gx_k (.pointer (some ⟨g0, 0, none⟩)) w0 (gx_k (.pointer (some ⟨g0, 3, none⟩)) w0 ?_))
   refine gx_s (st_store (j := 3) (v := (.int .i64 (IntKind.i64.wrap (p0_3 - 1)))) rfl (by kernel_rfl) (by kernel_rfl) rfl (fun _ => by kernel_rfl) hS0 0 rfl (by show 3 < 9; decide)) ?_
   rintro w8 hS9
   have hS9 : St _ _ w8 [boxE g0 [.pointer A0_0, .int .i64 p0_1, .int .i64 p0_2, .int .i64 (IntKind.i64.wrap (p0_3 - 1)), .slice A0_4 p0_4.length c0_4, .slice A0_5 p0_5.length c0_5, .int .u8 p0_6, .slice A0_7 p0_7.length c0_7, .slice A0_8 p0_8.length c0_8] 84, poolE ([]) w0] := hS9
   refine gx_nil ?_
   refine gx_blkN ?_
   have hS10 : St _ _ w8 [boxE g0 [.pointer A0_0, .int .i64 p0_1, .int .i64 p0_2, .int .i64 (IntKind.i64.wrap (p0_3 - 1)), .slice A0_4 p0_4.length c0_4, .slice A0_5 p0_5.length c0_5, .int .u8 p0_6, .slice A0_7 p0_7.length c0_7, .slice A0_8 p0_8.length c0_8] 84, poolE ([]) w8] := hS9.renew 1 rfl
   obtain rfl := Option.some.inj hF
   exact gx_finN (.tuple #[]) (by kernel_rfl) (by kernel_rfl) ⟨_, rfl, A0_0, ([]), rfl, hS10, (hS9.nowM 1 rfl (Inn.of ho0_0) (Inn.take (Inn.of ho0_0) ([]) (fun k hk => by simp [hk]) hv0_0))⟩
  ·refine gx_v (.bool false) w0 (run_boolE (decide_eq_false h7) (by kernel_rfl)) ?_
   refine gx_k (.bool false) w0 ?_
   refine gx_nil ?_
   refine gx_thenN ?_
   refine hK6 _ _ ?_
   refine gx_no (by kernel_rfl) ?_
   obtain ⟨c15, hE16, hO17⟩ := bind_in hF
   refine gx_cut (fun a w => ∃ (b14 : Bool), selfA (fun u13 => ⟨((.pointer (some ⟨g0, 0, none⟩)) :: undef :: (.bool false) :: (.pointer (some ⟨g0, 0, none⟩)) :: (.pointer (some ⟨g0, 0, none⟩)) :: (.pointer (some ⟨g0, 2, none⟩)) :: (.int .i64 p0_2) :: (.bool false) :: (.bool false) :: (.pointer (some ⟨g0, 0, none⟩)) :: (.pointer (some ⟨g0, 0, none⟩)) :: (.pointer (some ⟨g0, 3, none⟩)) :: (.int .i64 p0_3) :: (.bool false) :: un 7 ((.bool b14) :: dd u13 22 18 (un 10 ([])))).toArray, []⟩) a ∧ b14 = c15 ∧ St (foots [boxE g0 [.pointer A0_0, .int .i64 p0_1, .int .i64 p0_2, .int .i64 p0_3, .slice A0_4 p0_4.length c0_4, .slice A0_5 p0_5.length c0_5, .int .u8 p0_6, .slice A0_7 p0_7.length c0_7, .slice A0_8 p0_8.length c0_8] 84]) w0 w [poolE ([]) w0, boxE g0 [.pointer A0_0, .int .i64 p0_1, .int .i64 p0_2, .int .i64 p0_3, .slice A0_4 p0_4.length c0_4, .slice A0_5 p0_5.length c0_5, .int .u8 p0_6, .slice A0_7 p0_7.length c0_7, .slice A0_8 p0_8.length c0_8] 84]) ?_ ?_
   ·refine gx_region ?_
    refine gx_k (.pointer (some ⟨g0, 0, none⟩)) w0 (gx_k (.pointer (some ⟨g0, 0, none⟩)) w0 (gx_k (.pointer (some ⟨g0, 0, none⟩)) w0 ?_))
    refine gx_v (.pointer A0_0) w0 (run_load1 rfl (by kernel_rfl) (fun _ => by kernel_rfl) (hS0.box 0 rfl 0 rfl)) ?_
    obtain ⟨⟨⟨x19, x20, b21⟩, r18⟩, h22, hE16⟩ := bind_in hE16
    try dsimp only at hE16
    obtain ⟨g23, A24, e25, hA26, hb27, h28, hf29⟩ := ch_open hv0_0 h22
    obtain ⟨e30, e31, rfl, h32, h33⟩ := h28
    obtain rfl := h32
    obtain ⟨e34, e35, rfl, h36, h37⟩ := h33
    obtain rfl := h36
    obtain rfl := h37
    have hb27 : (fBlk 100 g23 [.pointer A24, .int .u8 x19, .int .u8 x20, .bool b21]).rd w0 ft0_0 := hb27
    refine gx_v (.pointer (some ⟨g23, 0, none⟩)) w0 (run_nilck rfl (by kernel_rfl) hA26) ?_
    refine gx_k (.pointer (some ⟨g23, 3, none⟩)) w0 ?_
    refine gx_v (.bool b21) w0 (run_blk (off := 3) rfl (by kernel_rfl) (fun _ => by kernel_rfl) (hS0.inn ho0_0 hb27) rfl) ?_
    cases b21 with
    | true =>
     try dsimp only at hE16
     refine gx_k (.bool false) w0 (gx_k (.bool false) w0 (gx_o (gx_o (gx_o (gx_o (gx_o (gx_o ?_)))))))
     refine gx_o (gx_o (gx_k (.bool false) w0 (gx_k (.bool false) w0 ?_)))
     refine gx_nil ?_
     refine gx_thenN ?_
     exact ⟨false, selfA_i (by kernel_rfl), (Option.some.inj hE16), (hS0.pick [1, 0] rfl rfl)⟩
    | false =>
     try dsimp only at hE16
     refine gx_k (.bool true) w0 (gx_k (.bool true) w0 (gx_k (.pointer (some ⟨g0, 0, none⟩)) w0 (gx_k (.pointer (some ⟨g0, 0, none⟩)) w0 (gx_k (.pointer (some ⟨g0, 0, none⟩)) w0 ?_))))
     refine gx_v (.pointer A0_0) w0 (run_load1 rfl (by kernel_rfl) (fun _ => by kernel_rfl) (hS0.box 0 rfl 0 rfl)) ?_
     obtain ⟨⟨⟨x39, x40, b41⟩, r38⟩, h42, hE16⟩ := bind_in hE16
     try dsimp only at hE16
     obtain ⟨g43, A44, e45, hA46, hb47, h48, hf49⟩ := ch_open hv0_0 h42
     obtain ⟨e50, e51, rfl, h52, h53⟩ := h48
     obtain rfl := h52
     obtain ⟨e54, e55, rfl, h56, h57⟩ := h53
     obtain rfl := h56
     obtain rfl := h57
     have hb47 : (fBlk 100 g43 [.pointer A44, .int .u8 x39, .int .u8 x40, .bool b41]).rd w0 ft0_0 := hb47
     refine gx_v (.pointer (some ⟨g43, 0, none⟩)) w0 (run_nilck rfl (by kernel_rfl) hA46) ?_
     refine gx_k (.pointer (some ⟨g43, 0, none⟩)) w0 ?_
     refine gx_v (.pointer A44) w0 (run_blk (off := 0) rfl (by kernel_rfl) (fun _ => by kernel_rfl) (hS0.inn ho0_0 hb47) rfl) ?_
     rcases if_in hE16 with ⟨h58, hE16⟩ | ⟨h58, hE16⟩
     ·refine gx_v (.bool false) w0 (run_ptrnil (b := false) rfl (by kernel_rfl) (by kernel_rfl) (fun _ => by kernel_rfl) (fun _ _ => by kernel_rfl) (by rw [ch_yes hf49 h58]; rfl)) ?_
      refine gx_k (.bool false) w0 (gx_k (.bool false) w0 ?_)
      refine gx_nil ?_
      refine gx_thenN ?_
      exact ⟨false, selfA_i (by kernel_rfl), (Option.some.inj hE16), (hS0.pick [1, 0] rfl rfl)⟩
     ·refine gx_v (.bool true) w0 (run_ptrnil (b := false) rfl (by kernel_rfl) (by kernel_rfl) (fun _ => by kernel_rfl) (fun _ _ => by kernel_rfl) (by rw [ch_no hf49 h58]; rfl)) ?_
      refine gx_k (.bool true) w0 (gx_k (.bool true) w0 ?_)
      refine gx_nil ?_
      refine gx_thenN ?_
      exact ⟨true, selfA_i (by kernel_rfl), (Option.some.inj hE16), (hS0.pick [1, 0] rfl rfl)⟩
   ·rintro _ w11 ⟨b14, hq83, rfl, hS12⟩
    obtain ⟨u13, rfl⟩ := selfA_u hq83
    try dsimp only at hO17
    cases b14 with
    | true =>
     try dsimp only at hO17
     refine gx_yes (by kernel_rfl) ?_
     refine gx_region ?_
     refine gx_k (.pointer (some ⟨g0, 0, none⟩)) w11 (gx_k (.pointer (some ⟨g0, 0, none⟩)) w11 (gx_k (.pointer (some ⟨g0, 0, none⟩)) w11 (gx_k (.pointer (some ⟨g0, 0, none⟩)) w11 ?_)))
     refine gx_v (.pointer A0_0) w11 (run_load1 rfl (by kernel_rfl) (fun _ => by kernel_rfl) (hS12.box 1 rfl 0 rfl)) ?_
     obtain ⟨⟨⟨x60, x61, b62⟩, r59⟩, h63, hO17⟩ := bind_in hO17
     try dsimp only at hO17
     obtain ⟨g64, A65, e66, hA67, hb68, h69, hf70⟩ := ch_open hv0_0 h63
     obtain ⟨e71, e72, rfl, h73, h74⟩ := h69
     obtain rfl := h73
     obtain ⟨e75, e76, rfl, h77, h78⟩ := h74
     obtain rfl := h77
     obtain rfl := h78
     have hb68 : (fBlk 100 g64 [.pointer A65, .int .u8 x60, .int .u8 x61, .bool b62]).rd w0 ft0_0 := hb68
     refine gx_v (.pointer (some ⟨g64, 0, none⟩)) w11 (run_nilck rfl (by kernel_rfl) hA67) ?_
     refine gx_k (.pointer (some ⟨g64, 0, none⟩)) w11 ?_
     refine gx_v (.pointer A65) w11 (run_blk (off := 0) rfl (by kernel_rfl) (fun _ => by kernel_rfl) (hS12.inn ho0_0 hb68) rfl) ?_
     refine gx_k (.pointer (some ⟨g0, 0, none⟩)) w11 (gx_k (.pointer (some ⟨g0, 0, none⟩)) w11 ?_)
     refine gx_s (st_store (j := 0) (v := (.pointer A65)) rfl (by kernel_rfl) (by kernel_rfl) rfl (fun _ => by kernel_rfl) hS12 1 rfl (by show 0 < 9; decide)) ?_
     rintro w79 hS80
     have hS80 : St _ _ w79 [poolE ([]) w0, boxE g0 [.pointer A65, .int .i64 p0_1, .int .i64 p0_2, .int .i64 p0_3, .slice A0_4 p0_4.length c0_4, .slice A0_5 p0_5.length c0_5, .int .u8 p0_6, .slice A0_7 p0_7.length c0_7, .slice A0_8 p0_8.length c0_8] 84] := hS80
     refine gx_nil ?_
     refine gx_blkN ?_
     have hS81 : St _ _ w79 [poolE ([]) w79, boxE g0 [.pointer A65, .int .i64 p0_1, .int .i64 p0_2, .int .i64 p0_3, .slice A0_4 p0_4.length c0_4, .slice A0_5 p0_5.length c0_5, .int .u8 p0_6, .slice A0_7 p0_7.length c0_7, .slice A0_8 p0_8.length c0_8] 84] := hS80.renew 0 rfl
     obtain rfl := Option.some.inj hO17
     exact gx_finN (.tuple #[]) (by kernel_rfl) (by kernel_rfl) ⟨_, rfl, A65, ([]), rfl, (hS81.pick [1, 0] rfl rfl), (hS80.nowM 0 rfl (Inn.of ho0_0) (Inn.take (Inn.of ho0_0) ([]) (fun k hk => by simp [hk]) hf70))⟩
    | false =>
     try dsimp only at hO17
     refine gx_no (by kernel_rfl) ?_
     refine gx_pass ?_
     refine gx_blkN ?_
     have hS82 : St _ _ w11 [poolE ([]) w11, boxE g0 [.pointer A0_0, .int .i64 p0_1, .int .i64 p0_2, .int .i64 p0_3, .slice A0_4 p0_4.length c0_4, .slice A0_5 p0_5.length c0_5, .int .u8 p0_6, .slice A0_7 p0_7.length c0_7, .slice A0_8 p0_8.length c0_8] 84] := hS12.renew 0 rfl
     obtain rfl := Option.some.inj hO17
     exact gx_finN (.tuple #[]) (by kernel_rfl) (by kernel_rfl) ⟨_, rfl, A0_0, ([]), rfl, (hS82.pick [1, 0] rfl rfl), (hS12.nowM 0 rfl (Inn.of ho0_0) (Inn.take (Inn.of ho0_0) ([]) (fun k hk => by simp [hk]) hv0_0))⟩

def pBegI (N : Nat) (p0_0 : List (Int × Int × Bool)) (p0_1 : Int) (p0_2 : Int) (p0_3 : Int) (p0_4 : List Int) (p0_5 : List Int) (p0_6 : Int) (p0_7 : List Int) (p0_8 : List Int) (p1 : Int) : Option (List (Int × Int × Bool) × Int × Int) :=
 ((pPush N p0_0 p0_1 p0_2 p0_3 p0_4 p0_5 p0_6 p0_7 p0_8 p1 (0 : Int) true).bind fun (b8, l5) => (match b8 with | true => some (l5, (IntKind.i64.wrap (p0_1 + 1)), p0_2) | false => some (l5, p0_1, (IntKind.i64.wrap (p0_2 + 1)))))

set_option linter.unusedVariables false in
def pBegI_R (p0_0 : List (Int × Int × Bool)) (p0_1 : Int) (p0_2 : Int) (p0_3 : Int) (p0_4 : List Int) (p0_5 : List Int) (p0_6 : Int) (p0_7 : List Int) (p0_8 : List Int) (p1 : Int) (g0 : Nat) (A0_0 : Option Addr) (ft0_0 : List Nat) (A0_4 : Option Addr) (c0_4 : Nat) (A0_5 : Option Addr) (c0_5 : Nat) (A0_7 : Option Addr) (c0_7 : Nat) (A0_8 : Option Addr) (c0_8 : Nat) (r : List (Int × Int × Bool) × Int × Int) (w0 : World) (v : Value) (w : World) : Prop := ∃ (Al0_0' : Option Addr) (ft' : List Nat), v = .tuple #[] ∧ St (foots [boxE g0 [.pointer A0_0, .int .i64 p0_1, .int .i64 p0_2, .int .i64 p0_3, .slice A0_4 p0_4.length c0_4, .slice A0_5 p0_5.length c0_5, .int .u8 p0_6, .slice A0_7 p0_7.length c0_7, .slice A0_8 p0_8.length c0_8] 84]) w0 w [boxE g0 [.pointer Al0_0', .int .i64 r.2.1, .int .i64 r.2.2, .int .i64 p0_3, .slice A0_4 p0_4.length c0_4, .slice A0_5 p0_5.length c0_5, .int .u8 p0_6, .slice A0_7 p0_7.length c0_7, .slice A0_8 p0_8.length c0_8] 84, poolE ft' w] ∧ (fCh 100 entembedentry Al0_0' r.1).rd w (ft' ++ (ft0_0))

set_option maxRecDepth 100000 in
set_option maxHeartbeats 4000000 in
theorem pBegI_ok (N : Nat) (p0_0 : List (Int × Int × Bool)) (p0_1 : Int) (p0_2 : Int) (p0_3 : Int) (p0_4 : List Int) (p0_5 : List Int) (p0_6 : Int) (p0_7 : List Int) (p0_8 : List Int) (p1 : Int) (g0 : Nat) (A0_0 : Option Addr) (ft0_0 : List Nat) (A0_4 : Option Addr) (c0_4 : Nat) (A0_5 : Option Addr) (c0_5 : Nat) (A0_7 : Option Addr) (c0_7 : Nat) (A0_8 : Option Addr) (c0_8 : Nat) (r : List (Int × Int × Bool) × Int × Int) (hF : pBegI N p0_0 p0_1 p0_2 p0_3 p0_4 p0_5 p0_6 p0_7 p0_8 p1 = some r) (w0 : World) (hv0_0 : (fCh 100 entembedentry A0_0 p0_0).rd w0 ft0_0) (ho0_0 : Off (foots [boxE g0 [.pointer A0_0, .int .i64 p0_1, .int .i64 p0_2, .int .i64 p0_3, .slice A0_4 p0_4.length c0_4, .slice A0_5 p0_5.length c0_5, .int .u8 p0_6, .slice A0_7 p0_7.length c0_7, .slice A0_8 p0_8.length c0_8] 84]) w0 ft0_0) (hv0_4 : Vw (foots [boxE g0 [.pointer A0_0, .int .i64 p0_1, .int .i64 p0_2, .int .i64 p0_3, .slice A0_4 p0_4.length c0_4, .slice A0_5 p0_5.length c0_5, .int .u8 p0_6, .slice A0_7 p0_7.length c0_7, .slice A0_8 p0_8.length c0_8] 84]) .u8 w0 A0_4 c0_4 p0_4) (hv0_5 : Vw (foots [boxE g0 [.pointer A0_0, .int .i64 p0_1, .int .i64 p0_2, .int .i64 p0_3, .slice A0_4 p0_4.length c0_4, .slice A0_5 p0_5.length c0_5, .int .u8 p0_6, .slice A0_7 p0_7.length c0_7, .slice A0_8 p0_8.length c0_8] 84]) .i64 w0 A0_5 c0_5 p0_5) (hv0_7 : Vw (foots [boxE g0 [.pointer A0_0, .int .i64 p0_1, .int .i64 p0_2, .int .i64 p0_3, .slice A0_4 p0_4.length c0_4, .slice A0_5 p0_5.length c0_5, .int .u8 p0_6, .slice A0_7 p0_7.length c0_7, .slice A0_8 p0_8.length c0_8] 84]) .u8 w0 A0_7 c0_7 p0_7) (hv0_8 : Vw (foots [boxE g0 [.pointer A0_0, .int .i64 p0_1, .int .i64 p0_2, .int .i64 p0_3, .slice A0_4 p0_4.length c0_4, .slice A0_5 p0_5.length c0_5, .int .u8 p0_6, .slice A0_7 p0_7.length c0_7, .slice A0_8 p0_8.length c0_8] 84]) .u8 w0 A0_8 c0_8 p0_8) (hl : St (foots [boxE g0 [.pointer A0_0, .int .i64 p0_1, .int .i64 p0_2, .int .i64 p0_3, .slice A0_4 p0_4.length c0_4, .slice A0_5 p0_5.length c0_5, .int .u8 p0_6, .slice A0_7 p0_7.length c0_7, .slice A0_8 p0_8.length c0_8] 84]) w0 w0 [boxE g0 [.pointer A0_0, .int .i64 p0_1, .int .i64 p0_2, .int .i64 p0_3, .slice A0_4 p0_4.length c0_4, .slice A0_5 p0_5.length c0_5, .int .u8 p0_6, .slice A0_7 p0_7.length c0_7, .slice A0_8 p0_8.length c0_8] 84]) :
  Calls Try.prog 75 #[.pointer (some ⟨g0, 0, none⟩), .int .u8 p1] w0 fun e w => ∃ v, e = .returned v ∧ pBegI_R p0_0 p0_1 p0_2 p0_3 p0_4 p0_5 p0_6 p0_7 p0_8 p1 g0 A0_0 ft0_0 A0_4 c0_4 A0_5 c0_5 A0_7 c0_7 A0_8 c0_8 r w0 v w := by
 have hS0 := (hl).pool0
 unfold pBegI at hF
 refine calls_of Try.func75 rfl ⟨((.pointer (some ⟨g0, 0, none⟩)) :: (.int .u8 p1) :: un 19 ([])).toArray, []⟩ (by kernel_rfl) ?_
 refine gx_seq (fun K1 hK2 => ?_)
 refine gx_region ?_
 refine gx_k (.pointer (some ⟨g0, 0, none⟩)) w0 (gx_k (.int .u8 p1) w0 ?_)
 have hP3 : St _ _ w0 ([boxE g0 [.pointer A0_0, .int .i64 p0_1, .int .i64 p0_2, .int .i64 p0_3, .slice A0_4 p0_4.length c0_4, .slice A0_5 p0_5.length c0_5, .int .u8 p0_6, .slice A0_7 p0_7.length c0_7, .slice A0_8 p0_8.length c0_8] 84] ++ [poolE ([]) w0]) := hS0
 obtain ⟨⟨b8, l5⟩, hc4, hF⟩ := bind_in hF
 try dsimp only at hF
 refine gx_c (pPush_R p0_0 p0_1 p0_2 p0_3 p0_4 p0_5 p0_6 p0_7 p0_8 p1 (0 : Int) true g0 A0_0 ft0_0 A0_4 c0_4 A0_5 c0_5 A0_7 c0_7 A0_8 c0_8 (b8, l5) w0) (pPush_ok N p0_0 p0_1 p0_2 p0_3 p0_4 p0_5 p0_6 p0_7 p0_8 p1 (0 : Int) true g0 A0_0 ft0_0 A0_4 c0_4 A0_5 c0_5 A0_7 c0_7 A0_8 c0_8 _ hc4 w0 (hS0.inn ho0_0 hv0_0) (hP3.offIA ho0_0) (hP3.vwA hv0_4) (hP3.vwA hv0_5) (hP3.vwA hv0_7) (hP3.vwA hv0_8) hP3.part) ?_
 rintro _ w10 ⟨A6, ft9, rfl, hT12, hf7⟩
 have hS11 : St _ _ w10 [poolE ([]) w0, boxE g0 [.pointer A6, .int .i64 p0_1, .int .i64 p0_2, .int .i64 p0_3, .slice A0_4 p0_4.length c0_4, .slice A0_5 p0_5.length c0_5, .int .u8 p0_6, .slice A0_7 p0_7.length c0_7, .slice A0_8 p0_8.length c0_8] 84, poolE ft9 w10] := hP3.lendN _ hT12
 obtain ⟨ft13, W14, hS15, hT16, hU17, hU18, hU19⟩ := hS11.mergeW 2 0 rfl rfl (by decide)
 have hS15 : St _ _ w10 [poolE ft13 W14, boxE g0 [.pointer A6, .int .i64 p0_1, .int .i64 p0_2, .int .i64 p0_3, .slice A0_4 p0_4.length c0_4, .slice A0_5 p0_5.length c0_5, .int .u8 p0_6, .slice A0_7 p0_7.length c0_7, .slice A0_8 p0_8.length c0_8] 84] := hS15
 have hT16 : Turn (foots [boxE g0 [.pointer A0_0, .int .i64 p0_1, .int .i64 p0_2, .int .i64 p0_3, .slice A0_4 p0_4.length c0_4, .slice A0_5 p0_5.length c0_5, .int .u8 p0_6, .slice A0_7 p0_7.length c0_7, .slice A0_8 p0_8.length c0_8] 84]) w0 w0 ([]) W14 ft13 := hT16
 have hf20 : (fCh 100 entembedentry A6 l5).rd W14 (ft13 ++ (ft0_0)) := hU19 _ _ (ft0_0) (fun k hk => by simp only [List.mem_append] at hk ⊢; grind) hf7
 refine gx_nil ?_
 refine gx_thenN ?_
 refine hK2 _ _ ?_
 cases b8 with
 | true =>
  try dsimp only at hF
  refine gx_yes (by kernel_rfl) ?_
  refine gx_region ?_
  refine gx_k (.pointer (some ⟨g0, 0, none⟩)) w10 (gx_k (.pointer (some ⟨g0, 0, none⟩)) w10 (gx_k (.pointer (some ⟨g0, 1, none⟩)) w10 ?_))
  refine gx_v (.int .i64 p0_1) w10 (run_load1 rfl (by kernel_rfl) (fun _ => by kernel_rfl) (hS15.box 1 rfl 1 rfl)) ?_
  refine gx_k (.int .i64 (IntKind.i64.wrap (p0_1 + 1))) w10 (gx_k (.pointer (some ⟨g0, 0, none⟩)) w10 (gx_k (.pointer (some ⟨g0, 1, none⟩)) w10 ?_))
  refine gx_s (st_store (j := 1) (v := (.int .i64 (IntKind.i64.wrap (p0_1 + 1)))) rfl (by kernel_rfl) (by kernel_rfl) rfl (fun _ => by kernel_rfl) hS15 1 rfl (by show 1 < 9; decide)) ?_
  rintro w21 hS22
  have hS22 : St _ _ w21 [poolE ft13 W14, boxE g0 [.pointer A6, .int .i64 (IntKind.i64.wrap (p0_1 + 1)), .int .i64 p0_2, .int .i64 p0_3, .slice A0_4 p0_4.length c0_4, .slice A0_5 p0_5.length c0_5, .int .u8 p0_6, .slice A0_7 p0_7.length c0_7, .slice A0_8 p0_8.length c0_8] 84] := hS22
  refine gx_nil ?_
  have hS23 : St _ _ w21 [poolE ft13 w21, boxE g0 [.pointer A6, .int .i64 (IntKind.i64.wrap (p0_1 + 1)), .int .i64 p0_2, .int .i64 p0_3, .slice A0_4 p0_4.length c0_4, .slice A0_5 p0_5.length c0_5, .int .u8 p0_6, .slice A0_7 p0_7.length c0_7, .slice A0_8 p0_8.length c0_8] 84] := hS22.renew 0 rfl
  obtain rfl := Option.some.inj hF
  exact gx_finN (.tuple #[]) (by kernel_rfl) (by kernel_rfl) ⟨_, rfl, A6, ft13, rfl, (hS23.pick [1, 0] rfl rfl), (hS22.nowM 0 rfl (hT16.inn (Inn.of ho0_0)) hf20)⟩
 | false =>
  try dsimp only at hF
  refine gx_no (by kernel_rfl) ?_
  refine gx_region ?_
  refine gx_k (.pointer (some ⟨g0, 0, none⟩)) w10 (gx_k (.pointer (some ⟨g0, 0, none⟩)) w10 (gx_k (.pointer (some ⟨g0, 2, none⟩)) w10 ?_))
  refine gx_v (.int .i64 p0_2) w10 (run_load1 rfl (by kernel_rfl) (fun _ => by kernel_rfl) (hS15.box 1 rfl 2 rfl)) ?_
  refine gx_k (.int .i64 (IntKind.i64.wrap (p0_2 + 1))) w10 (gx_k (.pointer (some ⟨g0, 0, none⟩)) w10 (gx_k (.pointer (some ⟨g0, 2, none⟩)) w10 ?_))
  refine gx_s (st_store (j := 2) (v := (.int .i64 (IntKind.i64.wrap (p0_2 + 1)))) rfl (by kernel_rfl) (by kernel_rfl) rfl (fun _ => by kernel_rfl) hS15 1 rfl (by show 2 < 9; decide)) ?_
  rintro w24 hS25
  have hS25 : St _ _ w24 [poolE ft13 W14, boxE g0 [.pointer A6, .int .i64 p0_1, .int .i64 (IntKind.i64.wrap (p0_2 + 1)), .int .i64 p0_3, .slice A0_4 p0_4.length c0_4, .slice A0_5 p0_5.length c0_5, .int .u8 p0_6, .slice A0_7 p0_7.length c0_7, .slice A0_8 p0_8.length c0_8] 84] := hS25
  refine gx_nil ?_
  have hS26 : St _ _ w24 [poolE ft13 w24, boxE g0 [.pointer A6, .int .i64 p0_1, .int .i64 (IntKind.i64.wrap (p0_2 + 1)), .int .i64 p0_3, .slice A0_4 p0_4.length c0_4, .slice A0_5 p0_5.length c0_5, .int .u8 p0_6, .slice A0_7 p0_7.length c0_7, .slice A0_8 p0_8.length c0_8] 84] := hS25.renew 0 rfl
  obtain rfl := Option.some.inj hF
  exact gx_finN (.tuple #[]) (by kernel_rfl) (by kernel_rfl) ⟨_, rfl, A6, ft13, rfl, (hS26.pick [1, 0] rfl rfl), (hS25.nowM 0 rfl (hT16.inn (Inn.of ho0_0)) hf20)⟩

def pEndI_L1 (N : Nat) : Nat → (List (Int × Int × Bool)) → Option (List (Int × Int × Bool))
 | 0, _ => none
 | k31+1, l30 => ((hdx l30).bind fun ((_x38, _x39, b40), _r37) => (match b40 with | true => some (l30) | false => ((hdx l30).bind fun ((_x58, _x59, _b60), r57) => pEndI_L1 N k31 r57)))
def pEndI (N : Nat) (p0_0 : List (Int × Int × Bool)) (p0_1 : Int) (p0_2 : Int) (p0_3 : Int) (_p0_4 : List Int) (_p0_5 : List Int) (_p0_6 : Int) (_p0_7 : List Int) (_p0_8 : List Int) : Option (List (Int × Int × Bool) × Int × Int × Int) :=
 (if p0_2 > 0 then some (p0_0, p0_1, (IntKind.i64.wrap (p0_2 - 1)), p0_3) else (if p0_1 > 0 then ((pEndI_L1 N N p0_0 : Option (List (Int × Int × Bool))).bind fun l18 => ((hdx l18).bind fun ((_x83, _x84, _b85), r82) => some (r82, (IntKind.i64.wrap (p0_1 - 1)), p0_2, 0))) else some (p0_0, p0_1, p0_2, p0_3)))

set_option linter.unusedVariables false in
def pEndI_R (p0_0 : List (Int × Int × Bool)) (p0_1 : Int) (p0_2 : Int) (p0_3 : Int) (p0_4 : List Int) (p0_5 : List Int) (p0_6 : Int) (p0_7 : List Int) (p0_8 : List Int) (g0 : Nat) (A0_0 : Option Addr) (ft0_0 : List Nat) (A0_4 : Option Addr) (c0_4 : Nat) (A0_5 : Option Addr) (c0_5 : Nat) (A0_7 : Option Addr) (c0_7 : Nat) (A0_8 : Option Addr) (c0_8 : Nat) (r : List (Int × Int × Bool) × Int × Int × Int) (w0 : World) (v : Value) (w : World) : Prop := ∃ (Al0_0' : Option Addr) (ft' : List Nat), v = .tuple #[] ∧ St (foots [boxE g0 [.pointer A0_0, .int .i64 p0_1, .int .i64 p0_2, .int .i64 p0_3, .slice A0_4 p0_4.length c0_4, .slice A0_5 p0_5.length c0_5, .int .u8 p0_6, .slice A0_7 p0_7.length c0_7, .slice A0_8 p0_8.length c0_8] 84]) w0 w [boxE g0 [.pointer Al0_0', .int .i64 r.2.1, .int .i64 r.2.2.1, .int .i64 r.2.2.2, .slice A0_4 p0_4.length c0_4, .slice A0_5 p0_5.length c0_5, .int .u8 p0_6, .slice A0_7 p0_7.length c0_7, .slice A0_8 p0_8.length c0_8] 84, poolE ft' w] ∧ (fCh 100 entembedentry Al0_0' r.1).rd w (ft' ++ (ft0_0))

set_option maxRecDepth 100000 in
set_option maxHeartbeats 4000000 in
theorem pEndI_ok (N : Nat) (p0_0 : List (Int × Int × Bool)) (p0_1 : Int) (p0_2 : Int) (p0_3 : Int) (p0_4 : List Int) (p0_5 : List Int) (p0_6 : Int) (p0_7 : List Int) (p0_8 : List Int) (g0 : Nat) (A0_0 : Option Addr) (ft0_0 : List Nat) (A0_4 : Option Addr) (c0_4 : Nat) (A0_5 : Option Addr) (c0_5 : Nat) (A0_7 : Option Addr) (c0_7 : Nat) (A0_8 : Option Addr) (c0_8 : Nat) (r : List (Int × Int × Bool) × Int × Int × Int) (hF : pEndI N p0_0 p0_1 p0_2 p0_3 p0_4 p0_5 p0_6 p0_7 p0_8 = some r) (w0 : World) (hv0_0 : (fCh 100 entembedentry A0_0 p0_0).rd w0 ft0_0) (ho0_0 : Off (foots [boxE g0 [.pointer A0_0, .int .i64 p0_1, .int .i64 p0_2, .int .i64 p0_3, .slice A0_4 p0_4.length c0_4, .slice A0_5 p0_5.length c0_5, .int .u8 p0_6, .slice A0_7 p0_7.length c0_7, .slice A0_8 p0_8.length c0_8] 84]) w0 ft0_0) (_hv0_4 : Vw (foots [boxE g0 [.pointer A0_0, .int .i64 p0_1, .int .i64 p0_2, .int .i64 p0_3, .slice A0_4 p0_4.length c0_4, .slice A0_5 p0_5.length c0_5, .int .u8 p0_6, .slice A0_7 p0_7.length c0_7, .slice A0_8 p0_8.length c0_8] 84]) .u8 w0 A0_4 c0_4 p0_4) (_hv0_5 : Vw (foots [boxE g0 [.pointer A0_0, .int .i64 p0_1, .int .i64 p0_2, .int .i64 p0_3, .slice A0_4 p0_4.length c0_4, .slice A0_5 p0_5.length c0_5, .int .u8 p0_6, .slice A0_7 p0_7.length c0_7, .slice A0_8 p0_8.length c0_8] 84]) .i64 w0 A0_5 c0_5 p0_5) (_hv0_7 : Vw (foots [boxE g0 [.pointer A0_0, .int .i64 p0_1, .int .i64 p0_2, .int .i64 p0_3, .slice A0_4 p0_4.length c0_4, .slice A0_5 p0_5.length c0_5, .int .u8 p0_6, .slice A0_7 p0_7.length c0_7, .slice A0_8 p0_8.length c0_8] 84]) .u8 w0 A0_7 c0_7 p0_7) (_hv0_8 : Vw (foots [boxE g0 [.pointer A0_0, .int .i64 p0_1, .int .i64 p0_2, .int .i64 p0_3, .slice A0_4 p0_4.length c0_4, .slice A0_5 p0_5.length c0_5, .int .u8 p0_6, .slice A0_7 p0_7.length c0_7, .slice A0_8 p0_8.length c0_8] 84]) .u8 w0 A0_8 c0_8 p0_8) (hl : St (foots [boxE g0 [.pointer A0_0, .int .i64 p0_1, .int .i64 p0_2, .int .i64 p0_3, .slice A0_4 p0_4.length c0_4, .slice A0_5 p0_5.length c0_5, .int .u8 p0_6, .slice A0_7 p0_7.length c0_7, .slice A0_8 p0_8.length c0_8] 84]) w0 w0 [boxE g0 [.pointer A0_0, .int .i64 p0_1, .int .i64 p0_2, .int .i64 p0_3, .slice A0_4 p0_4.length c0_4, .slice A0_5 p0_5.length c0_5, .int .u8 p0_6, .slice A0_7 p0_7.length c0_7, .slice A0_8 p0_8.length c0_8] 84]) :
  Calls Try.prog 73 #[.pointer (some ⟨g0, 0, none⟩)] w0 fun e w => ∃ v, e = .returned v ∧ pEndI_R p0_0 p0_1 p0_2 p0_3 p0_4 p0_5 p0_6 p0_7 p0_8 g0 A0_0 ft0_0 A0_4 c0_4 A0_5 c0_5 A0_7 c0_7 A0_8 c0_8 r w0 v w := by
 have hS0 := (hl).pool0
 unfold pEndI at hF
 refine calls_of Try.func73 rfl ⟨((.pointer (some ⟨g0, 0, none⟩)) :: un 58 ([])).toArray, []⟩ (by kernel_rfl) ?_
 refine gx_block ?_
 refine gx_seq (fun K1 hK2 => ?_)
 refine gx_region ?_
 refine gx_k (.pointer (some ⟨g0, 0, none⟩)) w0 (gx_k (.pointer (some ⟨g0, 0, none⟩)) w0 (gx_k (.pointer (some ⟨g0, 2, none⟩)) w0 ?_))
 refine gx_v (.int .i64 p0_2) w0 (run_load1 rfl (by kernel_rfl) (fun _ => by kernel_rfl) (hS0.box 0 rfl 2 rfl)) ?_
 rcases if_in hF with ⟨h3, hF⟩ | ⟨h3, hF⟩
 ·refine gx_v (.bool true) w0 (run_boolE (decide_eq_true h3) (by kernel_rfl)) ?_
  refine gx_k (.bool true) w0 ?_
  refine gx_nil ?_
  refine gx_thenN ?_
  refine hK2 _ _ ?_
  refine gx_yes (by kernel_rfl) ?_
  refine gx_region ?_
  refine gx_k (.pointer (some ⟨g0, 0, none⟩)) w0 (gx_k (.pointer (some ⟨g0, 0, none⟩)) w0 (gx_k (.pointer (some ⟨g0, 2, none⟩)) w0 ?_))
  refine gx_v (.int .i64 p0_2) w0 (run_load1 rfl (by kernel_rfl) (fun _ => by kernel_rfl) (hS0.box 0 rfl 2 rfl)) ?_
  refine gx_k (.int .i64 (IntKind.i64.wrap (p0_2 - 1))) w0 (gx_k (.pointer (some ⟨g0, 0, none⟩)) w0 (gx_k (.pointer (some ⟨g0, 2, none⟩)) w0 ?_))
  refine gx_s (st_store (j := 2) (v := (.int .i64 (IntKind.i64.wrap (p0_2 - 1)))) rfl (by kernel_rfl) (by kernel_rfl) rfl (fun _ => by kernel_rfl) hS0 0 rfl (by show 2 < 9; decide)) ?_
  rintro w4 hS5
  have hS5 : St _ _ w4 [boxE g0 [.pointer A0_0, .int .i64 p0_1, .int .i64 (IntKind.i64.wrap (p0_2 - 1)), .int .i64 p0_3, .slice A0_4 p0_4.length c0_4, .slice A0_5 p0_5.length c0_5, .int .u8 p0_6, .slice A0_7 p0_7.length c0_7, .slice A0_8 p0_8.length c0_8] 84, poolE ([]) w0] := hS5
  refine gx_nil ?_
  refine gx_blkN ?_
  have hS6 : St _ _ w4 [boxE g0 [.pointer A0_0, .int .i64 p0_1, .int .i64 (IntKind.i64.wrap (p0_2 - 1)), .int .i64 p0_3, .slice A0_4 p0_4.length c0_4, .slice A0_5 p0_5.length c0_5, .int .u8 p0_6, .slice A0_7 p0_7.length c0_7, .slice A0_8 p0_8.length c0_8] 84, poolE ([]) w4] := hS5.renew 1 rfl
  obtain rfl := Option.some.inj hF
  exact gx_finN (.tuple #[]) (by kernel_rfl) (by kernel_rfl) ⟨_, rfl, A0_0, ([]), rfl, hS6, (hS5.nowM 1 rfl (Inn.of ho0_0) (Inn.take (Inn.of ho0_0) ([]) (fun k hk => by simp [hk]) hv0_0))⟩
 ·refine gx_v (.bool false) w0 (run_boolE (decide_eq_false h3) (by kernel_rfl)) ?_
  refine gx_k (.bool false) w0 ?_
  refine gx_nil ?_
  refine gx_thenN ?_
  refine hK2 _ _ ?_
  refine gx_no (by kernel_rfl) ?_
  refine gx_seq (fun K7 hK8 => ?_)
  refine gx_region ?_
  refine gx_k (.pointer (some ⟨g0, 0, none⟩)) w0 (gx_k (.pointer (some ⟨g0, 0, none⟩)) w0 (gx_k (.pointer (some ⟨g0, 1, none⟩)) w0 ?_))
  refine gx_v (.int .i64 p0_1) w0 (run_load1 rfl (by kernel_rfl) (fun _ => by kernel_rfl) (hS0.box 0 rfl 1 rfl)) ?_
  rcases if_in hF with ⟨h9, hF⟩ | ⟨h9, hF⟩
  ·refine gx_v (.bool true) w0 (run_boolE (decide_eq_true h9) (by kernel_rfl)) ?_
   refine gx_k (.bool true) w0 ?_
   refine gx_nil ?_
   refine gx_thenN ?_
   refine hK8 _ _ ?_
   refine gx_yes (by kernel_rfl) ?_
   obtain ⟨c19, hE20, hO21⟩ := bind_in hF
   refine gx_cut (fun a w => ∃ (l18 : List (Int × Int × Bool)) (ft13 : List Nat) (W14 : World) (A16 : Option Addr), selfA (fun u12 => ⟨((.pointer (some ⟨g0, 0, none⟩)) :: undef :: (.bool false) :: (.pointer (some ⟨g0, 0, none⟩)) :: (.pointer (some ⟨g0, 0, none⟩)) :: (.pointer (some ⟨g0, 2, none⟩)) :: (.int .i64 p0_2) :: (.bool false) :: un 7 ((.bool true) :: (.pointer (some ⟨g0, 0, none⟩)) :: (.pointer (some ⟨g0, 0, none⟩)) :: (.pointer (some ⟨g0, 1, none⟩)) :: (.int .i64 p0_1) :: (.bool true) :: dd u12 21 18 (un 20 ([])))).toArray, []⟩) a ∧ l18 = c19 ∧ St (foots [boxE g0 [.pointer A0_0, .int .i64 p0_1, .int .i64 p0_2, .int .i64 p0_3, .slice A0_4 p0_4.length c0_4, .slice A0_5 p0_5.length c0_5, .int .u8 p0_6, .slice A0_7 p0_7.length c0_7, .slice A0_8 p0_8.length c0_8] 84]) w0 w [poolE ft13 W14, boxE g0 [.pointer A16, .int .i64 p0_1, .int .i64 p0_2, .int .i64 p0_3, .slice A0_4 p0_4.length c0_4, .slice A0_5 p0_5.length c0_5, .int .u8 p0_6, .slice A0_7 p0_7.length c0_7, .slice A0_8 p0_8.length c0_8] 84] ∧ Turn (foots [boxE g0 [.pointer A0_0, .int .i64 p0_1, .int .i64 p0_2, .int .i64 p0_3, .slice A0_4 p0_4.length c0_4, .slice A0_5 p0_5.length c0_5, .int .u8 p0_6, .slice A0_7 p0_7.length c0_7, .slice A0_8 p0_8.length c0_8] 84]) w0 w0 ([]) W14 ft13 ∧ (fCh 100 entembedentry A16 l18).rd W14 (ft13 ++ (ft0_0))) ?_ ?_
   ·refine gx_block ?_
    refine gx_loop (fun k a w => ∃ (l30 : List (Int × Int × Bool)) (ft25 : List Nat) (W26 : World) (A28 : Option Addr), selfA (fun u24 => ⟨((.pointer (some ⟨g0, 0, none⟩)) :: undef :: (.bool false) :: (.pointer (some ⟨g0, 0, none⟩)) :: (.pointer (some ⟨g0, 0, none⟩)) :: (.pointer (some ⟨g0, 2, none⟩)) :: (.int .i64 p0_2) :: (.bool false) :: un 7 ((.bool true) :: (.pointer (some ⟨g0, 0, none⟩)) :: (.pointer (some ⟨g0, 0, none⟩)) :: (.pointer (some ⟨g0, 1, none⟩)) :: (.int .i64 p0_1) :: (.bool true) :: dd u24 21 18 (un 20 ([])))).toArray, []⟩) a ∧ pEndI_L1 N k l30 = some c19 ∧ St (foots [boxE g0 [.pointer A0_0, .int .i64 p0_1, .int .i64 p0_2, .int .i64 p0_3, .slice A0_4 p0_4.length c0_4, .slice A0_5 p0_5.length c0_5, .int .u8 p0_6, .slice A0_7 p0_7.length c0_7, .slice A0_8 p0_8.length c0_8] 84]) w0 w [poolE ft25 W26, boxE g0 [.pointer A28, .int .i64 p0_1, .int .i64 p0_2, .int .i64 p0_3, .slice A0_4 p0_4.length c0_4, .slice A0_5 p0_5.length c0_5, .int .u8 p0_6, .slice A0_7 p0_7.length c0_7, .slice A0_8 p0_8.length c0_8] 84] ∧ Turn (foots [boxE g0 [.pointer A0_0, .int .i64 p0_1, .int .i64 p0_2, .int .i64 p0_3, .slice A0_4 p0_4.length c0_4, .slice A0_5 p0_5.length c0_5, .int .u8 p0_6, .slice A0_7 p0_7.length c0_7, .slice A0_8 p0_8.length c0_8] 84]) w0 w0 ([]) W26 ft25 ∧ (fCh 100 entembedentry A28 l30).rd W26 (ft25 ++ (ft0_0))) N ?_ ?_
    ·exact ⟨p0_0, ([]), w0, A0_0, selfA_i (by kernel_rfl), hE20, (hS0.pick [1, 0] rfl rfl), (Turn.refl _ _ _ _), (Inn.take (Inn.of ho0_0) ([]) (fun k hk => by simp [hk]) hv0_0)⟩
    ·rintro k31 _ w22 ⟨l30, ft25, W26, A28, hq79, hL32, hS23, hT27, hf29⟩
     obtain ⟨u24, rfl⟩ := selfA_u hq79
     cases k31 with
     | zero => cases hL32
     | succ k31 =>
      rw [pEndI_L1] at hL32
      refine gx_seq (fun K33 hK34 => ?_)
      refine gx_seq (fun K35 hK36 => ?_)
      refine gx_region ?_
      refine gx_k (.pointer (some ⟨g0, 0, none⟩)) w22 (gx_k (.pointer (some ⟨g0, 0, none⟩)) w22 (gx_k (.pointer (some ⟨g0, 0, none⟩)) w22 ?_))
      refine gx_v (.pointer A28) w22 (run_load1 rfl (by kernel_rfl) (fun _ => by kernel_rfl) (hS23.box 1 rfl 0 rfl)) ?_
      obtain ⟨⟨⟨x38, x39, b40⟩, r37⟩, h41, hL32⟩ := bind_in hL32
      try dsimp only at hL32
      obtain ⟨g42, A43, e44, hA45, hb46, h47, hf48⟩ := ch_open hf29 h41
      obtain ⟨e49, e50, rfl, h51, h52⟩ := h47
      obtain rfl := h51
      obtain ⟨e53, e54, rfl, h55, h56⟩ := h52
      obtain rfl := h55
      obtain rfl := h56
      have hb46 : (fBlk 100 g42 [.pointer A43, .int .u8 x38, .int .u8 x39, .bool b40]).rd W26 (ft25 ++ (ft0_0)) := hb46
      refine gx_v (.pointer (some ⟨g42, 0, none⟩)) w22 (run_nilck rfl (by kernel_rfl) hA45) ?_
      refine gx_k (.pointer (some ⟨g42, 3, none⟩)) w22 ?_
      refine gx_v (.bool b40) w22 (run_blk (off := 3) rfl (by kernel_rfl) (fun _ => by kernel_rfl) (hS23.nowM 0 rfl (hT27.inn (Inn.of ho0_0)) hb46) rfl) ?_
      cases b40 with
      | true =>
       try dsimp only at hL32
       refine gx_k (.bool false) w22 ?_
       refine gx_nil ?_
       refine gx_thenN ?_
       refine hK36 _ _ ?_
       refine gx_no (by kernel_rfl) ?_
       refine gx_exit ?_
       refine gx_thenE ?_
       refine gx_thenE ?_
       refine gx_blkE ?_
       refine gx_thenN ?_
       exact ⟨l30, ft25, W26, A28, selfA_i (by kernel_rfl), (Option.some.inj hL32), hS23, hT27, hf29⟩
      | false =>
       try dsimp only at hL32
       refine gx_k (.bool true) w22 ?_
       refine gx_nil ?_
       refine gx_thenN ?_
       refine hK36 _ _ ?_
       refine gx_yes (by kernel_rfl) ?_
       refine gx_pass ?_
       refine gx_thenN ?_
       refine hK34 _ _ ?_
       refine gx_block ?_
       refine gx_region ?_
       refine gx_k (.pointer (some ⟨g0, 0, none⟩)) w22 (gx_k (.pointer (some ⟨g0, 0, none⟩)) w22 (gx_k (.pointer (some ⟨g0, 0, none⟩)) w22 (gx_k (.pointer (some ⟨g0, 0, none⟩)) w22 ?_)))
       refine gx_v (.pointer A28) w22 (run_load1 rfl (by kernel_rfl) (fun _ => by kernel_rfl) (hS23.box 1 rfl 0 rfl)) ?_
       obtain ⟨⟨⟨x58, x59, b60⟩, r57⟩, h61, hL32⟩ := bind_in hL32
       try dsimp only at hL32
       obtain ⟨g62, A63, e64, hA65, hb66, h67, hf68⟩ := ch_open hf29 h61
       obtain ⟨e69, e70, rfl, h71, h72⟩ := h67
       obtain rfl := h71
       obtain ⟨e73, e74, rfl, h75, h76⟩ := h72
       obtain rfl := h75
       obtain rfl := h76
       have hb66 : (fBlk 100 g62 [.pointer A63, .int .u8 x58, .int .u8 x59, .bool b60]).rd W26 (ft25 ++ (ft0_0)) := hb66
       refine gx_v (.pointer (some ⟨g62, 0, none⟩)) w22 (run_nilck rfl (by kernel_rfl) hA65) ?_
       refine gx_k (.pointer (some ⟨g62, 0, none⟩)) w22 ?_
       refine gx_v (.pointer A63) w22 (run_blk (off := 0) rfl (by kernel_rfl) (fun _ => by kernel_rfl) (hS23.nowM 0 rfl (hT27.inn (Inn.of ho0_0)) hb66) rfl) ?_
       refine gx_k (.pointer (some ⟨g0, 0, none⟩)) w22 (gx_k (.pointer (some ⟨g0, 0, none⟩)) w22 ?_)
       refine gx_s (st_store (j := 0) (v := (.pointer A63)) rfl (by kernel_rfl) (by kernel_rfl) rfl (fun _ => by kernel_rfl) hS23 1 rfl (by show 0 < 9; decide)) ?_
       rintro w77 hS78
       have hS78 : St _ _ w77 [poolE ft25 W26, boxE g0 [.pointer A63, .int .i64 p0_1, .int .i64 p0_2, .int .i64 p0_3, .slice A0_4 p0_4.length c0_4, .slice A0_5 p0_5.length c0_5, .int .u8 p0_6, .slice A0_7 p0_7.length c0_7, .slice A0_8 p0_8.length c0_8] 84] := hS78
       refine gx_nil ?_
       refine gx_blkN ?_
       refine gx_thenN ?_
       exact ⟨k31, Nat.lt_succ_self k31, r57, ft25, W26, A63, selfA_i (by kernel_rfl), hL32, hS78, hT27, hf68⟩
   ·rintro _ w10 ⟨l18, ft13, W14, A16, hq111, rfl, hS11, hT15, hf17⟩
    obtain ⟨u12, rfl⟩ := selfA_u hq111
    try dsimp only at hO21
    refine gx_seq (fun K80 hK81 => ?_)
    refine gx_region ?_
    refine gx_k (.pointer (some ⟨g0, 0, none⟩)) w10 (gx_k (.pointer (some ⟨g0, 0, none⟩)) w10 (gx_k (.pointer (some ⟨g0, 0, none⟩)) w10 (gx_k (.pointer (some ⟨g0, 0, none⟩)) w10 ?_)))
    refine gx_v (.pointer A16) w10 (run_load1 rfl (by kernel_rfl) (fun _ => by kernel_rfl) (hS11.box 1 rfl 0 rfl)) ?_
    obtain ⟨⟨⟨x83, x84, b85⟩, r82⟩, h86, hO21⟩ := bind_in hO21
    try dsimp only at hO21
    obtain ⟨g87, A88, e89, hA90, hb91, h92, hf93⟩ := ch_open hf17 h86
    obtain ⟨e94, e95, rfl, h96, h97⟩ := h92
    obtain rfl := h96
    obtain ⟨e98, e99, rfl, h100, h101⟩ := h97
    obtain rfl := h100
    obtain rfl := h101
    have hb91 : (fBlk 100 g87 [.pointer A88, .int .u8 x83, .int .u8 x84, .bool b85]).rd W14 (ft13 ++ (ft0_0)) := hb91
    refine gx_v (.pointer (some ⟨g87, 0, none⟩)) w10 (run_nilck rfl (by kernel_rfl) hA90) ?_
    refine gx_k (.pointer (some ⟨g87, 0, none⟩)) w10 ?_
    refine gx_v (.pointer A88) w10 (run_blk (off := 0) rfl (by kernel_rfl) (fun _ => by kernel_rfl) (hS11.nowM 0 rfl (hT15.inn (Inn.of ho0_0)) hb91) rfl) ?_
    refine gx_k (.pointer (some ⟨g0, 0, none⟩)) w10 (gx_k (.pointer (some ⟨g0, 0, none⟩)) w10 ?_)
    refine gx_s (st_store (j := 0) (v := (.pointer A88)) rfl (by kernel_rfl) (by kernel_rfl) rfl (fun _ => by kernel_rfl) hS11 1 rfl (by show 0 < 9; decide)) ?_
    rintro w102 hS103
    have hS103 : St _ _ w102 [poolE ft13 W14, boxE g0 [.pointer A88, .int .i64 p0_1, .int .i64 p0_2, .int .i64 p0_3, .slice A0_4 p0_4.length c0_4, .slice A0_5 p0_5.length c0_5, .int .u8 p0_6, .slice A0_7 p0_7.length c0_7, .slice A0_8 p0_8.length c0_8] 84] := hS103
    refine gx_nil ?_
    refine gx_thenN ?_
    refine hK81 _ _ ?_
    refine gx_seq (fun K104 hK105 => ?_)
    refine gx_region ?_
    refine gx_k (.pointer (some ⟨g0, 0, none⟩)) w102 (gx_k (.pointer (some ⟨g0, 0, none⟩)) w102 (gx_k (.pointer (some ⟨g0, 3, none⟩)) w102 ?_))
    refine gx_s (st_store (j := 3) (v := (.int .i64 0)) rfl (by kernel_rfl) (by kernel_rfl) rfl (fun _ => by kernel_rfl) hS103 1 rfl (by show 3 < 9; decide)) ?_
    rintro w106 hS107
    have hS107 : St _ _ w106 [poolE ft13 W14, boxE g0 [.pointer A88, .int .i64 p0_1, .int .i64 p0_2, .int .i64 0, .slice A0_4 p0_4.length c0_4, .slice A0_5 p0_5.length c0_5, .int .u8 p0_6, .slice A0_7 p0_7.length c0_7, .slice A0_8 p0_8.length c0_8] 84] := hS107
    refine gx_nil ?_
    refine gx_thenN ?_
    refine hK105 _ _ ?_
    refine gx_region ?_
    refine gx_k (.pointer (some ⟨g0, 0, none⟩)) w106 (gx_k (.pointer (some ⟨g0, 0, none⟩)) w106 (gx_k (.pointer (some ⟨g0, 1, none⟩)) w106 ?_))
    refine gx_v (.int .i64 p0_1) w106 (run_load1 rfl (by kernel_rfl) (fun _ => by kernel_rfl) (hS107.box 1 rfl 1 rfl)) ?_
    refine gx_k (.int .i64 (IntKind.i64.wrap (p0_1 - 1))) w106 (gx_k (.pointer (some ⟨g0, 0, none⟩)) w106 (gx_k (.pointer (some ⟨g0, 1, none⟩)) w106 ?_))
    refine gx_s (st_store (j := 1) (v := (.int .i64 (IntKind.i64.wrap (p0_1 - 1)))) rfl (by kernel_rfl) (by kernel_rfl) rfl (fun _ => by kernel_rfl) hS107 1 rfl (by show 1 < 9; decide)) ?_
    rintro w108 hS109
    have hS109 : St _ _ w108 [poolE ft13 W14, boxE g0 [.pointer A88, .int .i64 (IntKind.i64.wrap (p0_1 - 1)), .int .i64 p0_2, .int .i64 0, .slice A0_4 p0_4.length c0_4, .slice A0_5 p0_5.length c0_5, .int .u8 p0_6, .slice A0_7 p0_7.length c0_7, .slice A0_8 p0_8.length c0_8] 84] := hS109
    refine gx_nil ?_
    refine gx_blkN ?_
    have hS110 : St _ _ w108 [poolE ft13 w108, boxE g0 [.pointer A88, .int .i64 (IntKind.i64.wrap (p0_1 - 1)), .int .i64 p0_2, .int .i64 0, .slice A0_4 p0_4.length c0_4, .slice A0_5 p0_5.length c0_5, .int .u8 p0_6, .slice A0_7 p0_7.length c0_7, .slice A0_8 p0_8.length c0_8] 84] := hS109.renew 0 rfl
    obtain rfl := Option.some.inj hO21
    exact gx_finN (.tuple #[]) (by kernel_rfl) (by kernel_rfl) ⟨_, rfl, A88, ft13, rfl, (hS110.pick [1, 0] rfl rfl), (hS109.nowM 0 rfl (hT15.inn (Inn.of ho0_0)) hf93)⟩
  ·refine gx_v (.bool false) w0 (run_boolE (decide_eq_false h9) (by kernel_rfl)) ?_
   refine gx_k (.bool false) w0 ?_
   refine gx_nil ?_
   refine gx_thenN ?_
   refine hK8 _ _ ?_
   refine gx_no (by kernel_rfl) ?_
   refine gx_pass ?_
   refine gx_blkN ?_
   have hS112 : St _ _ w0 [boxE g0 [.pointer A0_0, .int .i64 p0_1, .int .i64 p0_2, .int .i64 p0_3, .slice A0_4 p0_4.length c0_4, .slice A0_5 p0_5.length c0_5, .int .u8 p0_6, .slice A0_7 p0_7.length c0_7, .slice A0_8 p0_8.length c0_8] 84, poolE ([]) w0] := hS0.renew 1 rfl
   obtain rfl := Option.some.inj hF
   exact gx_finN (.tuple #[]) (by kernel_rfl) (by kernel_rfl) ⟨_, rfl, A0_0, ([]), rfl, hS112, (hS0.nowM 1 rfl (Inn.of ho0_0) (Inn.take (Inn.of ho0_0) ([]) (fun k hk => by simp [hk]) hv0_0))⟩

end Go.Proofs.Ytapfdafmhiilkaa
