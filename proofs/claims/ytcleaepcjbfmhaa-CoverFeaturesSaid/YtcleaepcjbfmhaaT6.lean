/-
  The statements.
-/
import Derived.Test.YtcleaepcjbfmhaaT5
import Derived.Test.YtcleaepcjbfmhaaT1
namespace Go.Proofs.Ytcleaepcjbfmhaa
open Go Go.RowKit

def rPutCls_L2 (N : Nat) (p0 : List Int) (x35 : Int) : Nat → Int → Option (Int)
  | 0, _ => none
  | k66+1, x65 => (if x65 < ((p0.length : Nat) : Int) then ((ix p0 x65).bind fun x75 => ((ix p0 x35).bind fun x77 => (if x75 = x77 then rPutCls_L2 N p0 x35 k66 (IntKind.i64.wrap (x65 + 1)) else some (x65)))) else some (x65))
def rPutCls_L1 (N : Nat) (p0 : List Int) : Nat → List Int → Int → Int → Option (Ctl (List Int × Int) (List Int × Int))
  | 0, _, _, _ => none
  | k36+1, l33, x34, x35 => (if x35 < ((p0.length : Nat) : Int) then ((ix p0 x35).bind fun x47 => (if x47 > 4 then some (Ctl.ret ([], 2)) else ((rPutCls_L2 N p0 x35 N x35 : Option (Int)).bind fun x58 => ((ix p0 x35).bind fun x84 => (if x84 ≠ 0 then ((rTwo N x35).bind fun l93 => ((apx l33 l93).bind fun l97 => ((rTwo N (IntKind.i64.wrap (x58 - 1))).bind fun l110 => ((apx l97 l110).bind fun l114 => ((ix p0 x35).bind fun x123 => ((rTwo N (IntKind.i64.wrap x123)).bind fun l129 => ((apx l114 l129).bind fun l133 => rPutCls_L1 N p0 k36 l133 (IntKind.i64.wrap (x34 + 1)) x58))))))) else rPutCls_L1 N p0 k36 l33 x34 x58))))) else some (Ctl.go (l33, x34)))
def rPutCls (N : Nat) (p0 : List Int) : Option (List Int × Int) :=
  (if ((p0.length : Nat) : Int) > 65535 then some ([], 2) else ((rPutCls_L1 N p0 N ([]) 0 0 : Option (Ctl (List Int × Int) (List Int × Int))).bind fun | Ctl.go (l20, x21) => ((rTwo N x21).bind fun l148 => ((apx ([0, 2]) l148).bind fun l152 => ((apx l152 l20).bind fun l161 => some (l161, 0)))) | Ctl.ret r => some r))

def rPutCls_R (r : List Int × Int) (w0 : World) (v : Value) (w : World) : Prop := ∃ (A0' : Option Addr) (c0' : Nat), v = .tuple #[.slice A0' r.1.length c0', .int .i64 r.2] ∧ St [] w0 w [rowE .u8 5 A0' c0' r.1]

def fWorks (N : Nat) : Option (Bool) :=
  ((bOpen N ([0, 2, 0, 1, 0, 5, 0, 7, 0, 0])).bind fun (l11, b12) => ((cCov N l11 b12 (0 : Int) (9 : Int)).bind fun (l22, x25, _b26) => ((bOpen N ([0, 2, 0, 1, 0, 1, 0, 2, 0, 3])).bind fun (l36, b37) => ((cCls N l36 b37 (0 : Int) (4 : Int)).bind fun (l47, x50, _b51) => ((cPutCls N ([0, 1, 1, 3])).bind fun (l61, x64) => (if x25 = 0 then (if x50 = 0 then (if x64 = 0 then ((kWords N l22 ([5, 6, 7])).bind fun b77 => (match b77 with | true => ((kBytes N l47 ([0, 3, 3, 0])).bind fun b85 => (match b85 with | true => ((kBytes N l61 ([0, 2, 0, 2, 0, 1, 0, 2, 0, 1, 0, 3, 0, 3, 0, 3])).bind fun b93 => some b93) | false => some false)) | false => some false)) else some false) else some false) else some false))))))

def fWorks_R (r : Bool) (w0 : World) (v : Value) (w : World) : Prop := v = .bool r ∧ St [] w0 w []

set_option maxRecDepth 100000 in
set_option maxHeartbeats 4000000 in
theorem fWorks_ok (N : Nat)  (r : Bool) (hF : fWorks N = some r) (w0 : World)  :
    Calls Try.prog 4 #[] w0 fun e w => ∃ v, e = .returned v ∧ fWorks_R r w0 v w := by
  have hS0 := St.start w0
  unfold fWorks at hF
  refine calls_of Try.func4 rfl ⟨(undef :: undef :: undef :: undef :: undef :: undef :: undef :: undef :: undef :: undef :: undef :: undef :: undef :: undef :: undef :: undef :: undef :: undef :: undef :: undef :: undef :: undef :: undef :: undef :: undef :: undef :: undef :: undef :: undef :: undef :: undef :: undef :: undef :: undef :: undef :: undef :: undef :: undef :: undef :: undef :: undef :: undef :: undef :: undef :: undef :: undef :: undef :: undef :: undef :: []).toArray, []⟩ (by kernel_rfl) ?_
  refine gx_seq (fun K1 hK2 => ?_)
  refine gx_region ?_
  refine gx_val (.bool false) w0 (by kernel_rfl) (by kernel_rfl) ?_
  refine gx_nil ?_
  refine gx_thenN ?_
  refine hK2 _ _ ?_
  refine gx_seq (fun K3 hK4 => ?_)
  refine gx_region ?_
  refine gx_R (by kernel_rfl) (st_made .u8 5 [0, 2, 0, 1, 0, 5, 0, 7, 0, 0] hS0 (by show 10 ≤ 1000000000; decide) (by kernel_rfl)) ?_
  rintro _ w5 ⟨rfl, hS6⟩
  have hS6 : St _ _ w5 [rowE .u8 5 (some ⟨w0.heap.size, 0, none⟩) 10 ([0, 2, 0, 1, 0, 5, 0, 7, 0, 0])] := hS6
  obtain ⟨⟨l11, b12⟩, hc8, hF⟩ := bind_in hF
  try dsimp only at hF
  refine gx_call (bOpen_R  (l11, b12) w5) (by kernel_rfl) (by kernel_rfl) (bOpen_ok N ([0, 2, 0, 1, 0, 5, 0, 7, 0, 0]) (some ⟨w0.heap.size, 0, none⟩) 10 _ hc8 w5 (Vw.of (hS6.row 0 rfl).1 (hS6.row 0 rfl).2)) ?_
  rintro _ w9 ⟨g13, g14, A15, c16, rfl, hT17⟩
  have hS10 : St _ _ w9 [rowE .u8 5 (some ⟨w0.heap.size, 0, none⟩) 10 ([0, 2, 0, 1, 0, 5, 0, 7, 0, 0]), boxE g13 [.pointer (some ⟨g14, 0, none⟩), .slice A15 l11.length c16] 56, boxE g14 [.bool b12] 53, rowE .u8 5 A15 c16 l11] := hS6.take _ hT17
  obtain ⟨⟨l22, x25, b26⟩, hc19, hF⟩ := bind_in hF
  try dsimp only at hF
  refine gx_call (cCov_R l11 g13 g14 A15 c16 (l22, x25, b26) w9) (by kernel_rfl) (by kernel_rfl) (cCov_ok N l11 b12 (0 : Int) (9 : Int) g13 g14 A15 c16 _ hc19 w9 (hS10.get 1 rfl) (hS10.get 2 rfl) (hS10.ne 1 2 rfl rfl (by decide)) (hS10.rowv 3 1 2 rfl rfl rfl (by decide) (by decide))) ?_
  rintro _ w20 ⟨A23, c24, rfl, hT27⟩
  have hS21 : St _ _ w20 [rowE .u8 5 (some ⟨w0.heap.size, 0, none⟩) 10 ([0, 2, 0, 1, 0, 5, 0, 7, 0, 0]), boxE g13 [.pointer (some ⟨g14, 0, none⟩), .slice A15 l11.length c16] 56, boxE g14 [.bool b26] 53, rowE .u8 5 A15 c16 l11, rowE .u16 45 A23 c24 l22] := hS10.lend 1 2 rfl rfl _ hT27
  refine gx_val (.tuple #[.slice A23 l22.length c24, .int .i64 x25]) w20 (by kernel_rfl) (by kernel_rfl) ?_
  refine gx_val (.slice A23 l22.length c24) w20 (by kernel_rfl) (by kernel_rfl) ?_
  refine gx_val (.int .i64 x25) w20 (by kernel_rfl) (by kernel_rfl) ?_
  refine gx_val (.slice A23 l22.length c24) w20 (by kernel_rfl) (by kernel_rfl) ?_
  refine gx_val (.int .i64 x25) w20 (by kernel_rfl) (by kernel_rfl) ?_
  refine gx_nil ?_
  refine gx_thenN ?_
  refine hK4 _ _ ?_
  refine gx_seq (fun K28 hK29 => ?_)
  refine gx_region ?_
  refine gx_R (by kernel_rfl) (st_made .u8 5 [0, 2, 0, 1, 0, 1, 0, 2, 0, 3] hS21 (by show 10 ≤ 1000000000; decide) (by kernel_rfl)) ?_
  rintro _ w30 ⟨rfl, hS31⟩
  have hS31 : St _ _ w30 [rowE .u8 5 (some ⟨w0.heap.size, 0, none⟩) 10 ([0, 2, 0, 1, 0, 5, 0, 7, 0, 0]), boxE g13 [.pointer (some ⟨g14, 0, none⟩), .slice A15 l11.length c16] 56, boxE g14 [.bool b26] 53, rowE .u8 5 A15 c16 l11, rowE .u16 45 A23 c24 l22, rowE .u8 5 (some ⟨w20.heap.size, 0, none⟩) 10 ([0, 2, 0, 1, 0, 1, 0, 2, 0, 3])] := hS31
  obtain ⟨⟨l36, b37⟩, hc33, hF⟩ := bind_in hF
  try dsimp only at hF
  refine gx_call (bOpen_R  (l36, b37) w30) (by kernel_rfl) (by kernel_rfl) (bOpen_ok N ([0, 2, 0, 1, 0, 1, 0, 2, 0, 3]) (some ⟨w20.heap.size, 0, none⟩) 10 _ hc33 w30 (Vw.of (hS31.row 5 rfl).1 (hS31.row 5 rfl).2)) ?_
  rintro _ w34 ⟨g38, g39, A40, c41, rfl, hT42⟩
  have hS35 : St _ _ w34 [rowE .u8 5 (some ⟨w0.heap.size, 0, none⟩) 10 ([0, 2, 0, 1, 0, 5, 0, 7, 0, 0]), boxE g13 [.pointer (some ⟨g14, 0, none⟩), .slice A15 l11.length c16] 56, boxE g14 [.bool b26] 53, rowE .u8 5 A15 c16 l11, rowE .u16 45 A23 c24 l22, rowE .u8 5 (some ⟨w20.heap.size, 0, none⟩) 10 ([0, 2, 0, 1, 0, 1, 0, 2, 0, 3]), boxE g38 [.pointer (some ⟨g39, 0, none⟩), .slice A40 l36.length c41] 56, boxE g39 [.bool b37] 53, rowE .u8 5 A40 c41 l36] := hS31.take _ hT42
  obtain ⟨⟨l47, x50, b51⟩, hc44, hF⟩ := bind_in hF
  try dsimp only at hF
  refine gx_call (cCls_R l36 g38 g39 A40 c41 (l47, x50, b51) w34) (by kernel_rfl) (by kernel_rfl) (cCls_ok N l36 b37 (0 : Int) (4 : Int) g38 g39 A40 c41 _ hc44 w34 (hS35.get 6 rfl) (hS35.get 7 rfl) (hS35.ne 6 7 rfl rfl (by decide)) (hS35.rowv 8 6 7 rfl rfl rfl (by decide) (by decide))) ?_
  rintro _ w45 ⟨A48, c49, rfl, hT52⟩
  have hS46 : St _ _ w45 [rowE .u8 5 (some ⟨w0.heap.size, 0, none⟩) 10 ([0, 2, 0, 1, 0, 5, 0, 7, 0, 0]), boxE g13 [.pointer (some ⟨g14, 0, none⟩), .slice A15 l11.length c16] 56, boxE g14 [.bool b26] 53, rowE .u8 5 A15 c16 l11, rowE .u16 45 A23 c24 l22, rowE .u8 5 (some ⟨w20.heap.size, 0, none⟩) 10 ([0, 2, 0, 1, 0, 1, 0, 2, 0, 3]), boxE g38 [.pointer (some ⟨g39, 0, none⟩), .slice A40 l36.length c41] 56, boxE g39 [.bool b51] 53, rowE .u8 5 A40 c41 l36, rowE .u8 5 A48 c49 l47] := hS35.lend 6 7 rfl rfl _ hT52
  refine gx_val (.tuple #[.slice A48 l47.length c49, .int .i64 x50]) w45 (by kernel_rfl) (by kernel_rfl) ?_
  refine gx_val (.slice A48 l47.length c49) w45 (by kernel_rfl) (by kernel_rfl) ?_
  refine gx_val (.int .i64 x50) w45 (by kernel_rfl) (by kernel_rfl) ?_
  refine gx_val (.slice A48 l47.length c49) w45 (by kernel_rfl) (by kernel_rfl) ?_
  refine gx_val (.int .i64 x50) w45 (by kernel_rfl) (by kernel_rfl) ?_
  refine gx_nil ?_
  refine gx_thenN ?_
  refine hK29 _ _ ?_
  refine gx_seq (fun K53 hK54 => ?_)
  refine gx_region ?_
  refine gx_R (by kernel_rfl) (st_made .u8 5 [0, 1, 1, 3] hS46 (by show 4 ≤ 1000000000; decide) (by kernel_rfl)) ?_
  rintro _ w55 ⟨rfl, hS56⟩
  have hS56 : St _ _ w55 [rowE .u8 5 (some ⟨w0.heap.size, 0, none⟩) 10 ([0, 2, 0, 1, 0, 5, 0, 7, 0, 0]), boxE g13 [.pointer (some ⟨g14, 0, none⟩), .slice A15 l11.length c16] 56, boxE g14 [.bool b26] 53, rowE .u8 5 A15 c16 l11, rowE .u16 45 A23 c24 l22, rowE .u8 5 (some ⟨w20.heap.size, 0, none⟩) 10 ([0, 2, 0, 1, 0, 1, 0, 2, 0, 3]), boxE g38 [.pointer (some ⟨g39, 0, none⟩), .slice A40 l36.length c41] 56, boxE g39 [.bool b51] 53, rowE .u8 5 A40 c41 l36, rowE .u8 5 A48 c49 l47, rowE .u8 5 (some ⟨w45.heap.size, 0, none⟩) 4 ([0, 1, 1, 3])] := hS56
  obtain ⟨⟨l61, x64⟩, hc58, hF⟩ := bind_in hF
  try dsimp only at hF
  refine gx_call (cPutCls_R  (l61, x64) w55) (by kernel_rfl) (by kernel_rfl) (cPutCls_ok N ([0, 1, 1, 3]) (some ⟨w45.heap.size, 0, none⟩) 4 _ hc58 w55 (Vw.of (hS56.row 10 rfl).1 (hS56.row 10 rfl).2)) ?_
  rintro _ w59 ⟨A62, c63, rfl, hT65⟩
  have hS60 : St _ _ w59 [rowE .u8 5 (some ⟨w0.heap.size, 0, none⟩) 10 ([0, 2, 0, 1, 0, 5, 0, 7, 0, 0]), boxE g13 [.pointer (some ⟨g14, 0, none⟩), .slice A15 l11.length c16] 56, boxE g14 [.bool b26] 53, rowE .u8 5 A15 c16 l11, rowE .u16 45 A23 c24 l22, rowE .u8 5 (some ⟨w20.heap.size, 0, none⟩) 10 ([0, 2, 0, 1, 0, 1, 0, 2, 0, 3]), boxE g38 [.pointer (some ⟨g39, 0, none⟩), .slice A40 l36.length c41] 56, boxE g39 [.bool b51] 53, rowE .u8 5 A40 c41 l36, rowE .u8 5 A48 c49 l47, rowE .u8 5 (some ⟨w45.heap.size, 0, none⟩) 4 ([0, 1, 1, 3]), rowE .u8 5 A62 c63 l61] := hS56.take _ hT65
  refine gx_val (.tuple #[.slice A62 l61.length c63, .int .i64 x64]) w59 (by kernel_rfl) (by kernel_rfl) ?_
  refine gx_val (.slice A62 l61.length c63) w59 (by kernel_rfl) (by kernel_rfl) ?_
  refine gx_val (.int .i64 x64) w59 (by kernel_rfl) (by kernel_rfl) ?_
  refine gx_val (.slice A62 l61.length c63) w59 (by kernel_rfl) (by kernel_rfl) ?_
  refine gx_val (.int .i64 x64) w59 (by kernel_rfl) (by kernel_rfl) ?_
  refine gx_nil ?_
  refine gx_thenN ?_
  refine hK54 _ _ ?_
  refine gx_seq (fun K66 hK67 => ?_)
  refine gx_region ?_
  refine gx_val (.int .i64 x25) w59 (by kernel_rfl) (by kernel_rfl) ?_
  rcases if_in hF with ⟨h68, hF⟩ | ⟨h68, hF⟩
  · refine gx_val (.bool true) w59 (by kernel_rfl) (run_boolE (decide_eq_true h68) (by kernel_rfl)) ?_
    refine gx_val (.bool true) w59 (by kernel_rfl) (by kernel_rfl) ?_
    refine gx_val (.int .i64 x50) w59 (by kernel_rfl) (by kernel_rfl) ?_
    rcases if_in hF with ⟨h69, hF⟩ | ⟨h69, hF⟩
    · refine gx_val (.bool true) w59 (by kernel_rfl) (run_boolE (decide_eq_true h69) (by kernel_rfl)) ?_
      refine gx_val (.bool true) w59 (by kernel_rfl) (by kernel_rfl) ?_
      refine gx_val (.bool true) w59 (by kernel_rfl) (by kernel_rfl) ?_
      refine gx_val (.int .i64 x64) w59 (by kernel_rfl) (by kernel_rfl) ?_
      rcases if_in hF with ⟨h70, hF⟩ | ⟨h70, hF⟩
      · refine gx_val (.bool true) w59 (by kernel_rfl) (run_boolE (decide_eq_true h70) (by kernel_rfl)) ?_
        refine gx_val (.bool true) w59 (by kernel_rfl) (by kernel_rfl) ?_
        refine gx_val (.bool true) w59 (by kernel_rfl) (by kernel_rfl) ?_
        refine gx_val (.slice A23 l22.length c24) w59 (by kernel_rfl) (by kernel_rfl) ?_
        refine gx_R (by kernel_rfl) (st_made .u16 45 [5, 6, 7] hS60 (by show 3 ≤ 1000000000; decide) (by kernel_rfl)) ?_
        rintro _ w71 ⟨rfl, hS72⟩
        have hS72 : St _ _ w71 [rowE .u8 5 (some ⟨w0.heap.size, 0, none⟩) 10 ([0, 2, 0, 1, 0, 5, 0, 7, 0, 0]), boxE g13 [.pointer (some ⟨g14, 0, none⟩), .slice A15 l11.length c16] 56, boxE g14 [.bool b26] 53, rowE .u8 5 A15 c16 l11, rowE .u16 45 A23 c24 l22, rowE .u8 5 (some ⟨w20.heap.size, 0, none⟩) 10 ([0, 2, 0, 1, 0, 1, 0, 2, 0, 3]), boxE g38 [.pointer (some ⟨g39, 0, none⟩), .slice A40 l36.length c41] 56, boxE g39 [.bool b51] 53, rowE .u8 5 A40 c41 l36, rowE .u8 5 A48 c49 l47, rowE .u8 5 (some ⟨w45.heap.size, 0, none⟩) 4 ([0, 1, 1, 3]), rowE .u8 5 A62 c63 l61, rowE .u16 45 (some ⟨w59.heap.size, 0, none⟩) 3 ([5, 6, 7])] := hS72
        obtain ⟨b77, hc74, hF⟩ := bind_in hF
        try dsimp only at hF
        refine gx_call (kWords_R  b77 w71) (by kernel_rfl) (by kernel_rfl) (kWords_ok N l22 ([5, 6, 7]) A23 c24 (some ⟨w59.heap.size, 0, none⟩) 3 _ hc74 w71 (Vw.of (hS72.row 4 rfl).1 (hS72.row 4 rfl).2) (Vw.of (hS72.row 12 rfl).1 (hS72.row 12 rfl).2)) ?_
        rintro _ w75 ⟨rfl, hT78⟩
        have hS76 : St _ _ w75 [rowE .u8 5 (some ⟨w0.heap.size, 0, none⟩) 10 ([0, 2, 0, 1, 0, 5, 0, 7, 0, 0]), boxE g13 [.pointer (some ⟨g14, 0, none⟩), .slice A15 l11.length c16] 56, boxE g14 [.bool b26] 53, rowE .u8 5 A15 c16 l11, rowE .u16 45 A23 c24 l22, rowE .u8 5 (some ⟨w20.heap.size, 0, none⟩) 10 ([0, 2, 0, 1, 0, 1, 0, 2, 0, 3]), boxE g38 [.pointer (some ⟨g39, 0, none⟩), .slice A40 l36.length c41] 56, boxE g39 [.bool b51] 53, rowE .u8 5 A40 c41 l36, rowE .u8 5 A48 c49 l47, rowE .u8 5 (some ⟨w45.heap.size, 0, none⟩) 4 ([0, 1, 1, 3]), rowE .u8 5 A62 c63 l61, rowE .u16 45 (some ⟨w59.heap.size, 0, none⟩) 3 ([5, 6, 7])] := hS72.take _ hT78
        refine gx_val (.bool b77) w75 (by kernel_rfl) (by kernel_rfl) ?_
        refine gx_val (.bool b77) w75 (by kernel_rfl) (by kernel_rfl) ?_
        cases b77 with
        | true =>
          try dsimp only at hF
          refine gx_val (.slice A48 l47.length c49) w75 (by kernel_rfl) (by kernel_rfl) ?_
          refine gx_R (by kernel_rfl) (st_made .u8 5 [0, 3, 3, 0] hS76 (by show 4 ≤ 1000000000; decide) (by kernel_rfl)) ?_
          rintro _ w79 ⟨rfl, hS80⟩
          have hS80 : St _ _ w79 [rowE .u8 5 (some ⟨w0.heap.size, 0, none⟩) 10 ([0, 2, 0, 1, 0, 5, 0, 7, 0, 0]), boxE g13 [.pointer (some ⟨g14, 0, none⟩), .slice A15 l11.length c16] 56, boxE g14 [.bool b26] 53, rowE .u8 5 A15 c16 l11, rowE .u16 45 A23 c24 l22, rowE .u8 5 (some ⟨w20.heap.size, 0, none⟩) 10 ([0, 2, 0, 1, 0, 1, 0, 2, 0, 3]), boxE g38 [.pointer (some ⟨g39, 0, none⟩), .slice A40 l36.length c41] 56, boxE g39 [.bool b51] 53, rowE .u8 5 A40 c41 l36, rowE .u8 5 A48 c49 l47, rowE .u8 5 (some ⟨w45.heap.size, 0, none⟩) 4 ([0, 1, 1, 3]), rowE .u8 5 A62 c63 l61, rowE .u16 45 (some ⟨w59.heap.size, 0, none⟩) 3 ([5, 6, 7]), rowE .u8 5 (some ⟨w75.heap.size, 0, none⟩) 4 ([0, 3, 3, 0])] := hS80
          obtain ⟨b85, hc82, hF⟩ := bind_in hF
          try dsimp only at hF
          refine gx_call (kBytes_R  b85 w79) (by kernel_rfl) (by kernel_rfl) (kBytes_ok N l47 ([0, 3, 3, 0]) A48 c49 (some ⟨w75.heap.size, 0, none⟩) 4 _ hc82 w79 (Vw.of (hS80.row 9 rfl).1 (hS80.row 9 rfl).2) (Vw.of (hS80.row 13 rfl).1 (hS80.row 13 rfl).2)) ?_
          rintro _ w83 ⟨rfl, hT86⟩
          have hS84 : St _ _ w83 [rowE .u8 5 (some ⟨w0.heap.size, 0, none⟩) 10 ([0, 2, 0, 1, 0, 5, 0, 7, 0, 0]), boxE g13 [.pointer (some ⟨g14, 0, none⟩), .slice A15 l11.length c16] 56, boxE g14 [.bool b26] 53, rowE .u8 5 A15 c16 l11, rowE .u16 45 A23 c24 l22, rowE .u8 5 (some ⟨w20.heap.size, 0, none⟩) 10 ([0, 2, 0, 1, 0, 1, 0, 2, 0, 3]), boxE g38 [.pointer (some ⟨g39, 0, none⟩), .slice A40 l36.length c41] 56, boxE g39 [.bool b51] 53, rowE .u8 5 A40 c41 l36, rowE .u8 5 A48 c49 l47, rowE .u8 5 (some ⟨w45.heap.size, 0, none⟩) 4 ([0, 1, 1, 3]), rowE .u8 5 A62 c63 l61, rowE .u16 45 (some ⟨w59.heap.size, 0, none⟩) 3 ([5, 6, 7]), rowE .u8 5 (some ⟨w75.heap.size, 0, none⟩) 4 ([0, 3, 3, 0])] := hS80.take _ hT86
          refine gx_val (.bool b85) w83 (by kernel_rfl) (by kernel_rfl) ?_
          refine gx_val (.bool b85) w83 (by kernel_rfl) (by kernel_rfl) ?_
          cases b85 with
          | true =>
            try dsimp only at hF
            refine gx_val (.slice A62 l61.length c63) w83 (by kernel_rfl) (by kernel_rfl) ?_
            refine gx_R (by kernel_rfl) (st_made .u8 5 [0, 2, 0, 2, 0, 1, 0, 2, 0, 1, 0, 3, 0, 3, 0, 3] hS84 (by show 16 ≤ 1000000000; decide) (by kernel_rfl)) ?_
            rintro _ w87 ⟨rfl, hS88⟩
            have hS88 : St _ _ w87 [rowE .u8 5 (some ⟨w0.heap.size, 0, none⟩) 10 ([0, 2, 0, 1, 0, 5, 0, 7, 0, 0]), boxE g13 [.pointer (some ⟨g14, 0, none⟩), .slice A15 l11.length c16] 56, boxE g14 [.bool b26] 53, rowE .u8 5 A15 c16 l11, rowE .u16 45 A23 c24 l22, rowE .u8 5 (some ⟨w20.heap.size, 0, none⟩) 10 ([0, 2, 0, 1, 0, 1, 0, 2, 0, 3]), boxE g38 [.pointer (some ⟨g39, 0, none⟩), .slice A40 l36.length c41] 56, boxE g39 [.bool b51] 53, rowE .u8 5 A40 c41 l36, rowE .u8 5 A48 c49 l47, rowE .u8 5 (some ⟨w45.heap.size, 0, none⟩) 4 ([0, 1, 1, 3]), rowE .u8 5 A62 c63 l61, rowE .u16 45 (some ⟨w59.heap.size, 0, none⟩) 3 ([5, 6, 7]), rowE .u8 5 (some ⟨w75.heap.size, 0, none⟩) 4 ([0, 3, 3, 0]), rowE .u8 5 (some ⟨w83.heap.size, 0, none⟩) 16 ([0, 2, 0, 2, 0, 1, 0, 2, 0, 1, 0, 3, 0, 3, 0, 3])] := hS88
            obtain ⟨b93, hc90, hF⟩ := bind_in hF
            try dsimp only at hF
            refine gx_call (kBytes_R  b93 w87) (by kernel_rfl) (by kernel_rfl) (kBytes_ok N l61 ([0, 2, 0, 2, 0, 1, 0, 2, 0, 1, 0, 3, 0, 3, 0, 3]) A62 c63 (some ⟨w83.heap.size, 0, none⟩) 16 _ hc90 w87 (Vw.of (hS88.row 11 rfl).1 (hS88.row 11 rfl).2) (Vw.of (hS88.row 14 rfl).1 (hS88.row 14 rfl).2)) ?_
            rintro _ w91 ⟨rfl, hT94⟩
            have hS92 : St _ _ w91 [rowE .u8 5 (some ⟨w0.heap.size, 0, none⟩) 10 ([0, 2, 0, 1, 0, 5, 0, 7, 0, 0]), boxE g13 [.pointer (some ⟨g14, 0, none⟩), .slice A15 l11.length c16] 56, boxE g14 [.bool b26] 53, rowE .u8 5 A15 c16 l11, rowE .u16 45 A23 c24 l22, rowE .u8 5 (some ⟨w20.heap.size, 0, none⟩) 10 ([0, 2, 0, 1, 0, 1, 0, 2, 0, 3]), boxE g38 [.pointer (some ⟨g39, 0, none⟩), .slice A40 l36.length c41] 56, boxE g39 [.bool b51] 53, rowE .u8 5 A40 c41 l36, rowE .u8 5 A48 c49 l47, rowE .u8 5 (some ⟨w45.heap.size, 0, none⟩) 4 ([0, 1, 1, 3]), rowE .u8 5 A62 c63 l61, rowE .u16 45 (some ⟨w59.heap.size, 0, none⟩) 3 ([5, 6, 7]), rowE .u8 5 (some ⟨w75.heap.size, 0, none⟩) 4 ([0, 3, 3, 0]), rowE .u8 5 (some ⟨w83.heap.size, 0, none⟩) 16 ([0, 2, 0, 2, 0, 1, 0, 2, 0, 1, 0, 3, 0, 3, 0, 3])] := hS88.take _ hT94
            refine gx_val (.bool b93) w91 (by kernel_rfl) (by kernel_rfl) ?_
            refine gx_val (.bool b93) w91 (by kernel_rfl) (by kernel_rfl) ?_
            refine gx_nil ?_
            refine gx_thenN ?_
            refine hK67 _ _ ?_
            refine gx_ret ?_
            obtain rfl := Option.some.inj hF
            exact gx_fin (.bool b93) (by kernel_rfl) (by kernel_rfl) ⟨_, rfl, rfl, (hS92.pick [] rfl rfl)⟩
          | false =>
            try dsimp only at hF
            refine gx_off (by kernel_rfl) ?_
            refine gx_off (by kernel_rfl) ?_
            refine gx_off (by kernel_rfl) ?_
            refine gx_val (.bool false) w83 (by kernel_rfl) (by kernel_rfl) ?_
            refine gx_val (.bool false) w83 (by kernel_rfl) (by kernel_rfl) ?_
            refine gx_nil ?_
            refine gx_thenN ?_
            refine hK67 _ _ ?_
            refine gx_ret ?_
            obtain rfl := Option.some.inj hF
            exact gx_fin (.bool false) (by kernel_rfl) (by kernel_rfl) ⟨_, rfl, rfl, (hS84.pick [] rfl rfl)⟩
        | false =>
          try dsimp only at hF
          refine gx_off (by kernel_rfl) ?_
          refine gx_off (by kernel_rfl) ?_
          refine gx_off (by kernel_rfl) ?_
          refine gx_val (.bool false) w75 (by kernel_rfl) (by kernel_rfl) ?_
          refine gx_val (.bool false) w75 (by kernel_rfl) (by kernel_rfl) ?_
          refine gx_off (by kernel_rfl) ?_
          refine gx_off (by kernel_rfl) ?_
          refine gx_off (by kernel_rfl) ?_
          refine gx_val (.bool false) w75 (by kernel_rfl) (by kernel_rfl) ?_
          refine gx_val (.bool false) w75 (by kernel_rfl) (by kernel_rfl) ?_
          refine gx_nil ?_
          refine gx_thenN ?_
          refine hK67 _ _ ?_
          refine gx_ret ?_
          obtain rfl := Option.some.inj hF
          exact gx_fin (.bool false) (by kernel_rfl) (by kernel_rfl) ⟨_, rfl, rfl, (hS76.pick [] rfl rfl)⟩
      · refine gx_val (.bool false) w59 (by kernel_rfl) (run_boolE (decide_eq_false h70) (by kernel_rfl)) ?_
        refine gx_val (.bool false) w59 (by kernel_rfl) (by kernel_rfl) ?_
        refine gx_val (.bool false) w59 (by kernel_rfl) (by kernel_rfl) ?_
        refine gx_off (by kernel_rfl) ?_
        refine gx_off (by kernel_rfl) ?_
        refine gx_off (by kernel_rfl) ?_
        refine gx_val (.bool false) w59 (by kernel_rfl) (by kernel_rfl) ?_
        refine gx_val (.bool false) w59 (by kernel_rfl) (by kernel_rfl) ?_
        refine gx_off (by kernel_rfl) ?_
        refine gx_off (by kernel_rfl) ?_
        refine gx_off (by kernel_rfl) ?_
        refine gx_val (.bool false) w59 (by kernel_rfl) (by kernel_rfl) ?_
        refine gx_val (.bool false) w59 (by kernel_rfl) (by kernel_rfl) ?_
        refine gx_off (by kernel_rfl) ?_
        refine gx_off (by kernel_rfl) ?_
        refine gx_off (by kernel_rfl) ?_
        refine gx_val (.bool false) w59 (by kernel_rfl) (by kernel_rfl) ?_
        refine gx_val (.bool false) w59 (by kernel_rfl) (by kernel_rfl) ?_
        refine gx_nil ?_
        refine gx_thenN ?_
        refine hK67 _ _ ?_
        refine gx_ret ?_
        obtain rfl := Option.some.inj hF
        exact gx_fin (.bool false) (by kernel_rfl) (by kernel_rfl) ⟨_, rfl, rfl, (hS60.pick [] rfl rfl)⟩
    · refine gx_val (.bool false) w59 (by kernel_rfl) (run_boolE (decide_eq_false h69) (by kernel_rfl)) ?_
      refine gx_val (.bool false) w59 (by kernel_rfl) (by kernel_rfl) ?_
      refine gx_val (.bool false) w59 (by kernel_rfl) (by kernel_rfl) ?_
      refine gx_off (by kernel_rfl) ?_
      refine gx_off (by kernel_rfl) ?_
      refine gx_val (.bool false) w59 (by kernel_rfl) (by kernel_rfl) ?_
      refine gx_val (.bool false) w59 (by kernel_rfl) (by kernel_rfl) ?_
      refine gx_off (by kernel_rfl) ?_
      refine gx_off (by kernel_rfl) ?_
      refine gx_off (by kernel_rfl) ?_
      refine gx_val (.bool false) w59 (by kernel_rfl) (by kernel_rfl) ?_
      refine gx_val (.bool false) w59 (by kernel_rfl) (by kernel_rfl) ?_
      refine gx_off (by kernel_rfl) ?_
      refine gx_off (by kernel_rfl) ?_
      refine gx_off (by kernel_rfl) ?_
      refine gx_val (.bool false) w59 (by kernel_rfl) (by kernel_rfl) ?_
      refine gx_val (.bool false) w59 (by kernel_rfl) (by kernel_rfl) ?_
      refine gx_off (by kernel_rfl) ?_
      refine gx_off (by kernel_rfl) ?_
      refine gx_off (by kernel_rfl) ?_
      refine gx_val (.bool false) w59 (by kernel_rfl) (by kernel_rfl) ?_
      refine gx_val (.bool false) w59 (by kernel_rfl) (by kernel_rfl) ?_
      refine gx_nil ?_
      refine gx_thenN ?_
      refine hK67 _ _ ?_
      refine gx_ret ?_
      obtain rfl := Option.some.inj hF
      exact gx_fin (.bool false) (by kernel_rfl) (by kernel_rfl) ⟨_, rfl, rfl, (hS60.pick [] rfl rfl)⟩
  · refine gx_val (.bool false) w59 (by kernel_rfl) (run_boolE (decide_eq_false h68) (by kernel_rfl)) ?_
    refine gx_val (.bool false) w59 (by kernel_rfl) (by kernel_rfl) ?_
    refine gx_off (by kernel_rfl) ?_
    refine gx_off (by kernel_rfl) ?_
    refine gx_val (.bool false) w59 (by kernel_rfl) (by kernel_rfl) ?_
    refine gx_val (.bool false) w59 (by kernel_rfl) (by kernel_rfl) ?_
    refine gx_off (by kernel_rfl) ?_
    refine gx_off (by kernel_rfl) ?_
    refine gx_val (.bool false) w59 (by kernel_rfl) (by kernel_rfl) ?_
    refine gx_val (.bool false) w59 (by kernel_rfl) (by kernel_rfl) ?_
    refine gx_off (by kernel_rfl) ?_
    refine gx_off (by kernel_rfl) ?_
    refine gx_off (by kernel_rfl) ?_
    refine gx_val (.bool false) w59 (by kernel_rfl) (by kernel_rfl) ?_
    refine gx_val (.bool false) w59 (by kernel_rfl) (by kernel_rfl) ?_
    refine gx_off (by kernel_rfl) ?_
    refine gx_off (by kernel_rfl) ?_
    refine gx_off (by kernel_rfl) ?_
    refine gx_val (.bool false) w59 (by kernel_rfl) (by kernel_rfl) ?_
    refine gx_val (.bool false) w59 (by kernel_rfl) (by kernel_rfl) ?_
    refine gx_off (by kernel_rfl) ?_
    refine gx_off (by kernel_rfl) ?_
    refine gx_off (by kernel_rfl) ?_
    refine gx_val (.bool false) w59 (by kernel_rfl) (by kernel_rfl) ?_
    refine gx_val (.bool false) w59 (by kernel_rfl) (by kernel_rfl) ?_
    refine gx_nil ?_
    refine gx_thenN ?_
    refine hK67 _ _ ?_
    refine gx_ret ?_
    obtain rfl := Option.some.inj hF
    exact gx_fin (.bool false) (by kernel_rfl) (by kernel_rfl) ⟨_, rfl, rfl, (hS60.pick [] rfl rfl)⟩

def fAt (N : Nat) (p0 : List Int) (p1 : Int) (p2 : Int) : Option (Bool) :=
  (((if ((p0.length : Nat) : Int) > 2000 then ((fWorks N ).bind fun b18 => some (Ctl.ret b18)) else (if p1 < 0 then ((fWorks N ).bind fun b27 => some (Ctl.ret b27)) else (if p1 > ((p0.length : Nat) : Int) then ((fWorks N ).bind fun b36 => some (Ctl.ret b36)) else some (Ctl.go ())))) : Option (Ctl (Unit) (Bool))).bind fun | Ctl.go () => ((bOpen N p0).bind fun (l44, b45) => ((cCov N l44 b45 p1 p2).bind fun (l55, x58, _b59) => ((cutx p0 p1 ((p0.length : Nat) : Int)).bind fun l63 => ((bOpen N l63).bind fun (l73, b74) => ((cCov N l73 b74 (0 : Int) p2).bind fun (l84, x87, _b88) => ((bOpen N p0).bind fun (l96, b97) => ((cCls N l96 b97 p1 p2).bind fun (l107, x110, _b111) => ((cutx p0 p1 ((p0.length : Nat) : Int)).bind fun l115 => ((bOpen N l115).bind fun (l125, b126) => ((cCls N l125 b126 (0 : Int) p2).bind fun (l136, x139, _b140) => (if x58 = x87 then (if x110 = x139 then ((kWords N l55 l84).bind fun b150 => (match b150 with | true => ((kBytes N l107 l136).bind fun b156 => (match b156 with | true => ((fWorks N ).bind fun b162 => some b162) | false => some false)) | false => some false)) else some false) else some false))))))))))) | Ctl.ret r => some r)

def fAt_R (r : Bool) (w0 : World) (v : Value) (w : World) : Prop := v = .bool r ∧ St [] w0 w []

end Go.Proofs.Ytcleaepcjbfmhaa
