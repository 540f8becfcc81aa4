/-
  The document's levels, walked.
-/
import Derived.Test.YtjndolnjhbgflaaR0
namespace Go.Proofs.Ytjndolnjhbgflaa
open Go Go.RowKit
set_option linter.unusedVariables false

def rWithin_L1 (N : Nat) (self : List Int → Int → List Int → List Int → Int → Int → Int → Int → Bool → Option (Int × List Int × List Int)) (p0_0 : List Int) (p0_1 : Int) (p2_0 : Int) (p2_1 : Int) (p3 : Int) (p4 : Bool) : Nat → (List Int) → (List Int) → Int → Int → Int → Option (Ctl (List Int × List Int × Int) (Int × List Int × List Int))
 | 0, _, _, _, _, _ => none
 | k32+1, l25, l28, x29, x30, x31 => (if x29 < ((p0_0.length : Nat) : Int) then ((ix p0_0 x29).bind fun x41 => (if (IntKind.i64.wrap (x30 + x31)) = 0 then (((((if x41 = 11 then (if p3 ≠ 0 then some (true) else some (false)) else some (false)) : Option (Bool)).bind fun b58 => (match b58 with | true => some (true) | false => (((if x41 = 23 then (if x30 = 0 then some (p4) else some (false)) else some (false)) : Option (Bool)).bind fun b67 => (match b67 with | true => some (true) | false => (if x41 = 19 then (if p3 = 1 then some (true) else some (false)) else some (false)))))) : Option (Bool)).bind fun b51 => (match b51 with | true => some (Ctl.ret (x29, l25, l28)) | false => (if x41 = 11 then ((rStands N p0_0 p0_1 l25 l28 x29 p0_1 (0 : Int)).bind fun (l86, l89) => rWithin_L1 N self p0_0 p0_1 p2_0 p2_1 p3 p4 k32 l86 l89 (IntKind.i64.wrap (x29 + 1)) 0 0) else (if x41 = 23 then ((rStands N p0_0 p0_1 l25 l28 x29 p2_0 p2_1).bind fun (l104, l107) => rWithin_L1 N self p0_0 p0_1 p2_0 p2_1 p3 p4 k32 l104 l107 (IntKind.i64.wrap (x29 + 1)) (if (0 : Int) < (IntKind.i64.wrap (x30 - 1)) then (IntKind.i64.wrap (x30 - 1)) else 0) x31) else (if x41 = 19 then (if x30 = 0 then rWithin_L1 N self p0_0 p0_1 p2_0 p2_1 p3 p4 k32 l25 l28 (IntKind.i64.wrap (x29 + 1)) x30 (if (0 : Int) < (IntKind.i64.wrap (x31 - 1)) then (IntKind.i64.wrap (x31 - 1)) else 0) else rWithin_L1 N self p0_0 p0_1 p2_0 p2_1 p3 p4 k32 l25 l28 (IntKind.i64.wrap (x29 + 1)) x30 x31) else ((rInit N x41).bind fun b123 => (match b123 with | true => ((rStands N p0_0 p0_1 l25 l28 x29 p2_0 p2_1).bind fun (l131, l134) => (((if x41 = 21 then ((rNext N p2_0 p2_1 true).bind fun x152 => some (x152)) else (if x41 = 22 then ((rRight N p0_0 (IntKind.i64.wrap (x29 + 1)) true).bind fun b159 => ((rNext N p2_0 p2_1 b159).bind fun x165 => some (x165))) else ((rNext N p2_0 p2_1 false).bind fun x171 => some (x171)))) : Option (Int)).bind fun x143 => (((if x143 ≤ 125 then some (true) else some (false)) : Option (Bool)).bind fun b180 => (match b180 with | true => ((self p0_0 p0_1 l131 l134 (IntKind.i64.wrap (x29 + 1)) x143 (0 : Int) (2 : Int) true).bind fun (x195, l189, l192) => (((if x195 < ((p0_0.length : Nat) : Int) then ((ix p0_0 x195).bind fun x209 => (if x209 = 23 then some (true) else some (false))) else some (false)) : Option (Bool)).bind fun b204 => (match b204 with | true => ((rStands N p0_0 p0_1 l189 l192 x195 p2_0 p2_1).bind fun (l216, l219) => rWithin_L1 N self p0_0 p0_1 p2_0 p2_1 p3 p4 k32 l216 l219 (IntKind.i64.wrap (x195 + 1)) x30 x31) | false => rWithin_L1 N self p0_0 p0_1 p2_0 p2_1 p3 p4 k32 l189 l192 x195 x30 x31))) | false => rWithin_L1 N self p0_0 p0_1 p2_0 p2_1 p3 p4 k32 l131 l134 (IntKind.i64.wrap (x29 + 1)) (IntKind.i64.wrap (x30 + 1)) x31)))) | false => (((if x41 = 15 then some (true) else (if x41 = 16 then some (true) else (if x41 = 17 then some (true) else (if x41 = 18 then some (true) else some (false))))) : Option (Bool)).bind fun b231 => (match b231 with | true => (((if x41 = 16 then ((rNext N p2_0 p2_1 true).bind fun x255 => some (x255)) else ((rNext N p2_0 p2_1 (decide (x41 = 18))).bind fun x261 => some (x261))) : Option (Int)).bind fun x248 => (((if x248 ≤ 125 then some (true) else some (false)) : Option (Bool)).bind fun b270 => (match b270 with | true => ((rOvr N x41).bind fun x279 => ((self p0_0 p0_1 l25 l28 (IntKind.i64.wrap (x29 + 1)) x248 x279 (1 : Int) p4).bind fun (x291, l285, l288) => (if x291 < ((p0_0.length : Nat) : Int) then ((ix p0_0 x291).bind fun x300 => (if x300 = 19 then rWithin_L1 N self p0_0 p0_1 p2_0 p2_1 p3 p4 k32 l285 l288 (IntKind.i64.wrap (x291 + 1)) x30 x31 else rWithin_L1 N self p0_0 p0_1 p2_0 p2_1 p3 p4 k32 l285 l288 x291 x30 x31)) else rWithin_L1 N self p0_0 p0_1 p2_0 p2_1 p3 p4 k32 l285 l288 x291 x30 x31))) | false => (if x30 = 0 then rWithin_L1 N self p0_0 p0_1 p2_0 p2_1 p3 p4 k32 l25 l28 (IntKind.i64.wrap (x29 + 1)) x30 (IntKind.i64.wrap (x31 + 1)) else rWithin_L1 N self p0_0 p0_1 p2_0 p2_1 p3 p4 k32 l25 l28 (IntKind.i64.wrap (x29 + 1)) x30 x31)))) | false => (if x41 ≠ 10 then ((rStands N p0_0 p0_1 l25 l28 x29 p2_0 p2_1).bind fun (l313, l316) => rWithin_L1 N self p0_0 p0_1 p2_0 p2_1 p3 p4 k32 l313 l316 (IntKind.i64.wrap (x29 + 1)) x30 x31) else rWithin_L1 N self p0_0 p0_1 p2_0 p2_1 p3 p4 k32 l25 l28 (IntKind.i64.wrap (x29 + 1)) x30 x31)))))))))) else (((((if x41 = 11 then (if p3 ≠ 0 then some (true) else some (false)) else some (false)) : Option (Bool)).bind fun b336 => (match b336 with | true => some (true) | false => (((if x41 = 23 then (if x30 = 0 then some (p4) else some (false)) else some (false)) : Option (Bool)).bind fun b345 => (match b345 with | true => some (true) | false => (if x41 = 19 then some (false) else some (false)))))) : Option (Bool)).bind fun b329 => (match b329 with | true => some (Ctl.ret (x29, l25, l28)) | false => (if x41 = 11 then ((rStands N p0_0 p0_1 l25 l28 x29 p0_1 (0 : Int)).bind fun (l363, l366) => rWithin_L1 N self p0_0 p0_1 p2_0 p2_1 p3 p4 k32 l363 l366 (IntKind.i64.wrap (x29 + 1)) 0 0) else (if x41 = 23 then ((rStands N p0_0 p0_1 l25 l28 x29 p2_0 p2_1).bind fun (l381, l384) => rWithin_L1 N self p0_0 p0_1 p2_0 p2_1 p3 p4 k32 l381 l384 (IntKind.i64.wrap (x29 + 1)) (if (0 : Int) < (IntKind.i64.wrap (x30 - 1)) then (IntKind.i64.wrap (x30 - 1)) else 0) x31) else (if x41 = 19 then (if x30 = 0 then rWithin_L1 N self p0_0 p0_1 p2_0 p2_1 p3 p4 k32 l25 l28 (IntKind.i64.wrap (x29 + 1)) x30 (if (0 : Int) < (IntKind.i64.wrap (x31 - 1)) then (IntKind.i64.wrap (x31 - 1)) else 0) else rWithin_L1 N self p0_0 p0_1 p2_0 p2_1 p3 p4 k32 l25 l28 (IntKind.i64.wrap (x29 + 1)) x30 x31) else ((rInit N x41).bind fun b400 => (match b400 with | true => ((rStands N p0_0 p0_1 l25 l28 x29 p2_0 p2_1).bind fun (l408, l411) => (((if x41 = 21 then ((rNext N p2_0 p2_1 true).bind fun x429 => some (x429)) else (if x41 = 22 then ((rRight N p0_0 (IntKind.i64.wrap (x29 + 1)) true).bind fun b436 => ((rNext N p2_0 p2_1 b436).bind fun x442 => some (x442))) else ((rNext N p2_0 p2_1 false).bind fun x448 => some (x448)))) : Option (Int)).bind fun x420 => ((some (false) : Option (Bool)).bind fun b457 => (match b457 with | true => ((self p0_0 p0_1 l408 l411 (IntKind.i64.wrap (x29 + 1)) x420 (0 : Int) (2 : Int) true).bind fun (x471, l465, l468) => (((if x471 < ((p0_0.length : Nat) : Int) then ((ix p0_0 x471).bind fun x485 => (if x485 = 23 then some (true) else some (false))) else some (false)) : Option (Bool)).bind fun b480 => (match b480 with | true => ((rStands N p0_0 p0_1 l465 l468 x471 p2_0 p2_1).bind fun (l492, l495) => rWithin_L1 N self p0_0 p0_1 p2_0 p2_1 p3 p4 k32 l492 l495 (IntKind.i64.wrap (x471 + 1)) x30 x31) | false => rWithin_L1 N self p0_0 p0_1 p2_0 p2_1 p3 p4 k32 l465 l468 x471 x30 x31))) | false => rWithin_L1 N self p0_0 p0_1 p2_0 p2_1 p3 p4 k32 l408 l411 (IntKind.i64.wrap (x29 + 1)) (IntKind.i64.wrap (x30 + 1)) x31)))) | false => (((if x41 = 15 then some (true) else (if x41 = 16 then some (true) else (if x41 = 17 then some (true) else (if x41 = 18 then some (true) else some (false))))) : Option (Bool)).bind fun b507 => (match b507 with | true => (((if x41 = 16 then ((rNext N p2_0 p2_1 true).bind fun x531 => some (x531)) else ((rNext N p2_0 p2_1 (decide (x41 = 18))).bind fun x537 => some (x537))) : Option (Int)).bind fun x524 => ((some (false) : Option (Bool)).bind fun b546 => (match b546 with | true => ((rOvr N x41).bind fun x554 => ((self p0_0 p0_1 l25 l28 (IntKind.i64.wrap (x29 + 1)) x524 x554 (1 : Int) p4).bind fun (x566, l560, l563) => (if x566 < ((p0_0.length : Nat) : Int) then ((ix p0_0 x566).bind fun x575 => (if x575 = 19 then rWithin_L1 N self p0_0 p0_1 p2_0 p2_1 p3 p4 k32 l560 l563 (IntKind.i64.wrap (x566 + 1)) x30 x31 else rWithin_L1 N self p0_0 p0_1 p2_0 p2_1 p3 p4 k32 l560 l563 x566 x30 x31)) else rWithin_L1 N self p0_0 p0_1 p2_0 p2_1 p3 p4 k32 l560 l563 x566 x30 x31))) | false => (if x30 = 0 then rWithin_L1 N self p0_0 p0_1 p2_0 p2_1 p3 p4 k32 l25 l28 (IntKind.i64.wrap (x29 + 1)) x30 (IntKind.i64.wrap (x31 + 1)) else rWithin_L1 N self p0_0 p0_1 p2_0 p2_1 p3 p4 k32 l25 l28 (IntKind.i64.wrap (x29 + 1)) x30 x31)))) | false => (if x41 ≠ 10 then ((rStands N p0_0 p0_1 l25 l28 x29 p2_0 p2_1).bind fun (l588, l591) => rWithin_L1 N self p0_0 p0_1 p2_0 p2_1 p3 p4 k32 l588 l591 (IntKind.i64.wrap (x29 + 1)) x30 x31) else rWithin_L1 N self p0_0 p0_1 p2_0 p2_1 p3 p4 k32 l25 l28 (IntKind.i64.wrap (x29 + 1)) x30 x31)))))))))))) else some (Ctl.go (l25, l28, x29)))
def rWithinB (N : Nat) (self : List Int → Int → List Int → List Int → Int → Int → Int → Int → Bool → Option (Int × List Int × List Int)) (p0_0 : List Int) (p0_1 : Int) (p0_2 : List Int) (p0_3 : List Int) (p1 : Int) (p2_0 : Int) (p2_1 : Int) (p3 : Int) (p4 : Bool) : Option (Int × List Int × List Int) :=
 ((rWithin_L1 N self p0_0 p0_1 p2_0 p2_1 p3 p4 N p0_2 p0_3 p1 0 0 : Option (Ctl (List Int × List Int × Int) (Int × List Int × List Int))).bind fun | Ctl.go (l12, l15, x16) => some (x16, l12, l15) | Ctl.ret r => some r)

set_option linter.unusedVariables false in
def rWithin_R (p0_0 : List Int) (p0_1 : Int) (p0_2 : List Int) (p0_3 : List Int) (p1 : Int) (p2_0 : Int) (p2_1 : Int) (p3 : Int) (p4 : Bool) (g0 : Nat) (A0_0 : Option Addr) (c0_0 : Nat) (A0_2 : Option Addr) (c0_2 : Nat) (A0_3 : Option Addr) (c0_3 : Nat) (r : Int × List Int × List Int) (w0 : World) (v : Value) (w : World) : Prop := ∃ (Al0_2' : Option Addr) (cl0_2' : Nat) (Al0_3' : Option Addr) (cl0_3' : Nat), v = .int .i64 r.1 ∧ St (foots [boxE g0 [.slice A0_0 p0_0.length c0_0, .int .u8 p0_1, .slice A0_2 p0_2.length c0_2, .slice A0_3 p0_3.length c0_3] 62, rowE .u8 5 A0_2 c0_2 p0_2, rowE .u8 34 A0_3 c0_3 p0_3]) w0 w [boxE g0 [.slice A0_0 p0_0.length c0_0, .int .u8 p0_1, .slice Al0_2' r.2.1.length cl0_2', .slice Al0_3' r.2.2.length cl0_3'] 62, rowE .u8 5 Al0_2' cl0_2' r.2.1, rowE .u8 34 Al0_3' cl0_3' r.2.2]

set_option maxRecDepth 100000 in
set_option maxHeartbeats 4000000 in
theorem rWithinB_ok (N : Nat) (self : List Int → Int → List Int → List Int → Int → Int → Int → Int → Bool → Option (Int × List Int × List Int)) (hself : ∀ (p0_0 : List Int) (p0_1 : Int) (p0_2 : List Int) (p0_3 : List Int) (p1 : Int) (p2_0 : Int) (p2_1 : Int) (p3 : Int) (p4 : Bool) (g0 : Nat) (A0_0 : Option Addr) (c0_0 : Nat) (A0_2 : Option Addr) (c0_2 : Nat) (A0_3 : Option Addr) (c0_3 : Nat) (r : Int × List Int × List Int), self p0_0 p0_1 p0_2 p0_3 p1 p2_0 p2_1 p3 p4 = some r → ∀ (w0 : World) (hv0_0 : Vw (foots [boxE g0 [.slice A0_0 p0_0.length c0_0, .int .u8 p0_1, .slice A0_2 p0_2.length c0_2, .slice A0_3 p0_3.length c0_3] 62, rowE .u8 5 A0_2 c0_2 p0_2, rowE .u8 34 A0_3 c0_3 p0_3]) .u8 w0 A0_0 c0_0 p0_0) (hl : St (foots [boxE g0 [.slice A0_0 p0_0.length c0_0, .int .u8 p0_1, .slice A0_2 p0_2.length c0_2, .slice A0_3 p0_3.length c0_3] 62, rowE .u8 5 A0_2 c0_2 p0_2, rowE .u8 34 A0_3 c0_3 p0_3]) w0 w0 [boxE g0 [.slice A0_0 p0_0.length c0_0, .int .u8 p0_1, .slice A0_2 p0_2.length c0_2, .slice A0_3 p0_3.length c0_3] 62, rowE .u8 5 A0_2 c0_2 p0_2, rowE .u8 34 A0_3 c0_3 p0_3]), Calls Try.prog 24 #[.pointer (some ⟨g0, 0, none⟩), .int .i64 p1, .agg #[.int .u8 p2_0, .int .u8 p2_1], .int .i64 p3, .bool p4] w0 fun e w => ∃ v, e = .returned v ∧ rWithin_R p0_0 p0_1 p0_2 p0_3 p1 p2_0 p2_1 p3 p4 g0 A0_0 c0_0 A0_2 c0_2 A0_3 c0_3 r w0 v w) (p0_0 : List Int) (p0_1 : Int) (p0_2 : List Int) (p0_3 : List Int) (p1 : Int) (p2_0 : Int) (p2_1 : Int) (p3 : Int) (p4 : Bool) (g0 : Nat) (A0_0 : Option Addr) (c0_0 : Nat) (A0_2 : Option Addr) (c0_2 : Nat) (A0_3 : Option Addr) (c0_3 : Nat) (r : Int × List Int × List Int) (hF : rWithinB N self p0_0 p0_1 p0_2 p0_3 p1 p2_0 p2_1 p3 p4 = some r) (w0 : World) (hv0_0 : Vw (foots [boxE g0 [.slice A0_0 p0_0.length c0_0, .int .u8 p0_1, .slice A0_2 p0_2.length c0_2, .slice A0_3 p0_3.length c0_3] 62, rowE .u8 5 A0_2 c0_2 p0_2, rowE .u8 34 A0_3 c0_3 p0_3]) .u8 w0 A0_0 c0_0 p0_0) (hl : St (foots [boxE g0 [.slice A0_0 p0_0.length c0_0, .int .u8 p0_1, .slice A0_2 p0_2.length c0_2, .slice A0_3 p0_3.length c0_3] 62, rowE .u8 5 A0_2 c0_2 p0_2, rowE .u8 34 A0_3 c0_3 p0_3]) w0 w0 [boxE g0 [.slice A0_0 p0_0.length c0_0, .int .u8 p0_1, .slice A0_2 p0_2.length c0_2, .slice A0_3 p0_3.length c0_3] 62, rowE .u8 5 A0_2 c0_2 p0_2, rowE .u8 34 A0_3 c0_3 p0_3]) :
  Calls Try.prog 24 #[.pointer (some ⟨g0, 0, none⟩), .int .i64 p1, .agg #[.int .u8 p2_0, .int .u8 p2_1], .int .i64 p3, .bool p4] w0 fun e w => ∃ v, e = .returned v ∧ rWithin_R p0_0 p0_1 p0_2 p0_3 p1 p2_0 p2_1 p3 p4 g0 A0_0 c0_0 A0_2 c0_2 A0_3 c0_3 r w0 v w := by
 have hS0 := hl
 unfold rWithinB at hF
 refine calls_of Try.func24 rfl ⟨((.pointer (some ⟨g0, 0, none⟩)) :: (.int .i64 p1) :: (.agg #[.int .u8 p2_0, .int .u8 p2_1]) :: (.int .i64 p3) :: (.bool p4) :: un 209 ([])).toArray, []⟩ (by as_aux_lemma => kernel_rfl) ?_
 refine gx_seq (fun K1 hK2 => ?_)
 refine gx_region ?_
 refine gx_rA (st_boxed [.int .u8 p2_0, .int .u8 p2_1] 65 hS0 (by as_aux_lemma => kernel_rfl)) ?_
 rintro _ w3 ⟨rfl, hS4⟩
 have hS4 : St _ _ w3 [boxE g0 [.slice A0_0 p0_0.length c0_0, .int .u8 p0_1, .slice A0_2 p0_2.length c0_2, .slice A0_3 p0_3.length c0_3] 62, rowE .u8 5 A0_2 c0_2 p0_2, rowE .u8 34 A0_3 c0_3 p0_3, boxE w0.heap.size [.int .u8 p2_0, .int .u8 p2_1] 65] := hS4
 refine gx_kA (.int .i64 0) w3 ?_
 refine gx_nil ?_
 refine gx_thenN ?_
 refine hK2 _ _ ?_
 refine gx_seq (fun K5 hK6 => ?_)
 refine gx_region ?_
 refine gx_kA (.int .i64 0) w3 (gx_kA (.int .i64 0) w3 ?_)
 refine gx_nil ?_
 refine gx_thenN ?_
 refine hK6 _ _ ?_
 obtain ⟨c17, hE18, hO19⟩ := bind_in hF
 refine gx_cut (fun a w => ∃ (l12 : List Int) (l15 : List Int) (x16 : Int) (A10 : Option Addr) (c11 : Nat) (A13 : Option Addr) (c14 : Nat), selfA (fun u9 => ⟨((.pointer (some ⟨g0, 0, none⟩)) :: (.int .i64 x16) :: (u9 2) :: (.int .i64 p3) :: (.bool p4) :: undef :: undef :: (.pointer (some ⟨w0.heap.size, 0, none⟩)) :: undef :: undef :: dd u9 10 203 (undef :: [])).toArray, []⟩) a ∧ Ctl.go (l12, l15, x16) = c17 ∧ St (foots [boxE g0 [.slice A0_0 p0_0.length c0_0, .int .u8 p0_1, .slice A0_2 p0_2.length c0_2, .slice A0_3 p0_3.length c0_3] 62, rowE .u8 5 A0_2 c0_2 p0_2, rowE .u8 34 A0_3 c0_3 p0_3]) w0 w [rowE .u8 5 A10 c11 l12, rowE .u8 34 A13 c14 l15, boxE g0 [.slice A0_0 p0_0.length c0_0, .int .u8 p0_1, .slice A10 l12.length c11, .slice A13 l15.length c14] 62, boxE w0.heap.size [.int .u8 p2_0, .int .u8 p2_1] 65]) ?_ ?_
 ·refine gx_block ?_
  refine gx_loop (fun k a w => ∃ (l25 : List Int) (l28 : List Int) (x29 : Int) (x30 : Int) (x31 : Int) (A23 : Option Addr) (c24 : Nat) (A26 : Option Addr) (c27 : Nat), selfA (fun u22 => ⟨((.pointer (some ⟨g0, 0, none⟩)) :: (.int .i64 x29) :: (u22 2) :: (.int .i64 p3) :: (.bool p4) :: undef :: undef :: (.pointer (some ⟨w0.heap.size, 0, none⟩)) :: undef :: undef :: (u22 10) :: (.int .i64 x30) :: (.int .i64 x31) :: dd u22 13 200 (undef :: [])).toArray, []⟩) a ∧ rWithin_L1 N self p0_0 p0_1 p2_0 p2_1 p3 p4 k l25 l28 x29 x30 x31 = some c17 ∧ St (foots [boxE g0 [.slice A0_0 p0_0.length c0_0, .int .u8 p0_1, .slice A0_2 p0_2.length c0_2, .slice A0_3 p0_3.length c0_3] 62, rowE .u8 5 A0_2 c0_2 p0_2, rowE .u8 34 A0_3 c0_3 p0_3]) w0 w [rowE .u8 5 A23 c24 l25, rowE .u8 34 A26 c27 l28, boxE g0 [.slice A0_0 p0_0.length c0_0, .int .u8 p0_1, .slice A23 l25.length c24, .slice A26 l28.length c27] 62, boxE w0.heap.size [.int .u8 p2_0, .int .u8 p2_1] 65]) N ?_ ?_
  ·exact ⟨p0_2, p0_3, p1, 0, 0, A0_2, c0_2, A0_3, c0_3, selfA_i (by as_aux_lemma => kernel_rfl), hE18, (hS4.pick [1, 2, 0, 3] rfl rfl)⟩
  ·rintro k32 _ w20 ⟨l25, l28, x29, x30, x31, A23, c24, A26, c27, hq599, hL33, hS21⟩
   obtain ⟨u22, rfl⟩ := selfA_u hq599
   cases k32 with
   | zero => cases hL33
   | succ k32 =>
    first | rw [rWithin_L1] at hL33 | unfold rWithin_L1 at hL33
    refine gx_seq (fun K34 hK35 => ?_)
    refine gx_seq (fun K36 hK37 => ?_)
    refine gx_region ?_
    refine gx_kA (.int .i64 x29) w20 (gx_kA (.pointer (some ⟨g0, 0, none⟩)) w20 (gx_kA (.pointer (some ⟨g0, 0, none⟩)) w20 (gx_kA (.pointer (some ⟨g0, 0, none⟩)) w20 ?_)))
    refine gx_vA (.slice A0_0 p0_0.length c0_0) w20 (run_load1 rfl (by as_aux_lemma => kernel_rfl) (fun _ => by kernel_rfl) (hS21.box 2 rfl 0 rfl)) ?_
    refine gx_kA (.int .i64 ((p0_0.length : Nat) : Int)) w20 ?_
    rcases if_in hL33 with ⟨h38, hL33⟩ | ⟨h38, hL33⟩
    ·refine gx_vA (.bool true) w20 (run_boolE (decide_eq_true h38) (by as_aux_lemma => kernel_rfl)) ?_
     refine gx_nil ?_
     refine gx_thenN ?_
     refine hK37 _ _ ?_
     refine gx_yes (by as_aux_lemma => kernel_rfl) ?_
     refine gx_pass ?_
     refine gx_thenN ?_
     refine hK35 _ _ ?_
     refine gx_block ?_
     refine gx_seq (fun K39 hK40 => ?_)
     refine gx_region ?_
     refine gx_kA (.pointer (some ⟨g0, 0, none⟩)) w20 (gx_kA (.pointer (some ⟨g0, 0, none⟩)) w20 (gx_kA (.pointer (some ⟨g0, 0, none⟩)) w20 ?_))
     refine gx_vA (.slice A0_0 p0_0.length c0_0) w20 (run_load1 rfl (by as_aux_lemma => kernel_rfl) (fun _ => by kernel_rfl) (hS21.box 2 rfl 0 rfl)) ?_
     refine gx_kA (.int .i64 x29) w20 ?_
     obtain ⟨x41, hx42, hL33⟩ := bind_in hL33
     refine gx_vA (.pointer (Option.map (fun (p : Addr) => p.add (Int.toNat x29 * 1)) A0_0)) w20 (run_ixaddr (E := 34) (s := 1) (k := .i64) (c := c0_0) rfl (by as_aux_lemma => kernel_rfl) (by as_aux_lemma => kernel_rfl) (by as_aux_lemma => kernel_rfl) (fun _ => by kernel_rfl) (ix_in hx42).1 (ix_in hx42).2.1 (num_nil (hS21.view hv0_0))) ?_
     refine gx_vA (.int .u8 x41) w20 (run_loadix rfl (by as_aux_lemma => kernel_rfl) (fun _ => by kernel_rfl) (hS21.view hv0_0) hx42) ?_
     refine gx_kA (.int .u8 x41) w20 ?_
     refine gx_nil ?_
     refine gx_thenN ?_
     refine hK40 _ _ ?_
     refine gx_seq (fun K43 hK44 => ?_)
     refine gx_region ?_
     refine gx_kA (.int .i64 x30) w20 (gx_kA (.int .i64 x31) w20 (gx_kA (.int .i64 (IntKind.i64.wrap (x30 + x31))) w20 ?_))
     rcases if_in hL33 with ⟨h45, hL33⟩ | ⟨h45, hL33⟩
     ·refine gx_vA (.bool true) w20 (run_boolE (decide_eq_true h45) (by as_aux_lemma => kernel_rfl)) ?_
      refine gx_kA (.bool true) w20 ?_
      refine gx_nil ?_
      refine gx_thenN ?_
      refine hK44 _ _ ?_
      refine gx_seq (fun K46 hK47 => ?_)
      refine gx_block ?_
      obtain ⟨c52, hE53, hO54⟩ := bind_in hL33
      refine gx_cut (fun a w => ∃ (b51 : Bool), selfA (fun u50 => ⟨((.pointer (some ⟨g0, 0, none⟩)) :: (.int .i64 x29) :: (u22 2) :: (.int .i64 p3) :: (.bool p4) :: undef :: undef :: (.pointer (some ⟨w0.heap.size, 0, none⟩)) :: undef :: undef :: (u22 10) :: (.int .i64 x30) :: (.int .i64 x31) :: (.int .u8 x41) :: (.bool true) :: dd u22 15 2 ((.int .i64 x29) :: (.pointer (some ⟨g0, 0, none⟩)) :: (.pointer (some ⟨g0, 0, none⟩)) :: (.pointer (some ⟨g0, 0, none⟩)) :: (u50 21) :: (.int .i64 ((p0_0.length : Nat) : Int)) :: (.bool true) :: (.pointer (some ⟨g0, 0, none⟩)) :: (.pointer (some ⟨g0, 0, none⟩)) :: (.pointer (some ⟨g0, 0, none⟩)) :: (u50 27) :: (.int .i64 x29) :: (.pointer (Option.map (fun (p : Addr) => p.add (Int.toNat x29 * 1)) A0_0)) :: (.int .u8 x41) :: (.int .i64 x30) :: (.int .i64 x31) :: (.int .i64 (IntKind.i64.wrap (x30 + x31))) :: (.bool true) :: (.bool b51) :: dd u50 36 24 (dd u22 60 153 (undef :: [])))).toArray, []⟩) a ∧ b51 = c52 ∧ St (foots [boxE g0 [.slice A0_0 p0_0.length c0_0, .int .u8 p0_1, .slice A0_2 p0_2.length c0_2, .slice A0_3 p0_3.length c0_3] 62, rowE .u8 5 A0_2 c0_2 p0_2, rowE .u8 34 A0_3 c0_3 p0_3]) w0 w [rowE .u8 5 A23 c24 l25, rowE .u8 34 A26 c27 l28, boxE g0 [.slice A0_0 p0_0.length c0_0, .int .u8 p0_1, .slice A23 l25.length c24, .slice A26 l28.length c27] 62, boxE w0.heap.size [.int .u8 p2_0, .int .u8 p2_1] 65]) ?_ ?_
      ·obtain ⟨c59, hE60, hO61⟩ := bind_in hE53
       refine gx_cut (fun a w => ∃ (b58 : Bool), selfA (fun u57 => ⟨((.pointer (some ⟨g0, 0, none⟩)) :: (.int .i64 x29) :: (u22 2) :: (.int .i64 p3) :: (.bool p4) :: undef :: undef :: (.pointer (some ⟨w0.heap.size, 0, none⟩)) :: undef :: undef :: (u22 10) :: (.int .i64 x30) :: (.int .i64 x31) :: (.int .u8 x41) :: (.bool true) :: dd u22 15 2 ((.int .i64 x29) :: (.pointer (some ⟨g0, 0, none⟩)) :: (.pointer (some ⟨g0, 0, none⟩)) :: (.pointer (some ⟨g0, 0, none⟩)) :: (u57 21) :: (.int .i64 ((p0_0.length : Nat) : Int)) :: (.bool true) :: (.pointer (some ⟨g0, 0, none⟩)) :: (.pointer (some ⟨g0, 0, none⟩)) :: (.pointer (some ⟨g0, 0, none⟩)) :: (u57 27) :: (.int .i64 x29) :: (.pointer (Option.map (fun (p : Addr) => p.add (Int.toNat x29 * 1)) A0_0)) :: (.int .u8 x41) :: (.int .i64 x30) :: (.int .i64 x31) :: (.int .i64 (IntKind.i64.wrap (x30 + x31))) :: (.bool true) :: (.bool b58) :: dd u57 36 6 (dd u22 42 171 (undef :: [])))).toArray, []⟩) a ∧ b58 = c59 ∧ St (foots [boxE g0 [.slice A0_0 p0_0.length c0_0, .int .u8 p0_1, .slice A0_2 p0_2.length c0_2, .slice A0_3 p0_3.length c0_3] 62, rowE .u8 5 A0_2 c0_2 p0_2, rowE .u8 34 A0_3 c0_3 p0_3]) w0 w [rowE .u8 5 A23 c24 l25, rowE .u8 34 A26 c27 l28, boxE g0 [.slice A0_0 p0_0.length c0_0, .int .u8 p0_1, .slice A23 l25.length c24, .slice A26 l28.length c27] 62, boxE w0.heap.size [.int .u8 p2_0, .int .u8 p2_1] 65]) ?_ ?_
       ·refine gx_region ?_
        refine gx_kA (.int .u8 x41) w20 ?_
        rcases if_in hE60 with ⟨h62, hE60⟩ | ⟨h62, hE60⟩
        ·refine gx_vA (.bool true) w20 (run_boolE (decide_eq_true h62) (by as_aux_lemma => kernel_rfl)) ?_
         refine gx_kA (.bool true) w20 (gx_kA (.int .i64 p3) w20 ?_)
         rcases if_in hE60 with ⟨h63, hE60⟩ | ⟨h63, hE60⟩
         ·refine gx_vA (.bool true) w20 (run_boolE (ne_yes h63) (by as_aux_lemma => kernel_rfl)) ?_
          refine gx_kA (.bool true) w20 (gx_kA (.bool true) w20 ?_)
          refine gx_nil ?_
          refine gx_thenN ?_
          exact ⟨true, selfA_i (by as_aux_lemma => kernel_rfl), (Option.some.inj hE60), hS21⟩
         ·refine gx_vA (.bool false) w20 (run_boolE (ne_no h63) (by as_aux_lemma => kernel_rfl)) ?_
          refine gx_kA (.bool false) w20 (gx_kA (.bool false) w20 ?_)
          refine gx_nil ?_
          refine gx_thenN ?_
          exact ⟨false, selfA_i (by as_aux_lemma => kernel_rfl), (Option.some.inj hE60), hS21⟩
        ·refine gx_vA (.bool false) w20 (run_boolE (decide_eq_false h62) (by as_aux_lemma => kernel_rfl)) ?_
         refine gx_kA (.bool false) w20 (gx_oA (gx_oA (gx_kA (.bool false) w20 (gx_kA (.bool false) w20 ?_))))
         refine gx_nil ?_
         refine gx_thenN ?_
         exact ⟨false, selfA_i (by as_aux_lemma => kernel_rfl), (Option.some.inj hE60), hS21⟩
       ·rintro _ w55 ⟨b58, hq76, rfl, hS56⟩
        obtain ⟨u57, rfl⟩ := selfA_u hq76
        try dsimp only at hO61
        cases b58 with
        | true =>
         try dsimp only at hO61
         refine gx_yes (by as_aux_lemma => kernel_rfl) ?_
         refine gx_pass ?_
         refine gx_thenN ?_
         exact ⟨true, selfA_i (by as_aux_lemma => kernel_rfl), (Option.some.inj hO61), hS56⟩
        | false =>
         try dsimp only at hO61
         refine gx_no (by as_aux_lemma => kernel_rfl) ?_
         obtain ⟨c68, hE69, hO70⟩ := bind_in hO61
         refine gx_cut (fun a w => ∃ (b67 : Bool), selfA (fun u66 => ⟨((.pointer (some ⟨g0, 0, none⟩)) :: (.int .i64 x29) :: (u22 2) :: (.int .i64 p3) :: (.bool p4) :: undef :: undef :: (.pointer (some ⟨w0.heap.size, 0, none⟩)) :: undef :: undef :: (u22 10) :: (.int .i64 x30) :: (.int .i64 x31) :: (.int .u8 x41) :: (.bool true) :: dd u22 15 2 ((.int .i64 x29) :: (.pointer (some ⟨g0, 0, none⟩)) :: (.pointer (some ⟨g0, 0, none⟩)) :: (.pointer (some ⟨g0, 0, none⟩)) :: (u57 21) :: (.int .i64 ((p0_0.length : Nat) : Int)) :: (.bool true) :: (.pointer (some ⟨g0, 0, none⟩)) :: (.pointer (some ⟨g0, 0, none⟩)) :: (.pointer (some ⟨g0, 0, none⟩)) :: (u57 27) :: (.int .i64 x29) :: (.pointer (Option.map (fun (p : Addr) => p.add (Int.toNat x29 * 1)) A0_0)) :: (.int .u8 x41) :: (.int .i64 x30) :: (.int .i64 x31) :: (.int .i64 (IntKind.i64.wrap (x30 + x31))) :: (.bool true) :: (.bool b67) :: dd u57 36 6 (dd u66 42 9 (dd u22 51 162 (undef :: []))))).toArray, []⟩) a ∧ b67 = c68 ∧ St (foots [boxE g0 [.slice A0_0 p0_0.length c0_0, .int .u8 p0_1, .slice A0_2 p0_2.length c0_2, .slice A0_3 p0_3.length c0_3] 62, rowE .u8 5 A0_2 c0_2 p0_2, rowE .u8 34 A0_3 c0_3 p0_3]) w0 w [rowE .u8 5 A23 c24 l25, rowE .u8 34 A26 c27 l28, boxE g0 [.slice A0_0 p0_0.length c0_0, .int .u8 p0_1, .slice A23 l25.length c24, .slice A26 l28.length c27] 62, boxE w0.heap.size [.int .u8 p2_0, .int .u8 p2_1] 65]) ?_ ?_
         ·refine gx_region ?_
          refine gx_kA (.int .u8 x41) w55 ?_
          rcases if_in hE69 with ⟨h71, hE69⟩ | ⟨h71, hE69⟩
          ·refine gx_vA (.bool true) w55 (run_boolE (decide_eq_true h71) (by as_aux_lemma => kernel_rfl)) ?_
           refine gx_kA (.bool true) w55 (gx_kA (.int .i64 x30) w55 ?_)
           rcases if_in hE69 with ⟨h72, hE69⟩ | ⟨h72, hE69⟩
           ·refine gx_vA (.bool true) w55 (run_boolE (decide_eq_true h72) (by as_aux_lemma => kernel_rfl)) ?_
            refine gx_kA (.bool true) w55 (gx_kA (.bool true) w55 (gx_kA (.bool p4) w55 (gx_kA (.bool p4) w55 (gx_kA (.bool p4) w55 ?_))))
            refine gx_nil ?_
            refine gx_thenN ?_
            exact ⟨p4, selfA_i (by as_aux_lemma => kernel_rfl), (Option.some.inj hE69), hS56⟩
           ·refine gx_vA (.bool false) w55 (run_boolE (decide_eq_false h72) (by as_aux_lemma => kernel_rfl)) ?_
            refine gx_kA (.bool false) w55 (gx_kA (.bool false) w55 (gx_oA (gx_kA (.bool false) w55 (gx_kA (.bool false) w55 ?_))))
            refine gx_nil ?_
            refine gx_thenN ?_
            exact ⟨false, selfA_i (by as_aux_lemma => kernel_rfl), (Option.some.inj hE69), hS56⟩
          ·refine gx_vA (.bool false) w55 (run_boolE (decide_eq_false h71) (by as_aux_lemma => kernel_rfl)) ?_
           refine gx_kA (.bool false) w55 (gx_oA (gx_oA (gx_kA (.bool false) w55 (gx_kA (.bool false) w55 (gx_oA (gx_kA (.bool false) w55 (gx_kA (.bool false) w55 ?_)))))))
           refine gx_nil ?_
           refine gx_thenN ?_
           exact ⟨false, selfA_i (by as_aux_lemma => kernel_rfl), (Option.some.inj hE69), hS56⟩
         ·rintro _ w64 ⟨b67, hq75, rfl, hS65⟩
          obtain ⟨u66, rfl⟩ := selfA_u hq75
          try dsimp only at hO70
          cases b67 with
          | true =>
           try dsimp only at hO70
           refine gx_yes (by as_aux_lemma => kernel_rfl) ?_
           refine gx_pass ?_
           refine gx_thenN ?_
           exact ⟨true, selfA_i (by as_aux_lemma => kernel_rfl), (Option.some.inj hO70), hS65⟩
          | false =>
           try dsimp only at hO70
           refine gx_no (by as_aux_lemma => kernel_rfl) ?_
           refine gx_region ?_
           refine gx_kA (.int .u8 x41) w64 ?_
           rcases if_in hO70 with ⟨h73, hO70⟩ | ⟨h73, hO70⟩
           ·refine gx_vA (.bool true) w64 (run_boolE (decide_eq_true h73) (by as_aux_lemma => kernel_rfl)) ?_
            refine gx_kA (.bool true) w64 (gx_kA (.bool true) w64 (gx_kA (.bool true) w64 (gx_kA (.bool true) w64 (gx_kA (.int .i64 p3) w64 ?_))))
            rcases if_in hO70 with ⟨h74, hO70⟩ | ⟨h74, hO70⟩
            ·refine gx_vA (.bool true) w64 (run_boolE (decide_eq_true h74) (by as_aux_lemma => kernel_rfl)) ?_
             refine gx_kA (.bool true) w64 (gx_kA (.bool true) w64 ?_)
             refine gx_nil ?_
             refine gx_thenN ?_
             exact ⟨true, selfA_i (by as_aux_lemma => kernel_rfl), (Option.some.inj hO70), hS65⟩
            ·refine gx_vA (.bool false) w64 (run_boolE (decide_eq_false h74) (by as_aux_lemma => kernel_rfl)) ?_
             refine gx_kA (.bool false) w64 (gx_kA (.bool false) w64 ?_)
             refine gx_nil ?_
             refine gx_thenN ?_
             exact ⟨false, selfA_i (by as_aux_lemma => kernel_rfl), (Option.some.inj hO70), hS65⟩
           ·refine gx_vA (.bool false) w64 (run_boolE (decide_eq_false h73) (by as_aux_lemma => kernel_rfl)) ?_
            refine gx_kA (.bool false) w64 (gx_oA (gx_kA (.bool false) w64 (gx_kA (.bool false) w64 (gx_oA (gx_oA (gx_kA (.bool false) w64 (gx_kA (.bool false) w64 ?_)))))))
            refine gx_nil ?_
            refine gx_thenN ?_
            exact ⟨false, selfA_i (by as_aux_lemma => kernel_rfl), (Option.some.inj hO70), hS65⟩
      ·rintro _ w48 ⟨b51, hq323, rfl, hS49⟩
       obtain ⟨u50, rfl⟩ := selfA_u hq323
       try dsimp only at hO54
       cases b51 with
       | true =>
        try dsimp only at hO54
        refine gx_yes (by as_aux_lemma => kernel_rfl) ?_
        refine gx_seq (fun K77 hK78 => ?_)
        refine gx_region ?_
        refine gx_kA (.int .i64 x29) w48 (gx_kA (.int .i64 x29) w48 ?_)
        refine gx_nil ?_
        refine gx_thenN ?_
        refine hK78 _ _ ?_
        refine gx_ret ?_
        refine gx_blkR ?_
        refine gx_thenR ?_
        refine gx_blkR ?_
        refine gx_thenR ?_
        refine gx_blkR ?_
        refine gx_thenR ?_
        obtain rfl := Option.some.inj hO54
        try dsimp only at hO19
        obtain rfl := Option.some.inj hO19
        exact gx_fin (.int .i64 x29) (by as_aux_lemma => kernel_rfl) (by as_aux_lemma => kernel_rfl) ⟨_, rfl, A23, c24, A26, c27, rfl, (hS49.pick [2, 0, 1] rfl rfl)⟩
       | false =>
        try dsimp only at hO54
        refine gx_no (by as_aux_lemma => kernel_rfl) ?_
        refine gx_seq (fun K79 hK80 => ?_)
        refine gx_region ?_
        refine gx_kA (.int .u8 x41) w48 ?_
        rcases if_in hO54 with ⟨h81, hO54⟩ | ⟨h81, hO54⟩
        ·refine gx_vA (.bool true) w48 (run_boolE (decide_eq_true h81) (by as_aux_lemma => kernel_rfl)) ?_
         refine gx_kA (.bool true) w48 ?_
         refine gx_nil ?_
         refine gx_thenN ?_
         refine hK80 _ _ ?_
         refine gx_yes (by as_aux_lemma => kernel_rfl) ?_
         refine gx_seq (fun K82 hK83 => ?_)
         refine gx_region ?_
         refine gx_kA (.pointer (some ⟨g0, 0, none⟩)) w48 (gx_kA (.int .i64 x29) w48 (gx_kA (.pointer (some ⟨g0, 0, none⟩)) w48 (gx_kA (.pointer (some ⟨g0, 0, none⟩)) w48 (gx_kA (.pointer (some ⟨g0, 1, none⟩)) w48 ?_))))
         refine gx_vA (.int .u8 p0_1) w48 (run_load1 rfl (by as_aux_lemma => kernel_rfl) (fun _ => by kernel_rfl) (hS49.box 2 rfl 1 rfl)) ?_
         refine gx_kA (.agg #[.int .u8 p0_1, .int .u8 0]) w48 ?_
         have hP84 : St _ _ w48 ([boxE g0 [.slice A0_0 p0_0.length c0_0, .int .u8 p0_1, .slice A23 l25.length c24, .slice A26 l28.length c27] 62, rowE .u8 5 A23 c24 l25, rowE .u8 34 A26 c27 l28] ++ [boxE w0.heap.size [.int .u8 p2_0, .int .u8 p2_1] 65]) := hS49.pick [2, 0, 1, 3] rfl rfl
         obtain ⟨⟨l86, l89⟩, hc85, hO54⟩ := bind_in hO54
         try dsimp only at hO54
         refine gx_cA (rStands_R p0_0 p0_1 l25 l28 x29 p0_1 (0 : Int) g0 A0_0 c0_0 A23 c24 A26 c27 (l86, l89) w48) (rStands_ok N p0_0 p0_1 l25 l28 x29 p0_1 (0 : Int) g0 A0_0 c0_0 A23 c24 A26 c27 _ hc85 w48 (hP84.vwA hv0_0) hP84.part) ?_
         rintro _ w92 ⟨A87, c88, A90, c91, rfl, hT94⟩
         have hS93 : St _ _ w92 [boxE w0.heap.size [.int .u8 p2_0, .int .u8 p2_1] 65, boxE g0 [.slice A0_0 p0_0.length c0_0, .int .u8 p0_1, .slice A87 l86.length c88, .slice A90 l89.length c91] 62, rowE .u8 5 A87 c88 l86, rowE .u8 34 A90 c91 l89] := hP84.lendN _ hT94
         refine gx_nil ?_
         refine gx_thenN ?_
         refine hK83 _ _ ?_
         refine gx_seq (fun K95 hK96 => ?_)
         refine gx_region ?_
         refine gx_kA (.int .i64 0) w92 ?_
         refine gx_nil ?_
         refine gx_thenN ?_
         refine hK96 _ _ ?_
         refine gx_region ?_
         refine gx_kA (.int .i64 0) w92 ?_
         refine gx_nil ?_
         refine gx_blkN ?_
         refine gx_thenN ?_
         refine hK47 _ _ ?_
         refine gx_region ?_
         refine gx_kA (.int .i64 x29) w92 (gx_kA (.int .i64 (IntKind.i64.wrap (x29 + 1))) w92 (gx_kA (.int .i64 (IntKind.i64.wrap (x29 + 1))) w92 ?_))
         refine gx_nil ?_
         refine gx_blkN ?_
         refine gx_thenN ?_
         exact ⟨k32, Nat.lt_succ_self k32, l86, l89, (IntKind.i64.wrap (x29 + 1)), 0, 0, A87, c88, A90, c91, selfA_i (by as_aux_lemma => kernel_rfl), hO54, (hS93.pick [2, 3, 1, 0] rfl rfl)⟩
        ·refine gx_vA (.bool false) w48 (run_boolE (decide_eq_false h81) (by as_aux_lemma => kernel_rfl)) ?_
         refine gx_kA (.bool false) w48 ?_
         refine gx_nil ?_
         refine gx_thenN ?_
         refine hK80 _ _ ?_
         refine gx_no (by as_aux_lemma => kernel_rfl) ?_
         refine gx_seq (fun K97 hK98 => ?_)
         refine gx_region ?_
         refine gx_kA (.int .u8 x41) w48 ?_
         rcases if_in hO54 with ⟨h99, hO54⟩ | ⟨h99, hO54⟩
         ·refine gx_vA (.bool true) w48 (run_boolE (decide_eq_true h99) (by as_aux_lemma => kernel_rfl)) ?_
          refine gx_kA (.bool true) w48 ?_
          refine gx_nil ?_
          refine gx_thenN ?_
          refine hK98 _ _ ?_
          refine gx_yes (by as_aux_lemma => kernel_rfl) ?_
          refine gx_seq (fun K100 hK101 => ?_)
          refine gx_region ?_
          refine gx_kA (.int .i64 x30) w48 (gx_kA (.int .i64 (IntKind.i64.wrap (x30 - 1))) w48 ?_)
          refine gx_vA (.int .i64 (if (0 : Int) < (IntKind.i64.wrap (x30 - 1)) then (IntKind.i64.wrap (x30 - 1)) else 0)) w48 (run_max2 rfl (by as_aux_lemma => kernel_rfl) (by as_aux_lemma => kernel_rfl)) ?_
          refine gx_kA (.int .i64 (if (0 : Int) < (IntKind.i64.wrap (x30 - 1)) then (IntKind.i64.wrap (x30 - 1)) else 0)) w48 ?_
          refine gx_nil ?_
          refine gx_thenN ?_
          refine hK101 _ _ ?_
          refine gx_region ?_
          refine gx_kA (.pointer (some ⟨g0, 0, none⟩)) w48 (gx_kA (.int .i64 x29) w48 ?_)
          refine gx_vA (.agg #[.int .u8 p2_0, .int .u8 p2_1]) w48 (run_loadG (d := _) rfl (by as_aux_lemma => kernel_rfl) (hS49.get 3 rfl) rfl rfl (by as_aux_lemma => kernel_rfl)) ?_
          have hP102 : St _ _ w48 ([boxE g0 [.slice A0_0 p0_0.length c0_0, .int .u8 p0_1, .slice A23 l25.length c24, .slice A26 l28.length c27] 62, rowE .u8 5 A23 c24 l25, rowE .u8 34 A26 c27 l28] ++ [boxE w0.heap.size [.int .u8 p2_0, .int .u8 p2_1] 65]) := hS49.pick [2, 0, 1, 3] rfl rfl
          obtain ⟨⟨l104, l107⟩, hc103, hO54⟩ := bind_in hO54
          try dsimp only at hO54
          refine gx_cA (rStands_R p0_0 p0_1 l25 l28 x29 p2_0 p2_1 g0 A0_0 c0_0 A23 c24 A26 c27 (l104, l107) w48) (rStands_ok N p0_0 p0_1 l25 l28 x29 p2_0 p2_1 g0 A0_0 c0_0 A23 c24 A26 c27 _ hc103 w48 (hP102.vwA hv0_0) hP102.part) ?_
          rintro _ w110 ⟨A105, c106, A108, c109, rfl, hT112⟩
          have hS111 : St _ _ w110 [boxE w0.heap.size [.int .u8 p2_0, .int .u8 p2_1] 65, boxE g0 [.slice A0_0 p0_0.length c0_0, .int .u8 p0_1, .slice A105 l104.length c106, .slice A108 l107.length c109] 62, rowE .u8 5 A105 c106 l104, rowE .u8 34 A108 c109 l107] := hP102.lendN _ hT112
          refine gx_nil ?_
          refine gx_blkN ?_
          refine gx_thenN ?_
          refine hK47 _ _ ?_
          refine gx_region ?_
          refine gx_kA (.int .i64 x29) w110 (gx_kA (.int .i64 (IntKind.i64.wrap (x29 + 1))) w110 (gx_kA (.int .i64 (IntKind.i64.wrap (x29 + 1))) w110 ?_))
          refine gx_nil ?_
          refine gx_blkN ?_
          refine gx_thenN ?_
          exact ⟨k32, Nat.lt_succ_self k32, l104, l107, (IntKind.i64.wrap (x29 + 1)), (if (0 : Int) < (IntKind.i64.wrap (x30 - 1)) then (IntKind.i64.wrap (x30 - 1)) else 0), x31, A105, c106, A108, c109, selfA_i (by as_aux_lemma => kernel_rfl), hO54, (hS111.pick [2, 3, 1, 0] rfl rfl)⟩
         ·refine gx_vA (.bool false) w48 (run_boolE (decide_eq_false h99) (by as_aux_lemma => kernel_rfl)) ?_
          refine gx_kA (.bool false) w48 ?_
          refine gx_nil ?_
          refine gx_thenN ?_
          refine hK98 _ _ ?_
          refine gx_no (by as_aux_lemma => kernel_rfl) ?_
          refine gx_seq (fun K113 hK114 => ?_)
          refine gx_region ?_
          refine gx_kA (.int .u8 x41) w48 ?_
          rcases if_in hO54 with ⟨h115, hO54⟩ | ⟨h115, hO54⟩
          ·refine gx_vA (.bool true) w48 (run_boolE (decide_eq_true h115) (by as_aux_lemma => kernel_rfl)) ?_
           refine gx_kA (.bool true) w48 ?_
           refine gx_nil ?_
           refine gx_thenN ?_
           refine hK114 _ _ ?_
           refine gx_yes (by as_aux_lemma => kernel_rfl) ?_
           refine gx_seq (fun K116 hK117 => ?_)
           refine gx_region ?_
           refine gx_kA (.int .i64 x30) w48 ?_
           rcases if_in hO54 with ⟨h118, hO54⟩ | ⟨h118, hO54⟩
           ·refine gx_vA (.bool true) w48 (run_boolE (decide_eq_true h118) (by as_aux_lemma => kernel_rfl)) ?_
            refine gx_nil ?_
            refine gx_thenN ?_
            refine hK117 _ _ ?_
            refine gx_yes (by as_aux_lemma => kernel_rfl) ?_
            refine gx_region ?_
            refine gx_kA (.int .i64 x31) w48 (gx_kA (.int .i64 (IntKind.i64.wrap (x31 - 1))) w48 ?_)
            refine gx_vA (.int .i64 (if (0 : Int) < (IntKind.i64.wrap (x31 - 1)) then (IntKind.i64.wrap (x31 - 1)) else 0)) w48 (run_max2 rfl (by as_aux_lemma => kernel_rfl) (by as_aux_lemma => kernel_rfl)) ?_
            refine gx_kA (.int .i64 (if (0 : Int) < (IntKind.i64.wrap (x31 - 1)) then (IntKind.i64.wrap (x31 - 1)) else 0)) w48 ?_
            refine gx_nil ?_
            refine gx_blkN ?_
            refine gx_thenN ?_
            refine hK47 _ _ ?_
            refine gx_region ?_
            refine gx_kA (.int .i64 x29) w48 (gx_kA (.int .i64 (IntKind.i64.wrap (x29 + 1))) w48 (gx_kA (.int .i64 (IntKind.i64.wrap (x29 + 1))) w48 ?_))
            refine gx_nil ?_
            refine gx_blkN ?_
            refine gx_thenN ?_
            exact ⟨k32, Nat.lt_succ_self k32, l25, l28, (IntKind.i64.wrap (x29 + 1)), x30, (if (0 : Int) < (IntKind.i64.wrap (x31 - 1)) then (IntKind.i64.wrap (x31 - 1)) else 0), A23, c24, A26, c27, selfA_i (by as_aux_lemma => kernel_rfl), hO54, hS49⟩
           ·refine gx_vA (.bool false) w48 (run_boolE (decide_eq_false h118) (by as_aux_lemma => kernel_rfl)) ?_
            refine gx_nil ?_
            refine gx_thenN ?_
            refine hK117 _ _ ?_
            refine gx_no (by as_aux_lemma => kernel_rfl) ?_
            refine gx_pass ?_
            refine gx_blkN ?_
            refine gx_thenN ?_
            refine hK47 _ _ ?_
            refine gx_region ?_
            refine gx_kA (.int .i64 x29) w48 (gx_kA (.int .i64 (IntKind.i64.wrap (x29 + 1))) w48 (gx_kA (.int .i64 (IntKind.i64.wrap (x29 + 1))) w48 ?_))
            refine gx_nil ?_
            refine gx_blkN ?_
            refine gx_thenN ?_
            exact ⟨k32, Nat.lt_succ_self k32, l25, l28, (IntKind.i64.wrap (x29 + 1)), x30, x31, A23, c24, A26, c27, selfA_i (by as_aux_lemma => kernel_rfl), hO54, hS49⟩
          ·refine gx_vA (.bool false) w48 (run_boolE (decide_eq_false h115) (by as_aux_lemma => kernel_rfl)) ?_
           refine gx_kA (.bool false) w48 ?_
           refine gx_nil ?_
           refine gx_thenN ?_
           refine hK114 _ _ ?_
           refine gx_no (by as_aux_lemma => kernel_rfl) ?_
           refine gx_seq (fun K119 hK120 => ?_)
           refine gx_region ?_
           refine gx_kA (.int .u8 x41) w48 ?_
           have hP121 : St _ _ w48 ([] ++ [rowE .u8 5 A23 c24 l25, rowE .u8 34 A26 c27 l28, boxE g0 [.slice A0_0 p0_0.length c0_0, .int .u8 p0_1, .slice A23 l25.length c24, .slice A26 l28.length c27] 62, boxE w0.heap.size [.int .u8 p2_0, .int .u8 p2_1] 65]) := hS49
           obtain ⟨b123, hc122, hO54⟩ := bind_in hO54
           try dsimp only at hO54
           refine gx_cA (rInit_R b123 w48) (rInit_ok N x41 _ hc122 w48 ) ?_
           rintro _ w124 ⟨rfl, hT126⟩
           have hS125 : St _ _ w124 [rowE .u8 5 A23 c24 l25, rowE .u8 34 A26 c27 l28, boxE g0 [.slice A0_0 p0_0.length c0_0, .int .u8 p0_1, .slice A23 l25.length c24, .slice A26 l28.length c27] 62, boxE w0.heap.size [.int .u8 p2_0, .int .u8 p2_1] 65] := hS49.take _ hT126
           refine gx_kA (.bool b123) w124 ?_
           refine gx_nil ?_
           refine gx_thenN ?_
           refine hK120 _ _ ?_
           cases b123 with
           | true =>
            try dsimp only at hO54
            refine gx_yes (by as_aux_lemma => kernel_rfl) ?_
            refine gx_seq (fun K127 hK128 => ?_)
            refine gx_region ?_
            refine gx_kA (.pointer (some ⟨g0, 0, none⟩)) w124 (gx_kA (.int .i64 x29) w124 ?_)
            refine gx_vA (.agg #[.int .u8 p2_0, .int .u8 p2_1]) w124 (run_loadG (d := _) rfl (by as_aux_lemma => kernel_rfl) (hS125.get 3 rfl) rfl rfl (by as_aux_lemma => kernel_rfl)) ?_
            have hP129 : St _ _ w124 ([boxE g0 [.slice A0_0 p0_0.length c0_0, .int .u8 p0_1, .slice A23 l25.length c24, .slice A26 l28.length c27] 62, rowE .u8 5 A23 c24 l25, rowE .u8 34 A26 c27 l28] ++ [boxE w0.heap.size [.int .u8 p2_0, .int .u8 p2_1] 65]) := hS125.pick [2, 0, 1, 3] rfl rfl
            obtain ⟨⟨l131, l134⟩, hc130, hO54⟩ := bind_in hO54
            try dsimp only at hO54
            refine gx_cA (rStands_R p0_0 p0_1 l25 l28 x29 p2_0 p2_1 g0 A0_0 c0_0 A23 c24 A26 c27 (l131, l134) w124) (rStands_ok N p0_0 p0_1 l25 l28 x29 p2_0 p2_1 g0 A0_0 c0_0 A23 c24 A26 c27 _ hc130 w124 (hP129.vwA hv0_0) hP129.part) ?_
            rintro _ w137 ⟨A132, c133, A135, c136, rfl, hT139⟩
            have hS138 : St _ _ w137 [boxE w0.heap.size [.int .u8 p2_0, .int .u8 p2_1] 65, boxE g0 [.slice A0_0 p0_0.length c0_0, .int .u8 p0_1, .slice A132 l131.length c133, .slice A135 l134.length c136] 62, rowE .u8 5 A132 c133 l131, rowE .u8 34 A135 c136 l134] := hP129.lendN _ hT139
            refine gx_nil ?_
            refine gx_thenN ?_
            refine hK128 _ _ ?_
            obtain ⟨c144, hE145, hO146⟩ := bind_in hO54
            refine gx_cut (fun a w => ∃ (x143 : Int), selfA (fun u142 => ⟨((.pointer (some ⟨g0, 0, none⟩)) :: (.int .i64 x29) :: (u22 2) :: (.int .i64 p3) :: (.bool p4) :: undef :: undef :: (.pointer (some ⟨w0.heap.size, 0, none⟩)) :: undef :: undef :: (u22 10) :: (.int .i64 x30) :: (.int .i64 x31) :: (.int .u8 x41) :: (.bool true) :: (.int .u8 x143) :: (u22 16) :: (.int .i64 x29) :: (.pointer (some ⟨g0, 0, none⟩)) :: (.pointer (some ⟨g0, 0, none⟩)) :: (.pointer (some ⟨g0, 0, none⟩)) :: (u50 21) :: (.int .i64 ((p0_0.length : Nat) : Int)) :: (.bool true) :: (.pointer (some ⟨g0, 0, none⟩)) :: (.pointer (some ⟨g0, 0, none⟩)) :: (.pointer (some ⟨g0, 0, none⟩)) :: (u50 27) :: (.int .i64 x29) :: (.pointer (Option.map (fun (p : Addr) => p.add (Int.toNat x29 * 1)) A0_0)) :: (.int .u8 x41) :: (.int .i64 x30) :: (.int .i64 x31) :: (.int .i64 (IntKind.i64.wrap (x30 + x31))) :: (.bool true) :: (.bool false) :: dd u50 36 24 ((u22 60) :: (.bool false) :: (.int .u8 x41) :: (.bool false) :: dd u22 64 8 ((.bool false) :: (.int .u8 x41) :: (.bool false) :: dd u22 75 7 ((.bool false) :: (.int .u8 x41) :: (.bool false) :: dd u22 85 5 ((.bool true) :: (.int .u8 x41) :: (.bool true) :: (.pointer (some ⟨g0, 0, none⟩)) :: (.int .i64 x29) :: dd u142 95 19 (dd u22 114 99 (undef :: []))))))).toArray, []⟩) a ∧ x143 = c144 ∧ St (foots [boxE g0 [.slice A0_0 p0_0.length c0_0, .int .u8 p0_1, .slice A0_2 p0_2.length c0_2, .slice A0_3 p0_3.length c0_3] 62, rowE .u8 5 A0_2 c0_2 p0_2, rowE .u8 34 A0_3 c0_3 p0_3]) w0 w [boxE w0.heap.size [.int .u8 p2_0, .int .u8 p2_1] 65, rowE .u8 5 A132 c133 l131, rowE .u8 34 A135 c136 l134, boxE g0 [.slice A0_0 p0_0.length c0_0, .int .u8 p0_1, .slice A132 l131.length c133, .slice A135 l134.length c136] 62]) ?_ ?_
            ·refine gd_start (fun w => St (foots [boxE g0 [.slice A0_0 p0_0.length c0_0, .int .u8 p0_1, .slice A0_2 p0_2.length c0_2, .slice A0_3 p0_3.length c0_3] 62, rowE .u8 5 A0_2 c0_2 p0_2, rowE .u8 34 A0_3 c0_3 p0_3]) w0 w [boxE w0.heap.size [.int .u8 p2_0, .int .u8 p2_1] 65, boxE g0 [.slice A0_0 p0_0.length c0_0, .int .u8 p0_1, .slice A132 l131.length c133, .slice A135 l134.length c136] 62, rowE .u8 5 A132 c133 l131, rowE .u8 34 A135 c136 l134]) 18 #[false, false, false, false, false, false, false, false, false, false, false, false, false, false, false, false, false, false] (by as_aux_lemma => kernel_rfl) (by as_aux_lemma => kernel_rfl) ?_
             have hS148 := hS138.drew
             generalize w137.drew = w147 at hS148 ⊢
             refine gd1 0 { dst := some 97, op := _, type := _, pos := _, after := _, guard := _ } (.agg #[.int .u8 p2_0, .int .u8 p2_1]) rfl hS148 (fun w hSw => run_loadG (d := _) rfl (by as_aux_lemma => kernel_rfl) (hSw.get 0 rfl) rfl rfl (by as_aux_lemma => kernel_rfl)) ?_
             refine gd1 1 { dst := some 98, op := _, type := _, pos := _, after := _, guard := _ } (.int .u8 x41) rfl hS148 (fun w hSw => by kernel_rfl) ?_
             rcases if_in hE145 with ⟨h149, hE145⟩ | ⟨h149, hE145⟩
             ·refine gd1 2 { dst := some 99, op := _, type := _, pos := _, after := _, guard := _ } (.bool true) rfl hS148 (fun w hSw => run_boolE (decide_eq_true h149) (by as_aux_lemma => kernel_rfl)) ?_
              refine gd1 3 { dst := some 100, op := _, type := _, pos := _, after := _, guard := _ } (.bool true) rfl hS148 (fun w hSw => by kernel_rfl) ?_
              refine gd0 4 { dst := some 101, op := _, type := _, pos := _, after := _, guard := _ } rfl hS148 ?_
              refine gd0 5 { dst := some 102, op := _, type := _, pos := _, after := _, guard := _ } rfl hS148 ?_
              refine gd0 6 { dst := some 103, op := _, type := _, pos := _, after := _, guard := _ } rfl hS148 ?_
              refine gd0 7 { dst := some 104, op := _, type := _, pos := _, after := _, guard := _ } rfl hS148 ?_
              refine gd0 8 { dst := some 105, op := _, type := _, pos := _, after := _, guard := _ } rfl hS148 ?_
              refine gd0 9 { dst := some 106, op := _, type := _, pos := _, after := _, guard := _ } rfl hS148 ?_
              refine gd0 10 { dst := some 107, op := _, type := _, pos := _, after := _, guard := _ } rfl hS148 ?_
              refine gd0 11 { dst := some 108, op := _, type := _, pos := _, after := _, guard := _ } rfl hS148 ?_
              refine gd0 12 { dst := some 109, op := _, type := _, pos := _, after := _, guard := _ } rfl hS148 ?_
              refine gd0 13 { dst := some 110, op := _, type := _, pos := _, after := _, guard := _ } rfl hS148 ?_
              refine gd0 14 { dst := some 111, op := _, type := _, pos := _, after := _, guard := _ } rfl hS148 ?_
              refine gd1 15 { dst := some 112, op := _, type := _, pos := _, after := _, guard := _ } (.bool true) rfl hS148 (fun w hSw => by kernel_rfl) ?_
              have hP150 : St _ _ w147 ([] ++ [boxE w0.heap.size [.int .u8 p2_0, .int .u8 p2_1] 65, boxE g0 [.slice A0_0 p0_0.length c0_0, .int .u8 p0_1, .slice A132 l131.length c133, .slice A135 l134.length c136] 62, rowE .u8 5 A132 c133 l131, rowE .u8 34 A135 c136 l134]) := hS148
              obtain ⟨x152, hc151, hE145⟩ := bind_in hE145
              try dsimp only at hE145
              refine gdC 16 { dst := some 113, op := _, type := _, pos := _, after := _, guard := _ } (rNext_R x152 w147) rfl (by as_aux_lemma => kernel_rfl) (rNext_ok N p2_0 p2_1 true _ hc151 w147 ) ?_
              rintro _ w153 ⟨rfl, hT155⟩
              have hS154 : St _ _ w153 [boxE w0.heap.size [.int .u8 p2_0, .int .u8 p2_1] 65, boxE g0 [.slice A0_0 p0_0.length c0_0, .int .u8 p0_1, .slice A132 l131.length c133, .slice A135 l134.length c136] 62, rowE .u8 5 A132 c133 l131, rowE .u8 34 A135 c136 l134] := hS148.take _ hT155
              refine ⟨hS154, ?_⟩
              refine gd1 17 { dst := some 15, op := _, type := _, pos := _, after := _, guard := _ } (.int .u8 x152) rfl hS154 (fun w hSw => by kernel_rfl) ?_
              refine gd_done (by as_aux_lemma => kernel_rfl) ?_
              refine gx_thenN ?_
              exact ⟨x152, selfA_i (by as_aux_lemma => kernel_rfl), (Option.some.inj hE145), (hS154.pick [0, 2, 3, 1] rfl rfl)⟩
             ·refine gd1 2 { dst := some 99, op := _, type := _, pos := _, after := _, guard := _ } (.bool false) rfl hS148 (fun w hSw => run_boolE (decide_eq_false h149) (by as_aux_lemma => kernel_rfl)) ?_
              refine gd1 3 { dst := some 100, op := _, type := _, pos := _, after := _, guard := _ } (.bool false) rfl hS148 (fun w hSw => by kernel_rfl) ?_
              refine gd1 4 { dst := some 101, op := _, type := _, pos := _, after := _, guard := _ } (.int .u8 x41) rfl hS148 (fun w hSw => by kernel_rfl) ?_
              rcases if_in hE145 with ⟨h156, hE145⟩ | ⟨h156, hE145⟩
              ·refine gd1 5 { dst := some 102, op := _, type := _, pos := _, after := _, guard := _ } (.bool true) rfl hS148 (fun w hSw => run_boolE (decide_eq_true h156) (by as_aux_lemma => kernel_rfl)) ?_
               refine gd1 6 { dst := some 103, op := _, type := _, pos := _, after := _, guard := _ } (.bool true) rfl hS148 (fun w hSw => by kernel_rfl) ?_
               refine gd1 7 { dst := some 104, op := _, type := _, pos := _, after := _, guard := _ } (.pointer (some ⟨g0, 0, none⟩)) rfl hS148 (fun w hSw => by kernel_rfl) ?_
               refine gd1 8 { dst := some 105, op := _, type := _, pos := _, after := _, guard := _ } (.pointer (some ⟨g0, 0, none⟩)) rfl hS148 (fun w hSw => by kernel_rfl) ?_
               refine gd1 9 { dst := some 106, op := _, type := _, pos := _, after := _, guard := _ } (.pointer (some ⟨g0, 0, none⟩)) rfl hS148 (fun w hSw => by kernel_rfl) ?_
               refine gd1 10 { dst := some 107, op := _, type := _, pos := _, after := _, guard := _ } (.slice A0_0 p0_0.length c0_0) rfl hS148 (fun w hSw => run_load1 rfl (by as_aux_lemma => kernel_rfl) (fun _ => by kernel_rfl) (hSw.box 1 rfl 0 rfl)) ?_
               refine gd1 11 { dst := some 108, op := _, type := _, pos := _, after := _, guard := _ } (.int .i64 x29) rfl hS148 (fun w hSw => by kernel_rfl) ?_
               refine gd1 12 { dst := some 109, op := _, type := _, pos := _, after := _, guard := _ } (.int .i64 (IntKind.i64.wrap (x29 + 1))) rfl hS148 (fun w hSw => by kernel_rfl) ?_
               have hP157 : St _ _ w147 ([] ++ [boxE w0.heap.size [.int .u8 p2_0, .int .u8 p2_1] 65, boxE g0 [.slice A0_0 p0_0.length c0_0, .int .u8 p0_1, .slice A132 l131.length c133, .slice A135 l134.length c136] 62, rowE .u8 5 A132 c133 l131, rowE .u8 34 A135 c136 l134]) := hS148
               obtain ⟨b159, hc158, hE145⟩ := bind_in hE145
               try dsimp only at hE145
               refine gdC 13 { dst := some 110, op := _, type := _, pos := _, after := _, guard := _ } (rRight_R b159 w147) rfl (by as_aux_lemma => kernel_rfl) (rRight_ok N p0_0 (IntKind.i64.wrap (x29 + 1)) true A0_0 c0_0 _ hc158 w147 (hP157.vwA hv0_0)) ?_
               rintro _ w160 ⟨rfl, hT162⟩
               have hS161 : St _ _ w160 [boxE w0.heap.size [.int .u8 p2_0, .int .u8 p2_1] 65, boxE g0 [.slice A0_0 p0_0.length c0_0, .int .u8 p0_1, .slice A132 l131.length c133, .slice A135 l134.length c136] 62, rowE .u8 5 A132 c133 l131, rowE .u8 34 A135 c136 l134] := hS148.take _ hT162
               refine ⟨hS161, ?_⟩
               refine gd1 14 { dst := some 111, op := _, type := _, pos := _, after := _, guard := _ } (.bool b159) rfl hS161 (fun w hSw => by kernel_rfl) ?_
               refine gd1 15 { dst := some 112, op := _, type := _, pos := _, after := _, guard := _ } (.bool b159) rfl hS161 (fun w hSw => by kernel_rfl) ?_
               have hP163 : St _ _ w160 ([] ++ [boxE w0.heap.size [.int .u8 p2_0, .int .u8 p2_1] 65, boxE g0 [.slice A0_0 p0_0.length c0_0, .int .u8 p0_1, .slice A132 l131.length c133, .slice A135 l134.length c136] 62, rowE .u8 5 A132 c133 l131, rowE .u8 34 A135 c136 l134]) := hS161
               obtain ⟨x165, hc164, hE145⟩ := bind_in hE145
               try dsimp only at hE145
               refine gdC 16 { dst := some 113, op := _, type := _, pos := _, after := _, guard := _ } (rNext_R x165 w160) rfl (by as_aux_lemma => kernel_rfl) (rNext_ok N p2_0 p2_1 b159 _ hc164 w160 ) ?_
               rintro _ w166 ⟨rfl, hT168⟩
               have hS167 : St _ _ w166 [boxE w0.heap.size [.int .u8 p2_0, .int .u8 p2_1] 65, boxE g0 [.slice A0_0 p0_0.length c0_0, .int .u8 p0_1, .slice A132 l131.length c133, .slice A135 l134.length c136] 62, rowE .u8 5 A132 c133 l131, rowE .u8 34 A135 c136 l134] := hS161.take _ hT168
               refine ⟨hS167, ?_⟩
               refine gd1 17 { dst := some 15, op := _, type := _, pos := _, after := _, guard := _ } (.int .u8 x165) rfl hS167 (fun w hSw => by kernel_rfl) ?_
               refine gd_done (by as_aux_lemma => kernel_rfl) ?_
               refine gx_thenN ?_
               exact ⟨x165, selfA_i (by as_aux_lemma => kernel_rfl), (Option.some.inj hE145), (hS167.pick [0, 2, 3, 1] rfl rfl)⟩
              ·refine gd1 5 { dst := some 102, op := _, type := _, pos := _, after := _, guard := _ } (.bool false) rfl hS148 (fun w hSw => run_boolE (decide_eq_false h156) (by as_aux_lemma => kernel_rfl)) ?_
               refine gd1 6 { dst := some 103, op := _, type := _, pos := _, after := _, guard := _ } (.bool false) rfl hS148 (fun w hSw => by kernel_rfl) ?_
               refine gd0 7 { dst := some 104, op := _, type := _, pos := _, after := _, guard := _ } rfl hS148 ?_
               refine gd0 8 { dst := some 105, op := _, type := _, pos := _, after := _, guard := _ } rfl hS148 ?_
               refine gd0 9 { dst := some 106, op := _, type := _, pos := _, after := _, guard := _ } rfl hS148 ?_
               refine gd0 10 { dst := some 107, op := _, type := _, pos := _, after := _, guard := _ } rfl hS148 ?_
               refine gd0 11 { dst := some 108, op := _, type := _, pos := _, after := _, guard := _ } rfl hS148 ?_
               refine gd0 12 { dst := some 109, op := _, type := _, pos := _, after := _, guard := _ } rfl hS148 ?_
               refine gd0 13 { dst := some 110, op := _, type := _, pos := _, after := _, guard := _ } rfl hS148 ?_
               refine gd1 14 { dst := some 111, op := _, type := _, pos := _, after := _, guard := _ } (.bool false) rfl hS148 (fun w hSw => by kernel_rfl) ?_
               refine gd1 15 { dst := some 112, op := _, type := _, pos := _, after := _, guard := _ } (.bool false) rfl hS148 (fun w hSw => by kernel_rfl) ?_
               have hP169 : St _ _ w147 ([] ++ [boxE w0.heap.size [.int .u8 p2_0, .int .u8 p2_1] 65, boxE g0 [.slice A0_0 p0_0.length c0_0, .int .u8 p0_1, .slice A132 l131.length c133, .slice A135 l134.length c136] 62, rowE .u8 5 A132 c133 l131, rowE .u8 34 A135 c136 l134]) := hS148
               obtain ⟨x171, hc170, hE145⟩ := bind_in hE145
               try dsimp only at hE145
               refine gdC 16 { dst := some 113, op := _, type := _, pos := _, after := _, guard := _ } (rNext_R x171 w147) rfl (by as_aux_lemma => kernel_rfl) (rNext_ok N p2_0 p2_1 false _ hc170 w147 ) ?_
               rintro _ w172 ⟨rfl, hT174⟩
               have hS173 : St _ _ w172 [boxE w0.heap.size [.int .u8 p2_0, .int .u8 p2_1] 65, boxE g0 [.slice A0_0 p0_0.length c0_0, .int .u8 p0_1, .slice A132 l131.length c133, .slice A135 l134.length c136] 62, rowE .u8 5 A132 c133 l131, rowE .u8 34 A135 c136 l134] := hS148.take _ hT174
               refine ⟨hS173, ?_⟩
               refine gd1 17 { dst := some 15, op := _, type := _, pos := _, after := _, guard := _ } (.int .u8 x171) rfl hS173 (fun w hSw => by kernel_rfl) ?_
               refine gd_done (by as_aux_lemma => kernel_rfl) ?_
               refine gx_thenN ?_
               exact ⟨x171, selfA_i (by as_aux_lemma => kernel_rfl), (Option.some.inj hE145), (hS173.pick [0, 2, 3, 1] rfl rfl)⟩
            ·rintro _ w140 ⟨x143, hq227, rfl, hS141⟩
             obtain ⟨u142, rfl⟩ := selfA_u hq227
             try dsimp only at hO146
             refine gx_seq (fun K175 hK176 => ?_)
             obtain ⟨c181, hE182, hO183⟩ := bind_in hO146
             refine gx_cut (fun a w => ∃ (b180 : Bool), selfA (fun u179 => ⟨((.pointer (some ⟨g0, 0, none⟩)) :: (.int .i64 x29) :: (u22 2) :: (.int .i64 p3) :: (.bool p4) :: undef :: undef :: (.pointer (some ⟨w0.heap.size, 0, none⟩)) :: undef :: undef :: (u22 10) :: (.int .i64 x30) :: (.int .i64 x31) :: (.int .u8 x41) :: (.bool true) :: (.int .u8 x143) :: (u22 16) :: (.int .i64 x29) :: (.pointer (some ⟨g0, 0, none⟩)) :: (.pointer (some ⟨g0, 0, none⟩)) :: (.pointer (some ⟨g0, 0, none⟩)) :: (u50 21) :: (.int .i64 ((p0_0.length : Nat) : Int)) :: (.bool true) :: (.pointer (some ⟨g0, 0, none⟩)) :: (.pointer (some ⟨g0, 0, none⟩)) :: (.pointer (some ⟨g0, 0, none⟩)) :: (u50 27) :: (.int .i64 x29) :: (.pointer (Option.map (fun (p : Addr) => p.add (Int.toNat x29 * 1)) A0_0)) :: (.int .u8 x41) :: (.int .i64 x30) :: (.int .i64 x31) :: (.int .i64 (IntKind.i64.wrap (x30 + x31))) :: (.bool true) :: (.bool false) :: dd u50 36 24 ((u22 60) :: (.bool false) :: (.int .u8 x41) :: (.bool false) :: dd u22 64 8 ((.bool false) :: (.int .u8 x41) :: (.bool false) :: dd u22 75 7 ((.bool false) :: (.int .u8 x41) :: (.bool false) :: dd u22 85 5 ((.bool true) :: (.int .u8 x41) :: (.bool true) :: (.pointer (some ⟨g0, 0, none⟩)) :: (.int .i64 x29) :: dd u142 95 19 (dd u179 114 4 ((.bool b180) :: dd u22 119 94 (undef :: [])))))))).toArray, []⟩) a ∧ b180 = c181 ∧ St (foots [boxE g0 [.slice A0_0 p0_0.length c0_0, .int .u8 p0_1, .slice A0_2 p0_2.length c0_2, .slice A0_3 p0_3.length c0_3] 62, rowE .u8 5 A0_2 c0_2 p0_2, rowE .u8 34 A0_3 c0_3 p0_3]) w0 w [boxE w0.heap.size [.int .u8 p2_0, .int .u8 p2_1] 65, rowE .u8 5 A132 c133 l131, rowE .u8 34 A135 c136 l134, boxE g0 [.slice A0_0 p0_0.length c0_0, .int .u8 p0_1, .slice A132 l131.length c133, .slice A135 l134.length c136] 62]) ?_ ?_
             ·refine gx_region ?_
              refine gx_kA (.bool true) w140 (gx_kA (.bool true) w140 (gx_kA (.int .u8 x143) w140 ?_))
              rcases if_in hE182 with ⟨h184, hE182⟩ | ⟨h184, hE182⟩
              ·refine gx_vA (.bool true) w140 (run_boolE (decide_eq_true h184) (by as_aux_lemma => kernel_rfl)) ?_
               refine gx_kA (.bool true) w140 ?_
               refine gx_nil ?_
               refine gx_thenN ?_
               exact ⟨true, selfA_i (by as_aux_lemma => kernel_rfl), (Option.some.inj hE182), hS141⟩
              ·refine gx_vA (.bool false) w140 (run_boolE (decide_eq_false h184) (by as_aux_lemma => kernel_rfl)) ?_
               refine gx_kA (.bool false) w140 ?_
               refine gx_nil ?_
               refine gx_thenN ?_
               exact ⟨false, selfA_i (by as_aux_lemma => kernel_rfl), (Option.some.inj hE182), hS141⟩
             ·rintro _ w177 ⟨b180, hq226, rfl, hS178⟩
              obtain ⟨u179, rfl⟩ := selfA_u hq226
              try dsimp only at hO183
              cases b180 with
              | true =>
               try dsimp only at hO183
               refine gx_yes (by as_aux_lemma => kernel_rfl) ?_
               refine gx_seq (fun K185 hK186 => ?_)
               refine gx_region ?_
               refine gx_kA (.pointer (some ⟨g0, 0, none⟩)) w177 (gx_kA (.int .i64 x29) w177 (gx_kA (.int .i64 (IntKind.i64.wrap (x29 + 1))) w177 (gx_kA (.int .u8 x143) w177 (gx_kA (.agg #[.int .u8 x143, .int .u8 0]) w177 ?_))))
               have hP187 : St _ _ w177 ([boxE g0 [.slice A0_0 p0_0.length c0_0, .int .u8 p0_1, .slice A132 l131.length c133, .slice A135 l134.length c136] 62, rowE .u8 5 A132 c133 l131, rowE .u8 34 A135 c136 l134] ++ [boxE w0.heap.size [.int .u8 p2_0, .int .u8 p2_1] 65]) := hS178.pick [3, 1, 2, 0] rfl rfl
               obtain ⟨⟨x195, l189, l192⟩, hc188, hO183⟩ := bind_in hO183
               try dsimp only at hO183
               refine gx_cA (rWithin_R p0_0 p0_1 l131 l134 (IntKind.i64.wrap (x29 + 1)) x143 (0 : Int) (2 : Int) true g0 A0_0 c0_0 A132 c133 A135 c136 (x195, l189, l192) w177) (hself p0_0 p0_1 l131 l134 (IntKind.i64.wrap (x29 + 1)) x143 (0 : Int) (2 : Int) true g0 A0_0 c0_0 A132 c133 A135 c136 _ hc188 w177 (hP187.vwA hv0_0) hP187.part) ?_
               rintro _ w196 ⟨A190, c191, A193, c194, rfl, hT198⟩
               have hS197 : St _ _ w196 [boxE w0.heap.size [.int .u8 p2_0, .int .u8 p2_1] 65, boxE g0 [.slice A0_0 p0_0.length c0_0, .int .u8 p0_1, .slice A190 l189.length c191, .slice A193 l192.length c194] 62, rowE .u8 5 A190 c191 l189, rowE .u8 34 A193 c194 l192] := hP187.lendN _ hT198
               refine gx_kA (.int .i64 x195) w196 ?_
               refine gx_nil ?_
               refine gx_thenN ?_
               refine hK186 _ _ ?_
               refine gx_seq (fun K199 hK200 => ?_)
               obtain ⟨c205, hE206, hO207⟩ := bind_in hO183
               refine gx_cut (fun a w => ∃ (b204 : Bool), selfA (fun u203 => ⟨((.pointer (some ⟨g0, 0, none⟩)) :: (.int .i64 x195) :: (u22 2) :: (.int .i64 p3) :: (.bool p4) :: undef :: undef :: (.pointer (some ⟨w0.heap.size, 0, none⟩)) :: undef :: undef :: (u22 10) :: (.int .i64 x30) :: (.int .i64 x31) :: (.int .u8 x41) :: (.bool true) :: (.int .u8 x143) :: (u22 16) :: (.int .i64 x29) :: (.pointer (some ⟨g0, 0, none⟩)) :: (.pointer (some ⟨g0, 0, none⟩)) :: (.pointer (some ⟨g0, 0, none⟩)) :: (u50 21) :: (.int .i64 ((p0_0.length : Nat) : Int)) :: (.bool true) :: (.pointer (some ⟨g0, 0, none⟩)) :: (.pointer (some ⟨g0, 0, none⟩)) :: (.pointer (some ⟨g0, 0, none⟩)) :: (u50 27) :: (.int .i64 x29) :: (.pointer (Option.map (fun (p : Addr) => p.add (Int.toNat x29 * 1)) A0_0)) :: (.int .u8 x41) :: (.int .i64 x30) :: (.int .i64 x31) :: (.int .i64 (IntKind.i64.wrap (x30 + x31))) :: (.bool true) :: (.bool false) :: dd u50 36 24 ((u22 60) :: (.bool false) :: (.int .u8 x41) :: (.bool false) :: dd u22 64 8 ((.bool false) :: (.int .u8 x41) :: (.bool false) :: dd u22 75 7 ((.bool false) :: (.int .u8 x41) :: (.bool false) :: dd u22 85 5 ((.bool true) :: (.int .u8 x41) :: (.bool true) :: (.pointer (some ⟨g0, 0, none⟩)) :: (.int .i64 x29) :: dd u142 95 19 (dd u179 114 4 ((.bool true) :: (.pointer (some ⟨g0, 0, none⟩)) :: (.int .i64 x29) :: (.int .i64 (IntKind.i64.wrap (x29 + 1))) :: (.int .u8 x143) :: (u203 123) :: (.int .i64 x195) :: dd u203 125 16 ((.bool b204) :: dd u22 142 71 (undef :: []))))))))).toArray, []⟩) a ∧ b204 = c205 ∧ St (foots [boxE g0 [.slice A0_0 p0_0.length c0_0, .int .u8 p0_1, .slice A0_2 p0_2.length c0_2, .slice A0_3 p0_3.length c0_3] 62, rowE .u8 5 A0_2 c0_2 p0_2, rowE .u8 34 A0_3 c0_3 p0_3]) w0 w [boxE w0.heap.size [.int .u8 p2_0, .int .u8 p2_1] 65, rowE .u8 5 A190 c191 l189, rowE .u8 34 A193 c194 l192, boxE g0 [.slice A0_0 p0_0.length c0_0, .int .u8 p0_1, .slice A190 l189.length c191, .slice A193 l192.length c194] 62]) ?_ ?_
               ·refine gx_region ?_
                refine gx_kA (.int .i64 x195) w196 (gx_kA (.pointer (some ⟨g0, 0, none⟩)) w196 (gx_kA (.pointer (some ⟨g0, 0, none⟩)) w196 (gx_kA (.pointer (some ⟨g0, 0, none⟩)) w196 ?_)))
                refine gx_vA (.slice A0_0 p0_0.length c0_0) w196 (run_load1 rfl (by as_aux_lemma => kernel_rfl) (fun _ => by kernel_rfl) (hS197.box 1 rfl 0 rfl)) ?_
                refine gx_kA (.int .i64 ((p0_0.length : Nat) : Int)) w196 ?_
                rcases if_in hE206 with ⟨h208, hE206⟩ | ⟨h208, hE206⟩
                ·refine gx_vA (.bool true) w196 (run_boolE (decide_eq_true h208) (by as_aux_lemma => kernel_rfl)) ?_
                 refine gx_kA (.bool true) w196 (gx_kA (.pointer (some ⟨g0, 0, none⟩)) w196 (gx_kA (.pointer (some ⟨g0, 0, none⟩)) w196 (gx_kA (.pointer (some ⟨g0, 0, none⟩)) w196 ?_)))
                 refine gx_vA (.slice A0_0 p0_0.length c0_0) w196 (run_load1 rfl (by as_aux_lemma => kernel_rfl) (fun _ => by kernel_rfl) (hS197.box 1 rfl 0 rfl)) ?_
                 refine gx_kA (.int .i64 x195) w196 ?_
                 obtain ⟨x209, hx210, hE206⟩ := bind_in hE206
                 refine gx_vA (.pointer (Option.map (fun (p : Addr) => p.add (Int.toNat x195 * 1)) A0_0)) w196 (run_ixaddr (E := 34) (s := 1) (k := .i64) (c := c0_0) rfl (by as_aux_lemma => kernel_rfl) (by as_aux_lemma => kernel_rfl) (by as_aux_lemma => kernel_rfl) (fun _ => by kernel_rfl) (ix_in hx210).1 (ix_in hx210).2.1 (num_nil (hS197.view hv0_0))) ?_
                 refine gx_vA (.int .u8 x209) w196 (run_loadix rfl (by as_aux_lemma => kernel_rfl) (fun _ => by kernel_rfl) (hS197.view hv0_0) hx210) ?_
                 rcases if_in hE206 with ⟨h211, hE206⟩ | ⟨h211, hE206⟩
                 ·refine gx_vA (.bool true) w196 (run_boolE (decide_eq_true h211) (by as_aux_lemma => kernel_rfl)) ?_
                  refine gx_kA (.bool true) w196 ?_
                  refine gx_nil ?_
                  refine gx_thenN ?_
                  exact ⟨true, selfA_i (by as_aux_lemma => kernel_rfl), (Option.some.inj hE206), (hS197.pick [0, 2, 3, 1] rfl rfl)⟩
                 ·refine gx_vA (.bool false) w196 (run_boolE (decide_eq_false h211) (by as_aux_lemma => kernel_rfl)) ?_
                  refine gx_kA (.bool false) w196 ?_
                  refine gx_nil ?_
                  refine gx_thenN ?_
                  exact ⟨false, selfA_i (by as_aux_lemma => kernel_rfl), (Option.some.inj hE206), (hS197.pick [0, 2, 3, 1] rfl rfl)⟩
                ·refine gx_vA (.bool false) w196 (run_boolE (decide_eq_false h208) (by as_aux_lemma => kernel_rfl)) ?_
                 refine gx_kA (.bool false) w196 (gx_oA (gx_oA (gx_oA (gx_oA (gx_oA (gx_oA (gx_oA ?_)))))))
                 refine gx_oA (gx_kA (.bool false) w196 ?_)
                 refine gx_nil ?_
                 refine gx_thenN ?_
                 exact ⟨false, selfA_i (by as_aux_lemma => kernel_rfl), (Option.some.inj hE206), (hS197.pick [0, 2, 3, 1] rfl rfl)⟩
               ·rintro _ w201 ⟨b204, hq225, rfl, hS202⟩
                obtain ⟨u203, rfl⟩ := selfA_u hq225
                try dsimp only at hO207
                cases b204 with
                | true =>
                 try dsimp only at hO207
                 refine gx_yes (by as_aux_lemma => kernel_rfl) ?_
                 refine gx_seq (fun K212 hK213 => ?_)
                 refine gx_region ?_
                 refine gx_kA (.pointer (some ⟨g0, 0, none⟩)) w201 (gx_kA (.int .i64 x195) w201 ?_)
                 refine gx_vA (.agg #[.int .u8 p2_0, .int .u8 p2_1]) w201 (run_loadG (d := _) rfl (by as_aux_lemma => kernel_rfl) (hS202.get 0 rfl) rfl rfl (by as_aux_lemma => kernel_rfl)) ?_
                 have hP214 : St _ _ w201 ([boxE g0 [.slice A0_0 p0_0.length c0_0, .int .u8 p0_1, .slice A190 l189.length c191, .slice A193 l192.length c194] 62, rowE .u8 5 A190 c191 l189, rowE .u8 34 A193 c194 l192] ++ [boxE w0.heap.size [.int .u8 p2_0, .int .u8 p2_1] 65]) := hS202.pick [3, 1, 2, 0] rfl rfl
                 obtain ⟨⟨l216, l219⟩, hc215, hO207⟩ := bind_in hO207
                 try dsimp only at hO207
                 refine gx_cA (rStands_R p0_0 p0_1 l189 l192 x195 p2_0 p2_1 g0 A0_0 c0_0 A190 c191 A193 c194 (l216, l219) w201) (rStands_ok N p0_0 p0_1 l189 l192 x195 p2_0 p2_1 g0 A0_0 c0_0 A190 c191 A193 c194 _ hc215 w201 (hP214.vwA hv0_0) hP214.part) ?_
                 rintro _ w222 ⟨A217, c218, A220, c221, rfl, hT224⟩
                 have hS223 : St _ _ w222 [boxE w0.heap.size [.int .u8 p2_0, .int .u8 p2_1] 65, boxE g0 [.slice A0_0 p0_0.length c0_0, .int .u8 p0_1, .slice A217 l216.length c218, .slice A220 l219.length c221] 62, rowE .u8 5 A217 c218 l216, rowE .u8 34 A220 c221 l219] := hP214.lendN _ hT224
                 refine gx_nil ?_
                 refine gx_thenN ?_
                 refine hK213 _ _ ?_
                 refine gx_region ?_
                 refine gx_kA (.int .i64 x195) w222 (gx_kA (.int .i64 (IntKind.i64.wrap (x195 + 1))) w222 (gx_kA (.int .i64 (IntKind.i64.wrap (x195 + 1))) w222 ?_))
                 refine gx_nil ?_
                 refine gx_thenN ?_
                 refine hK200 _ _ ?_
                 refine gx_exit ?_
                 refine gx_thenE ?_
                 refine gx_blkO (by decide) ?_
                 refine gx_thenE ?_
                 refine gx_blkE ?_
                 refine gx_thenN ?_
                 exact ⟨k32, Nat.lt_succ_self k32, l216, l219, (IntKind.i64.wrap (x195 + 1)), x30, x31, A217, c218, A220, c221, selfA_i (by as_aux_lemma => kernel_rfl), hO207, (hS223.pick [2, 3, 1, 0] rfl rfl)⟩
                | false =>
                 try dsimp only at hO207
                 refine gx_no (by as_aux_lemma => kernel_rfl) ?_
                 refine gx_pass ?_
                 refine gx_thenN ?_
                 refine hK200 _ _ ?_
                 refine gx_exit ?_
                 refine gx_thenE ?_
                 refine gx_blkO (by decide) ?_
                 refine gx_thenE ?_
                 refine gx_blkE ?_
                 refine gx_thenN ?_
                 exact ⟨k32, Nat.lt_succ_self k32, l189, l192, x195, x30, x31, A190, c191, A193, c194, selfA_i (by as_aux_lemma => kernel_rfl), hO207, (hS202.pick [1, 2, 3, 0] rfl rfl)⟩
              | false =>
               try dsimp only at hO183
               refine gx_no (by as_aux_lemma => kernel_rfl) ?_
               refine gx_pass ?_
               refine gx_thenN ?_
               refine hK176 _ _ ?_
               refine gx_region ?_
               refine gx_kA (.int .i64 x30) w177 (gx_kA (.int .i64 (IntKind.i64.wrap (x30 + 1))) w177 (gx_kA (.int .i64 (IntKind.i64.wrap (x30 + 1))) w177 ?_))
               refine gx_nil ?_
               refine gx_blkN ?_
               refine gx_thenN ?_
               refine hK47 _ _ ?_
               refine gx_region ?_
               refine gx_kA (.int .i64 x29) w177 (gx_kA (.int .i64 (IntKind.i64.wrap (x29 + 1))) w177 (gx_kA (.int .i64 (IntKind.i64.wrap (x29 + 1))) w177 ?_))
               refine gx_nil ?_
               refine gx_blkN ?_
               refine gx_thenN ?_
               exact ⟨k32, Nat.lt_succ_self k32, l131, l134, (IntKind.i64.wrap (x29 + 1)), (IntKind.i64.wrap (x30 + 1)), x31, A132, c133, A135, c136, selfA_i (by as_aux_lemma => kernel_rfl), hO183, (hS178.pick [1, 2, 3, 0] rfl rfl)⟩
           | false =>
            try dsimp only at hO54
            refine gx_no (by as_aux_lemma => kernel_rfl) ?_
            obtain ⟨c232, hE233, hO234⟩ := bind_in hO54
            refine gx_cut (fun a w => ∃ (b231 : Bool), selfA (fun u230 => ⟨((.pointer (some ⟨g0, 0, none⟩)) :: (.int .i64 x29) :: (u22 2) :: (.int .i64 p3) :: (.bool p4) :: undef :: undef :: (.pointer (some ⟨w0.heap.size, 0, none⟩)) :: undef :: undef :: (u22 10) :: (.int .i64 x30) :: (.int .i64 x31) :: (.int .u8 x41) :: (.bool true) :: dd u22 15 2 ((.int .i64 x29) :: (.pointer (some ⟨g0, 0, none⟩)) :: (.pointer (some ⟨g0, 0, none⟩)) :: (.pointer (some ⟨g0, 0, none⟩)) :: (u50 21) :: (.int .i64 ((p0_0.length : Nat) : Int)) :: (.bool true) :: (.pointer (some ⟨g0, 0, none⟩)) :: (.pointer (some ⟨g0, 0, none⟩)) :: (.pointer (some ⟨g0, 0, none⟩)) :: (u50 27) :: (.int .i64 x29) :: (.pointer (Option.map (fun (p : Addr) => p.add (Int.toNat x29 * 1)) A0_0)) :: (.int .u8 x41) :: (.int .i64 x30) :: (.int .i64 x31) :: (.int .i64 (IntKind.i64.wrap (x30 + x31))) :: (.bool true) :: (.bool false) :: dd u50 36 24 ((u22 60) :: (.bool false) :: (.int .u8 x41) :: (.bool false) :: dd u22 64 8 ((.bool false) :: (.int .u8 x41) :: (.bool false) :: dd u22 75 7 ((.bool false) :: (.int .u8 x41) :: (.bool false) :: dd u22 85 5 ((.bool false) :: (.int .u8 x41) :: (.bool false) :: dd u22 93 57 ((.bool b231) :: dd u230 151 8 (dd u22 159 54 (undef :: []))))))))).toArray, []⟩) a ∧ b231 = c232 ∧ St (foots [boxE g0 [.slice A0_0 p0_0.length c0_0, .int .u8 p0_1, .slice A0_2 p0_2.length c0_2, .slice A0_3 p0_3.length c0_3] 62, rowE .u8 5 A0_2 c0_2 p0_2, rowE .u8 34 A0_3 c0_3 p0_3]) w0 w [rowE .u8 5 A23 c24 l25, rowE .u8 34 A26 c27 l28, boxE g0 [.slice A0_0 p0_0.length c0_0, .int .u8 p0_1, .slice A23 l25.length c24, .slice A26 l28.length c27] 62, boxE w0.heap.size [.int .u8 p2_0, .int .u8 p2_1] 65]) ?_ ?_
            ·refine gx_seq (fun K235 hK236 => ?_)
             refine gx_region ?_
             refine gx_kA (.int .u8 x41) w124 ?_
             rcases if_in hE233 with ⟨h237, hE233⟩ | ⟨h237, hE233⟩
             ·refine gx_vA (.bool true) w124 (run_boolE (decide_eq_true h237) (by as_aux_lemma => kernel_rfl)) ?_
              refine gx_kA (.bool true) w124 ?_
              refine gx_nil ?_
              refine gx_thenN ?_
              refine hK236 _ _ ?_
              refine gx_yes (by as_aux_lemma => kernel_rfl) ?_
              refine gx_pass ?_
              refine gx_thenN ?_
              exact ⟨true, selfA_i (by as_aux_lemma => kernel_rfl), (Option.some.inj hE233), hS125⟩
             ·refine gx_vA (.bool false) w124 (run_boolE (decide_eq_false h237) (by as_aux_lemma => kernel_rfl)) ?_
              refine gx_kA (.bool false) w124 ?_
              refine gx_nil ?_
              refine gx_thenN ?_
              refine hK236 _ _ ?_
              refine gx_no (by as_aux_lemma => kernel_rfl) ?_
              refine gx_seq (fun K238 hK239 => ?_)
              refine gx_region ?_
              refine gx_kA (.int .u8 x41) w124 ?_
              rcases if_in hE233 with ⟨h240, hE233⟩ | ⟨h240, hE233⟩
              ·refine gx_vA (.bool true) w124 (run_boolE (decide_eq_true h240) (by as_aux_lemma => kernel_rfl)) ?_
               refine gx_kA (.bool true) w124 ?_
               refine gx_nil ?_
               refine gx_thenN ?_
               refine hK239 _ _ ?_
               refine gx_yes (by as_aux_lemma => kernel_rfl) ?_
               refine gx_pass ?_
               refine gx_thenN ?_
               exact ⟨true, selfA_i (by as_aux_lemma => kernel_rfl), (Option.some.inj hE233), hS125⟩
              ·refine gx_vA (.bool false) w124 (run_boolE (decide_eq_false h240) (by as_aux_lemma => kernel_rfl)) ?_
               refine gx_kA (.bool false) w124 ?_
               refine gx_nil ?_
               refine gx_thenN ?_
               refine hK239 _ _ ?_
               refine gx_no (by as_aux_lemma => kernel_rfl) ?_
               refine gx_seq (fun K241 hK242 => ?_)
               refine gx_region ?_
               refine gx_kA (.int .u8 x41) w124 ?_
               rcases if_in hE233 with ⟨h243, hE233⟩ | ⟨h243, hE233⟩
               ·refine gx_vA (.bool true) w124 (run_boolE (decide_eq_true h243) (by as_aux_lemma => kernel_rfl)) ?_
                refine gx_kA (.bool true) w124 ?_
                refine gx_nil ?_
                refine gx_thenN ?_
                refine hK242 _ _ ?_
                refine gx_yes (by as_aux_lemma => kernel_rfl) ?_
                refine gx_pass ?_
                refine gx_thenN ?_
                exact ⟨true, selfA_i (by as_aux_lemma => kernel_rfl), (Option.some.inj hE233), hS125⟩
               ·refine gx_vA (.bool false) w124 (run_boolE (decide_eq_false h243) (by as_aux_lemma => kernel_rfl)) ?_
                refine gx_kA (.bool false) w124 ?_
                refine gx_nil ?_
                refine gx_thenN ?_
                refine hK242 _ _ ?_
                refine gx_no (by as_aux_lemma => kernel_rfl) ?_
                refine gx_region ?_
                refine gx_kA (.int .u8 x41) w124 ?_
                rcases if_in hE233 with ⟨h244, hE233⟩ | ⟨h244, hE233⟩
                ·refine gx_vA (.bool true) w124 (run_boolE (decide_eq_true h244) (by as_aux_lemma => kernel_rfl)) ?_
                 refine gx_kA (.bool true) w124 ?_
                 refine gx_nil ?_
                 refine gx_thenN ?_
                 exact ⟨true, selfA_i (by as_aux_lemma => kernel_rfl), (Option.some.inj hE233), hS125⟩
                ·refine gx_vA (.bool false) w124 (run_boolE (decide_eq_false h244) (by as_aux_lemma => kernel_rfl)) ?_
                 refine gx_kA (.bool false) w124 ?_
                 refine gx_nil ?_
                 refine gx_thenN ?_
                 exact ⟨false, selfA_i (by as_aux_lemma => kernel_rfl), (Option.some.inj hE233), hS125⟩
            ·rintro _ w228 ⟨b231, hq322, rfl, hS229⟩
             obtain ⟨u230, rfl⟩ := selfA_u hq322
             try dsimp only at hO234
             cases b231 with
             | true =>
              try dsimp only at hO234
              refine gx_yes (by as_aux_lemma => kernel_rfl) ?_
              obtain ⟨c249, hE250, hO251⟩ := bind_in hO234
              refine gx_cut (fun a w => ∃ (x248 : Int), selfA (fun u247 => ⟨((.pointer (some ⟨g0, 0, none⟩)) :: (.int .i64 x29) :: (u22 2) :: (.int .i64 p3) :: (.bool p4) :: undef :: undef :: (.pointer (some ⟨w0.heap.size, 0, none⟩)) :: undef :: undef :: (u22 10) :: (.int .i64 x30) :: (.int .i64 x31) :: (.int .u8 x41) :: (.bool true) :: (u22 15) :: (.int .u8 x248) :: (.int .i64 x29) :: (.pointer (some ⟨g0, 0, none⟩)) :: (.pointer (some ⟨g0, 0, none⟩)) :: (.pointer (some ⟨g0, 0, none⟩)) :: (u50 21) :: (.int .i64 ((p0_0.length : Nat) : Int)) :: (.bool true) :: (.pointer (some ⟨g0, 0, none⟩)) :: (.pointer (some ⟨g0, 0, none⟩)) :: (.pointer (some ⟨g0, 0, none⟩)) :: (u50 27) :: (.int .i64 x29) :: (.pointer (Option.map (fun (p : Addr) => p.add (Int.toNat x29 * 1)) A0_0)) :: (.int .u8 x41) :: (.int .i64 x30) :: (.int .i64 x31) :: (.int .i64 (IntKind.i64.wrap (x30 + x31))) :: (.bool true) :: (.bool false) :: dd u50 36 24 ((u22 60) :: (.bool false) :: (.int .u8 x41) :: (.bool false) :: dd u22 64 8 ((.bool false) :: (.int .u8 x41) :: (.bool false) :: dd u22 75 7 ((.bool false) :: (.int .u8 x41) :: (.bool false) :: dd u22 85 5 ((.bool false) :: (.int .u8 x41) :: (.bool false) :: dd u22 93 57 ((.bool true) :: dd u230 151 8 (dd u247 159 8 (dd u22 167 46 (undef :: []))))))))).toArray, []⟩) a ∧ x248 = c249 ∧ St (foots [boxE g0 [.slice A0_0 p0_0.length c0_0, .int .u8 p0_1, .slice A0_2 p0_2.length c0_2, .slice A0_3 p0_3.length c0_3] 62, rowE .u8 5 A0_2 c0_2 p0_2, rowE .u8 34 A0_3 c0_3 p0_3]) w0 w [rowE .u8 5 A23 c24 l25, rowE .u8 34 A26 c27 l28, boxE g0 [.slice A0_0 p0_0.length c0_0, .int .u8 p0_1, .slice A23 l25.length c24, .slice A26 l28.length c27] 62, boxE w0.heap.size [.int .u8 p2_0, .int .u8 p2_1] 65]) ?_ ?_
              ·refine gx_region ?_
               refine gx_vA (.agg #[.int .u8 p2_0, .int .u8 p2_1]) w228 (run_loadG (d := _) rfl (by as_aux_lemma => kernel_rfl) (hS229.get 3 rfl) rfl rfl (by as_aux_lemma => kernel_rfl)) ?_
               refine gx_kA (.int .u8 x41) w228 ?_
               rcases if_in hE250 with ⟨h252, hE250⟩ | ⟨h252, hE250⟩
               ·refine gx_vA (.bool true) w228 (run_boolE (decide_eq_true h252) (by as_aux_lemma => kernel_rfl)) ?_
                refine gx_kA (.bool true) w228 (gx_oA (gx_oA (gx_kA (.bool true) w228 ?_)))
                have hP253 : St _ _ w228 ([] ++ [rowE .u8 5 A23 c24 l25, rowE .u8 34 A26 c27 l28, boxE g0 [.slice A0_0 p0_0.length c0_0, .int .u8 p0_1, .slice A23 l25.length c24, .slice A26 l28.length c27] 62, boxE w0.heap.size [.int .u8 p2_0, .int .u8 p2_1] 65]) := hS229
                obtain ⟨x255, hc254, hE250⟩ := bind_in hE250
                try dsimp only at hE250
                refine gx_cA (rNext_R x255 w228) (rNext_ok N p2_0 p2_1 true _ hc254 w228 ) ?_
                rintro _ w256 ⟨rfl, hT258⟩
                have hS257 : St _ _ w256 [rowE .u8 5 A23 c24 l25, rowE .u8 34 A26 c27 l28, boxE g0 [.slice A0_0 p0_0.length c0_0, .int .u8 p0_1, .slice A23 l25.length c24, .slice A26 l28.length c27] 62, boxE w0.heap.size [.int .u8 p2_0, .int .u8 p2_1] 65] := hS229.take _ hT258
                refine gx_kA (.int .u8 x255) w256 ?_
                refine gx_nil ?_
                refine gx_thenN ?_
                exact ⟨x255, selfA_i (by as_aux_lemma => kernel_rfl), (Option.some.inj hE250), hS257⟩
               ·refine gx_vA (.bool false) w228 (run_boolE (decide_eq_false h252) (by as_aux_lemma => kernel_rfl)) ?_
                refine gx_kA (.bool false) w228 (gx_kA (.int .u8 x41) w228 (gx_kA (.bool (decide (x41 = 18))) w228 (gx_kA (.bool (decide (x41 = 18))) w228 ?_)))
                have hP259 : St _ _ w228 ([] ++ [rowE .u8 5 A23 c24 l25, rowE .u8 34 A26 c27 l28, boxE g0 [.slice A0_0 p0_0.length c0_0, .int .u8 p0_1, .slice A23 l25.length c24, .slice A26 l28.length c27] 62, boxE w0.heap.size [.int .u8 p2_0, .int .u8 p2_1] 65]) := hS229
                obtain ⟨x261, hc260, hE250⟩ := bind_in hE250
                try dsimp only at hE250
                refine gx_cA (rNext_R x261 w228) (rNext_ok N p2_0 p2_1 (decide (x41 = 18)) _ hc260 w228 ) ?_
                rintro _ w262 ⟨rfl, hT264⟩
                have hS263 : St _ _ w262 [rowE .u8 5 A23 c24 l25, rowE .u8 34 A26 c27 l28, boxE g0 [.slice A0_0 p0_0.length c0_0, .int .u8 p0_1, .slice A23 l25.length c24, .slice A26 l28.length c27] 62, boxE w0.heap.size [.int .u8 p2_0, .int .u8 p2_1] 65] := hS229.take _ hT264
                refine gx_kA (.int .u8 x261) w262 ?_
                refine gx_nil ?_
                refine gx_thenN ?_
                exact ⟨x261, selfA_i (by as_aux_lemma => kernel_rfl), (Option.some.inj hE250), hS263⟩
              ·rintro _ w245 ⟨x248, hq307, rfl, hS246⟩
               obtain ⟨u247, rfl⟩ := selfA_u hq307
               try dsimp only at hO251
               refine gx_seq (fun K265 hK266 => ?_)
               obtain ⟨c271, hE272, hO273⟩ := bind_in hO251
               refine gx_cut (fun a w => ∃ (b270 : Bool), selfA (fun u269 => ⟨((.pointer (some ⟨g0, 0, none⟩)) :: (.int .i64 x29) :: (u22 2) :: (.int .i64 p3) :: (.bool p4) :: undef :: undef :: (.pointer (some ⟨w0.heap.size, 0, none⟩)) :: undef :: undef :: (u22 10) :: (.int .i64 x30) :: (.int .i64 x31) :: (.int .u8 x41) :: (.bool true) :: (u22 15) :: (.int .u8 x248) :: (.int .i64 x29) :: (.pointer (some ⟨g0, 0, none⟩)) :: (.pointer (some ⟨g0, 0, none⟩)) :: (.pointer (some ⟨g0, 0, none⟩)) :: (u50 21) :: (.int .i64 ((p0_0.length : Nat) : Int)) :: (.bool true) :: (.pointer (some ⟨g0, 0, none⟩)) :: (.pointer (some ⟨g0, 0, none⟩)) :: (.pointer (some ⟨g0, 0, none⟩)) :: (u50 27) :: (.int .i64 x29) :: (.pointer (Option.map (fun (p : Addr) => p.add (Int.toNat x29 * 1)) A0_0)) :: (.int .u8 x41) :: (.int .i64 x30) :: (.int .i64 x31) :: (.int .i64 (IntKind.i64.wrap (x30 + x31))) :: (.bool true) :: (.bool false) :: dd u50 36 24 ((u22 60) :: (.bool false) :: (.int .u8 x41) :: (.bool false) :: dd u22 64 8 ((.bool false) :: (.int .u8 x41) :: (.bool false) :: dd u22 75 7 ((.bool false) :: (.int .u8 x41) :: (.bool false) :: dd u22 85 5 ((.bool false) :: (.int .u8 x41) :: (.bool false) :: dd u22 93 57 ((.bool true) :: dd u230 151 8 (dd u247 159 8 (dd u269 167 4 ((.bool b270) :: dd u22 172 41 (undef :: [])))))))))).toArray, []⟩) a ∧ b270 = c271 ∧ St (foots [boxE g0 [.slice A0_0 p0_0.length c0_0, .int .u8 p0_1, .slice A0_2 p0_2.length c0_2, .slice A0_3 p0_3.length c0_3] 62, rowE .u8 5 A0_2 c0_2 p0_2, rowE .u8 34 A0_3 c0_3 p0_3]) w0 w [rowE .u8 5 A23 c24 l25, rowE .u8 34 A26 c27 l28, boxE g0 [.slice A0_0 p0_0.length c0_0, .int .u8 p0_1, .slice A23 l25.length c24, .slice A26 l28.length c27] 62, boxE w0.heap.size [.int .u8 p2_0, .int .u8 p2_1] 65]) ?_ ?_
               ·refine gx_region ?_
                refine gx_kA (.bool true) w245 (gx_kA (.bool true) w245 (gx_kA (.int .u8 x248) w245 ?_))
                rcases if_in hE272 with ⟨h274, hE272⟩ | ⟨h274, hE272⟩
                ·refine gx_vA (.bool true) w245 (run_boolE (decide_eq_true h274) (by as_aux_lemma => kernel_rfl)) ?_
                 refine gx_kA (.bool true) w245 ?_
                 refine gx_nil ?_
                 refine gx_thenN ?_
                 exact ⟨true, selfA_i (by as_aux_lemma => kernel_rfl), (Option.some.inj hE272), hS246⟩
                ·refine gx_vA (.bool false) w245 (run_boolE (decide_eq_false h274) (by as_aux_lemma => kernel_rfl)) ?_
                 refine gx_kA (.bool false) w245 ?_
                 refine gx_nil ?_
                 refine gx_thenN ?_
                 exact ⟨false, selfA_i (by as_aux_lemma => kernel_rfl), (Option.some.inj hE272), hS246⟩
               ·rintro _ w267 ⟨b270, hq306, rfl, hS268⟩
                obtain ⟨u269, rfl⟩ := selfA_u hq306
                try dsimp only at hO273
                cases b270 with
                | true =>
                 try dsimp only at hO273
                 refine gx_yes (by as_aux_lemma => kernel_rfl) ?_
                 refine gx_seq (fun K275 hK276 => ?_)
                 refine gx_region ?_
                 refine gx_kA (.pointer (some ⟨g0, 0, none⟩)) w267 (gx_kA (.int .i64 x29) w267 (gx_kA (.int .i64 (IntKind.i64.wrap (x29 + 1))) w267 (gx_kA (.int .u8 x248) w267 (gx_kA (.int .u8 x41) w267 ?_))))
                 have hP277 : St _ _ w267 ([] ++ [rowE .u8 5 A23 c24 l25, rowE .u8 34 A26 c27 l28, boxE g0 [.slice A0_0 p0_0.length c0_0, .int .u8 p0_1, .slice A23 l25.length c24, .slice A26 l28.length c27] 62, boxE w0.heap.size [.int .u8 p2_0, .int .u8 p2_1] 65]) := hS268
                 obtain ⟨x279, hc278, hO273⟩ := bind_in hO273
                 try dsimp only at hO273
                 refine gx_cA (rOvr_R x279 w267) (rOvr_ok N x41 _ hc278 w267 ) ?_
                 rintro _ w280 ⟨rfl, hT282⟩
                 have hS281 : St _ _ w280 [rowE .u8 5 A23 c24 l25, rowE .u8 34 A26 c27 l28, boxE g0 [.slice A0_0 p0_0.length c0_0, .int .u8 p0_1, .slice A23 l25.length c24, .slice A26 l28.length c27] 62, boxE w0.heap.size [.int .u8 p2_0, .int .u8 p2_1] 65] := hS268.take _ hT282
                 refine gx_kA (.agg #[.int .u8 x248, .int .u8 x279]) w280 (gx_kA (.bool p4) w280 ?_)
                 have hP283 : St _ _ w280 ([boxE g0 [.slice A0_0 p0_0.length c0_0, .int .u8 p0_1, .slice A23 l25.length c24, .slice A26 l28.length c27] 62, rowE .u8 5 A23 c24 l25, rowE .u8 34 A26 c27 l28] ++ [boxE w0.heap.size [.int .u8 p2_0, .int .u8 p2_1] 65]) := hS281.pick [2, 0, 1, 3] rfl rfl
                 obtain ⟨⟨x291, l285, l288⟩, hc284, hO273⟩ := bind_in hO273
                 try dsimp only at hO273
                 refine gx_cA (rWithin_R p0_0 p0_1 l25 l28 (IntKind.i64.wrap (x29 + 1)) x248 x279 (1 : Int) p4 g0 A0_0 c0_0 A23 c24 A26 c27 (x291, l285, l288) w280) (hself p0_0 p0_1 l25 l28 (IntKind.i64.wrap (x29 + 1)) x248 x279 (1 : Int) p4 g0 A0_0 c0_0 A23 c24 A26 c27 _ hc284 w280 (hP283.vwA hv0_0) hP283.part) ?_
                 rintro _ w292 ⟨A286, c287, A289, c290, rfl, hT294⟩
                 have hS293 : St _ _ w292 [boxE w0.heap.size [.int .u8 p2_0, .int .u8 p2_1] 65, boxE g0 [.slice A0_0 p0_0.length c0_0, .int .u8 p0_1, .slice A286 l285.length c287, .slice A289 l288.length c290] 62, rowE .u8 5 A286 c287 l285, rowE .u8 34 A289 c290 l288] := hP283.lendN _ hT294
                 refine gx_kA (.int .i64 x291) w292 ?_
                 refine gx_nil ?_
                 refine gx_thenN ?_
                 refine hK276 _ _ ?_
                 refine gx_seq (fun K295 hK296 => ?_)
                 refine gx_seq (fun K297 hK298 => ?_)
                 refine gx_region ?_
                 refine gx_kA (.int .i64 x291) w292 (gx_kA (.pointer (some ⟨g0, 0, none⟩)) w292 (gx_kA (.pointer (some ⟨g0, 0, none⟩)) w292 (gx_kA (.pointer (some ⟨g0, 0, none⟩)) w292 ?_)))
                 refine gx_vA (.slice A0_0 p0_0.length c0_0) w292 (run_load1 rfl (by as_aux_lemma => kernel_rfl) (fun _ => by kernel_rfl) (hS293.box 1 rfl 0 rfl)) ?_
                 refine gx_kA (.int .i64 ((p0_0.length : Nat) : Int)) w292 ?_
                 rcases if_in hO273 with ⟨h299, hO273⟩ | ⟨h299, hO273⟩
                 ·refine gx_vA (.bool true) w292 (run_boolE (decide_eq_true h299) (by as_aux_lemma => kernel_rfl)) ?_
                  refine gx_kA (.bool true) w292 (gx_kA (.pointer (some ⟨g0, 0, none⟩)) w292 (gx_kA (.pointer (some ⟨g0, 0, none⟩)) w292 (gx_kA (.pointer (some ⟨g0, 0, none⟩)) w292 ?_)))
                  refine gx_vA (.slice A0_0 p0_0.length c0_0) w292 (run_load1 rfl (by as_aux_lemma => kernel_rfl) (fun _ => by kernel_rfl) (hS293.box 1 rfl 0 rfl)) ?_
                  refine gx_kA (.int .i64 x291) w292 ?_
                  obtain ⟨x300, hx301, hO273⟩ := bind_in hO273
                  refine gx_vA (.pointer (Option.map (fun (p : Addr) => p.add (Int.toNat x291 * 1)) A0_0)) w292 (run_ixaddr (E := 34) (s := 1) (k := .i64) (c := c0_0) rfl (by as_aux_lemma => kernel_rfl) (by as_aux_lemma => kernel_rfl) (by as_aux_lemma => kernel_rfl) (fun _ => by kernel_rfl) (ix_in hx301).1 (ix_in hx301).2.1 (num_nil (hS293.view hv0_0))) ?_
                  refine gx_vA (.int .u8 x300) w292 (run_loadix rfl (by as_aux_lemma => kernel_rfl) (fun _ => by kernel_rfl) (hS293.view hv0_0) hx301) ?_
                  rcases if_in hO273 with ⟨h302, hO273⟩ | ⟨h302, hO273⟩
                  ·refine gx_vA (.bool true) w292 (run_boolE (decide_eq_true h302) (by as_aux_lemma => kernel_rfl)) ?_
                   refine gx_kA (.bool true) w292 ?_
                   refine gx_nil ?_
                   refine gx_thenN ?_
                   refine hK298 _ _ ?_
                   refine gx_yes (by as_aux_lemma => kernel_rfl) ?_
                   refine gx_region ?_
                   refine gx_kA (.int .i64 x291) w292 (gx_kA (.int .i64 (IntKind.i64.wrap (x291 + 1))) w292 (gx_kA (.int .i64 (IntKind.i64.wrap (x291 + 1))) w292 ?_))
                   refine gx_nil ?_
                   refine gx_thenN ?_
                   refine hK296 _ _ ?_
                   refine gx_exit ?_
                   refine gx_thenE ?_
                   refine gx_blkO (by decide) ?_
                   refine gx_thenE ?_
                   refine gx_blkE ?_
                   refine gx_thenN ?_
                   exact ⟨k32, Nat.lt_succ_self k32, l285, l288, (IntKind.i64.wrap (x291 + 1)), x30, x31, A286, c287, A289, c290, selfA_i (by as_aux_lemma => kernel_rfl), hO273, (hS293.pick [2, 3, 1, 0] rfl rfl)⟩
                  ·refine gx_vA (.bool false) w292 (run_boolE (decide_eq_false h302) (by as_aux_lemma => kernel_rfl)) ?_
                   refine gx_kA (.bool false) w292 ?_
                   refine gx_nil ?_
                   refine gx_thenN ?_
                   refine hK298 _ _ ?_
                   refine gx_no (by as_aux_lemma => kernel_rfl) ?_
                   refine gx_pass ?_
                   refine gx_thenN ?_
                   refine hK296 _ _ ?_
                   refine gx_exit ?_
                   refine gx_thenE ?_
                   refine gx_blkO (by decide) ?_
                   refine gx_thenE ?_
                   refine gx_blkE ?_
                   refine gx_thenN ?_
                   exact ⟨k32, Nat.lt_succ_self k32, l285, l288, x291, x30, x31, A286, c287, A289, c290, selfA_i (by as_aux_lemma => kernel_rfl), hO273, (hS293.pick [2, 3, 1, 0] rfl rfl)⟩
                 ·refine gx_vA (.bool false) w292 (run_boolE (decide_eq_false h299) (by as_aux_lemma => kernel_rfl)) ?_
                  refine gx_kA (.bool false) w292 (gx_oA (gx_oA (gx_oA (gx_oA (gx_oA (gx_oA (gx_oA ?_)))))))
                  refine gx_oA (gx_kA (.bool false) w292 ?_)
                  refine gx_nil ?_
                  refine gx_thenN ?_
                  refine hK298 _ _ ?_
                  refine gx_no (by as_aux_lemma => kernel_rfl) ?_
                  refine gx_pass ?_
                  refine gx_thenN ?_
                  refine hK296 _ _ ?_
                  refine gx_exit ?_
                  refine gx_thenE ?_
                  refine gx_blkO (by decide) ?_
                  refine gx_thenE ?_
                  refine gx_blkE ?_
                  refine gx_thenN ?_
                  exact ⟨k32, Nat.lt_succ_self k32, l285, l288, x291, x30, x31, A286, c287, A289, c290, selfA_i (by as_aux_lemma => kernel_rfl), hO273, (hS293.pick [2, 3, 1, 0] rfl rfl)⟩
                | false =>
                 try dsimp only at hO273
                 refine gx_no (by as_aux_lemma => kernel_rfl) ?_
                 refine gx_pass ?_
                 refine gx_thenN ?_
                 refine hK266 _ _ ?_
                 refine gx_seq (fun K303 hK304 => ?_)
                 refine gx_region ?_
                 refine gx_kA (.int .i64 x30) w267 ?_
                 rcases if_in hO273 with ⟨h305, hO273⟩ | ⟨h305, hO273⟩
                 ·refine gx_vA (.bool true) w267 (run_boolE (decide_eq_true h305) (by as_aux_lemma => kernel_rfl)) ?_
                  refine gx_nil ?_
                  refine gx_thenN ?_
                  refine hK304 _ _ ?_
                  refine gx_yes (by as_aux_lemma => kernel_rfl) ?_
                  refine gx_region ?_
                  refine gx_kA (.int .i64 x31) w267 (gx_kA (.int .i64 (IntKind.i64.wrap (x31 + 1))) w267 (gx_kA (.int .i64 (IntKind.i64.wrap (x31 + 1))) w267 ?_))
                  refine gx_nil ?_
                  refine gx_blkN ?_
                  refine gx_thenN ?_
                  refine hK47 _ _ ?_
                  refine gx_region ?_
                  refine gx_kA (.int .i64 x29) w267 (gx_kA (.int .i64 (IntKind.i64.wrap (x29 + 1))) w267 (gx_kA (.int .i64 (IntKind.i64.wrap (x29 + 1))) w267 ?_))
                  refine gx_nil ?_
                  refine gx_blkN ?_
                  refine gx_thenN ?_
                  exact ⟨k32, Nat.lt_succ_self k32, l25, l28, (IntKind.i64.wrap (x29 + 1)), x30, (IntKind.i64.wrap (x31 + 1)), A23, c24, A26, c27, selfA_i (by as_aux_lemma => kernel_rfl), hO273, hS268⟩
                 ·refine gx_vA (.bool false) w267 (run_boolE (decide_eq_false h305) (by as_aux_lemma => kernel_rfl)) ?_
                  refine gx_nil ?_
                  refine gx_thenN ?_
                  refine hK304 _ _ ?_
                  refine gx_no (by as_aux_lemma => kernel_rfl) ?_
                  refine gx_pass ?_
                  refine gx_blkN ?_
                  refine gx_thenN ?_
                  refine hK47 _ _ ?_
                  refine gx_region ?_
                  refine gx_kA (.int .i64 x29) w267 (gx_kA (.int .i64 (IntKind.i64.wrap (x29 + 1))) w267 (gx_kA (.int .i64 (IntKind.i64.wrap (x29 + 1))) w267 ?_))
                  refine gx_nil ?_
                  refine gx_blkN ?_
                  refine gx_thenN ?_
                  exact ⟨k32, Nat.lt_succ_self k32, l25, l28, (IntKind.i64.wrap (x29 + 1)), x30, x31, A23, c24, A26, c27, selfA_i (by as_aux_lemma => kernel_rfl), hO273, hS268⟩
             | false =>
              try dsimp only at hO234
              refine gx_no (by as_aux_lemma => kernel_rfl) ?_
              refine gx_seq (fun K308 hK309 => ?_)
              refine gx_region ?_
              refine gx_kA (.int .u8 x41) w228 ?_
              rcases if_in hO234 with ⟨h310, hO234⟩ | ⟨h310, hO234⟩
              ·refine gx_vA (.bool true) w228 (run_boolE (ne_yes h310) (by as_aux_lemma => kernel_rfl)) ?_
               refine gx_kA (.bool true) w228 ?_
               refine gx_nil ?_
               refine gx_thenN ?_
               refine hK309 _ _ ?_
               refine gx_yes (by as_aux_lemma => kernel_rfl) ?_
               refine gx_region ?_
               refine gx_kA (.pointer (some ⟨g0, 0, none⟩)) w228 (gx_kA (.int .i64 x29) w228 ?_)
               refine gx_vA (.agg #[.int .u8 p2_0, .int .u8 p2_1]) w228 (run_loadG (d := _) rfl (by as_aux_lemma => kernel_rfl) (hS229.get 3 rfl) rfl rfl (by as_aux_lemma => kernel_rfl)) ?_
               have hP311 : St _ _ w228 ([boxE g0 [.slice A0_0 p0_0.length c0_0, .int .u8 p0_1, .slice A23 l25.length c24, .slice A26 l28.length c27] 62, rowE .u8 5 A23 c24 l25, rowE .u8 34 A26 c27 l28] ++ [boxE w0.heap.size [.int .u8 p2_0, .int .u8 p2_1] 65]) := hS229.pick [2, 0, 1, 3] rfl rfl
               obtain ⟨⟨l313, l316⟩, hc312, hO234⟩ := bind_in hO234
               try dsimp only at hO234
               refine gx_cA (rStands_R p0_0 p0_1 l25 l28 x29 p2_0 p2_1 g0 A0_0 c0_0 A23 c24 A26 c27 (l313, l316) w228) (rStands_ok N p0_0 p0_1 l25 l28 x29 p2_0 p2_1 g0 A0_0 c0_0 A23 c24 A26 c27 _ hc312 w228 (hP311.vwA hv0_0) hP311.part) ?_
               rintro _ w319 ⟨A314, c315, A317, c318, rfl, hT321⟩
               have hS320 : St _ _ w319 [boxE w0.heap.size [.int .u8 p2_0, .int .u8 p2_1] 65, boxE g0 [.slice A0_0 p0_0.length c0_0, .int .u8 p0_1, .slice A314 l313.length c315, .slice A317 l316.length c318] 62, rowE .u8 5 A314 c315 l313, rowE .u8 34 A317 c318 l316] := hP311.lendN _ hT321
               refine gx_nil ?_
               refine gx_blkN ?_
               refine gx_thenN ?_
               refine hK47 _ _ ?_
               refine gx_region ?_
               refine gx_kA (.int .i64 x29) w319 (gx_kA (.int .i64 (IntKind.i64.wrap (x29 + 1))) w319 (gx_kA (.int .i64 (IntKind.i64.wrap (x29 + 1))) w319 ?_))
               refine gx_nil ?_
               refine gx_blkN ?_
               refine gx_thenN ?_
               exact ⟨k32, Nat.lt_succ_self k32, l313, l316, (IntKind.i64.wrap (x29 + 1)), x30, x31, A314, c315, A317, c318, selfA_i (by as_aux_lemma => kernel_rfl), hO234, (hS320.pick [2, 3, 1, 0] rfl rfl)⟩
              ·refine gx_vA (.bool false) w228 (run_boolE (ne_no h310) (by as_aux_lemma => kernel_rfl)) ?_
               refine gx_kA (.bool false) w228 ?_
               refine gx_nil ?_
               refine gx_thenN ?_
               refine hK309 _ _ ?_
               refine gx_no (by as_aux_lemma => kernel_rfl) ?_
               refine gx_pass ?_
               refine gx_blkN ?_
               refine gx_thenN ?_
               refine hK47 _ _ ?_
               refine gx_region ?_
               refine gx_kA (.int .i64 x29) w228 (gx_kA (.int .i64 (IntKind.i64.wrap (x29 + 1))) w228 (gx_kA (.int .i64 (IntKind.i64.wrap (x29 + 1))) w228 ?_))
               refine gx_nil ?_
               refine gx_blkN ?_
               refine gx_thenN ?_
               exact ⟨k32, Nat.lt_succ_self k32, l25, l28, (IntKind.i64.wrap (x29 + 1)), x30, x31, A23, c24, A26, c27, selfA_i (by as_aux_lemma => kernel_rfl), hO234, hS229⟩
     ·refine gx_vA (.bool false) w20 (run_boolE (decide_eq_false h45) (by as_aux_lemma => kernel_rfl)) ?_
      refine gx_kA (.bool false) w20 ?_
      refine gx_nil ?_
      refine gx_thenN ?_
      refine hK44 _ _ ?_
      refine gx_seq (fun K324 hK325 => ?_)
      refine gx_block ?_
      obtain ⟨c330, hE331, hO332⟩ := bind_in hL33
      refine gx_cut (fun a w => ∃ (b329 : Bool), selfA (fun u328 => ⟨((.pointer (some ⟨g0, 0, none⟩)) :: (.int .i64 x29) :: (u22 2) :: (.int .i64 p3) :: (.bool p4) :: undef :: undef :: (.pointer (some ⟨w0.heap.size, 0, none⟩)) :: undef :: undef :: (u22 10) :: (.int .i64 x30) :: (.int .i64 x31) :: (.int .u8 x41) :: (.bool false) :: dd u22 15 2 ((.int .i64 x29) :: (.pointer (some ⟨g0, 0, none⟩)) :: (.pointer (some ⟨g0, 0, none⟩)) :: (.pointer (some ⟨g0, 0, none⟩)) :: (u328 21) :: (.int .i64 ((p0_0.length : Nat) : Int)) :: (.bool true) :: (.pointer (some ⟨g0, 0, none⟩)) :: (.pointer (some ⟨g0, 0, none⟩)) :: (.pointer (some ⟨g0, 0, none⟩)) :: (u328 27) :: (.int .i64 x29) :: (.pointer (Option.map (fun (p : Addr) => p.add (Int.toNat x29 * 1)) A0_0)) :: (.int .u8 x41) :: (.int .i64 x30) :: (.int .i64 x31) :: (.int .i64 (IntKind.i64.wrap (x30 + x31))) :: (.bool false) :: (.bool b329) :: dd u328 36 24 (dd u22 60 153 (undef :: [])))).toArray, []⟩) a ∧ b329 = c330 ∧ St (foots [boxE g0 [.slice A0_0 p0_0.length c0_0, .int .u8 p0_1, .slice A0_2 p0_2.length c0_2, .slice A0_3 p0_3.length c0_3] 62, rowE .u8 5 A0_2 c0_2 p0_2, rowE .u8 34 A0_3 c0_3 p0_3]) w0 w [rowE .u8 5 A23 c24 l25, rowE .u8 34 A26 c27 l28, boxE g0 [.slice A0_0 p0_0.length c0_0, .int .u8 p0_1, .slice A23 l25.length c24, .slice A26 l28.length c27] 62, boxE w0.heap.size [.int .u8 p2_0, .int .u8 p2_1] 65]) ?_ ?_
      ·obtain ⟨c337, hE338, hO339⟩ := bind_in hE331
       refine gx_cut (fun a w => ∃ (b336 : Bool), selfA (fun u335 => ⟨((.pointer (some ⟨g0, 0, none⟩)) :: (.int .i64 x29) :: (u22 2) :: (.int .i64 p3) :: (.bool p4) :: undef :: undef :: (.pointer (some ⟨w0.heap.size, 0, none⟩)) :: undef :: undef :: (u22 10) :: (.int .i64 x30) :: (.int .i64 x31) :: (.int .u8 x41) :: (.bool false) :: dd u22 15 2 ((.int .i64 x29) :: (.pointer (some ⟨g0, 0, none⟩)) :: (.pointer (some ⟨g0, 0, none⟩)) :: (.pointer (some ⟨g0, 0, none⟩)) :: (u335 21) :: (.int .i64 ((p0_0.length : Nat) : Int)) :: (.bool true) :: (.pointer (some ⟨g0, 0, none⟩)) :: (.pointer (some ⟨g0, 0, none⟩)) :: (.pointer (some ⟨g0, 0, none⟩)) :: (u335 27) :: (.int .i64 x29) :: (.pointer (Option.map (fun (p : Addr) => p.add (Int.toNat x29 * 1)) A0_0)) :: (.int .u8 x41) :: (.int .i64 x30) :: (.int .i64 x31) :: (.int .i64 (IntKind.i64.wrap (x30 + x31))) :: (.bool false) :: (.bool b336) :: dd u335 36 6 (dd u22 42 171 (undef :: [])))).toArray, []⟩) a ∧ b336 = c337 ∧ St (foots [boxE g0 [.slice A0_0 p0_0.length c0_0, .int .u8 p0_1, .slice A0_2 p0_2.length c0_2, .slice A0_3 p0_3.length c0_3] 62, rowE .u8 5 A0_2 c0_2 p0_2, rowE .u8 34 A0_3 c0_3 p0_3]) w0 w [rowE .u8 5 A23 c24 l25, rowE .u8 34 A26 c27 l28, boxE g0 [.slice A0_0 p0_0.length c0_0, .int .u8 p0_1, .slice A23 l25.length c24, .slice A26 l28.length c27] 62, boxE w0.heap.size [.int .u8 p2_0, .int .u8 p2_1] 65]) ?_ ?_
       ·refine gx_region ?_
        refine gx_kA (.int .u8 x41) w20 ?_
        rcases if_in hE338 with ⟨h340, hE338⟩ | ⟨h340, hE338⟩
        ·refine gx_vA (.bool true) w20 (run_boolE (decide_eq_true h340) (by as_aux_lemma => kernel_rfl)) ?_
         refine gx_kA (.bool true) w20 (gx_kA (.int .i64 p3) w20 ?_)
         rcases if_in hE338 with ⟨h341, hE338⟩ | ⟨h341, hE338⟩
         ·refine gx_vA (.bool true) w20 (run_boolE (ne_yes h341) (by as_aux_lemma => kernel_rfl)) ?_
          refine gx_kA (.bool true) w20 (gx_kA (.bool true) w20 ?_)
          refine gx_nil ?_
          refine gx_thenN ?_
          exact ⟨true, selfA_i (by as_aux_lemma => kernel_rfl), (Option.some.inj hE338), hS21⟩
         ·refine gx_vA (.bool false) w20 (run_boolE (ne_no h341) (by as_aux_lemma => kernel_rfl)) ?_
          refine gx_kA (.bool false) w20 (gx_kA (.bool false) w20 ?_)
          refine gx_nil ?_
          refine gx_thenN ?_
          exact ⟨false, selfA_i (by as_aux_lemma => kernel_rfl), (Option.some.inj hE338), hS21⟩
        ·refine gx_vA (.bool false) w20 (run_boolE (decide_eq_false h340) (by as_aux_lemma => kernel_rfl)) ?_
         refine gx_kA (.bool false) w20 (gx_oA (gx_oA (gx_kA (.bool false) w20 (gx_kA (.bool false) w20 ?_))))
         refine gx_nil ?_
         refine gx_thenN ?_
         exact ⟨false, selfA_i (by as_aux_lemma => kernel_rfl), (Option.some.inj hE338), hS21⟩
       ·rintro _ w333 ⟨b336, hq353, rfl, hS334⟩
        obtain ⟨u335, rfl⟩ := selfA_u hq353
        try dsimp only at hO339
        cases b336 with
        | true =>
         try dsimp only at hO339
         refine gx_yes (by as_aux_lemma => kernel_rfl) ?_
         refine gx_pass ?_
         refine gx_thenN ?_
         exact ⟨true, selfA_i (by as_aux_lemma => kernel_rfl), (Option.some.inj hO339), hS334⟩
        | false =>
         try dsimp only at hO339
         refine gx_no (by as_aux_lemma => kernel_rfl) ?_
         obtain ⟨c346, hE347, hO348⟩ := bind_in hO339
         refine gx_cut (fun a w => ∃ (b345 : Bool), selfA (fun u344 => ⟨((.pointer (some ⟨g0, 0, none⟩)) :: (.int .i64 x29) :: (u22 2) :: (.int .i64 p3) :: (.bool p4) :: undef :: undef :: (.pointer (some ⟨w0.heap.size, 0, none⟩)) :: undef :: undef :: (u22 10) :: (.int .i64 x30) :: (.int .i64 x31) :: (.int .u8 x41) :: (.bool false) :: dd u22 15 2 ((.int .i64 x29) :: (.pointer (some ⟨g0, 0, none⟩)) :: (.pointer (some ⟨g0, 0, none⟩)) :: (.pointer (some ⟨g0, 0, none⟩)) :: (u335 21) :: (.int .i64 ((p0_0.length : Nat) : Int)) :: (.bool true) :: (.pointer (some ⟨g0, 0, none⟩)) :: (.pointer (some ⟨g0, 0, none⟩)) :: (.pointer (some ⟨g0, 0, none⟩)) :: (u335 27) :: (.int .i64 x29) :: (.pointer (Option.map (fun (p : Addr) => p.add (Int.toNat x29 * 1)) A0_0)) :: (.int .u8 x41) :: (.int .i64 x30) :: (.int .i64 x31) :: (.int .i64 (IntKind.i64.wrap (x30 + x31))) :: (.bool false) :: (.bool b345) :: dd u335 36 6 (dd u344 42 9 (dd u22 51 162 (undef :: []))))).toArray, []⟩) a ∧ b345 = c346 ∧ St (foots [boxE g0 [.slice A0_0 p0_0.length c0_0, .int .u8 p0_1, .slice A0_2 p0_2.length c0_2, .slice A0_3 p0_3.length c0_3] 62, rowE .u8 5 A0_2 c0_2 p0_2, rowE .u8 34 A0_3 c0_3 p0_3]) w0 w [rowE .u8 5 A23 c24 l25, rowE .u8 34 A26 c27 l28, boxE g0 [.slice A0_0 p0_0.length c0_0, .int .u8 p0_1, .slice A23 l25.length c24, .slice A26 l28.length c27] 62, boxE w0.heap.size [.int .u8 p2_0, .int .u8 p2_1] 65]) ?_ ?_
         ·refine gx_region ?_
          refine gx_kA (.int .u8 x41) w333 ?_
          rcases if_in hE347 with ⟨h349, hE347⟩ | ⟨h349, hE347⟩
          ·refine gx_vA (.bool true) w333 (run_boolE (decide_eq_true h349) (by as_aux_lemma => kernel_rfl)) ?_
           refine gx_kA (.bool true) w333 (gx_kA (.int .i64 x30) w333 ?_)
           rcases if_in hE347 with ⟨h350, hE347⟩ | ⟨h350, hE347⟩
           ·refine gx_vA (.bool true) w333 (run_boolE (decide_eq_true h350) (by as_aux_lemma => kernel_rfl)) ?_
            refine gx_kA (.bool true) w333 (gx_kA (.bool true) w333 (gx_kA (.bool p4) w333 (gx_kA (.bool p4) w333 (gx_kA (.bool p4) w333 ?_))))
            refine gx_nil ?_
            refine gx_thenN ?_
            exact ⟨p4, selfA_i (by as_aux_lemma => kernel_rfl), (Option.some.inj hE347), hS334⟩
           ·refine gx_vA (.bool false) w333 (run_boolE (decide_eq_false h350) (by as_aux_lemma => kernel_rfl)) ?_
            refine gx_kA (.bool false) w333 (gx_kA (.bool false) w333 (gx_oA (gx_kA (.bool false) w333 (gx_kA (.bool false) w333 ?_))))
            refine gx_nil ?_
            refine gx_thenN ?_
            exact ⟨false, selfA_i (by as_aux_lemma => kernel_rfl), (Option.some.inj hE347), hS334⟩
          ·refine gx_vA (.bool false) w333 (run_boolE (decide_eq_false h349) (by as_aux_lemma => kernel_rfl)) ?_
           refine gx_kA (.bool false) w333 (gx_oA (gx_oA (gx_kA (.bool false) w333 (gx_kA (.bool false) w333 (gx_oA (gx_kA (.bool false) w333 (gx_kA (.bool false) w333 ?_)))))))
           refine gx_nil ?_
           refine gx_thenN ?_
           exact ⟨false, selfA_i (by as_aux_lemma => kernel_rfl), (Option.some.inj hE347), hS334⟩
         ·rintro _ w342 ⟨b345, hq352, rfl, hS343⟩
          obtain ⟨u344, rfl⟩ := selfA_u hq352
          try dsimp only at hO348
          cases b345 with
          | true =>
           try dsimp only at hO348
           refine gx_yes (by as_aux_lemma => kernel_rfl) ?_
           refine gx_pass ?_
           refine gx_thenN ?_
           exact ⟨true, selfA_i (by as_aux_lemma => kernel_rfl), (Option.some.inj hO348), hS343⟩
          | false =>
           try dsimp only at hO348
           refine gx_no (by as_aux_lemma => kernel_rfl) ?_
           refine gx_region ?_
           refine gx_kA (.int .u8 x41) w342 ?_
           rcases if_in hO348 with ⟨h351, hO348⟩ | ⟨h351, hO348⟩
           ·refine gx_vA (.bool true) w342 (run_boolE (decide_eq_true h351) (by as_aux_lemma => kernel_rfl)) ?_
            refine gx_kA (.bool true) w342 (gx_kA (.bool false) w342 (gx_kA (.bool false) w342 (gx_kA (.bool false) w342 (gx_oA (gx_oA (gx_kA (.bool false) w342 (gx_kA (.bool false) w342 ?_)))))))
            refine gx_nil ?_
            refine gx_thenN ?_
            exact ⟨false, selfA_i (by as_aux_lemma => kernel_rfl), (Option.some.inj hO348), hS343⟩
           ·refine gx_vA (.bool false) w342 (run_boolE (decide_eq_false h351) (by as_aux_lemma => kernel_rfl)) ?_
            refine gx_kA (.bool false) w342 (gx_oA (gx_kA (.bool false) w342 (gx_kA (.bool false) w342 (gx_oA (gx_oA (gx_kA (.bool false) w342 (gx_kA (.bool false) w342 ?_)))))))
            refine gx_nil ?_
            refine gx_thenN ?_
            exact ⟨false, selfA_i (by as_aux_lemma => kernel_rfl), (Option.some.inj hO348), hS343⟩
      ·rintro _ w326 ⟨b329, hq598, rfl, hS327⟩
       obtain ⟨u328, rfl⟩ := selfA_u hq598
       try dsimp only at hO332
       cases b329 with
       | true =>
        try dsimp only at hO332
        refine gx_yes (by as_aux_lemma => kernel_rfl) ?_
        refine gx_seq (fun K354 hK355 => ?_)
        refine gx_region ?_
        refine gx_kA (.int .i64 x29) w326 (gx_kA (.int .i64 x29) w326 ?_)
        refine gx_nil ?_
        refine gx_thenN ?_
        refine hK355 _ _ ?_
        refine gx_ret ?_
        refine gx_blkR ?_
        refine gx_thenR ?_
        refine gx_blkR ?_
        refine gx_thenR ?_
        refine gx_blkR ?_
        refine gx_thenR ?_
        obtain rfl := Option.some.inj hO332
        try dsimp only at hO19
        obtain rfl := Option.some.inj hO19
        exact gx_fin (.int .i64 x29) (by as_aux_lemma => kernel_rfl) (by as_aux_lemma => kernel_rfl) ⟨_, rfl, A23, c24, A26, c27, rfl, (hS327.pick [2, 0, 1] rfl rfl)⟩
       | false =>
        try dsimp only at hO332
        refine gx_no (by as_aux_lemma => kernel_rfl) ?_
        refine gx_seq (fun K356 hK357 => ?_)
        refine gx_region ?_
        refine gx_kA (.int .u8 x41) w326 ?_
        rcases if_in hO332 with ⟨h358, hO332⟩ | ⟨h358, hO332⟩
        ·refine gx_vA (.bool true) w326 (run_boolE (decide_eq_true h358) (by as_aux_lemma => kernel_rfl)) ?_
         refine gx_kA (.bool true) w326 ?_
         refine gx_nil ?_
         refine gx_thenN ?_
         refine hK357 _ _ ?_
         refine gx_yes (by as_aux_lemma => kernel_rfl) ?_
         refine gx_seq (fun K359 hK360 => ?_)
         refine gx_region ?_
         refine gx_kA (.pointer (some ⟨g0, 0, none⟩)) w326 (gx_kA (.int .i64 x29) w326 (gx_kA (.pointer (some ⟨g0, 0, none⟩)) w326 (gx_kA (.pointer (some ⟨g0, 0, none⟩)) w326 (gx_kA (.pointer (some ⟨g0, 1, none⟩)) w326 ?_))))
         refine gx_vA (.int .u8 p0_1) w326 (run_load1 rfl (by as_aux_lemma => kernel_rfl) (fun _ => by kernel_rfl) (hS327.box 2 rfl 1 rfl)) ?_
         refine gx_kA (.agg #[.int .u8 p0_1, .int .u8 0]) w326 ?_
         have hP361 : St _ _ w326 ([boxE g0 [.slice A0_0 p0_0.length c0_0, .int .u8 p0_1, .slice A23 l25.length c24, .slice A26 l28.length c27] 62, rowE .u8 5 A23 c24 l25, rowE .u8 34 A26 c27 l28] ++ [boxE w0.heap.size [.int .u8 p2_0, .int .u8 p2_1] 65]) := hS327.pick [2, 0, 1, 3] rfl rfl
         obtain ⟨⟨l363, l366⟩, hc362, hO332⟩ := bind_in hO332
         try dsimp only at hO332
         refine gx_cA (rStands_R p0_0 p0_1 l25 l28 x29 p0_1 (0 : Int) g0 A0_0 c0_0 A23 c24 A26 c27 (l363, l366) w326) (rStands_ok N p0_0 p0_1 l25 l28 x29 p0_1 (0 : Int) g0 A0_0 c0_0 A23 c24 A26 c27 _ hc362 w326 (hP361.vwA hv0_0) hP361.part) ?_
         rintro _ w369 ⟨A364, c365, A367, c368, rfl, hT371⟩
         have hS370 : St _ _ w369 [boxE w0.heap.size [.int .u8 p2_0, .int .u8 p2_1] 65, boxE g0 [.slice A0_0 p0_0.length c0_0, .int .u8 p0_1, .slice A364 l363.length c365, .slice A367 l366.length c368] 62, rowE .u8 5 A364 c365 l363, rowE .u8 34 A367 c368 l366] := hP361.lendN _ hT371
         refine gx_nil ?_
         refine gx_thenN ?_
         refine hK360 _ _ ?_
         refine gx_seq (fun K372 hK373 => ?_)
         refine gx_region ?_
         refine gx_kA (.int .i64 0) w369 ?_
         refine gx_nil ?_
         refine gx_thenN ?_
         refine hK373 _ _ ?_
         refine gx_region ?_
         refine gx_kA (.int .i64 0) w369 ?_
         refine gx_nil ?_
         refine gx_blkN ?_
         refine gx_thenN ?_
         refine hK325 _ _ ?_
         refine gx_region ?_
         refine gx_kA (.int .i64 x29) w369 (gx_kA (.int .i64 (IntKind.i64.wrap (x29 + 1))) w369 (gx_kA (.int .i64 (IntKind.i64.wrap (x29 + 1))) w369 ?_))
         refine gx_nil ?_
         refine gx_blkN ?_
         refine gx_thenN ?_
         exact ⟨k32, Nat.lt_succ_self k32, l363, l366, (IntKind.i64.wrap (x29 + 1)), 0, 0, A364, c365, A367, c368, selfA_i (by as_aux_lemma => kernel_rfl), hO332, (hS370.pick [2, 3, 1, 0] rfl rfl)⟩
        ·refine gx_vA (.bool false) w326 (run_boolE (decide_eq_false h358) (by as_aux_lemma => kernel_rfl)) ?_
         refine gx_kA (.bool false) w326 ?_
         refine gx_nil ?_
         refine gx_thenN ?_
         refine hK357 _ _ ?_
         refine gx_no (by as_aux_lemma => kernel_rfl) ?_
         refine gx_seq (fun K374 hK375 => ?_)
         refine gx_region ?_
         refine gx_kA (.int .u8 x41) w326 ?_
         rcases if_in hO332 with ⟨h376, hO332⟩ | ⟨h376, hO332⟩
         ·refine gx_vA (.bool true) w326 (run_boolE (decide_eq_true h376) (by as_aux_lemma => kernel_rfl)) ?_
          refine gx_kA (.bool true) w326 ?_
          refine gx_nil ?_
          refine gx_thenN ?_
          refine hK375 _ _ ?_
          refine gx_yes (by as_aux_lemma => kernel_rfl) ?_
          refine gx_seq (fun K377 hK378 => ?_)
          refine gx_region ?_
          refine gx_kA (.int .i64 x30) w326 (gx_kA (.int .i64 (IntKind.i64.wrap (x30 - 1))) w326 ?_)
          refine gx_vA (.int .i64 (if (0 : Int) < (IntKind.i64.wrap (x30 - 1)) then (IntKind.i64.wrap (x30 - 1)) else 0)) w326 (run_max2 rfl (by as_aux_lemma => kernel_rfl) (by as_aux_lemma => kernel_rfl)) ?_
          refine gx_kA (.int .i64 (if (0 : Int) < (IntKind.i64.wrap (x30 - 1)) then (IntKind.i64.wrap (x30 - 1)) else 0)) w326 ?_
          refine gx_nil ?_
          refine gx_thenN ?_
          refine hK378 _ _ ?_
          refine gx_region ?_
          refine gx_kA (.pointer (some ⟨g0, 0, none⟩)) w326 (gx_kA (.int .i64 x29) w326 ?_)
          refine gx_vA (.agg #[.int .u8 p2_0, .int .u8 p2_1]) w326 (run_loadG (d := _) rfl (by as_aux_lemma => kernel_rfl) (hS327.get 3 rfl) rfl rfl (by as_aux_lemma => kernel_rfl)) ?_
          have hP379 : St _ _ w326 ([boxE g0 [.slice A0_0 p0_0.length c0_0, .int .u8 p0_1, .slice A23 l25.length c24, .slice A26 l28.length c27] 62, rowE .u8 5 A23 c24 l25, rowE .u8 34 A26 c27 l28] ++ [boxE w0.heap.size [.int .u8 p2_0, .int .u8 p2_1] 65]) := hS327.pick [2, 0, 1, 3] rfl rfl
          obtain ⟨⟨l381, l384⟩, hc380, hO332⟩ := bind_in hO332
          try dsimp only at hO332
          refine gx_cA (rStands_R p0_0 p0_1 l25 l28 x29 p2_0 p2_1 g0 A0_0 c0_0 A23 c24 A26 c27 (l381, l384) w326) (rStands_ok N p0_0 p0_1 l25 l28 x29 p2_0 p2_1 g0 A0_0 c0_0 A23 c24 A26 c27 _ hc380 w326 (hP379.vwA hv0_0) hP379.part) ?_
          rintro _ w387 ⟨A382, c383, A385, c386, rfl, hT389⟩
          have hS388 : St _ _ w387 [boxE w0.heap.size [.int .u8 p2_0, .int .u8 p2_1] 65, boxE g0 [.slice A0_0 p0_0.length c0_0, .int .u8 p0_1, .slice A382 l381.length c383, .slice A385 l384.length c386] 62, rowE .u8 5 A382 c383 l381, rowE .u8 34 A385 c386 l384] := hP379.lendN _ hT389
          refine gx_nil ?_
          refine gx_blkN ?_
          refine gx_thenN ?_
          refine hK325 _ _ ?_
          refine gx_region ?_
          refine gx_kA (.int .i64 x29) w387 (gx_kA (.int .i64 (IntKind.i64.wrap (x29 + 1))) w387 (gx_kA (.int .i64 (IntKind.i64.wrap (x29 + 1))) w387 ?_))
          refine gx_nil ?_
          refine gx_blkN ?_
          refine gx_thenN ?_
          exact ⟨k32, Nat.lt_succ_self k32, l381, l384, (IntKind.i64.wrap (x29 + 1)), (if (0 : Int) < (IntKind.i64.wrap (x30 - 1)) then (IntKind.i64.wrap (x30 - 1)) else 0), x31, A382, c383, A385, c386, selfA_i (by as_aux_lemma => kernel_rfl), hO332, (hS388.pick [2, 3, 1, 0] rfl rfl)⟩
         ·refine gx_vA (.bool false) w326 (run_boolE (decide_eq_false h376) (by as_aux_lemma => kernel_rfl)) ?_
          refine gx_kA (.bool false) w326 ?_
          refine gx_nil ?_
          refine gx_thenN ?_
          refine hK375 _ _ ?_
          refine gx_no (by as_aux_lemma => kernel_rfl) ?_
          refine gx_seq (fun K390 hK391 => ?_)
          refine gx_region ?_
          refine gx_kA (.int .u8 x41) w326 ?_
          rcases if_in hO332 with ⟨h392, hO332⟩ | ⟨h392, hO332⟩
          ·refine gx_vA (.bool true) w326 (run_boolE (decide_eq_true h392) (by as_aux_lemma => kernel_rfl)) ?_
           refine gx_kA (.bool true) w326 ?_
           refine gx_nil ?_
           refine gx_thenN ?_
           refine hK391 _ _ ?_
           refine gx_yes (by as_aux_lemma => kernel_rfl) ?_
           refine gx_seq (fun K393 hK394 => ?_)
           refine gx_region ?_
           refine gx_kA (.int .i64 x30) w326 ?_
           rcases if_in hO332 with ⟨h395, hO332⟩ | ⟨h395, hO332⟩
           ·refine gx_vA (.bool true) w326 (run_boolE (decide_eq_true h395) (by as_aux_lemma => kernel_rfl)) ?_
            refine gx_nil ?_
            refine gx_thenN ?_
            refine hK394 _ _ ?_
            refine gx_yes (by as_aux_lemma => kernel_rfl) ?_
            refine gx_region ?_
            refine gx_kA (.int .i64 x31) w326 (gx_kA (.int .i64 (IntKind.i64.wrap (x31 - 1))) w326 ?_)
            refine gx_vA (.int .i64 (if (0 : Int) < (IntKind.i64.wrap (x31 - 1)) then (IntKind.i64.wrap (x31 - 1)) else 0)) w326 (run_max2 rfl (by as_aux_lemma => kernel_rfl) (by as_aux_lemma => kernel_rfl)) ?_
            refine gx_kA (.int .i64 (if (0 : Int) < (IntKind.i64.wrap (x31 - 1)) then (IntKind.i64.wrap (x31 - 1)) else 0)) w326 ?_
            refine gx_nil ?_
            refine gx_blkN ?_
            refine gx_thenN ?_
            refine hK325 _ _ ?_
            refine gx_region ?_
            refine gx_kA (.int .i64 x29) w326 (gx_kA (.int .i64 (IntKind.i64.wrap (x29 + 1))) w326 (gx_kA (.int .i64 (IntKind.i64.wrap (x29 + 1))) w326 ?_))
            refine gx_nil ?_
            refine gx_blkN ?_
            refine gx_thenN ?_
            exact ⟨k32, Nat.lt_succ_self k32, l25, l28, (IntKind.i64.wrap (x29 + 1)), x30, (if (0 : Int) < (IntKind.i64.wrap (x31 - 1)) then (IntKind.i64.wrap (x31 - 1)) else 0), A23, c24, A26, c27, selfA_i (by as_aux_lemma => kernel_rfl), hO332, hS327⟩
           ·refine gx_vA (.bool false) w326 (run_boolE (decide_eq_false h395) (by as_aux_lemma => kernel_rfl)) ?_
            refine gx_nil ?_
            refine gx_thenN ?_
            refine hK394 _ _ ?_
            refine gx_no (by as_aux_lemma => kernel_rfl) ?_
            refine gx_pass ?_
            refine gx_blkN ?_
            refine gx_thenN ?_
            refine hK325 _ _ ?_
            refine gx_region ?_
            refine gx_kA (.int .i64 x29) w326 (gx_kA (.int .i64 (IntKind.i64.wrap (x29 + 1))) w326 (gx_kA (.int .i64 (IntKind.i64.wrap (x29 + 1))) w326 ?_))
            refine gx_nil ?_
            refine gx_blkN ?_
            refine gx_thenN ?_
            exact ⟨k32, Nat.lt_succ_self k32, l25, l28, (IntKind.i64.wrap (x29 + 1)), x30, x31, A23, c24, A26, c27, selfA_i (by as_aux_lemma => kernel_rfl), hO332, hS327⟩
          ·refine gx_vA (.bool false) w326 (run_boolE (decide_eq_false h392) (by as_aux_lemma => kernel_rfl)) ?_
           refine gx_kA (.bool false) w326 ?_
           refine gx_nil ?_
           refine gx_thenN ?_
           refine hK391 _ _ ?_
           refine gx_no (by as_aux_lemma => kernel_rfl) ?_
           refine gx_seq (fun K396 hK397 => ?_)
           refine gx_region ?_
           refine gx_kA (.int .u8 x41) w326 ?_
           have hP398 : St _ _ w326 ([] ++ [rowE .u8 5 A23 c24 l25, rowE .u8 34 A26 c27 l28, boxE g0 [.slice A0_0 p0_0.length c0_0, .int .u8 p0_1, .slice A23 l25.length c24, .slice A26 l28.length c27] 62, boxE w0.heap.size [.int .u8 p2_0, .int .u8 p2_1] 65]) := hS327
           obtain ⟨b400, hc399, hO332⟩ := bind_in hO332
           try dsimp only at hO332
           refine gx_cA (rInit_R b400 w326) (rInit_ok N x41 _ hc399 w326 ) ?_
           rintro _ w401 ⟨rfl, hT403⟩
           have hS402 : St _ _ w401 [rowE .u8 5 A23 c24 l25, rowE .u8 34 A26 c27 l28, boxE g0 [.slice A0_0 p0_0.length c0_0, .int .u8 p0_1, .slice A23 l25.length c24, .slice A26 l28.length c27] 62, boxE w0.heap.size [.int .u8 p2_0, .int .u8 p2_1] 65] := hS327.take _ hT403
           refine gx_kA (.bool b400) w401 ?_
           refine gx_nil ?_
           refine gx_thenN ?_
           refine hK397 _ _ ?_
           cases b400 with
           | true =>
            try dsimp only at hO332
            refine gx_yes (by as_aux_lemma => kernel_rfl) ?_
            refine gx_seq (fun K404 hK405 => ?_)
            refine gx_region ?_
            refine gx_kA (.pointer (some ⟨g0, 0, none⟩)) w401 (gx_kA (.int .i64 x29) w401 ?_)
            refine gx_vA (.agg #[.int .u8 p2_0, .int .u8 p2_1]) w401 (run_loadG (d := _) rfl (by as_aux_lemma => kernel_rfl) (hS402.get 3 rfl) rfl rfl (by as_aux_lemma => kernel_rfl)) ?_
            have hP406 : St _ _ w401 ([boxE g0 [.slice A0_0 p0_0.length c0_0, .int .u8 p0_1, .slice A23 l25.length c24, .slice A26 l28.length c27] 62, rowE .u8 5 A23 c24 l25, rowE .u8 34 A26 c27 l28] ++ [boxE w0.heap.size [.int .u8 p2_0, .int .u8 p2_1] 65]) := hS402.pick [2, 0, 1, 3] rfl rfl
            obtain ⟨⟨l408, l411⟩, hc407, hO332⟩ := bind_in hO332
            try dsimp only at hO332
            refine gx_cA (rStands_R p0_0 p0_1 l25 l28 x29 p2_0 p2_1 g0 A0_0 c0_0 A23 c24 A26 c27 (l408, l411) w401) (rStands_ok N p0_0 p0_1 l25 l28 x29 p2_0 p2_1 g0 A0_0 c0_0 A23 c24 A26 c27 _ hc407 w401 (hP406.vwA hv0_0) hP406.part) ?_
            rintro _ w414 ⟨A409, c410, A412, c413, rfl, hT416⟩
            have hS415 : St _ _ w414 [boxE w0.heap.size [.int .u8 p2_0, .int .u8 p2_1] 65, boxE g0 [.slice A0_0 p0_0.length c0_0, .int .u8 p0_1, .slice A409 l408.length c410, .slice A412 l411.length c413] 62, rowE .u8 5 A409 c410 l408, rowE .u8 34 A412 c413 l411] := hP406.lendN _ hT416
            refine gx_nil ?_
            refine gx_thenN ?_
            refine hK405 _ _ ?_
            obtain ⟨c421, hE422, hO423⟩ := bind_in hO332
            refine gx_cut (fun a w => ∃ (x420 : Int), selfA (fun u419 => ⟨((.pointer (some ⟨g0, 0, none⟩)) :: (.int .i64 x29) :: (u22 2) :: (.int .i64 p3) :: (.bool p4) :: undef :: undef :: (.pointer (some ⟨w0.heap.size, 0, none⟩)) :: undef :: undef :: (u22 10) :: (.int .i64 x30) :: (.int .i64 x31) :: (.int .u8 x41) :: (.bool false) :: (.int .u8 x420) :: (u22 16) :: (.int .i64 x29) :: (.pointer (some ⟨g0, 0, none⟩)) :: (.pointer (some ⟨g0, 0, none⟩)) :: (.pointer (some ⟨g0, 0, none⟩)) :: (u328 21) :: (.int .i64 ((p0_0.length : Nat) : Int)) :: (.bool true) :: (.pointer (some ⟨g0, 0, none⟩)) :: (.pointer (some ⟨g0, 0, none⟩)) :: (.pointer (some ⟨g0, 0, none⟩)) :: (u328 27) :: (.int .i64 x29) :: (.pointer (Option.map (fun (p : Addr) => p.add (Int.toNat x29 * 1)) A0_0)) :: (.int .u8 x41) :: (.int .i64 x30) :: (.int .i64 x31) :: (.int .i64 (IntKind.i64.wrap (x30 + x31))) :: (.bool false) :: (.bool false) :: dd u328 36 24 ((u22 60) :: (.bool false) :: (.int .u8 x41) :: (.bool false) :: dd u22 64 8 ((.bool false) :: (.int .u8 x41) :: (.bool false) :: dd u22 75 7 ((.bool false) :: (.int .u8 x41) :: (.bool false) :: dd u22 85 5 ((.bool true) :: (.int .u8 x41) :: (.bool true) :: (.pointer (some ⟨g0, 0, none⟩)) :: (.int .i64 x29) :: dd u419 95 19 (dd u22 114 99 (undef :: []))))))).toArray, []⟩) a ∧ x420 = c421 ∧ St (foots [boxE g0 [.slice A0_0 p0_0.length c0_0, .int .u8 p0_1, .slice A0_2 p0_2.length c0_2, .slice A0_3 p0_3.length c0_3] 62, rowE .u8 5 A0_2 c0_2 p0_2, rowE .u8 34 A0_3 c0_3 p0_3]) w0 w [boxE w0.heap.size [.int .u8 p2_0, .int .u8 p2_1] 65, rowE .u8 5 A409 c410 l408, rowE .u8 34 A412 c413 l411, boxE g0 [.slice A0_0 p0_0.length c0_0, .int .u8 p0_1, .slice A409 l408.length c410, .slice A412 l411.length c413] 62]) ?_ ?_
            ·refine gd_start (fun w => St (foots [boxE g0 [.slice A0_0 p0_0.length c0_0, .int .u8 p0_1, .slice A0_2 p0_2.length c0_2, .slice A0_3 p0_3.length c0_3] 62, rowE .u8 5 A0_2 c0_2 p0_2, rowE .u8 34 A0_3 c0_3 p0_3]) w0 w [boxE w0.heap.size [.int .u8 p2_0, .int .u8 p2_1] 65, boxE g0 [.slice A0_0 p0_0.length c0_0, .int .u8 p0_1, .slice A409 l408.length c410, .slice A412 l411.length c413] 62, rowE .u8 5 A409 c410 l408, rowE .u8 34 A412 c413 l411]) 18 #[false, false, false, false, false, false, false, false, false, false, false, false, false, false, false, false, false, false] (by as_aux_lemma => kernel_rfl) (by as_aux_lemma => kernel_rfl) ?_
             have hS425 := hS415.drew
             generalize w414.drew = w424 at hS425 ⊢
             refine gd1 0 { dst := some 97, op := _, type := _, pos := _, after := _, guard := _ } (.agg #[.int .u8 p2_0, .int .u8 p2_1]) rfl hS425 (fun w hSw => run_loadG (d := _) rfl (by as_aux_lemma => kernel_rfl) (hSw.get 0 rfl) rfl rfl (by as_aux_lemma => kernel_rfl)) ?_
             refine gd1 1 { dst := some 98, op := _, type := _, pos := _, after := _, guard := _ } (.int .u8 x41) rfl hS425 (fun w hSw => by kernel_rfl) ?_
             rcases if_in hE422 with ⟨h426, hE422⟩ | ⟨h426, hE422⟩
             ·refine gd1 2 { dst := some 99, op := _, type := _, pos := _, after := _, guard := _ } (.bool true) rfl hS425 (fun w hSw => run_boolE (decide_eq_true h426) (by as_aux_lemma => kernel_rfl)) ?_
              refine gd1 3 { dst := some 100, op := _, type := _, pos := _, after := _, guard := _ } (.bool true) rfl hS425 (fun w hSw => by kernel_rfl) ?_
              refine gd0 4 { dst := some 101, op := _, type := _, pos := _, after := _, guard := _ } rfl hS425 ?_
              refine gd0 5 { dst := some 102, op := _, type := _, pos := _, after := _, guard := _ } rfl hS425 ?_
              refine gd0 6 { dst := some 103, op := _, type := _, pos := _, after := _, guard := _ } rfl hS425 ?_
              refine gd0 7 { dst := some 104, op := _, type := _, pos := _, after := _, guard := _ } rfl hS425 ?_
              refine gd0 8 { dst := some 105, op := _, type := _, pos := _, after := _, guard := _ } rfl hS425 ?_
              refine gd0 9 { dst := some 106, op := _, type := _, pos := _, after := _, guard := _ } rfl hS425 ?_
              refine gd0 10 { dst := some 107, op := _, type := _, pos := _, after := _, guard := _ } rfl hS425 ?_
              refine gd0 11 { dst := some 108, op := _, type := _, pos := _, after := _, guard := _ } rfl hS425 ?_
              refine gd0 12 { dst := some 109, op := _, type := _, pos := _, after := _, guard := _ } rfl hS425 ?_
              refine gd0 13 { dst := some 110, op := _, type := _, pos := _, after := _, guard := _ } rfl hS425 ?_
              refine gd0 14 { dst := some 111, op := _, type := _, pos := _, after := _, guard := _ } rfl hS425 ?_
              refine gd1 15 { dst := some 112, op := _, type := _, pos := _, after := _, guard := _ } (.bool true) rfl hS425 (fun w hSw => by kernel_rfl) ?_
              have hP427 : St _ _ w424 ([] ++ [boxE w0.heap.size [.int .u8 p2_0, .int .u8 p2_1] 65, boxE g0 [.slice A0_0 p0_0.length c0_0, .int .u8 p0_1, .slice A409 l408.length c410, .slice A412 l411.length c413] 62, rowE .u8 5 A409 c410 l408, rowE .u8 34 A412 c413 l411]) := hS425
              obtain ⟨x429, hc428, hE422⟩ := bind_in hE422
              try dsimp only at hE422
              refine gdC 16 { dst := some 113, op := _, type := _, pos := _, after := _, guard := _ } (rNext_R x429 w424) rfl (by as_aux_lemma => kernel_rfl) (rNext_ok N p2_0 p2_1 true _ hc428 w424 ) ?_
              rintro _ w430 ⟨rfl, hT432⟩
              have hS431 : St _ _ w430 [boxE w0.heap.size [.int .u8 p2_0, .int .u8 p2_1] 65, boxE g0 [.slice A0_0 p0_0.length c0_0, .int .u8 p0_1, .slice A409 l408.length c410, .slice A412 l411.length c413] 62, rowE .u8 5 A409 c410 l408, rowE .u8 34 A412 c413 l411] := hS425.take _ hT432
              refine ⟨hS431, ?_⟩
              refine gd1 17 { dst := some 15, op := _, type := _, pos := _, after := _, guard := _ } (.int .u8 x429) rfl hS431 (fun w hSw => by kernel_rfl) ?_
              refine gd_done (by as_aux_lemma => kernel_rfl) ?_
              refine gx_thenN ?_
              exact ⟨x429, selfA_i (by as_aux_lemma => kernel_rfl), (Option.some.inj hE422), (hS431.pick [0, 2, 3, 1] rfl rfl)⟩
             ·refine gd1 2 { dst := some 99, op := _, type := _, pos := _, after := _, guard := _ } (.bool false) rfl hS425 (fun w hSw => run_boolE (decide_eq_false h426) (by as_aux_lemma => kernel_rfl)) ?_
              refine gd1 3 { dst := some 100, op := _, type := _, pos := _, after := _, guard := _ } (.bool false) rfl hS425 (fun w hSw => by kernel_rfl) ?_
              refine gd1 4 { dst := some 101, op := _, type := _, pos := _, after := _, guard := _ } (.int .u8 x41) rfl hS425 (fun w hSw => by kernel_rfl) ?_
              rcases if_in hE422 with ⟨h433, hE422⟩ | ⟨h433, hE422⟩
              ·refine gd1 5 { dst := some 102, op := _, type := _, pos := _, after := _, guard := _ } (.bool true) rfl hS425 (fun w hSw => run_boolE (decide_eq_true h433) (by as_aux_lemma => kernel_rfl)) ?_
               refine gd1 6 { dst := some 103, op := _, type := _, pos := _, after := _, guard := _ } (.bool true) rfl hS425 (fun w hSw => by kernel_rfl) ?_
               refine gd1 7 { dst := some 104, op := _, type := _, pos := _, after := _, guard := _ } (.pointer (some ⟨g0, 0, none⟩)) rfl hS425 (fun w hSw => by kernel_rfl) ?_
               refine gd1 8 { dst := some 105, op := _, type := _, pos := _, after := _, guard := _ } (.pointer (some ⟨g0, 0, none⟩)) rfl hS425 (fun w hSw => by kernel_rfl) ?_
               refine gd1 9 { dst := some 106, op := _, type := _, pos := _, after := _, guard := _ } (.pointer (some ⟨g0, 0, none⟩)) rfl hS425 (fun w hSw => by kernel_rfl) ?_
               refine gd1 10 { dst := some 107, op := _, type := _, pos := _, after := _, guard := _ } (.slice A0_0 p0_0.length c0_0) rfl hS425 (fun w hSw => run_load1 rfl (by as_aux_lemma => kernel_rfl) (fun _ => by kernel_rfl) (hSw.box 1 rfl 0 rfl)) ?_
               refine gd1 11 { dst := some 108, op := _, type := _, pos := _, after := _, guard := _ } (.int .i64 x29) rfl hS425 (fun w hSw => by kernel_rfl) ?_
               refine gd1 12 { dst := some 109, op := _, type := _, pos := _, after := _, guard := _ } (.int .i64 (IntKind.i64.wrap (x29 + 1))) rfl hS425 (fun w hSw => by kernel_rfl) ?_
               have hP434 : St _ _ w424 ([] ++ [boxE w0.heap.size [.int .u8 p2_0, .int .u8 p2_1] 65, boxE g0 [.slice A0_0 p0_0.length c0_0, .int .u8 p0_1, .slice A409 l408.length c410, .slice A412 l411.length c413] 62, rowE .u8 5 A409 c410 l408, rowE .u8 34 A412 c413 l411]) := hS425
               obtain ⟨b436, hc435, hE422⟩ := bind_in hE422
               try dsimp only at hE422
               refine gdC 13 { dst := some 110, op := _, type := _, pos := _, after := _, guard := _ } (rRight_R b436 w424) rfl (by as_aux_lemma => kernel_rfl) (rRight_ok N p0_0 (IntKind.i64.wrap (x29 + 1)) true A0_0 c0_0 _ hc435 w424 (hP434.vwA hv0_0)) ?_
               rintro _ w437 ⟨rfl, hT439⟩
               have hS438 : St _ _ w437 [boxE w0.heap.size [.int .u8 p2_0, .int .u8 p2_1] 65, boxE g0 [.slice A0_0 p0_0.length c0_0, .int .u8 p0_1, .slice A409 l408.length c410, .slice A412 l411.length c413] 62, rowE .u8 5 A409 c410 l408, rowE .u8 34 A412 c413 l411] := hS425.take _ hT439
               refine ⟨hS438, ?_⟩
               refine gd1 14 { dst := some 111, op := _, type := _, pos := _, after := _, guard := _ } (.bool b436) rfl hS438 (fun w hSw => by kernel_rfl) ?_
               refine gd1 15 { dst := some 112, op := _, type := _, pos := _, after := _, guard := _ } (.bool b436) rfl hS438 (fun w hSw => by kernel_rfl) ?_
               have hP440 : St _ _ w437 ([] ++ [boxE w0.heap.size [.int .u8 p2_0, .int .u8 p2_1] 65, boxE g0 [.slice A0_0 p0_0.length c0_0, .int .u8 p0_1, .slice A409 l408.length c410, .slice A412 l411.length c413] 62, rowE .u8 5 A409 c410 l408, rowE .u8 34 A412 c413 l411]) := hS438
               obtain ⟨x442, hc441, hE422⟩ := bind_in hE422
               try dsimp only at hE422
               refine gdC 16 { dst := some 113, op := _, type := _, pos := _, after := _, guard := _ } (rNext_R x442 w437) rfl (by as_aux_lemma => kernel_rfl) (rNext_ok N p2_0 p2_1 b436 _ hc441 w437 ) ?_
               rintro _ w443 ⟨rfl, hT445⟩
               have hS444 : St _ _ w443 [boxE w0.heap.size [.int .u8 p2_0, .int .u8 p2_1] 65, boxE g0 [.slice A0_0 p0_0.length c0_0, .int .u8 p0_1, .slice A409 l408.length c410, .slice A412 l411.length c413] 62, rowE .u8 5 A409 c410 l408, rowE .u8 34 A412 c413 l411] := hS438.take _ hT445
               refine ⟨hS444, ?_⟩
               refine gd1 17 { dst := some 15, op := _, type := _, pos := _, after := _, guard := _ } (.int .u8 x442) rfl hS444 (fun w hSw => by kernel_rfl) ?_
               refine gd_done (by as_aux_lemma => kernel_rfl) ?_
               refine gx_thenN ?_
               exact ⟨x442, selfA_i (by as_aux_lemma => kernel_rfl), (Option.some.inj hE422), (hS444.pick [0, 2, 3, 1] rfl rfl)⟩
              ·refine gd1 5 { dst := some 102, op := _, type := _, pos := _, after := _, guard := _ } (.bool false) rfl hS425 (fun w hSw => run_boolE (decide_eq_false h433) (by as_aux_lemma => kernel_rfl)) ?_
               refine gd1 6 { dst := some 103, op := _, type := _, pos := _, after := _, guard := _ } (.bool false) rfl hS425 (fun w hSw => by kernel_rfl) ?_
               refine gd0 7 { dst := some 104, op := _, type := _, pos := _, after := _, guard := _ } rfl hS425 ?_
               refine gd0 8 { dst := some 105, op := _, type := _, pos := _, after := _, guard := _ } rfl hS425 ?_
               refine gd0 9 { dst := some 106, op := _, type := _, pos := _, after := _, guard := _ } rfl hS425 ?_
               refine gd0 10 { dst := some 107, op := _, type := _, pos := _, after := _, guard := _ } rfl hS425 ?_
               refine gd0 11 { dst := some 108, op := _, type := _, pos := _, after := _, guard := _ } rfl hS425 ?_
               refine gd0 12 { dst := some 109, op := _, type := _, pos := _, after := _, guard := _ } rfl hS425 ?_
               refine gd0 13 { dst := some 110, op := _, type := _, pos := _, after := _, guard := _ } rfl hS425 ?_
               refine gd1 14 { dst := some 111, op := _, type := _, pos := _, after := _, guard := _ } (.bool false) rfl hS425 (fun w hSw => by kernel_rfl) ?_
               refine gd1 15 { dst := some 112, op := _, type := _, pos := _, after := _, guard := _ } (.bool false) rfl hS425 (fun w hSw => by kernel_rfl) ?_
               have hP446 : St _ _ w424 ([] ++ [boxE w0.heap.size [.int .u8 p2_0, .int .u8 p2_1] 65, boxE g0 [.slice A0_0 p0_0.length c0_0, .int .u8 p0_1, .slice A409 l408.length c410, .slice A412 l411.length c413] 62, rowE .u8 5 A409 c410 l408, rowE .u8 34 A412 c413 l411]) := hS425
               obtain ⟨x448, hc447, hE422⟩ := bind_in hE422
               try dsimp only at hE422
               refine gdC 16 { dst := some 113, op := _, type := _, pos := _, after := _, guard := _ } (rNext_R x448 w424) rfl (by as_aux_lemma => kernel_rfl) (rNext_ok N p2_0 p2_1 false _ hc447 w424 ) ?_
               rintro _ w449 ⟨rfl, hT451⟩
               have hS450 : St _ _ w449 [boxE w0.heap.size [.int .u8 p2_0, .int .u8 p2_1] 65, boxE g0 [.slice A0_0 p0_0.length c0_0, .int .u8 p0_1, .slice A409 l408.length c410, .slice A412 l411.length c413] 62, rowE .u8 5 A409 c410 l408, rowE .u8 34 A412 c413 l411] := hS425.take _ hT451
               refine ⟨hS450, ?_⟩
               refine gd1 17 { dst := some 15, op := _, type := _, pos := _, after := _, guard := _ } (.int .u8 x448) rfl hS450 (fun w hSw => by kernel_rfl) ?_
               refine gd_done (by as_aux_lemma => kernel_rfl) ?_
               refine gx_thenN ?_
               exact ⟨x448, selfA_i (by as_aux_lemma => kernel_rfl), (Option.some.inj hE422), (hS450.pick [0, 2, 3, 1] rfl rfl)⟩
            ·rintro _ w417 ⟨x420, hq503, rfl, hS418⟩
             obtain ⟨u419, rfl⟩ := selfA_u hq503
             try dsimp only at hO423
             refine gx_seq (fun K452 hK453 => ?_)
             obtain ⟨c458, hE459, hO460⟩ := bind_in hO423
             refine gx_cut (fun a w => ∃ (b457 : Bool), selfA (fun u456 => ⟨((.pointer (some ⟨g0, 0, none⟩)) :: (.int .i64 x29) :: (u22 2) :: (.int .i64 p3) :: (.bool p4) :: undef :: undef :: (.pointer (some ⟨w0.heap.size, 0, none⟩)) :: undef :: undef :: (u22 10) :: (.int .i64 x30) :: (.int .i64 x31) :: (.int .u8 x41) :: (.bool false) :: (.int .u8 x420) :: (u22 16) :: (.int .i64 x29) :: (.pointer (some ⟨g0, 0, none⟩)) :: (.pointer (some ⟨g0, 0, none⟩)) :: (.pointer (some ⟨g0, 0, none⟩)) :: (u328 21) :: (.int .i64 ((p0_0.length : Nat) : Int)) :: (.bool true) :: (.pointer (some ⟨g0, 0, none⟩)) :: (.pointer (some ⟨g0, 0, none⟩)) :: (.pointer (some ⟨g0, 0, none⟩)) :: (u328 27) :: (.int .i64 x29) :: (.pointer (Option.map (fun (p : Addr) => p.add (Int.toNat x29 * 1)) A0_0)) :: (.int .u8 x41) :: (.int .i64 x30) :: (.int .i64 x31) :: (.int .i64 (IntKind.i64.wrap (x30 + x31))) :: (.bool false) :: (.bool false) :: dd u328 36 24 ((u22 60) :: (.bool false) :: (.int .u8 x41) :: (.bool false) :: dd u22 64 8 ((.bool false) :: (.int .u8 x41) :: (.bool false) :: dd u22 75 7 ((.bool false) :: (.int .u8 x41) :: (.bool false) :: dd u22 85 5 ((.bool true) :: (.int .u8 x41) :: (.bool true) :: (.pointer (some ⟨g0, 0, none⟩)) :: (.int .i64 x29) :: dd u419 95 19 (dd u456 114 4 ((.bool b457) :: dd u22 119 94 (undef :: [])))))))).toArray, []⟩) a ∧ b457 = c458 ∧ St (foots [boxE g0 [.slice A0_0 p0_0.length c0_0, .int .u8 p0_1, .slice A0_2 p0_2.length c0_2, .slice A0_3 p0_3.length c0_3] 62, rowE .u8 5 A0_2 c0_2 p0_2, rowE .u8 34 A0_3 c0_3 p0_3]) w0 w [boxE w0.heap.size [.int .u8 p2_0, .int .u8 p2_1] 65, rowE .u8 5 A409 c410 l408, rowE .u8 34 A412 c413 l411, boxE g0 [.slice A0_0 p0_0.length c0_0, .int .u8 p0_1, .slice A409 l408.length c410, .slice A412 l411.length c413] 62]) ?_ ?_
             ·refine gx_region ?_
              refine gx_kA (.bool false) w417 (gx_kA (.bool false) w417 (gx_oA (gx_oA (gx_kA (.bool false) w417 ?_))))
              refine gx_nil ?_
              refine gx_thenN ?_
              exact ⟨false, selfA_i (by as_aux_lemma => kernel_rfl), (Option.some.inj hE459), hS418⟩
             ·rintro _ w454 ⟨b457, hq502, rfl, hS455⟩
              obtain ⟨u456, rfl⟩ := selfA_u hq502
              try dsimp only at hO460
              cases b457 with
              | true =>
               try dsimp only at hO460
               refine gx_yes (by as_aux_lemma => kernel_rfl) ?_
               refine gx_seq (fun K461 hK462 => ?_)
               refine gx_region ?_
               refine gx_kA (.pointer (some ⟨g0, 0, none⟩)) w454 (gx_kA (.int .i64 x29) w454 (gx_kA (.int .i64 (IntKind.i64.wrap (x29 + 1))) w454 (gx_kA (.int .u8 x420) w454 (gx_kA (.agg #[.int .u8 x420, .int .u8 0]) w454 ?_))))
               have hP463 : St _ _ w454 ([boxE g0 [.slice A0_0 p0_0.length c0_0, .int .u8 p0_1, .slice A409 l408.length c410, .slice A412 l411.length c413] 62, rowE .u8 5 A409 c410 l408, rowE .u8 34 A412 c413 l411] ++ [boxE w0.heap.size [.int .u8 p2_0, .int .u8 p2_1] 65]) := hS455.pick [3, 1, 2, 0] rfl rfl
               obtain ⟨⟨x471, l465, l468⟩, hc464, hO460⟩ := bind_in hO460
               try dsimp only at hO460
               refine gx_cA (rWithin_R p0_0 p0_1 l408 l411 (IntKind.i64.wrap (x29 + 1)) x420 (0 : Int) (2 : Int) true g0 A0_0 c0_0 A409 c410 A412 c413 (x471, l465, l468) w454) (hself p0_0 p0_1 l408 l411 (IntKind.i64.wrap (x29 + 1)) x420 (0 : Int) (2 : Int) true g0 A0_0 c0_0 A409 c410 A412 c413 _ hc464 w454 (hP463.vwA hv0_0) hP463.part) ?_
               rintro _ w472 ⟨A466, c467, A469, c470, rfl, hT474⟩
               have hS473 : St _ _ w472 [boxE w0.heap.size [.int .u8 p2_0, .int .u8 p2_1] 65, boxE g0 [.slice A0_0 p0_0.length c0_0, .int .u8 p0_1, .slice A466 l465.length c467, .slice A469 l468.length c470] 62, rowE .u8 5 A466 c467 l465, rowE .u8 34 A469 c470 l468] := hP463.lendN _ hT474
               refine gx_kA (.int .i64 x471) w472 ?_
               refine gx_nil ?_
               refine gx_thenN ?_
               refine hK462 _ _ ?_
               refine gx_seq (fun K475 hK476 => ?_)
               obtain ⟨c481, hE482, hO483⟩ := bind_in hO460
               refine gx_cut (fun a w => ∃ (b480 : Bool), selfA (fun u479 => ⟨((.pointer (some ⟨g0, 0, none⟩)) :: (.int .i64 x471) :: (u22 2) :: (.int .i64 p3) :: (.bool p4) :: undef :: undef :: (.pointer (some ⟨w0.heap.size, 0, none⟩)) :: undef :: undef :: (u22 10) :: (.int .i64 x30) :: (.int .i64 x31) :: (.int .u8 x41) :: (.bool false) :: (.int .u8 x420) :: (u22 16) :: (.int .i64 x29) :: (.pointer (some ⟨g0, 0, none⟩)) :: (.pointer (some ⟨g0, 0, none⟩)) :: (.pointer (some ⟨g0, 0, none⟩)) :: (u328 21) :: (.int .i64 ((p0_0.length : Nat) : Int)) :: (.bool true) :: (.pointer (some ⟨g0, 0, none⟩)) :: (.pointer (some ⟨g0, 0, none⟩)) :: (.pointer (some ⟨g0, 0, none⟩)) :: (u328 27) :: (.int .i64 x29) :: (.pointer (Option.map (fun (p : Addr) => p.add (Int.toNat x29 * 1)) A0_0)) :: (.int .u8 x41) :: (.int .i64 x30) :: (.int .i64 x31) :: (.int .i64 (IntKind.i64.wrap (x30 + x31))) :: (.bool false) :: (.bool false) :: dd u328 36 24 ((u22 60) :: (.bool false) :: (.int .u8 x41) :: (.bool false) :: dd u22 64 8 ((.bool false) :: (.int .u8 x41) :: (.bool false) :: dd u22 75 7 ((.bool false) :: (.int .u8 x41) :: (.bool false) :: dd u22 85 5 ((.bool true) :: (.int .u8 x41) :: (.bool true) :: (.pointer (some ⟨g0, 0, none⟩)) :: (.int .i64 x29) :: dd u419 95 19 (dd u456 114 4 ((.bool true) :: (.pointer (some ⟨g0, 0, none⟩)) :: (.int .i64 x29) :: (.int .i64 (IntKind.i64.wrap (x29 + 1))) :: (.int .u8 x420) :: (u479 123) :: (.int .i64 x471) :: dd u479 125 16 ((.bool b480) :: dd u22 142 71 (undef :: []))))))))).toArray, []⟩) a ∧ b480 = c481 ∧ St (foots [boxE g0 [.slice A0_0 p0_0.length c0_0, .int .u8 p0_1, .slice A0_2 p0_2.length c0_2, .slice A0_3 p0_3.length c0_3] 62, rowE .u8 5 A0_2 c0_2 p0_2, rowE .u8 34 A0_3 c0_3 p0_3]) w0 w [boxE w0.heap.size [.int .u8 p2_0, .int .u8 p2_1] 65, rowE .u8 5 A466 c467 l465, rowE .u8 34 A469 c470 l468, boxE g0 [.slice A0_0 p0_0.length c0_0, .int .u8 p0_1, .slice A466 l465.length c467, .slice A469 l468.length c470] 62]) ?_ ?_
               ·refine gx_region ?_
                refine gx_kA (.int .i64 x471) w472 (gx_kA (.pointer (some ⟨g0, 0, none⟩)) w472 (gx_kA (.pointer (some ⟨g0, 0, none⟩)) w472 (gx_kA (.pointer (some ⟨g0, 0, none⟩)) w472 ?_)))
                refine gx_vA (.slice A0_0 p0_0.length c0_0) w472 (run_load1 rfl (by as_aux_lemma => kernel_rfl) (fun _ => by kernel_rfl) (hS473.box 1 rfl 0 rfl)) ?_
                refine gx_kA (.int .i64 ((p0_0.length : Nat) : Int)) w472 ?_
                rcases if_in hE482 with ⟨h484, hE482⟩ | ⟨h484, hE482⟩
                ·refine gx_vA (.bool true) w472 (run_boolE (decide_eq_true h484) (by as_aux_lemma => kernel_rfl)) ?_
                 refine gx_kA (.bool true) w472 (gx_kA (.pointer (some ⟨g0, 0, none⟩)) w472 (gx_kA (.pointer (some ⟨g0, 0, none⟩)) w472 (gx_kA (.pointer (some ⟨g0, 0, none⟩)) w472 ?_)))
                 refine gx_vA (.slice A0_0 p0_0.length c0_0) w472 (run_load1 rfl (by as_aux_lemma => kernel_rfl) (fun _ => by kernel_rfl) (hS473.box 1 rfl 0 rfl)) ?_
                 refine gx_kA (.int .i64 x471) w472 ?_
                 obtain ⟨x485, hx486, hE482⟩ := bind_in hE482
                 refine gx_vA (.pointer (Option.map (fun (p : Addr) => p.add (Int.toNat x471 * 1)) A0_0)) w472 (run_ixaddr (E := 34) (s := 1) (k := .i64) (c := c0_0) rfl (by as_aux_lemma => kernel_rfl) (by as_aux_lemma => kernel_rfl) (by as_aux_lemma => kernel_rfl) (fun _ => by kernel_rfl) (ix_in hx486).1 (ix_in hx486).2.1 (num_nil (hS473.view hv0_0))) ?_
                 refine gx_vA (.int .u8 x485) w472 (run_loadix rfl (by as_aux_lemma => kernel_rfl) (fun _ => by kernel_rfl) (hS473.view hv0_0) hx486) ?_
                 rcases if_in hE482 with ⟨h487, hE482⟩ | ⟨h487, hE482⟩
                 ·refine gx_vA (.bool true) w472 (run_boolE (decide_eq_true h487) (by as_aux_lemma => kernel_rfl)) ?_
                  refine gx_kA (.bool true) w472 ?_
                  refine gx_nil ?_
                  refine gx_thenN ?_
                  exact ⟨true, selfA_i (by as_aux_lemma => kernel_rfl), (Option.some.inj hE482), (hS473.pick [0, 2, 3, 1] rfl rfl)⟩
                 ·refine gx_vA (.bool false) w472 (run_boolE (decide_eq_false h487) (by as_aux_lemma => kernel_rfl)) ?_
                  refine gx_kA (.bool false) w472 ?_
                  refine gx_nil ?_
                  refine gx_thenN ?_
                  exact ⟨false, selfA_i (by as_aux_lemma => kernel_rfl), (Option.some.inj hE482), (hS473.pick [0, 2, 3, 1] rfl rfl)⟩
                ·refine gx_vA (.bool false) w472 (run_boolE (decide_eq_false h484) (by as_aux_lemma => kernel_rfl)) ?_
                 refine gx_kA (.bool false) w472 (gx_oA (gx_oA (gx_oA (gx_oA (gx_oA (gx_oA (gx_oA ?_)))))))
                 refine gx_oA (gx_kA (.bool false) w472 ?_)
                 refine gx_nil ?_
                 refine gx_thenN ?_
                 exact ⟨false, selfA_i (by as_aux_lemma => kernel_rfl), (Option.some.inj hE482), (hS473.pick [0, 2, 3, 1] rfl rfl)⟩
               ·rintro _ w477 ⟨b480, hq501, rfl, hS478⟩
                obtain ⟨u479, rfl⟩ := selfA_u hq501
                try dsimp only at hO483
                cases b480 with
                | true =>
                 try dsimp only at hO483
                 refine gx_yes (by as_aux_lemma => kernel_rfl) ?_
                 refine gx_seq (fun K488 hK489 => ?_)
                 refine gx_region ?_
                 refine gx_kA (.pointer (some ⟨g0, 0, none⟩)) w477 (gx_kA (.int .i64 x471) w477 ?_)
                 refine gx_vA (.agg #[.int .u8 p2_0, .int .u8 p2_1]) w477 (run_loadG (d := _) rfl (by as_aux_lemma => kernel_rfl) (hS478.get 0 rfl) rfl rfl (by as_aux_lemma => kernel_rfl)) ?_
                 have hP490 : St _ _ w477 ([boxE g0 [.slice A0_0 p0_0.length c0_0, .int .u8 p0_1, .slice A466 l465.length c467, .slice A469 l468.length c470] 62, rowE .u8 5 A466 c467 l465, rowE .u8 34 A469 c470 l468] ++ [boxE w0.heap.size [.int .u8 p2_0, .int .u8 p2_1] 65]) := hS478.pick [3, 1, 2, 0] rfl rfl
                 obtain ⟨⟨l492, l495⟩, hc491, hO483⟩ := bind_in hO483
                 try dsimp only at hO483
                 refine gx_cA (rStands_R p0_0 p0_1 l465 l468 x471 p2_0 p2_1 g0 A0_0 c0_0 A466 c467 A469 c470 (l492, l495) w477) (rStands_ok N p0_0 p0_1 l465 l468 x471 p2_0 p2_1 g0 A0_0 c0_0 A466 c467 A469 c470 _ hc491 w477 (hP490.vwA hv0_0) hP490.part) ?_
                 rintro _ w498 ⟨A493, c494, A496, c497, rfl, hT500⟩
                 have hS499 : St _ _ w498 [boxE w0.heap.size [.int .u8 p2_0, .int .u8 p2_1] 65, boxE g0 [.slice A0_0 p0_0.length c0_0, .int .u8 p0_1, .slice A493 l492.length c494, .slice A496 l495.length c497] 62, rowE .u8 5 A493 c494 l492, rowE .u8 34 A496 c497 l495] := hP490.lendN _ hT500
                 refine gx_nil ?_
                 refine gx_thenN ?_
                 refine hK489 _ _ ?_
                 refine gx_region ?_
                 refine gx_kA (.int .i64 x471) w498 (gx_kA (.int .i64 (IntKind.i64.wrap (x471 + 1))) w498 (gx_kA (.int .i64 (IntKind.i64.wrap (x471 + 1))) w498 ?_))
                 refine gx_nil ?_
                 refine gx_thenN ?_
                 refine hK476 _ _ ?_
                 refine gx_exit ?_
                 refine gx_thenE ?_
                 refine gx_blkO (by decide) ?_
                 refine gx_thenE ?_
                 refine gx_blkE ?_
                 refine gx_thenN ?_
                 exact ⟨k32, Nat.lt_succ_self k32, l492, l495, (IntKind.i64.wrap (x471 + 1)), x30, x31, A493, c494, A496, c497, selfA_i (by as_aux_lemma => kernel_rfl), hO483, (hS499.pick [2, 3, 1, 0] rfl rfl)⟩
                | false =>
                 try dsimp only at hO483
                 refine gx_no (by as_aux_lemma => kernel_rfl) ?_
                 refine gx_pass ?_
                 refine gx_thenN ?_
                 refine hK476 _ _ ?_
                 refine gx_exit ?_
                 refine gx_thenE ?_
                 refine gx_blkO (by decide) ?_
                 refine gx_thenE ?_
                 refine gx_blkE ?_
                 refine gx_thenN ?_
                 exact ⟨k32, Nat.lt_succ_self k32, l465, l468, x471, x30, x31, A466, c467, A469, c470, selfA_i (by as_aux_lemma => kernel_rfl), hO483, (hS478.pick [1, 2, 3, 0] rfl rfl)⟩
              | false =>
               try dsimp only at hO460
               refine gx_no (by as_aux_lemma => kernel_rfl) ?_
               refine gx_pass ?_
               refine gx_thenN ?_
               refine hK453 _ _ ?_
               refine gx_region ?_
               refine gx_kA (.int .i64 x30) w454 (gx_kA (.int .i64 (IntKind.i64.wrap (x30 + 1))) w454 (gx_kA (.int .i64 (IntKind.i64.wrap (x30 + 1))) w454 ?_))
               refine gx_nil ?_
               refine gx_blkN ?_
               refine gx_thenN ?_
               refine hK325 _ _ ?_
               refine gx_region ?_
               refine gx_kA (.int .i64 x29) w454 (gx_kA (.int .i64 (IntKind.i64.wrap (x29 + 1))) w454 (gx_kA (.int .i64 (IntKind.i64.wrap (x29 + 1))) w454 ?_))
               refine gx_nil ?_
               refine gx_blkN ?_
               refine gx_thenN ?_
               exact ⟨k32, Nat.lt_succ_self k32, l408, l411, (IntKind.i64.wrap (x29 + 1)), (IntKind.i64.wrap (x30 + 1)), x31, A409, c410, A412, c413, selfA_i (by as_aux_lemma => kernel_rfl), hO460, (hS455.pick [1, 2, 3, 0] rfl rfl)⟩
           | false =>
            try dsimp only at hO332
            refine gx_no (by as_aux_lemma => kernel_rfl) ?_
            obtain ⟨c508, hE509, hO510⟩ := bind_in hO332
            refine gx_cut (fun a w => ∃ (b507 : Bool), selfA (fun u506 => ⟨((.pointer (some ⟨g0, 0, none⟩)) :: (.int .i64 x29) :: (u22 2) :: (.int .i64 p3) :: (.bool p4) :: undef :: undef :: (.pointer (some ⟨w0.heap.size, 0, none⟩)) :: undef :: undef :: (u22 10) :: (.int .i64 x30) :: (.int .i64 x31) :: (.int .u8 x41) :: (.bool false) :: dd u22 15 2 ((.int .i64 x29) :: (.pointer (some ⟨g0, 0, none⟩)) :: (.pointer (some ⟨g0, 0, none⟩)) :: (.pointer (some ⟨g0, 0, none⟩)) :: (u328 21) :: (.int .i64 ((p0_0.length : Nat) : Int)) :: (.bool true) :: (.pointer (some ⟨g0, 0, none⟩)) :: (.pointer (some ⟨g0, 0, none⟩)) :: (.pointer (some ⟨g0, 0, none⟩)) :: (u328 27) :: (.int .i64 x29) :: (.pointer (Option.map (fun (p : Addr) => p.add (Int.toNat x29 * 1)) A0_0)) :: (.int .u8 x41) :: (.int .i64 x30) :: (.int .i64 x31) :: (.int .i64 (IntKind.i64.wrap (x30 + x31))) :: (.bool false) :: (.bool false) :: dd u328 36 24 ((u22 60) :: (.bool false) :: (.int .u8 x41) :: (.bool false) :: dd u22 64 8 ((.bool false) :: (.int .u8 x41) :: (.bool false) :: dd u22 75 7 ((.bool false) :: (.int .u8 x41) :: (.bool false) :: dd u22 85 5 ((.bool false) :: (.int .u8 x41) :: (.bool false) :: dd u22 93 57 ((.bool b507) :: dd u506 151 8 (dd u22 159 54 (undef :: []))))))))).toArray, []⟩) a ∧ b507 = c508 ∧ St (foots [boxE g0 [.slice A0_0 p0_0.length c0_0, .int .u8 p0_1, .slice A0_2 p0_2.length c0_2, .slice A0_3 p0_3.length c0_3] 62, rowE .u8 5 A0_2 c0_2 p0_2, rowE .u8 34 A0_3 c0_3 p0_3]) w0 w [rowE .u8 5 A23 c24 l25, rowE .u8 34 A26 c27 l28, boxE g0 [.slice A0_0 p0_0.length c0_0, .int .u8 p0_1, .slice A23 l25.length c24, .slice A26 l28.length c27] 62, boxE w0.heap.size [.int .u8 p2_0, .int .u8 p2_1] 65]) ?_ ?_
            ·refine gx_seq (fun K511 hK512 => ?_)
             refine gx_region ?_
             refine gx_kA (.int .u8 x41) w401 ?_
             rcases if_in hE509 with ⟨h513, hE509⟩ | ⟨h513, hE509⟩
             ·refine gx_vA (.bool true) w401 (run_boolE (decide_eq_true h513) (by as_aux_lemma => kernel_rfl)) ?_
              refine gx_kA (.bool true) w401 ?_
              refine gx_nil ?_
              refine gx_thenN ?_
              refine hK512 _ _ ?_
              refine gx_yes (by as_aux_lemma => kernel_rfl) ?_
              refine gx_pass ?_
              refine gx_thenN ?_
              exact ⟨true, selfA_i (by as_aux_lemma => kernel_rfl), (Option.some.inj hE509), hS402⟩
             ·refine gx_vA (.bool false) w401 (run_boolE (decide_eq_false h513) (by as_aux_lemma => kernel_rfl)) ?_
              refine gx_kA (.bool false) w401 ?_
              refine gx_nil ?_
              refine gx_thenN ?_
              refine hK512 _ _ ?_
              refine gx_no (by as_aux_lemma => kernel_rfl) ?_
              refine gx_seq (fun K514 hK515 => ?_)
              refine gx_region ?_
              refine gx_kA (.int .u8 x41) w401 ?_
              rcases if_in hE509 with ⟨h516, hE509⟩ | ⟨h516, hE509⟩
              ·refine gx_vA (.bool true) w401 (run_boolE (decide_eq_true h516) (by as_aux_lemma => kernel_rfl)) ?_
               refine gx_kA (.bool true) w401 ?_
               refine gx_nil ?_
               refine gx_thenN ?_
               refine hK515 _ _ ?_
               refine gx_yes (by as_aux_lemma => kernel_rfl) ?_
               refine gx_pass ?_
               refine gx_thenN ?_
               exact ⟨true, selfA_i (by as_aux_lemma => kernel_rfl), (Option.some.inj hE509), hS402⟩
              ·refine gx_vA (.bool false) w401 (run_boolE (decide_eq_false h516) (by as_aux_lemma => kernel_rfl)) ?_
               refine gx_kA (.bool false) w401 ?_
               refine gx_nil ?_
               refine gx_thenN ?_
               refine hK515 _ _ ?_
               refine gx_no (by as_aux_lemma => kernel_rfl) ?_
               refine gx_seq (fun K517 hK518 => ?_)
               refine gx_region ?_
               refine gx_kA (.int .u8 x41) w401 ?_
               rcases if_in hE509 with ⟨h519, hE509⟩ | ⟨h519, hE509⟩
               ·refine gx_vA (.bool true) w401 (run_boolE (decide_eq_true h519) (by as_aux_lemma => kernel_rfl)) ?_
                refine gx_kA (.bool true) w401 ?_
                refine gx_nil ?_
                refine gx_thenN ?_
                refine hK518 _ _ ?_
                refine gx_yes (by as_aux_lemma => kernel_rfl) ?_
                refine gx_pass ?_
                refine gx_thenN ?_
                exact ⟨true, selfA_i (by as_aux_lemma => kernel_rfl), (Option.some.inj hE509), hS402⟩
               ·refine gx_vA (.bool false) w401 (run_boolE (decide_eq_false h519) (by as_aux_lemma => kernel_rfl)) ?_
                refine gx_kA (.bool false) w401 ?_
                refine gx_nil ?_
                refine gx_thenN ?_
                refine hK518 _ _ ?_
                refine gx_no (by as_aux_lemma => kernel_rfl) ?_
                refine gx_region ?_
                refine gx_kA (.int .u8 x41) w401 ?_
                rcases if_in hE509 with ⟨h520, hE509⟩ | ⟨h520, hE509⟩
                ·refine gx_vA (.bool true) w401 (run_boolE (decide_eq_true h520) (by as_aux_lemma => kernel_rfl)) ?_
                 refine gx_kA (.bool true) w401 ?_
                 refine gx_nil ?_
                 refine gx_thenN ?_
                 exact ⟨true, selfA_i (by as_aux_lemma => kernel_rfl), (Option.some.inj hE509), hS402⟩
                ·refine gx_vA (.bool false) w401 (run_boolE (decide_eq_false h520) (by as_aux_lemma => kernel_rfl)) ?_
                 refine gx_kA (.bool false) w401 ?_
                 refine gx_nil ?_
                 refine gx_thenN ?_
                 exact ⟨false, selfA_i (by as_aux_lemma => kernel_rfl), (Option.some.inj hE509), hS402⟩
            ·rintro _ w504 ⟨b507, hq597, rfl, hS505⟩
             obtain ⟨u506, rfl⟩ := selfA_u hq597
             try dsimp only at hO510
             cases b507 with
             | true =>
              try dsimp only at hO510
              refine gx_yes (by as_aux_lemma => kernel_rfl) ?_
              obtain ⟨c525, hE526, hO527⟩ := bind_in hO510
              refine gx_cut (fun a w => ∃ (x524 : Int), selfA (fun u523 => ⟨((.pointer (some ⟨g0, 0, none⟩)) :: (.int .i64 x29) :: (u22 2) :: (.int .i64 p3) :: (.bool p4) :: undef :: undef :: (.pointer (some ⟨w0.heap.size, 0, none⟩)) :: undef :: undef :: (u22 10) :: (.int .i64 x30) :: (.int .i64 x31) :: (.int .u8 x41) :: (.bool false) :: (u22 15) :: (.int .u8 x524) :: (.int .i64 x29) :: (.pointer (some ⟨g0, 0, none⟩)) :: (.pointer (some ⟨g0, 0, none⟩)) :: (.pointer (some ⟨g0, 0, none⟩)) :: (u328 21) :: (.int .i64 ((p0_0.length : Nat) : Int)) :: (.bool true) :: (.pointer (some ⟨g0, 0, none⟩)) :: (.pointer (some ⟨g0, 0, none⟩)) :: (.pointer (some ⟨g0, 0, none⟩)) :: (u328 27) :: (.int .i64 x29) :: (.pointer (Option.map (fun (p : Addr) => p.add (Int.toNat x29 * 1)) A0_0)) :: (.int .u8 x41) :: (.int .i64 x30) :: (.int .i64 x31) :: (.int .i64 (IntKind.i64.wrap (x30 + x31))) :: (.bool false) :: (.bool false) :: dd u328 36 24 ((u22 60) :: (.bool false) :: (.int .u8 x41) :: (.bool false) :: dd u22 64 8 ((.bool false) :: (.int .u8 x41) :: (.bool false) :: dd u22 75 7 ((.bool false) :: (.int .u8 x41) :: (.bool false) :: dd u22 85 5 ((.bool false) :: (.int .u8 x41) :: (.bool false) :: dd u22 93 57 ((.bool true) :: dd u506 151 8 (dd u523 159 8 (dd u22 167 46 (undef :: []))))))))).toArray, []⟩) a ∧ x524 = c525 ∧ St (foots [boxE g0 [.slice A0_0 p0_0.length c0_0, .int .u8 p0_1, .slice A0_2 p0_2.length c0_2, .slice A0_3 p0_3.length c0_3] 62, rowE .u8 5 A0_2 c0_2 p0_2, rowE .u8 34 A0_3 c0_3 p0_3]) w0 w [rowE .u8 5 A23 c24 l25, rowE .u8 34 A26 c27 l28, boxE g0 [.slice A0_0 p0_0.length c0_0, .int .u8 p0_1, .slice A23 l25.length c24, .slice A26 l28.length c27] 62, boxE w0.heap.size [.int .u8 p2_0, .int .u8 p2_1] 65]) ?_ ?_
              ·refine gx_region ?_
               refine gx_vA (.agg #[.int .u8 p2_0, .int .u8 p2_1]) w504 (run_loadG (d := _) rfl (by as_aux_lemma => kernel_rfl) (hS505.get 3 rfl) rfl rfl (by as_aux_lemma => kernel_rfl)) ?_
               refine gx_kA (.int .u8 x41) w504 ?_
               rcases if_in hE526 with ⟨h528, hE526⟩ | ⟨h528, hE526⟩
               ·refine gx_vA (.bool true) w504 (run_boolE (decide_eq_true h528) (by as_aux_lemma => kernel_rfl)) ?_
                refine gx_kA (.bool true) w504 (gx_oA (gx_oA (gx_kA (.bool true) w504 ?_)))
                have hP529 : St _ _ w504 ([] ++ [rowE .u8 5 A23 c24 l25, rowE .u8 34 A26 c27 l28, boxE g0 [.slice A0_0 p0_0.length c0_0, .int .u8 p0_1, .slice A23 l25.length c24, .slice A26 l28.length c27] 62, boxE w0.heap.size [.int .u8 p2_0, .int .u8 p2_1] 65]) := hS505
                obtain ⟨x531, hc530, hE526⟩ := bind_in hE526
                try dsimp only at hE526
                refine gx_cA (rNext_R x531 w504) (rNext_ok N p2_0 p2_1 true _ hc530 w504 ) ?_
                rintro _ w532 ⟨rfl, hT534⟩
                have hS533 : St _ _ w532 [rowE .u8 5 A23 c24 l25, rowE .u8 34 A26 c27 l28, boxE g0 [.slice A0_0 p0_0.length c0_0, .int .u8 p0_1, .slice A23 l25.length c24, .slice A26 l28.length c27] 62, boxE w0.heap.size [.int .u8 p2_0, .int .u8 p2_1] 65] := hS505.take _ hT534
                refine gx_kA (.int .u8 x531) w532 ?_
                refine gx_nil ?_
                refine gx_thenN ?_
                exact ⟨x531, selfA_i (by as_aux_lemma => kernel_rfl), (Option.some.inj hE526), hS533⟩
               ·refine gx_vA (.bool false) w504 (run_boolE (decide_eq_false h528) (by as_aux_lemma => kernel_rfl)) ?_
                refine gx_kA (.bool false) w504 (gx_kA (.int .u8 x41) w504 (gx_kA (.bool (decide (x41 = 18))) w504 (gx_kA (.bool (decide (x41 = 18))) w504 ?_)))
                have hP535 : St _ _ w504 ([] ++ [rowE .u8 5 A23 c24 l25, rowE .u8 34 A26 c27 l28, boxE g0 [.slice A0_0 p0_0.length c0_0, .int .u8 p0_1, .slice A23 l25.length c24, .slice A26 l28.length c27] 62, boxE w0.heap.size [.int .u8 p2_0, .int .u8 p2_1] 65]) := hS505
                obtain ⟨x537, hc536, hE526⟩ := bind_in hE526
                try dsimp only at hE526
                refine gx_cA (rNext_R x537 w504) (rNext_ok N p2_0 p2_1 (decide (x41 = 18)) _ hc536 w504 ) ?_
                rintro _ w538 ⟨rfl, hT540⟩
                have hS539 : St _ _ w538 [rowE .u8 5 A23 c24 l25, rowE .u8 34 A26 c27 l28, boxE g0 [.slice A0_0 p0_0.length c0_0, .int .u8 p0_1, .slice A23 l25.length c24, .slice A26 l28.length c27] 62, boxE w0.heap.size [.int .u8 p2_0, .int .u8 p2_1] 65] := hS505.take _ hT540
                refine gx_kA (.int .u8 x537) w538 ?_
                refine gx_nil ?_
                refine gx_thenN ?_
                exact ⟨x537, selfA_i (by as_aux_lemma => kernel_rfl), (Option.some.inj hE526), hS539⟩
              ·rintro _ w521 ⟨x524, hq582, rfl, hS522⟩
               obtain ⟨u523, rfl⟩ := selfA_u hq582
               try dsimp only at hO527
               refine gx_seq (fun K541 hK542 => ?_)
               obtain ⟨c547, hE548, hO549⟩ := bind_in hO527
               refine gx_cut (fun a w => ∃ (b546 : Bool), selfA (fun u545 => ⟨((.pointer (some ⟨g0, 0, none⟩)) :: (.int .i64 x29) :: (u22 2) :: (.int .i64 p3) :: (.bool p4) :: undef :: undef :: (.pointer (some ⟨w0.heap.size, 0, none⟩)) :: undef :: undef :: (u22 10) :: (.int .i64 x30) :: (.int .i64 x31) :: (.int .u8 x41) :: (.bool false) :: (u22 15) :: (.int .u8 x524) :: (.int .i64 x29) :: (.pointer (some ⟨g0, 0, none⟩)) :: (.pointer (some ⟨g0, 0, none⟩)) :: (.pointer (some ⟨g0, 0, none⟩)) :: (u328 21) :: (.int .i64 ((p0_0.length : Nat) : Int)) :: (.bool true) :: (.pointer (some ⟨g0, 0, none⟩)) :: (.pointer (some ⟨g0, 0, none⟩)) :: (.pointer (some ⟨g0, 0, none⟩)) :: (u328 27) :: (.int .i64 x29) :: (.pointer (Option.map (fun (p : Addr) => p.add (Int.toNat x29 * 1)) A0_0)) :: (.int .u8 x41) :: (.int .i64 x30) :: (.int .i64 x31) :: (.int .i64 (IntKind.i64.wrap (x30 + x31))) :: (.bool false) :: (.bool false) :: dd u328 36 24 ((u22 60) :: (.bool false) :: (.int .u8 x41) :: (.bool false) :: dd u22 64 8 ((.bool false) :: (.int .u8 x41) :: (.bool false) :: dd u22 75 7 ((.bool false) :: (.int .u8 x41) :: (.bool false) :: dd u22 85 5 ((.bool false) :: (.int .u8 x41) :: (.bool false) :: dd u22 93 57 ((.bool true) :: dd u506 151 8 (dd u523 159 8 (dd u545 167 4 ((.bool b546) :: dd u22 172 41 (undef :: [])))))))))).toArray, []⟩) a ∧ b546 = c547 ∧ St (foots [boxE g0 [.slice A0_0 p0_0.length c0_0, .int .u8 p0_1, .slice A0_2 p0_2.length c0_2, .slice A0_3 p0_3.length c0_3] 62, rowE .u8 5 A0_2 c0_2 p0_2, rowE .u8 34 A0_3 c0_3 p0_3]) w0 w [rowE .u8 5 A23 c24 l25, rowE .u8 34 A26 c27 l28, boxE g0 [.slice A0_0 p0_0.length c0_0, .int .u8 p0_1, .slice A23 l25.length c24, .slice A26 l28.length c27] 62, boxE w0.heap.size [.int .u8 p2_0, .int .u8 p2_1] 65]) ?_ ?_
               ·refine gx_region ?_
                refine gx_kA (.bool false) w521 (gx_kA (.bool false) w521 (gx_oA (gx_oA (gx_kA (.bool false) w521 ?_))))
                refine gx_nil ?_
                refine gx_thenN ?_
                exact ⟨false, selfA_i (by as_aux_lemma => kernel_rfl), (Option.some.inj hE548), hS522⟩
               ·rintro _ w543 ⟨b546, hq581, rfl, hS544⟩
                obtain ⟨u545, rfl⟩ := selfA_u hq581
                try dsimp only at hO549
                cases b546 with
                | true =>
                 try dsimp only at hO549
                 refine gx_yes (by as_aux_lemma => kernel_rfl) ?_
                 refine gx_seq (fun K550 hK551 => ?_)
                 refine gx_region ?_
                 refine gx_kA (.pointer (some ⟨g0, 0, none⟩)) w543 (gx_kA (.int .i64 x29) w543 (gx_kA (.int .i64 (IntKind.i64.wrap (x29 + 1))) w543 (gx_kA (.int .u8 x524) w543 (gx_kA (.int .u8 x41) w543 ?_))))
                 have hP552 : St _ _ w543 ([] ++ [rowE .u8 5 A23 c24 l25, rowE .u8 34 A26 c27 l28, boxE g0 [.slice A0_0 p0_0.length c0_0, .int .u8 p0_1, .slice A23 l25.length c24, .slice A26 l28.length c27] 62, boxE w0.heap.size [.int .u8 p2_0, .int .u8 p2_1] 65]) := hS544
                 obtain ⟨x554, hc553, hO549⟩ := bind_in hO549
                 try dsimp only at hO549
                 refine gx_cA (rOvr_R x554 w543) (rOvr_ok N x41 _ hc553 w543 ) ?_
                 rintro _ w555 ⟨rfl, hT557⟩
                 have hS556 : St _ _ w555 [rowE .u8 5 A23 c24 l25, rowE .u8 34 A26 c27 l28, boxE g0 [.slice A0_0 p0_0.length c0_0, .int .u8 p0_1, .slice A23 l25.length c24, .slice A26 l28.length c27] 62, boxE w0.heap.size [.int .u8 p2_0, .int .u8 p2_1] 65] := hS544.take _ hT557
                 refine gx_kA (.agg #[.int .u8 x524, .int .u8 x554]) w555 (gx_kA (.bool p4) w555 ?_)
                 have hP558 : St _ _ w555 ([boxE g0 [.slice A0_0 p0_0.length c0_0, .int .u8 p0_1, .slice A23 l25.length c24, .slice A26 l28.length c27] 62, rowE .u8 5 A23 c24 l25, rowE .u8 34 A26 c27 l28] ++ [boxE w0.heap.size [.int .u8 p2_0, .int .u8 p2_1] 65]) := hS556.pick [2, 0, 1, 3] rfl rfl
                 obtain ⟨⟨x566, l560, l563⟩, hc559, hO549⟩ := bind_in hO549
                 try dsimp only at hO549
                 refine gx_cA (rWithin_R p0_0 p0_1 l25 l28 (IntKind.i64.wrap (x29 + 1)) x524 x554 (1 : Int) p4 g0 A0_0 c0_0 A23 c24 A26 c27 (x566, l560, l563) w555) (hself p0_0 p0_1 l25 l28 (IntKind.i64.wrap (x29 + 1)) x524 x554 (1 : Int) p4 g0 A0_0 c0_0 A23 c24 A26 c27 _ hc559 w555 (hP558.vwA hv0_0) hP558.part) ?_
                 rintro _ w567 ⟨A561, c562, A564, c565, rfl, hT569⟩
                 have hS568 : St _ _ w567 [boxE w0.heap.size [.int .u8 p2_0, .int .u8 p2_1] 65, boxE g0 [.slice A0_0 p0_0.length c0_0, .int .u8 p0_1, .slice A561 l560.length c562, .slice A564 l563.length c565] 62, rowE .u8 5 A561 c562 l560, rowE .u8 34 A564 c565 l563] := hP558.lendN _ hT569
                 refine gx_kA (.int .i64 x566) w567 ?_
                 refine gx_nil ?_
                 refine gx_thenN ?_
                 refine hK551 _ _ ?_
                 refine gx_seq (fun K570 hK571 => ?_)
                 refine gx_seq (fun K572 hK573 => ?_)
                 refine gx_region ?_
                 refine gx_kA (.int .i64 x566) w567 (gx_kA (.pointer (some ⟨g0, 0, none⟩)) w567 (gx_kA (.pointer (some ⟨g0, 0, none⟩)) w567 (gx_kA (.pointer (some ⟨g0, 0, none⟩)) w567 ?_)))
                 refine gx_vA (.slice A0_0 p0_0.length c0_0) w567 (run_load1 rfl (by as_aux_lemma => kernel_rfl) (fun _ => by kernel_rfl) (hS568.box 1 rfl 0 rfl)) ?_
                 refine gx_kA (.int .i64 ((p0_0.length : Nat) : Int)) w567 ?_
                 rcases if_in hO549 with ⟨h574, hO549⟩ | ⟨h574, hO549⟩
                 ·refine gx_vA (.bool true) w567 (run_boolE (decide_eq_true h574) (by as_aux_lemma => kernel_rfl)) ?_
                  refine gx_kA (.bool true) w567 (gx_kA (.pointer (some ⟨g0, 0, none⟩)) w567 (gx_kA (.pointer (some ⟨g0, 0, none⟩)) w567 (gx_kA (.pointer (some ⟨g0, 0, none⟩)) w567 ?_)))
                  refine gx_vA (.slice A0_0 p0_0.length c0_0) w567 (run_load1 rfl (by as_aux_lemma => kernel_rfl) (fun _ => by kernel_rfl) (hS568.box 1 rfl 0 rfl)) ?_
                  refine gx_kA (.int .i64 x566) w567 ?_
                  obtain ⟨x575, hx576, hO549⟩ := bind_in hO549
                  refine gx_vA (.pointer (Option.map (fun (p : Addr) => p.add (Int.toNat x566 * 1)) A0_0)) w567 (run_ixaddr (E := 34) (s := 1) (k := .i64) (c := c0_0) rfl (by as_aux_lemma => kernel_rfl) (by as_aux_lemma => kernel_rfl) (by as_aux_lemma => kernel_rfl) (fun _ => by kernel_rfl) (ix_in hx576).1 (ix_in hx576).2.1 (num_nil (hS568.view hv0_0))) ?_
                  refine gx_vA (.int .u8 x575) w567 (run_loadix rfl (by as_aux_lemma => kernel_rfl) (fun _ => by kernel_rfl) (hS568.view hv0_0) hx576) ?_
                  rcases if_in hO549 with ⟨h577, hO549⟩ | ⟨h577, hO549⟩
                  ·refine gx_vA (.bool true) w567 (run_boolE (decide_eq_true h577) (by as_aux_lemma => kernel_rfl)) ?_
                   refine gx_kA (.bool true) w567 ?_
                   refine gx_nil ?_
                   refine gx_thenN ?_
                   refine hK573 _ _ ?_
                   refine gx_yes (by as_aux_lemma => kernel_rfl) ?_
                   refine gx_region ?_
                   refine gx_kA (.int .i64 x566) w567 (gx_kA (.int .i64 (IntKind.i64.wrap (x566 + 1))) w567 (gx_kA (.int .i64 (IntKind.i64.wrap (x566 + 1))) w567 ?_))
                   refine gx_nil ?_
                   refine gx_thenN ?_
                   refine hK571 _ _ ?_
                   refine gx_exit ?_
                   refine gx_thenE ?_
                   refine gx_blkO (by decide) ?_
                   refine gx_thenE ?_
                   refine gx_blkE ?_
                   refine gx_thenN ?_
                   exact ⟨k32, Nat.lt_succ_self k32, l560, l563, (IntKind.i64.wrap (x566 + 1)), x30, x31, A561, c562, A564, c565, selfA_i (by as_aux_lemma => kernel_rfl), hO549, (hS568.pick [2, 3, 1, 0] rfl rfl)⟩
                  ·refine gx_vA (.bool false) w567 (run_boolE (decide_eq_false h577) (by as_aux_lemma => kernel_rfl)) ?_
                   refine gx_kA (.bool false) w567 ?_
                   refine gx_nil ?_
                   refine gx_thenN ?_
                   refine hK573 _ _ ?_
                   refine gx_no (by as_aux_lemma => kernel_rfl) ?_
                   refine gx_pass ?_
                   refine gx_thenN ?_
                   refine hK571 _ _ ?_
                   refine gx_exit ?_
                   refine gx_thenE ?_
                   refine gx_blkO (by decide) ?_
                   refine gx_thenE ?_
                   refine gx_blkE ?_
                   refine gx_thenN ?_
                   exact ⟨k32, Nat.lt_succ_self k32, l560, l563, x566, x30, x31, A561, c562, A564, c565, selfA_i (by as_aux_lemma => kernel_rfl), hO549, (hS568.pick [2, 3, 1, 0] rfl rfl)⟩
                 ·refine gx_vA (.bool false) w567 (run_boolE (decide_eq_false h574) (by as_aux_lemma => kernel_rfl)) ?_
                  refine gx_kA (.bool false) w567 (gx_oA (gx_oA (gx_oA (gx_oA (gx_oA (gx_oA (gx_oA ?_)))))))
                  refine gx_oA (gx_kA (.bool false) w567 ?_)
                  refine gx_nil ?_
                  refine gx_thenN ?_
                  refine hK573 _ _ ?_
                  refine gx_no (by as_aux_lemma => kernel_rfl) ?_
                  refine gx_pass ?_
                  refine gx_thenN ?_
                  refine hK571 _ _ ?_
                  refine gx_exit ?_
                  refine gx_thenE ?_
                  refine gx_blkO (by decide) ?_
                  refine gx_thenE ?_
                  refine gx_blkE ?_
                  refine gx_thenN ?_
                  exact ⟨k32, Nat.lt_succ_self k32, l560, l563, x566, x30, x31, A561, c562, A564, c565, selfA_i (by as_aux_lemma => kernel_rfl), hO549, (hS568.pick [2, 3, 1, 0] rfl rfl)⟩
                | false =>
                 try dsimp only at hO549
                 refine gx_no (by as_aux_lemma => kernel_rfl) ?_
                 refine gx_pass ?_
                 refine gx_thenN ?_
                 refine hK542 _ _ ?_
                 refine gx_seq (fun K578 hK579 => ?_)
                 refine gx_region ?_
                 refine gx_kA (.int .i64 x30) w543 ?_
                 rcases if_in hO549 with ⟨h580, hO549⟩ | ⟨h580, hO549⟩
                 ·refine gx_vA (.bool true) w543 (run_boolE (decide_eq_true h580) (by as_aux_lemma => kernel_rfl)) ?_
                  refine gx_nil ?_
                  refine gx_thenN ?_
                  refine hK579 _ _ ?_
                  refine gx_yes (by as_aux_lemma => kernel_rfl) ?_
                  refine gx_region ?_
                  refine gx_kA (.int .i64 x31) w543 (gx_kA (.int .i64 (IntKind.i64.wrap (x31 + 1))) w543 (gx_kA (.int .i64 (IntKind.i64.wrap (x31 + 1))) w543 ?_))
                  refine gx_nil ?_
                  refine gx_blkN ?_
                  refine gx_thenN ?_
                  refine hK325 _ _ ?_
                  refine gx_region ?_
                  refine gx_kA (.int .i64 x29) w543 (gx_kA (.int .i64 (IntKind.i64.wrap (x29 + 1))) w543 (gx_kA (.int .i64 (IntKind.i64.wrap (x29 + 1))) w543 ?_))
                  refine gx_nil ?_
                  refine gx_blkN ?_
                  refine gx_thenN ?_
                  exact ⟨k32, Nat.lt_succ_self k32, l25, l28, (IntKind.i64.wrap (x29 + 1)), x30, (IntKind.i64.wrap (x31 + 1)), A23, c24, A26, c27, selfA_i (by as_aux_lemma => kernel_rfl), hO549, hS544⟩
                 ·refine gx_vA (.bool false) w543 (run_boolE (decide_eq_false h580) (by as_aux_lemma => kernel_rfl)) ?_
                  refine gx_nil ?_
                  refine gx_thenN ?_
                  refine hK579 _ _ ?_
                  refine gx_no (by as_aux_lemma => kernel_rfl) ?_
                  refine gx_pass ?_
                  refine gx_blkN ?_
                  refine gx_thenN ?_
                  refine hK325 _ _ ?_
                  refine gx_region ?_
                  refine gx_kA (.int .i64 x29) w543 (gx_kA (.int .i64 (IntKind.i64.wrap (x29 + 1))) w543 (gx_kA (.int .i64 (IntKind.i64.wrap (x29 + 1))) w543 ?_))
                  refine gx_nil ?_
                  refine gx_blkN ?_
                  refine gx_thenN ?_
                  exact ⟨k32, Nat.lt_succ_self k32, l25, l28, (IntKind.i64.wrap (x29 + 1)), x30, x31, A23, c24, A26, c27, selfA_i (by as_aux_lemma => kernel_rfl), hO549, hS544⟩
             | false =>
              try dsimp only at hO510
              refine gx_no (by as_aux_lemma => kernel_rfl) ?_
              refine gx_seq (fun K583 hK584 => ?_)
              refine gx_region ?_
              refine gx_kA (.int .u8 x41) w504 ?_
              rcases if_in hO510 with ⟨h585, hO510⟩ | ⟨h585, hO510⟩
              ·refine gx_vA (.bool true) w504 (run_boolE (ne_yes h585) (by as_aux_lemma => kernel_rfl)) ?_
               refine gx_kA (.bool true) w504 ?_
               refine gx_nil ?_
               refine gx_thenN ?_
               refine hK584 _ _ ?_
               refine gx_yes (by as_aux_lemma => kernel_rfl) ?_
               refine gx_region ?_
               refine gx_kA (.pointer (some ⟨g0, 0, none⟩)) w504 (gx_kA (.int .i64 x29) w504 ?_)
               refine gx_vA (.agg #[.int .u8 p2_0, .int .u8 p2_1]) w504 (run_loadG (d := _) rfl (by as_aux_lemma => kernel_rfl) (hS505.get 3 rfl) rfl rfl (by as_aux_lemma => kernel_rfl)) ?_
               have hP586 : St _ _ w504 ([boxE g0 [.slice A0_0 p0_0.length c0_0, .int .u8 p0_1, .slice A23 l25.length c24, .slice A26 l28.length c27] 62, rowE .u8 5 A23 c24 l25, rowE .u8 34 A26 c27 l28] ++ [boxE w0.heap.size [.int .u8 p2_0, .int .u8 p2_1] 65]) := hS505.pick [2, 0, 1, 3] rfl rfl
               obtain ⟨⟨l588, l591⟩, hc587, hO510⟩ := bind_in hO510
               try dsimp only at hO510
               refine gx_cA (rStands_R p0_0 p0_1 l25 l28 x29 p2_0 p2_1 g0 A0_0 c0_0 A23 c24 A26 c27 (l588, l591) w504) (rStands_ok N p0_0 p0_1 l25 l28 x29 p2_0 p2_1 g0 A0_0 c0_0 A23 c24 A26 c27 _ hc587 w504 (hP586.vwA hv0_0) hP586.part) ?_
               rintro _ w594 ⟨A589, c590, A592, c593, rfl, hT596⟩
               have hS595 : St _ _ w594 [boxE w0.heap.size [.int .u8 p2_0, .int .u8 p2_1] 65, boxE g0 [.slice A0_0 p0_0.length c0_0, .int .u8 p0_1, .slice A589 l588.length c590, .slice A592 l591.length c593] 62, rowE .u8 5 A589 c590 l588, rowE .u8 34 A592 c593 l591] := hP586.lendN _ hT596
               refine gx_nil ?_
               refine gx_blkN ?_
               refine gx_thenN ?_
               refine hK325 _ _ ?_
               refine gx_region ?_
               refine gx_kA (.int .i64 x29) w594 (gx_kA (.int .i64 (IntKind.i64.wrap (x29 + 1))) w594 (gx_kA (.int .i64 (IntKind.i64.wrap (x29 + 1))) w594 ?_))
               refine gx_nil ?_
               refine gx_blkN ?_
               refine gx_thenN ?_
               exact ⟨k32, Nat.lt_succ_self k32, l588, l591, (IntKind.i64.wrap (x29 + 1)), x30, x31, A589, c590, A592, c593, selfA_i (by as_aux_lemma => kernel_rfl), hO510, (hS595.pick [2, 3, 1, 0] rfl rfl)⟩
              ·refine gx_vA (.bool false) w504 (run_boolE (ne_no h585) (by as_aux_lemma => kernel_rfl)) ?_
               refine gx_kA (.bool false) w504 ?_
               refine gx_nil ?_
               refine gx_thenN ?_
               refine hK584 _ _ ?_
               refine gx_no (by as_aux_lemma => kernel_rfl) ?_
               refine gx_pass ?_
               refine gx_blkN ?_
               refine gx_thenN ?_
               refine hK325 _ _ ?_
               refine gx_region ?_
               refine gx_kA (.int .i64 x29) w504 (gx_kA (.int .i64 (IntKind.i64.wrap (x29 + 1))) w504 (gx_kA (.int .i64 (IntKind.i64.wrap (x29 + 1))) w504 ?_))
               refine gx_nil ?_
               refine gx_blkN ?_
               refine gx_thenN ?_
               exact ⟨k32, Nat.lt_succ_self k32, l25, l28, (IntKind.i64.wrap (x29 + 1)), x30, x31, A23, c24, A26, c27, selfA_i (by as_aux_lemma => kernel_rfl), hO510, hS505⟩
    ·refine gx_vA (.bool false) w20 (run_boolE (decide_eq_false h38) (by as_aux_lemma => kernel_rfl)) ?_
     refine gx_nil ?_
     refine gx_thenN ?_
     refine hK37 _ _ ?_
     refine gx_no (by as_aux_lemma => kernel_rfl) ?_
     refine gx_exit ?_
     refine gx_thenE ?_
     refine gx_thenE ?_
     refine gx_blkE ?_
     refine gx_thenN ?_
     exact ⟨l25, l28, x29, A23, c24, A26, c27, selfA_i (by as_aux_lemma => kernel_rfl), (Option.some.inj hL33), hS21⟩
 ·rintro _ w7 ⟨l12, l15, x16, A10, c11, A13, c14, hq602, rfl, hS8⟩
  obtain ⟨u9, rfl⟩ := selfA_u hq602
  try dsimp only at hO19
  refine gx_seq (fun K600 hK601 => ?_)
  refine gx_region ?_
  refine gx_kA (.int .i64 x16) w7 (gx_kA (.int .i64 x16) w7 ?_)
  refine gx_nil ?_
  refine gx_thenN ?_
  refine hK601 _ _ ?_
  refine gx_ret ?_
  obtain rfl := Option.some.inj hO19
  exact gx_fin (.int .i64 x16) (by as_aux_lemma => kernel_rfl) (by as_aux_lemma => kernel_rfl) ⟨_, rfl, A10, c11, A13, c14, rfl, (hS8.pick [2, 0, 1] rfl rfl)⟩
def rWithin_Q (N : Nat) : Nat → List Int → Int → List Int → List Int → Int → Int → Int → Int → Bool → Option (Int × List Int × List Int)
 | 0, _, _, _, _, _, _, _, _, _ => none
 | n + 1, p0_0, p0_1, p0_2, p0_3, p1, p2_0, p2_1, p3, p4 => rWithinB N (rWithin_Q N n) p0_0 p0_1 p0_2 p0_3 p1 p2_0 p2_1 p3 p4

set_option linter.unusedVariables false in
theorem rWithin_Q_ok (N : Nat) : ∀ (n : Nat) (p0_0 : List Int) (p0_1 : Int) (p0_2 : List Int) (p0_3 : List Int) (p1 : Int) (p2_0 : Int) (p2_1 : Int) (p3 : Int) (p4 : Bool) (g0 : Nat) (A0_0 : Option Addr) (c0_0 : Nat) (A0_2 : Option Addr) (c0_2 : Nat) (A0_3 : Option Addr) (c0_3 : Nat) (r : Int × List Int × List Int), rWithin_Q N n p0_0 p0_1 p0_2 p0_3 p1 p2_0 p2_1 p3 p4 = some r → ∀ (w0 : World) (hv0_0 : Vw (foots [boxE g0 [.slice A0_0 p0_0.length c0_0, .int .u8 p0_1, .slice A0_2 p0_2.length c0_2, .slice A0_3 p0_3.length c0_3] 62, rowE .u8 5 A0_2 c0_2 p0_2, rowE .u8 34 A0_3 c0_3 p0_3]) .u8 w0 A0_0 c0_0 p0_0) (hl : St (foots [boxE g0 [.slice A0_0 p0_0.length c0_0, .int .u8 p0_1, .slice A0_2 p0_2.length c0_2, .slice A0_3 p0_3.length c0_3] 62, rowE .u8 5 A0_2 c0_2 p0_2, rowE .u8 34 A0_3 c0_3 p0_3]) w0 w0 [boxE g0 [.slice A0_0 p0_0.length c0_0, .int .u8 p0_1, .slice A0_2 p0_2.length c0_2, .slice A0_3 p0_3.length c0_3] 62, rowE .u8 5 A0_2 c0_2 p0_2, rowE .u8 34 A0_3 c0_3 p0_3]), Calls Try.prog 24 #[.pointer (some ⟨g0, 0, none⟩), .int .i64 p1, .agg #[.int .u8 p2_0, .int .u8 p2_1], .int .i64 p3, .bool p4] w0 fun e w => ∃ v, e = .returned v ∧ rWithin_R p0_0 p0_1 p0_2 p0_3 p1 p2_0 p2_1 p3 p4 g0 A0_0 c0_0 A0_2 c0_2 A0_3 c0_3 r w0 v w
 | 0, _, _, _, _, _, _, _, _, _, _, _, _, _, _, _, _, _, h => by cases h
 | n + 1, p0_0, p0_1, p0_2, p0_3, p1, p2_0, p2_1, p3, p4, g0, A0_0, c0_0, A0_2, c0_2, A0_3, c0_3, r, h => fun w0 hv0_0 hl => rWithinB_ok N (rWithin_Q N n) (rWithin_Q_ok N n) p0_0 p0_1 p0_2 p0_3 p1 p2_0 p2_1 p3 p4 g0 A0_0 c0_0 A0_2 c0_2 A0_3 c0_3 r h w0 hv0_0 hl

def rWithin (N : Nat) (p0_0 : List Int) (p0_1 : Int) (p0_2 : List Int) (p0_3 : List Int) (p1 : Int) (p2_0 : Int) (p2_1 : Int) (p3 : Int) (p4 : Bool) : Option (Int × List Int × List Int) := rWithin_Q N N p0_0 p0_1 p0_2 p0_3 p1 p2_0 p2_1 p3 p4
set_option linter.unusedVariables false in
theorem rWithin_ok (N : Nat) (p0_0 : List Int) (p0_1 : Int) (p0_2 : List Int) (p0_3 : List Int) (p1 : Int) (p2_0 : Int) (p2_1 : Int) (p3 : Int) (p4 : Bool) (g0 : Nat) (A0_0 : Option Addr) (c0_0 : Nat) (A0_2 : Option Addr) (c0_2 : Nat) (A0_3 : Option Addr) (c0_3 : Nat) (r : Int × List Int × List Int) (hF : rWithin N p0_0 p0_1 p0_2 p0_3 p1 p2_0 p2_1 p3 p4 = some r) (w0 : World) (hv0_0 : Vw (foots [boxE g0 [.slice A0_0 p0_0.length c0_0, .int .u8 p0_1, .slice A0_2 p0_2.length c0_2, .slice A0_3 p0_3.length c0_3] 62, rowE .u8 5 A0_2 c0_2 p0_2, rowE .u8 34 A0_3 c0_3 p0_3]) .u8 w0 A0_0 c0_0 p0_0) (hl : St (foots [boxE g0 [.slice A0_0 p0_0.length c0_0, .int .u8 p0_1, .slice A0_2 p0_2.length c0_2, .slice A0_3 p0_3.length c0_3] 62, rowE .u8 5 A0_2 c0_2 p0_2, rowE .u8 34 A0_3 c0_3 p0_3]) w0 w0 [boxE g0 [.slice A0_0 p0_0.length c0_0, .int .u8 p0_1, .slice A0_2 p0_2.length c0_2, .slice A0_3 p0_3.length c0_3] 62, rowE .u8 5 A0_2 c0_2 p0_2, rowE .u8 34 A0_3 c0_3 p0_3]) :
  Calls Try.prog 24 #[.pointer (some ⟨g0, 0, none⟩), .int .i64 p1, .agg #[.int .u8 p2_0, .int .u8 p2_1], .int .i64 p3, .bool p4] w0 fun e w => ∃ v, e = .returned v ∧ rWithin_R p0_0 p0_1 p0_2 p0_3 p1 p2_0 p2_1 p3 p4 g0 A0_0 c0_0 A0_2 c0_2 A0_3 c0_3 r w0 v w :=
 rWithin_Q_ok N N p0_0 p0_1 p0_2 p0_3 p1 p2_0 p2_1 p3 p4 g0 A0_0 c0_0 A0_2 c0_2 A0_3 c0_3 r hF w0 hv0_0 hl

end Go.Proofs.Ytjndolnjhbgflaa
