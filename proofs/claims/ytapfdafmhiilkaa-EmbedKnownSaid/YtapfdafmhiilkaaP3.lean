/-
  The program, walked.
-/
import Derived.Test.YtapfdafmhiilkaaP2
namespace Go.Proofs.Ytapfdafmhiilkaa
open Go Go.RowKit
set_option linter.unusedVariables false

def pDoings (_N : Nat) : Option (Unit) :=
 some ()

set_option linter.unusedVariables false in
def pDoings_R (_r : Unit) (w0 : World) (v : Value) (w : World) : Prop := v = .agg #[Value.nilFunc, .func (.func 58) #[] #[], .func (.func 58) #[] #[], .func (.func 58) #[] #[], .func (.func 58) #[] #[], .func (.func 58) #[] #[], .func (.func 58) #[] #[], .func (.func 58) #[] #[], .func (.func 58) #[] #[], .func (.func 58) #[] #[], .func (.func 59) #[] #[], .func (.func 60) #[] #[], .func (.func 58) #[] #[], .func (.func 58) #[] #[], .func (.func 58) #[] #[], .func (.func 61) #[] #[], .func (.func 62) #[] #[], .func (.func 63) #[] #[], .func (.func 64) #[] #[], .func (.func 65) #[] #[], .func (.func 66) #[] #[], .func (.func 67) #[] #[], .func (.func 68) #[] #[], .func (.func 69) #[] #[]] ∧ St [] w0 w []

set_option maxRecDepth 100000 in
set_option maxHeartbeats 4000000 in
theorem pDoings_ok (N : Nat)  (r : Unit) (hF : pDoings N = some r) (w0 : World)  :
  Calls Try.prog 49 #[] w0 fun e w => ∃ v, e = .returned v ∧ pDoings_R r w0 v w := by
 have hS0 := St.start w0
 unfold pDoings at hF
 refine calls_of Try.func49 rfl ⟨(undef :: undef :: []).toArray, []⟩ (by kernel_rfl) ?_
 refine gx_seq (fun K1 hK2 => ?_)
 refine gx_region ?_
 refine gx_r (st_boxed [Value.nilFunc, Value.nilFunc, Value.nilFunc, Value.nilFunc, Value.nilFunc, Value.nilFunc, Value.nilFunc, Value.nilFunc, Value.nilFunc, Value.nilFunc, Value.nilFunc, Value.nilFunc, Value.nilFunc, Value.nilFunc, Value.nilFunc, Value.nilFunc, Value.nilFunc, Value.nilFunc, Value.nilFunc, Value.nilFunc, Value.nilFunc, Value.nilFunc, Value.nilFunc, Value.nilFunc] 87 hS0 (by kernel_rfl)) ?_
 rintro _ w3 ⟨rfl, hS4⟩
 have hS4 : St _ _ w3 [boxE w0.heap.size [Value.nilFunc, Value.nilFunc, Value.nilFunc, Value.nilFunc, Value.nilFunc, Value.nilFunc, Value.nilFunc, Value.nilFunc, Value.nilFunc, Value.nilFunc, Value.nilFunc, Value.nilFunc, Value.nilFunc, Value.nilFunc, Value.nilFunc, Value.nilFunc, Value.nilFunc, Value.nilFunc, Value.nilFunc, Value.nilFunc, Value.nilFunc, Value.nilFunc, Value.nilFunc, Value.nilFunc] 87] := hS4
 refine gx_nil ?_
 refine gx_thenN ?_
 refine hK2 _ _ ?_
 refine gx_seq (fun K5 hK6 => ?_)
 refine gx_region ?_
 refine gx_k (.agg #[Value.nilFunc, .func (.func 58) #[] #[], .func (.func 58) #[] #[], .func (.func 58) #[] #[], .func (.func 58) #[] #[], .func (.func 58) #[] #[], .func (.func 58) #[] #[], .func (.func 58) #[] #[], .func (.func 58) #[] #[], .func (.func 58) #[] #[], .func (.func 59) #[] #[], .func (.func 60) #[] #[], .func (.func 58) #[] #[], .func (.func 58) #[] #[], .func (.func 58) #[] #[], .func (.func 61) #[] #[], .func (.func 62) #[] #[], .func (.func 63) #[] #[], .func (.func 64) #[] #[], .func (.func 65) #[] #[], .func (.func 66) #[] #[], .func (.func 67) #[] #[], .func (.func 68) #[] #[], .func (.func 69) #[] #[]]) w3 ?_
 refine gx_s (st_storeG (cs := [Value.nilFunc, Value.nilFunc, Value.nilFunc, Value.nilFunc, Value.nilFunc, Value.nilFunc, Value.nilFunc, Value.nilFunc, Value.nilFunc, Value.nilFunc, Value.nilFunc, Value.nilFunc, Value.nilFunc, Value.nilFunc, Value.nilFunc, Value.nilFunc, Value.nilFunc, Value.nilFunc, Value.nilFunc, Value.nilFunc, Value.nilFunc, Value.nilFunc, Value.nilFunc, Value.nilFunc]) (ds := [Value.nilFunc, .func (.func 58) #[] #[], .func (.func 58) #[] #[], .func (.func 58) #[] #[], .func (.func 58) #[] #[], .func (.func 58) #[] #[], .func (.func 58) #[] #[], .func (.func 58) #[] #[], .func (.func 58) #[] #[], .func (.func 58) #[] #[], .func (.func 59) #[] #[], .func (.func 60) #[] #[], .func (.func 58) #[] #[], .func (.func 58) #[] #[], .func (.func 58) #[] #[], .func (.func 61) #[] #[], .func (.func 62) #[] #[], .func (.func 63) #[] #[], .func (.func 64) #[] #[], .func (.func 65) #[] #[], .func (.func 66) #[] #[], .func (.func 67) #[] #[], .func (.func 68) #[] #[], .func (.func 69) #[] #[]]) rfl (by kernel_rfl) (by kernel_rfl) (by kernel_rfl) rfl rfl hS4 0 rfl) ?_
 rintro w7 hS8
 have hS8 : St _ _ w7 [boxE w0.heap.size [Value.nilFunc, .func (.func 58) #[] #[], .func (.func 58) #[] #[], .func (.func 58) #[] #[], .func (.func 58) #[] #[], .func (.func 58) #[] #[], .func (.func 58) #[] #[], .func (.func 58) #[] #[], .func (.func 58) #[] #[], .func (.func 58) #[] #[], .func (.func 59) #[] #[], .func (.func 60) #[] #[], .func (.func 58) #[] #[], .func (.func 58) #[] #[], .func (.func 58) #[] #[], .func (.func 61) #[] #[], .func (.func 62) #[] #[], .func (.func 63) #[] #[], .func (.func 64) #[] #[], .func (.func 65) #[] #[], .func (.func 66) #[] #[], .func (.func 67) #[] #[], .func (.func 68) #[] #[], .func (.func 69) #[] #[]] 87] := hS8
 refine gx_nil ?_
 refine gx_thenN ?_
 refine hK6 _ _ ?_
 refine gx_ret ?_
 obtain rfl := Option.some.inj hF
 exact gx_fin (.agg #[Value.nilFunc, .func (.func 58) #[] #[], .func (.func 58) #[] #[], .func (.func 58) #[] #[], .func (.func 58) #[] #[], .func (.func 58) #[] #[], .func (.func 58) #[] #[], .func (.func 58) #[] #[], .func (.func 58) #[] #[], .func (.func 58) #[] #[], .func (.func 59) #[] #[], .func (.func 60) #[] #[], .func (.func 58) #[] #[], .func (.func 58) #[] #[], .func (.func 58) #[] #[], .func (.func 61) #[] #[], .func (.func 62) #[] #[], .func (.func 63) #[] #[], .func (.func 64) #[] #[], .func (.func 65) #[] #[], .func (.func 66) #[] #[], .func (.func 67) #[] #[], .func (.func 68) #[] #[], .func (.func 69) #[] #[]]) (by kernel_rfl) (res_cell rfl _ _ w0.heap.size _ _ _ (by kernel_rfl) (hS8.get 0 rfl) (by kernel_rfl) (by kernel_rfl)) ⟨_, rfl, rfl, (hS8.pick [] rfl rfl)⟩

def pWalked_L1 (N : Nat) (p0 : List Int) (p1 : Int) (lz1_4o4_3 : List Int) : Nat → (List (Int × Int × Bool)) → Int → Int → Int → (List Int) → (List Int) → Int → Option (List (Int × Int × Bool) × Int × Int × Int × List Int × List Int)
 | 0, _, _, _, _, _, _, _ => none
 | k63+1, l52, x53, x54, x55, l58, l61, x62 => (if x62 < ((p0.length : Nat) : Int) then ((ix p0 x62).bind fun x74 => (if x74 = 1 ∨ x74 = 2 ∨ x74 = 3 ∨ x74 = 4 ∨ x74 = 5 ∨ x74 = 6 ∨ x74 = 7 ∨ x74 = 8 ∨ x74 = 9 ∨ x74 = 12 ∨ x74 = 13 ∨ x74 = 14 then ((pStand N l52 x53 x54 x55 p0 lz1_4o4_3 p1 l58 l61 x62).bind fun (l83, l86) => pWalked_L1 N p0 p1 lz1_4o4_3 k63 l52 x53 x54 x55 l83 l86 (IntKind.i64.wrap (x62 + 1))) else (if x74 = 10 then ((pRemove N l52 x53 x54 x55 p0 lz1_4o4_3 p1 l58 l61 x62).bind fun (l99, l102) => pWalked_L1 N p0 p1 lz1_4o4_3 k63 l52 x53 x54 x55 l99 l102 (IntKind.i64.wrap (x62 + 1))) else (if x74 = 11 then ((pAgain N l52 x53 x54 x55 p0 lz1_4o4_3 p1 l58 l61 x62).bind fun (l115, x118, x119, x120, l121) => pWalked_L1 N p0 p1 lz1_4o4_3 k63 l115 x118 x119 x120 l121 l61 (IntKind.i64.wrap (x62 + 1))) else (if x74 = 15 then ((pEmL N l52 x53 x54 x55 p0 lz1_4o4_3 p1 l58 l61 x62).bind fun (l145, x148, l149, l152) => pWalked_L1 N p0 p1 lz1_4o4_3 k63 l145 x53 x54 x148 l149 l152 (IntKind.i64.wrap (x62 + 1))) else (if x74 = 16 then ((pEmR N l52 x53 x54 x55 p0 lz1_4o4_3 p1 l58 l61 x62).bind fun (l174, x177, l178, l181) => pWalked_L1 N p0 p1 lz1_4o4_3 k63 l174 x53 x54 x177 l178 l181 (IntKind.i64.wrap (x62 + 1))) else (if x74 = 17 then ((pOvL N l52 x53 x54 x55 p0 lz1_4o4_3 p1 l58 l61 x62).bind fun (l203, x206, l207, l210) => pWalked_L1 N p0 p1 lz1_4o4_3 k63 l203 x53 x54 x206 l207 l210 (IntKind.i64.wrap (x62 + 1))) else (if x74 = 18 then ((pOvR N l52 x53 x54 x55 p0 lz1_4o4_3 p1 l58 l61 x62).bind fun (l232, x235, l236, l239) => pWalked_L1 N p0 p1 lz1_4o4_3 k63 l232 x53 x54 x235 l236 l239 (IntKind.i64.wrap (x62 + 1))) else (if x74 = 19 then ((pLeE N l52 x53 x54 x55 p0 lz1_4o4_3 p1 l58 l61 x62).bind fun (l261, x264, l265, l268) => pWalked_L1 N p0 p1 lz1_4o4_3 k63 l261 x53 x54 x264 l265 l268 (IntKind.i64.wrap (x62 + 1))) else (if x74 = 20 then ((pIsL N l52 x53 x54 x55 p0 lz1_4o4_3 p1 l58 l61 x62).bind fun (l290, x293, x294, l295, l298) => pWalked_L1 N p0 p1 lz1_4o4_3 k63 l290 x293 x294 x55 l295 l298 (IntKind.i64.wrap (x62 + 1))) else (if x74 = 21 then ((pIsR N l52 x53 x54 x55 p0 lz1_4o4_3 p1 l58 l61 x62).bind fun (l320, x323, x324, l325, l328) => pWalked_L1 N p0 p1 lz1_4o4_3 k63 l320 x323 x324 x55 l325 l328 (IntKind.i64.wrap (x62 + 1))) else (if x74 = 22 then ((pIsT N l52 x53 x54 x55 p0 lz1_4o4_3 p1 l58 l61 x62).bind fun (l350, x353, x354, l355, l358) => pWalked_L1 N p0 p1 lz1_4o4_3 k63 l350 x353 x354 x55 l355 l358 (IntKind.i64.wrap (x62 + 1))) else (if x74 = 23 then ((pLeI N l52 x53 x54 x55 p0 lz1_4o4_3 p1 l58 l61 x62).bind fun (l380, x383, x384, x385, l386, l389) => pWalked_L1 N p0 p1 lz1_4o4_3 k63 l380 x383 x384 x385 l386 l389 (IntKind.i64.wrap (x62 + 1))) else none))))))))))))) else some ((l52, x53, x54, x55, l58, l61)))
def pWalked (N : Nat) (p0 : List Int) (p1 : Int) : Option (List Int × List Int) :=
 ((pStackOf N p1).bind fun (lz1_4o1_3, xz1_4o1_6, xz1_4o1_7, xz1_4o1_8) => ((pMatch N p0).bind fun lz1_4o4_3 => ((mkx ((p0.length : Nat) : Int)).bind fun lz1_4o8_1 => ((pClone N p0).bind fun lz1_4o10_5 => ((pDoings N ).bind fun () => ((pWalked_L1 N p0 p1 lz1_4o4_3 N lz1_4o1_3 xz1_4o1_6 xz1_4o1_7 xz1_4o1_8 lz1_4o8_1 lz1_4o10_5 0 : Option (List (Int × Int × Bool) × Int × Int × Int × List Int × List Int)).bind fun (_l29, _x30, _x31, _x32, l35, l38) => some (l35, l38)))))))

set_option linter.unusedVariables false in
def pWalked_R (r : List Int × List Int) (w0 : World) (v : Value) (w : World) : Prop := ∃ (A0' : Option Addr) (c0' : Nat) (A1' : Option Addr) (c1' : Nat), v = .tuple #[.slice A0' r.1.length c0', .slice A1' r.2.length c1'] ∧ St [] w0 w [rowE .u8 5 A0' c0' r.1, rowE .u8 26 A1' c1' r.2]

set_option maxRecDepth 100000 in
set_option maxHeartbeats 4000000 in
theorem pWalked_ok (N : Nat) (p0 : List Int) (p1 : Int) (A0 : Option Addr) (c0 : Nat) (r : List Int × List Int) (hF : pWalked N p0 p1 = some r) (w0 : World) (hv0 : Vw [] .u8 w0 A0 c0 p0) :
  Calls Try.prog 37 #[.slice A0 p0.length c0, .int .u8 p1] w0 fun e w => ∃ v, e = .returned v ∧ pWalked_R r w0 v w := by
 have hS0 := (St.start w0).pool0
 unfold pWalked at hF
 refine calls_of Try.func37 rfl ⟨((.slice A0 p0.length c0) :: (.int .u8 p1) :: un 44 ([])).toArray, []⟩ (by kernel_rfl) ?_
 refine gx_seq (fun K1 hK2 => ?_)
 refine gx_region ?_
 refine gx_k (.slice none 0 0) w0 (gx_k (.slice none 0 0) w0 ?_)
 refine gx_nil ?_
 refine gx_thenN ?_
 refine hK2 _ _ ?_
 refine gx_seq (fun K3 hK4 => ?_)
 refine gd_start (fun w => St [] w0 w []) 14 #[false, false, false, false, false, false, false, false, false, false, false, false, false, false] (by kernel_rfl) (by kernel_rfl) ?_
 have hS7 := hS0.drew
 generalize w0.drew = w6 at hS7 ⊢
 obtain ⟨⟨lz1_4o1_3, xz1_4o1_6, xz1_4o1_7, xz1_4o1_8⟩, hcz1_4o1_2, hF⟩ := bind_in hF
 try dsimp only at hF
 obtain ⟨lz1_4o4_3, hcz1_4o4_2, hF⟩ := bind_in hF
 try dsimp only at hF
 obtain ⟨lz1_4o8_1, hmz1_4o8_2, hF⟩ := bind_in hF
 obtain ⟨lz1_4o10_5, hcz1_4o10_2, hF⟩ := bind_in hF
 try dsimp only at hF
 refine gd_share (X := (Option Addr) × (Option Addr) × Nat × (Option Addr) × Nat × (Option Addr) × Nat × Nat × (List Nat) × World) (fun ⟨Az1_4o1_4, Az1_4o4_4, cz1_4o4_5, Az1_4o8_5, cz1_4o8_6, Az1_4o10_6, cz1_4o10_7, gz1_4B0, ftz1_4o1_13, Wz1_4o1_14⟩ => ⟨((.slice A0 p0.length c0) :: (.int .u8 p1) :: undef :: undef :: (.slice none 0 0) :: (.slice none 0 0) :: (.pointer (some ⟨gz1_4B0, 0, none⟩)) :: un 3 ((.int .u8 p1) :: (.agg #[.pointer Az1_4o1_4, .int .i64 xz1_4o1_6, .int .i64 xz1_4o1_7, .int .i64 xz1_4o1_8]) :: (.slice A0 p0.length c0) :: (.slice A0 p0.length c0) :: (.slice Az1_4o4_4 lz1_4o4_3.length cz1_4o4_5) :: (.int .u8 p1) :: (.slice A0 p0.length c0) :: (.int .i64 ((p0.length : Nat) : Int)) :: (.slice Az1_4o8_5 lz1_4o8_1.length cz1_4o8_6) :: (.slice A0 p0.length c0) :: (.slice Az1_4o10_6 lz1_4o10_5.length cz1_4o10_7) :: (.agg #[.pointer Az1_4o1_4, .int .i64 xz1_4o1_6, .int .i64 xz1_4o1_7, .int .i64 xz1_4o1_8, .slice A0 p0.length c0, .slice Az1_4o4_4 lz1_4o4_3.length cz1_4o4_5, .int .u8 p1, .slice Az1_4o8_5 lz1_4o8_1.length cz1_4o8_6, .slice Az1_4o10_6 lz1_4o10_5.length cz1_4o10_7]) :: (.pointer (some ⟨gz1_4B0, 0, none⟩)) :: un 23 ([]))).toArray, []⟩) (fun ⟨Az1_4o1_4, Az1_4o4_4, cz1_4o4_5, Az1_4o8_5, cz1_4o8_6, Az1_4o10_6, cz1_4o10_7, gz1_4B0, ftz1_4o1_13, Wz1_4o1_14⟩ w => (fCh 100 entembedentry Az1_4o1_4 lz1_4o1_3).rd Wz1_4o1_14 ftz1_4o1_13 ∧ Turn [] w0 w0 ([]) Wz1_4o1_14 ftz1_4o1_13 ∧ St [] w0 w [poolE ftz1_4o1_13 Wz1_4o1_14, rowE .i64 3 Az1_4o4_4 cz1_4o4_5 lz1_4o4_3, rowE .u8 5 Az1_4o8_5 cz1_4o8_6 lz1_4o8_1, rowE .u8 26 Az1_4o10_6 cz1_4o10_7 lz1_4o10_5, boxE gz1_4B0 [.pointer Az1_4o1_4, .int .i64 xz1_4o1_6, .int .i64 xz1_4o1_7, .int .i64 xz1_4o1_8, .slice A0 p0.length c0, .slice Az1_4o4_4 lz1_4o4_3.length cz1_4o4_5, .int .u8 p1, .slice Az1_4o8_5 lz1_4o8_1.length cz1_4o8_6, .slice Az1_4o10_6 lz1_4o10_5.length cz1_4o10_7] 84]) ?_ ?_
 ·rintro ⟨Az1_4o1_4, Az1_4o4_4, cz1_4o4_5, Az1_4o8_5, cz1_4o8_6, Az1_4o10_6, cz1_4o10_7, gz1_4B0, ftz1_4o1_13, Wz1_4o1_14⟩ w8 ⟨hfz1_4o1_20, hTz1_4o1_16, hS9⟩
  have hS9 : St _ _ w8 [poolE ftz1_4o1_13 Wz1_4o1_14, rowE .i64 3 Az1_4o4_4 cz1_4o4_5 lz1_4o4_3, rowE .u8 5 Az1_4o8_5 cz1_4o8_6 lz1_4o8_1, rowE .u8 26 Az1_4o10_6 cz1_4o10_7 lz1_4o10_5, boxE gz1_4B0 [.pointer Az1_4o1_4, .int .i64 xz1_4o1_6, .int .i64 xz1_4o1_7, .int .i64 xz1_4o1_8, .slice A0 p0.length c0, .slice Az1_4o4_4 lz1_4o4_3.length cz1_4o4_5, .int .u8 p1, .slice Az1_4o8_5 lz1_4o8_1.length cz1_4o8_6, .slice Az1_4o10_6 lz1_4o10_5.length cz1_4o10_7] 84] := hS9
  have hfz1_4o1_20 : (fCh 100 entembedentry Az1_4o1_4 lz1_4o1_3).rd Wz1_4o1_14 ftz1_4o1_13 := hfz1_4o1_20
  have hTz1_4o1_16 : Turn [] w0 w0 ([]) Wz1_4o1_14 ftz1_4o1_13 := hTz1_4o1_16
  show WQ _ _ ⟨((.slice A0 p0.length c0) :: (.int .u8 p1) :: undef :: undef :: (.slice none 0 0) :: (.slice none 0 0) :: (.pointer (some ⟨gz1_4B0, 0, none⟩)) :: un 3 ((.int .u8 p1) :: (.agg #[.pointer Az1_4o1_4, .int .i64 xz1_4o1_6, .int .i64 xz1_4o1_7, .int .i64 xz1_4o1_8]) :: (.slice A0 p0.length c0) :: (.slice A0 p0.length c0) :: (.slice Az1_4o4_4 lz1_4o4_3.length cz1_4o4_5) :: (.int .u8 p1) :: (.slice A0 p0.length c0) :: (.int .i64 ((p0.length : Nat) : Int)) :: (.slice Az1_4o8_5 lz1_4o8_1.length cz1_4o8_6) :: (.slice A0 p0.length c0) :: (.slice Az1_4o10_6 lz1_4o10_5.length cz1_4o10_7) :: (.agg #[.pointer Az1_4o1_4, .int .i64 xz1_4o1_6, .int .i64 xz1_4o1_7, .int .i64 xz1_4o1_8, .slice A0 p0.length c0, .slice Az1_4o4_4 lz1_4o4_3.length cz1_4o4_5, .int .u8 p1, .slice Az1_4o8_5 lz1_4o8_1.length cz1_4o8_6, .slice Az1_4o10_6 lz1_4o10_5.length cz1_4o10_7]) :: (.pointer (some ⟨gz1_4B0, 0, none⟩)) :: un 23 ([]))).toArray, []⟩ _
  refine gx_thenN ?_
  refine hK4 _ _ ?_
  refine gx_seq (fun K10 hK11 => ?_)
  refine gx_region ?_
  have hP12 : St _ _ w8 ([] ++ [poolE ftz1_4o1_13 Wz1_4o1_14, rowE .i64 3 Az1_4o4_4 cz1_4o4_5 lz1_4o4_3, rowE .u8 5 Az1_4o8_5 cz1_4o8_6 lz1_4o8_1, rowE .u8 26 Az1_4o10_6 cz1_4o10_7 lz1_4o10_5, boxE gz1_4B0 [.pointer Az1_4o1_4, .int .i64 xz1_4o1_6, .int .i64 xz1_4o1_7, .int .i64 xz1_4o1_8, .slice A0 p0.length c0, .slice Az1_4o4_4 lz1_4o4_3.length cz1_4o4_5, .int .u8 p1, .slice Az1_4o8_5 lz1_4o8_1.length cz1_4o8_6, .slice Az1_4o10_6 lz1_4o10_5.length cz1_4o10_7] 84]) := hS9
  obtain ⟨_, hc13, hF⟩ := bind_in hF
  try dsimp only at hF
  refine gx_c (pDoings_R () w8) (pDoings_ok N  _ hc13 w8 ) ?_
  rintro _ w14 ⟨rfl, hT16⟩
  have hS15 : St _ _ w14 [poolE ftz1_4o1_13 Wz1_4o1_14, rowE .i64 3 Az1_4o4_4 cz1_4o4_5 lz1_4o4_3, rowE .u8 5 Az1_4o8_5 cz1_4o8_6 lz1_4o8_1, rowE .u8 26 Az1_4o10_6 cz1_4o10_7 lz1_4o10_5, boxE gz1_4B0 [.pointer Az1_4o1_4, .int .i64 xz1_4o1_6, .int .i64 xz1_4o1_7, .int .i64 xz1_4o1_8, .slice A0 p0.length c0, .slice Az1_4o4_4 lz1_4o4_3.length cz1_4o4_5, .int .u8 p1, .slice Az1_4o8_5 lz1_4o8_1.length cz1_4o8_6, .slice Az1_4o10_6 lz1_4o10_5.length cz1_4o10_7] 84] := hS9.take _ hT16
  refine gx_r (st_boxed [Value.nilFunc, Value.nilFunc, Value.nilFunc, Value.nilFunc, Value.nilFunc, Value.nilFunc, Value.nilFunc, Value.nilFunc, Value.nilFunc, Value.nilFunc, Value.nilFunc, Value.nilFunc, Value.nilFunc, Value.nilFunc, Value.nilFunc, Value.nilFunc, Value.nilFunc, Value.nilFunc, Value.nilFunc, Value.nilFunc, Value.nilFunc, Value.nilFunc, Value.nilFunc, Value.nilFunc] 87 hS15 (by kernel_rfl)) ?_
  rintro _ w17 ⟨rfl, hS18⟩
  have hS18 : St _ _ w17 [poolE ftz1_4o1_13 Wz1_4o1_14, rowE .i64 3 Az1_4o4_4 cz1_4o4_5 lz1_4o4_3, rowE .u8 5 Az1_4o8_5 cz1_4o8_6 lz1_4o8_1, rowE .u8 26 Az1_4o10_6 cz1_4o10_7 lz1_4o10_5, boxE gz1_4B0 [.pointer Az1_4o1_4, .int .i64 xz1_4o1_6, .int .i64 xz1_4o1_7, .int .i64 xz1_4o1_8, .slice A0 p0.length c0, .slice Az1_4o4_4 lz1_4o4_3.length cz1_4o4_5, .int .u8 p1, .slice Az1_4o8_5 lz1_4o8_1.length cz1_4o8_6, .slice Az1_4o10_6 lz1_4o10_5.length cz1_4o10_7] 84, boxE w14.heap.size [Value.nilFunc, Value.nilFunc, Value.nilFunc, Value.nilFunc, Value.nilFunc, Value.nilFunc, Value.nilFunc, Value.nilFunc, Value.nilFunc, Value.nilFunc, Value.nilFunc, Value.nilFunc, Value.nilFunc, Value.nilFunc, Value.nilFunc, Value.nilFunc, Value.nilFunc, Value.nilFunc, Value.nilFunc, Value.nilFunc, Value.nilFunc, Value.nilFunc, Value.nilFunc, Value.nilFunc] 87] := hS18
  refine gx_s (st_storeG (cs := [Value.nilFunc, Value.nilFunc, Value.nilFunc, Value.nilFunc, Value.nilFunc, Value.nilFunc, Value.nilFunc, Value.nilFunc, Value.nilFunc, Value.nilFunc, Value.nilFunc, Value.nilFunc, Value.nilFunc, Value.nilFunc, Value.nilFunc, Value.nilFunc, Value.nilFunc, Value.nilFunc, Value.nilFunc, Value.nilFunc, Value.nilFunc, Value.nilFunc, Value.nilFunc, Value.nilFunc]) (ds := [Value.nilFunc, .func (.func 58) #[] #[], .func (.func 58) #[] #[], .func (.func 58) #[] #[], .func (.func 58) #[] #[], .func (.func 58) #[] #[], .func (.func 58) #[] #[], .func (.func 58) #[] #[], .func (.func 58) #[] #[], .func (.func 58) #[] #[], .func (.func 59) #[] #[], .func (.func 60) #[] #[], .func (.func 58) #[] #[], .func (.func 58) #[] #[], .func (.func 58) #[] #[], .func (.func 61) #[] #[], .func (.func 62) #[] #[], .func (.func 63) #[] #[], .func (.func 64) #[] #[], .func (.func 65) #[] #[], .func (.func 66) #[] #[], .func (.func 67) #[] #[], .func (.func 68) #[] #[], .func (.func 69) #[] #[]]) rfl (by kernel_rfl) (by kernel_rfl) (by kernel_rfl) rfl rfl hS18 5 rfl) ?_
  rintro w19 hS20
  have hS20 : St _ _ w19 [poolE ftz1_4o1_13 Wz1_4o1_14, rowE .i64 3 Az1_4o4_4 cz1_4o4_5 lz1_4o4_3, rowE .u8 5 Az1_4o8_5 cz1_4o8_6 lz1_4o8_1, rowE .u8 26 Az1_4o10_6 cz1_4o10_7 lz1_4o10_5, boxE gz1_4B0 [.pointer Az1_4o1_4, .int .i64 xz1_4o1_6, .int .i64 xz1_4o1_7, .int .i64 xz1_4o1_8, .slice A0 p0.length c0, .slice Az1_4o4_4 lz1_4o4_3.length cz1_4o4_5, .int .u8 p1, .slice Az1_4o8_5 lz1_4o8_1.length cz1_4o8_6, .slice Az1_4o10_6 lz1_4o10_5.length cz1_4o10_7] 84, boxE w14.heap.size [Value.nilFunc, .func (.func 58) #[] #[], .func (.func 58) #[] #[], .func (.func 58) #[] #[], .func (.func 58) #[] #[], .func (.func 58) #[] #[], .func (.func 58) #[] #[], .func (.func 58) #[] #[], .func (.func 58) #[] #[], .func (.func 58) #[] #[], .func (.func 59) #[] #[], .func (.func 60) #[] #[], .func (.func 58) #[] #[], .func (.func 58) #[] #[], .func (.func 58) #[] #[], .func (.func 61) #[] #[], .func (.func 62) #[] #[], .func (.func 63) #[] #[], .func (.func 64) #[] #[], .func (.func 65) #[] #[], .func (.func 66) #[] #[], .func (.func 67) #[] #[], .func (.func 68) #[] #[], .func (.func 69) #[] #[]] 87] := hS20
  refine gx_nil ?_
  refine gx_thenN ?_
  refine hK11 _ _ ?_
  obtain ⟨c39, hE40, hO41⟩ := bind_in hF
  refine gx_cut (fun a w => ∃ (l29 : List (Int × Int × Bool)) (x30 : Int) (x31 : Int) (x32 : Int) (l35 : List Int) (l38 : List Int) (ft24 : List Nat) (W25 : World) (A27 : Option Addr) (A33 : Option Addr) (c34 : Nat) (A36 : Option Addr) (c37 : Nat), selfA (fun u23 => ⟨((u23 0) :: (.int .u8 p1) :: undef :: undef :: (.slice none 0 0) :: (.slice none 0 0) :: (.pointer (some ⟨gz1_4B0, 0, none⟩)) :: (.pointer (some ⟨w14.heap.size, 0, none⟩)) :: dd u23 8 2 ((.int .u8 p1) :: dd u23 11 4 ((.int .u8 p1) :: (u23 16) :: (.int .i64 ((p0.length : Nat) : Int)) :: dd u23 18 4 ((.pointer (some ⟨gz1_4B0, 0, none⟩)) :: dd u23 23 15 (un 8 ([])))))).toArray, []⟩) a ∧ (l29, x30, x31, x32, l35, l38) = c39 ∧ St [] w0 w [poolE ft24 W25, rowE .i64 3 Az1_4o4_4 cz1_4o4_5 lz1_4o4_3, rowE .u8 5 A33 c34 l35, rowE .u8 26 A36 c37 l38, boxE gz1_4B0 [.pointer A27, .int .i64 x30, .int .i64 x31, .int .i64 x32, .slice A0 p0.length c0, .slice Az1_4o4_4 lz1_4o4_3.length cz1_4o4_5, .int .u8 p1, .slice A33 l35.length c34, .slice A36 l38.length c37] 84, boxE w14.heap.size [Value.nilFunc, .func (.func 58) #[] #[], .func (.func 58) #[] #[], .func (.func 58) #[] #[], .func (.func 58) #[] #[], .func (.func 58) #[] #[], .func (.func 58) #[] #[], .func (.func 58) #[] #[], .func (.func 58) #[] #[], .func (.func 58) #[] #[], .func (.func 59) #[] #[], .func (.func 60) #[] #[], .func (.func 58) #[] #[], .func (.func 58) #[] #[], .func (.func 58) #[] #[], .func (.func 61) #[] #[], .func (.func 62) #[] #[], .func (.func 63) #[] #[], .func (.func 64) #[] #[], .func (.func 65) #[] #[], .func (.func 66) #[] #[], .func (.func 67) #[] #[], .func (.func 68) #[] #[], .func (.func 69) #[] #[]] 87] ∧ Turn [] w0 Wz1_4o1_14 ftz1_4o1_13 W25 ft24 ∧ (fCh 100 entembedentry A27 l29).rd W25 ft24) ?_ ?_
  ·refine gx_seq (fun K42 hK43 => ?_)
   refine gx_region ?_
   refine gx_k (.slice A0 p0.length c0) w19 (gx_k (.int .i64 ((p0.length : Nat) : Int)) w19 (gx_k (.int .i64 0) w19 ?_))
   refine gx_nil ?_
   refine gx_thenN ?_
   refine hK43 _ _ ?_
   refine gx_block ?_
   refine gx_loop (fun k a w => ∃ (l52 : List (Int × Int × Bool)) (x53 : Int) (x54 : Int) (x55 : Int) (l58 : List Int) (l61 : List Int) (x62 : Int) (ft47 : List Nat) (W48 : World) (A50 : Option Addr) (A56 : Option Addr) (c57 : Nat) (A59 : Option Addr) (c60 : Nat), selfA (fun u46 => ⟨((u46 0) :: (.int .u8 p1) :: undef :: undef :: (.slice none 0 0) :: (.slice none 0 0) :: (.pointer (some ⟨gz1_4B0, 0, none⟩)) :: (.pointer (some ⟨w14.heap.size, 0, none⟩)) :: dd u46 8 2 ((.int .u8 p1) :: dd u46 11 4 ((.int .u8 p1) :: (u46 16) :: (.int .i64 ((p0.length : Nat) : Int)) :: dd u46 18 4 ((.pointer (some ⟨gz1_4B0, 0, none⟩)) :: (u46 23) :: (.slice A0 p0.length c0) :: (.int .i64 ((p0.length : Nat) : Int)) :: (.int .i64 x62) :: dd u46 27 11 (un 8 ([])))))).toArray, []⟩) a ∧ pWalked_L1 N p0 p1 lz1_4o4_3 k l52 x53 x54 x55 l58 l61 x62 = some c39 ∧ St [] w0 w [poolE ft47 W48, rowE .i64 3 Az1_4o4_4 cz1_4o4_5 lz1_4o4_3, rowE .u8 5 A56 c57 l58, rowE .u8 26 A59 c60 l61, boxE gz1_4B0 [.pointer A50, .int .i64 x53, .int .i64 x54, .int .i64 x55, .slice A0 p0.length c0, .slice Az1_4o4_4 lz1_4o4_3.length cz1_4o4_5, .int .u8 p1, .slice A56 l58.length c57, .slice A59 l61.length c60] 84, boxE w14.heap.size [Value.nilFunc, .func (.func 58) #[] #[], .func (.func 58) #[] #[], .func (.func 58) #[] #[], .func (.func 58) #[] #[], .func (.func 58) #[] #[], .func (.func 58) #[] #[], .func (.func 58) #[] #[], .func (.func 58) #[] #[], .func (.func 58) #[] #[], .func (.func 59) #[] #[], .func (.func 60) #[] #[], .func (.func 58) #[] #[], .func (.func 58) #[] #[], .func (.func 58) #[] #[], .func (.func 61) #[] #[], .func (.func 62) #[] #[], .func (.func 63) #[] #[], .func (.func 64) #[] #[], .func (.func 65) #[] #[], .func (.func 66) #[] #[], .func (.func 67) #[] #[], .func (.func 68) #[] #[], .func (.func 69) #[] #[]] 87] ∧ Turn [] w0 Wz1_4o1_14 ftz1_4o1_13 W48 ft47 ∧ (fCh 100 entembedentry A50 l52).rd W48 ft47) N ?_ ?_
   ·exact ⟨lz1_4o1_3, xz1_4o1_6, xz1_4o1_7, xz1_4o1_8, lz1_4o8_1, lz1_4o10_5, 0, ftz1_4o1_13, Wz1_4o1_14, Az1_4o1_4, Az1_4o8_5, cz1_4o8_6, Az1_4o10_6, cz1_4o10_7, selfA_i (by kernel_rfl), hE40, hS20, (Turn.refl _ _ _ _), hfz1_4o1_20⟩
   ·rintro k63 _ w44 ⟨l52, x53, x54, x55, l58, l61, x62, ft47, W48, A50, A56, c57, A59, c60, hq406, hL64, hS45, hT49, hf51⟩
    obtain ⟨u46, rfl⟩ := selfA_u hq406
    cases k63 with
    | zero => cases hL64
    | succ k63 =>
     rw [pWalked_L1] at hL64
     refine gx_seq (fun K65 hK66 => ?_)
     refine gx_region ?_
     rcases if_in hL64 with ⟨h67, hL64⟩ | ⟨h67, hL64⟩
     ·refine gx_v (.bool true) w44 (run_boolE (decide_eq_true h67) (by kernel_rfl)) ?_
      refine gx_nil ?_
      refine gx_thenN ?_
      refine hK66 _ _ ?_
      refine gx_seq (fun K68 hK69 => ?_)
      refine gx_yes (by kernel_rfl) ?_
      refine gx_pass ?_
      refine gx_thenN ?_
      refine hK69 _ _ ?_
      refine gx_seq (fun K70 hK71 => ?_)
      refine gx_block ?_
      refine gx_seq (fun K72 hK73 => ?_)
      refine gx_region ?_
      refine gx_k (.int .i64 x62) w44 ?_
      obtain ⟨x74, hx75, hL64⟩ := bind_in hL64
      refine gx_v (.pointer (Option.map (fun (p : Addr) => p.add (Int.toNat x62 * 1)) A0)) w44 (run_ixaddr (E := 26) (s := 1) (k := .i64) (c := c0) rfl (by kernel_rfl) (by kernel_rfl) (by kernel_rfl) (fun _ => by kernel_rfl) (ix_in hx75).1 (ix_in hx75).2.1 (num_nil (hS45.view hv0))) ?_
      refine gx_v (.int .u8 x74) w44 (run_loadix rfl (by kernel_rfl) (fun _ => by kernel_rfl) (hS45.view hv0) hx75) ?_
      refine gx_k (.int .i64 x62) w44 (gx_k (.int .u8 x74) w44 ?_)
      refine gx_nil ?_
      refine gx_thenN ?_
      refine hK73 _ _ ?_
      refine gx_region ?_
      refine gx_k (.int .u8 x74) w44 ?_
      rcases if_in hL64 with ⟨h76, hF77⟩ | ⟨h76, hF77⟩
      ·have hz78 : x74 = ((Int.toNat x74 : Nat) : Int) := by rcases h76 with h | h | h | h | h | h | h | h | h | h | h | h <;> rw [h] <;> rfl
       have hi79 : Int.toNat x74 < 24 := by rcases h76 with h | h | h | h | h | h | h | h | h | h | h | h <;> rw [h] <;> decide
       have hj80 : ([Value.nilFunc, .func (.func 58) #[] #[], .func (.func 58) #[] #[], .func (.func 58) #[] #[], .func (.func 58) #[] #[], .func (.func 58) #[] #[], .func (.func 58) #[] #[], .func (.func 58) #[] #[], .func (.func 58) #[] #[], .func (.func 58) #[] #[], .func (.func 59) #[] #[], .func (.func 60) #[] #[], .func (.func 58) #[] #[], .func (.func 58) #[] #[], .func (.func 58) #[] #[], .func (.func 61) #[] #[], .func (.func 62) #[] #[], .func (.func 63) #[] #[], .func (.func 64) #[] #[], .func (.func 65) #[] #[], .func (.func 66) #[] #[], .func (.func 67) #[] #[], .func (.func 68) #[] #[], .func (.func 69) #[] #[]] : List Value)[Int.toNat x74]? = some (.func (.func 58) #[] #[]) := by rcases h76 with h | h | h | h | h | h | h | h | h | h | h | h <;> rw [h] <;> rfl
       refine gx_v (.pointer (some ⟨w14.heap.size, (Int.toNat x74), none⟩)) w44 (run_ixarr (E := 86) (m := 24) (k := .u8) (i := Int.toNat x74) rfl (by kernel_rfl) (by kernel_rfl) hz78 (by kernel_rfl) (fun _ => by kernel_rfl) hi79) ?_
       refine gx_v (.func (.func 58) #[] #[]) w44 (run_load1 rfl (by kernel_rfl) (fun _ => by kernel_rfl) (hS45.box 5 rfl (Int.toNat x74) hj80)) ?_
       refine gx_k (.pointer (some ⟨gz1_4B0, 0, none⟩)) w44 (gx_k (.int .i64 x62) w44 ?_)
       have hP81 : St _ _ w44 ([boxE gz1_4B0 [.pointer A50, .int .i64 x53, .int .i64 x54, .int .i64 x55, .slice A0 p0.length c0, .slice Az1_4o4_4 lz1_4o4_3.length cz1_4o4_5, .int .u8 p1, .slice A56 l58.length c57, .slice A59 l61.length c60] 84, rowE .u8 5 A56 c57 l58, rowE .u8 26 A59 c60 l61] ++ [poolE ft47 W48, rowE .i64 3 Az1_4o4_4 cz1_4o4_5 lz1_4o4_3, boxE w14.heap.size [Value.nilFunc, .func (.func 58) #[] #[], .func (.func 58) #[] #[], .func (.func 58) #[] #[], .func (.func 58) #[] #[], .func (.func 58) #[] #[], .func (.func 58) #[] #[], .func (.func 58) #[] #[], .func (.func 58) #[] #[], .func (.func 58) #[] #[], .func (.func 59) #[] #[], .func (.func 60) #[] #[], .func (.func 58) #[] #[], .func (.func 58) #[] #[], .func (.func 58) #[] #[], .func (.func 61) #[] #[], .func (.func 62) #[] #[], .func (.func 63) #[] #[], .func (.func 64) #[] #[], .func (.func 65) #[] #[], .func (.func 66) #[] #[], .func (.func 67) #[] #[], .func (.func 68) #[] #[], .func (.func 69) #[] #[]] 87]) := hS45.pick [4, 2, 3, 0, 1, 5] rfl rfl
       obtain ⟨⟨l83, l86⟩, hc82, hF77⟩ := bind_in hF77
       try dsimp only at hF77
       refine gx_c (pStand_R l52 x53 x54 x55 p0 lz1_4o4_3 p1 l58 l61 x62 gz1_4B0 A50 ft47 A0 c0 Az1_4o4_4 cz1_4o4_5 A56 c57 A59 c60 (l83, l86) w44) (pStand_ok N l52 x53 x54 x55 p0 lz1_4o4_3 p1 l58 l61 x62 gz1_4B0 A50 ft47 A0 c0 Az1_4o4_4 cz1_4o4_5 A56 c57 A59 c60 _ hc82 w44 (hS45.now 0 rfl hf51) (hP81.offPA 0 rfl) (hP81.vwA hv0) (hP81.vwB 1 rfl) hP81.part) ?_
       rintro _ w89 ⟨A84, c85, A87, c88, rfl, hT91⟩
       have hS90 : St _ _ w89 [poolE ft47 W48, rowE .i64 3 Az1_4o4_4 cz1_4o4_5 lz1_4o4_3, boxE w14.heap.size [Value.nilFunc, .func (.func 58) #[] #[], .func (.func 58) #[] #[], .func (.func 58) #[] #[], .func (.func 58) #[] #[], .func (.func 58) #[] #[], .func (.func 58) #[] #[], .func (.func 58) #[] #[], .func (.func 58) #[] #[], .func (.func 58) #[] #[], .func (.func 59) #[] #[], .func (.func 60) #[] #[], .func (.func 58) #[] #[], .func (.func 58) #[] #[], .func (.func 58) #[] #[], .func (.func 61) #[] #[], .func (.func 62) #[] #[], .func (.func 63) #[] #[], .func (.func 64) #[] #[], .func (.func 65) #[] #[], .func (.func 66) #[] #[], .func (.func 67) #[] #[], .func (.func 68) #[] #[], .func (.func 69) #[] #[]] 87, boxE gz1_4B0 [.pointer A50, .int .i64 x53, .int .i64 x54, .int .i64 x55, .slice A0 p0.length c0, .slice Az1_4o4_4 lz1_4o4_3.length cz1_4o4_5, .int .u8 p1, .slice A84 l83.length c85, .slice A87 l86.length c88] 84, rowE .u8 5 A84 c85 l83, rowE .u8 26 A87 c88 l86] := hP81.lendN _ hT91
       refine gx_nil ?_
       refine gx_blkN ?_
       refine gx_thenN ?_
       refine hK71 _ _ ?_
       refine gx_region ?_
       refine gx_k (.int .i64 (IntKind.i64.wrap (x62 + 1))) w89 (gx_k (.int .i64 (IntKind.i64.wrap (x62 + 1))) w89 ?_)
       refine gx_nil ?_
       refine gx_thenN ?_
       exact ⟨k63, Nat.lt_succ_self k63, l52, x53, x54, x55, l83, l86, (IntKind.i64.wrap (x62 + 1)), ft47, W48, A50, A84, c85, A87, c88, selfA_i (by kernel_rfl), hF77, (hS90.pick [0, 1, 4, 5, 3, 2] rfl rfl), hT49, hf51⟩
      ·rcases if_in hF77 with ⟨h92, hF93⟩ | ⟨h92, hF93⟩
       ·have hz94 : x74 = ((Int.toNat x74 : Nat) : Int) := by rw [h92]; rfl
        have hi95 : Int.toNat x74 < 24 := by rw [h92]; decide
        have hj96 : ([Value.nilFunc, .func (.func 58) #[] #[], .func (.func 58) #[] #[], .func (.func 58) #[] #[], .func (.func 58) #[] #[], .func (.func 58) #[] #[], .func (.func 58) #[] #[], .func (.func 58) #[] #[], .func (.func 58) #[] #[], .func (.func 58) #[] #[], .func (.func 59) #[] #[], .func (.func 60) #[] #[], .func (.func 58) #[] #[], .func (.func 58) #[] #[], .func (.func 58) #[] #[], .func (.func 61) #[] #[], .func (.func 62) #[] #[], .func (.func 63) #[] #[], .func (.func 64) #[] #[], .func (.func 65) #[] #[], .func (.func 66) #[] #[], .func (.func 67) #[] #[], .func (.func 68) #[] #[], .func (.func 69) #[] #[]] : List Value)[Int.toNat x74]? = some (.func (.func 59) #[] #[]) := by rw [h92]; rfl
        refine gx_v (.pointer (some ⟨w14.heap.size, (Int.toNat x74), none⟩)) w44 (run_ixarr (E := 86) (m := 24) (k := .u8) (i := Int.toNat x74) rfl (by kernel_rfl) (by kernel_rfl) hz94 (by kernel_rfl) (fun _ => by kernel_rfl) hi95) ?_
        refine gx_v (.func (.func 59) #[] #[]) w44 (run_load1 rfl (by kernel_rfl) (fun _ => by kernel_rfl) (hS45.box 5 rfl (Int.toNat x74) hj96)) ?_
        refine gx_k (.pointer (some ⟨gz1_4B0, 0, none⟩)) w44 (gx_k (.int .i64 x62) w44 ?_)
        have hP97 : St _ _ w44 ([boxE gz1_4B0 [.pointer A50, .int .i64 x53, .int .i64 x54, .int .i64 x55, .slice A0 p0.length c0, .slice Az1_4o4_4 lz1_4o4_3.length cz1_4o4_5, .int .u8 p1, .slice A56 l58.length c57, .slice A59 l61.length c60] 84, rowE .u8 5 A56 c57 l58, rowE .u8 26 A59 c60 l61] ++ [poolE ft47 W48, rowE .i64 3 Az1_4o4_4 cz1_4o4_5 lz1_4o4_3, boxE w14.heap.size [Value.nilFunc, .func (.func 58) #[] #[], .func (.func 58) #[] #[], .func (.func 58) #[] #[], .func (.func 58) #[] #[], .func (.func 58) #[] #[], .func (.func 58) #[] #[], .func (.func 58) #[] #[], .func (.func 58) #[] #[], .func (.func 58) #[] #[], .func (.func 59) #[] #[], .func (.func 60) #[] #[], .func (.func 58) #[] #[], .func (.func 58) #[] #[], .func (.func 58) #[] #[], .func (.func 61) #[] #[], .func (.func 62) #[] #[], .func (.func 63) #[] #[], .func (.func 64) #[] #[], .func (.func 65) #[] #[], .func (.func 66) #[] #[], .func (.func 67) #[] #[], .func (.func 68) #[] #[], .func (.func 69) #[] #[]] 87]) := hS45.pick [4, 2, 3, 0, 1, 5] rfl rfl
        obtain ⟨⟨l99, l102⟩, hc98, hF93⟩ := bind_in hF93
        try dsimp only at hF93
        refine gx_c (pRemove_R l52 x53 x54 x55 p0 lz1_4o4_3 p1 l58 l61 x62 gz1_4B0 A50 ft47 A0 c0 Az1_4o4_4 cz1_4o4_5 A56 c57 A59 c60 (l99, l102) w44) (pRemove_ok N l52 x53 x54 x55 p0 lz1_4o4_3 p1 l58 l61 x62 gz1_4B0 A50 ft47 A0 c0 Az1_4o4_4 cz1_4o4_5 A56 c57 A59 c60 _ hc98 w44 (hS45.now 0 rfl hf51) (hP97.offPA 0 rfl) (hP97.vwA hv0) (hP97.vwB 1 rfl) hP97.part) ?_
        rintro _ w105 ⟨A100, c101, A103, c104, rfl, hT107⟩
        have hS106 : St _ _ w105 [poolE ft47 W48, rowE .i64 3 Az1_4o4_4 cz1_4o4_5 lz1_4o4_3, boxE w14.heap.size [Value.nilFunc, .func (.func 58) #[] #[], .func (.func 58) #[] #[], .func (.func 58) #[] #[], .func (.func 58) #[] #[], .func (.func 58) #[] #[], .func (.func 58) #[] #[], .func (.func 58) #[] #[], .func (.func 58) #[] #[], .func (.func 58) #[] #[], .func (.func 59) #[] #[], .func (.func 60) #[] #[], .func (.func 58) #[] #[], .func (.func 58) #[] #[], .func (.func 58) #[] #[], .func (.func 61) #[] #[], .func (.func 62) #[] #[], .func (.func 63) #[] #[], .func (.func 64) #[] #[], .func (.func 65) #[] #[], .func (.func 66) #[] #[], .func (.func 67) #[] #[], .func (.func 68) #[] #[], .func (.func 69) #[] #[]] 87, boxE gz1_4B0 [.pointer A50, .int .i64 x53, .int .i64 x54, .int .i64 x55, .slice A0 p0.length c0, .slice Az1_4o4_4 lz1_4o4_3.length cz1_4o4_5, .int .u8 p1, .slice A100 l99.length c101, .slice A103 l102.length c104] 84, rowE .u8 5 A100 c101 l99, rowE .u8 26 A103 c104 l102] := hP97.lendN _ hT107
        refine gx_nil ?_
        refine gx_blkN ?_
        refine gx_thenN ?_
        refine hK71 _ _ ?_
        refine gx_region ?_
        refine gx_k (.int .i64 (IntKind.i64.wrap (x62 + 1))) w105 (gx_k (.int .i64 (IntKind.i64.wrap (x62 + 1))) w105 ?_)
        refine gx_nil ?_
        refine gx_thenN ?_
        exact ⟨k63, Nat.lt_succ_self k63, l52, x53, x54, x55, l99, l102, (IntKind.i64.wrap (x62 + 1)), ft47, W48, A50, A100, c101, A103, c104, selfA_i (by kernel_rfl), hF93, (hS106.pick [0, 1, 4, 5, 3, 2] rfl rfl), hT49, hf51⟩
       ·rcases if_in hF93 with ⟨h108, hF109⟩ | ⟨h108, hF109⟩
        ·have hz110 : x74 = ((Int.toNat x74 : Nat) : Int) := by rw [h108]; rfl
         have hi111 : Int.toNat x74 < 24 := by rw [h108]; decide
         have hj112 : ([Value.nilFunc, .func (.func 58) #[] #[], .func (.func 58) #[] #[], .func (.func 58) #[] #[], .func (.func 58) #[] #[], .func (.func 58) #[] #[], .func (.func 58) #[] #[], .func (.func 58) #[] #[], .func (.func 58) #[] #[], .func (.func 58) #[] #[], .func (.func 59) #[] #[], .func (.func 60) #[] #[], .func (.func 58) #[] #[], .func (.func 58) #[] #[], .func (.func 58) #[] #[], .func (.func 61) #[] #[], .func (.func 62) #[] #[], .func (.func 63) #[] #[], .func (.func 64) #[] #[], .func (.func 65) #[] #[], .func (.func 66) #[] #[], .func (.func 67) #[] #[], .func (.func 68) #[] #[], .func (.func 69) #[] #[]] : List Value)[Int.toNat x74]? = some (.func (.func 60) #[] #[]) := by rw [h108]; rfl
         refine gx_v (.pointer (some ⟨w14.heap.size, (Int.toNat x74), none⟩)) w44 (run_ixarr (E := 86) (m := 24) (k := .u8) (i := Int.toNat x74) rfl (by kernel_rfl) (by kernel_rfl) hz110 (by kernel_rfl) (fun _ => by kernel_rfl) hi111) ?_
         refine gx_v (.func (.func 60) #[] #[]) w44 (run_load1 rfl (by kernel_rfl) (fun _ => by kernel_rfl) (hS45.box 5 rfl (Int.toNat x74) hj112)) ?_
         refine gx_k (.pointer (some ⟨gz1_4B0, 0, none⟩)) w44 (gx_k (.int .i64 x62) w44 ?_)
         have hP113 : St _ _ w44 ([boxE gz1_4B0 [.pointer A50, .int .i64 x53, .int .i64 x54, .int .i64 x55, .slice A0 p0.length c0, .slice Az1_4o4_4 lz1_4o4_3.length cz1_4o4_5, .int .u8 p1, .slice A56 l58.length c57, .slice A59 l61.length c60] 84, rowE .u8 5 A56 c57 l58, rowE .u8 26 A59 c60 l61] ++ [poolE ft47 W48, rowE .i64 3 Az1_4o4_4 cz1_4o4_5 lz1_4o4_3, boxE w14.heap.size [Value.nilFunc, .func (.func 58) #[] #[], .func (.func 58) #[] #[], .func (.func 58) #[] #[], .func (.func 58) #[] #[], .func (.func 58) #[] #[], .func (.func 58) #[] #[], .func (.func 58) #[] #[], .func (.func 58) #[] #[], .func (.func 58) #[] #[], .func (.func 59) #[] #[], .func (.func 60) #[] #[], .func (.func 58) #[] #[], .func (.func 58) #[] #[], .func (.func 58) #[] #[], .func (.func 61) #[] #[], .func (.func 62) #[] #[], .func (.func 63) #[] #[], .func (.func 64) #[] #[], .func (.func 65) #[] #[], .func (.func 66) #[] #[], .func (.func 67) #[] #[], .func (.func 68) #[] #[], .func (.func 69) #[] #[]] 87]) := hS45.pick [4, 2, 3, 0, 1, 5] rfl rfl
         obtain ⟨⟨l115, x118, x119, x120, l121⟩, hc114, hF109⟩ := bind_in hF109
         try dsimp only at hF109
         refine gx_c (pAgain_R l52 x53 x54 x55 p0 lz1_4o4_3 p1 l58 l61 x62 gz1_4B0 A50 ft47 A0 c0 Az1_4o4_4 cz1_4o4_5 A56 c57 A59 c60 (l115, x118, x119, x120, l121) w44) (pAgain_ok N l52 x53 x54 x55 p0 lz1_4o4_3 p1 l58 l61 x62 gz1_4B0 A50 ft47 A0 c0 Az1_4o4_4 cz1_4o4_5 A56 c57 A59 c60 _ hc114 w44 (hS45.now 0 rfl hf51) (hP113.offPA 0 rfl) (hP113.vwA hv0) (hP113.vwB 1 rfl) hP113.part) ?_
         rintro _ w127 ⟨A116, A122, c123, A124, c125, ft126, rfl, hT129, hf117⟩
         have hS128 : St _ _ w127 [poolE ft47 W48, rowE .i64 3 Az1_4o4_4 cz1_4o4_5 lz1_4o4_3, boxE w14.heap.size [Value.nilFunc, .func (.func 58) #[] #[], .func (.func 58) #[] #[], .func (.func 58) #[] #[], .func (.func 58) #[] #[], .func (.func 58) #[] #[], .func (.func 58) #[] #[], .func (.func 58) #[] #[], .func (.func 58) #[] #[], .func (.func 58) #[] #[], .func (.func 59) #[] #[], .func (.func 60) #[] #[], .func (.func 58) #[] #[], .func (.func 58) #[] #[], .func (.func 58) #[] #[], .func (.func 61) #[] #[], .func (.func 62) #[] #[], .func (.func 63) #[] #[], .func (.func 64) #[] #[], .func (.func 65) #[] #[], .func (.func 66) #[] #[], .func (.func 67) #[] #[], .func (.func 68) #[] #[], .func (.func 69) #[] #[]] 87, boxE gz1_4B0 [.pointer A116, .int .i64 x118, .int .i64 x119, .int .i64 x120, .slice A0 p0.length c0, .slice Az1_4o4_4 lz1_4o4_3.length cz1_4o4_5, .int .u8 p1, .slice A122 l121.length c123, .slice A124 l61.length c125] 84, rowE .u8 5 A122 c123 l121, rowE .u8 26 A124 c125 l61, poolE ft126 w127] := hP113.lendN _ hT129
         obtain ⟨ft130, W131, hS132, hT133, hU134, hU135, hU136⟩ := hS128.mergeW 6 0 rfl rfl (by decide)
         have hS132 : St _ _ w127 [poolE ft130 W131, rowE .i64 3 Az1_4o4_4 cz1_4o4_5 lz1_4o4_3, boxE w14.heap.size [Value.nilFunc, .func (.func 58) #[] #[], .func (.func 58) #[] #[], .func (.func 58) #[] #[], .func (.func 58) #[] #[], .func (.func 58) #[] #[], .func (.func 58) #[] #[], .func (.func 58) #[] #[], .func (.func 58) #[] #[], .func (.func 58) #[] #[], .func (.func 59) #[] #[], .func (.func 60) #[] #[], .func (.func 58) #[] #[], .func (.func 58) #[] #[], .func (.func 58) #[] #[], .func (.func 61) #[] #[], .func (.func 62) #[] #[], .func (.func 63) #[] #[], .func (.func 64) #[] #[], .func (.func 65) #[] #[], .func (.func 66) #[] #[], .func (.func 67) #[] #[], .func (.func 68) #[] #[], .func (.func 69) #[] #[]] 87, boxE gz1_4B0 [.pointer A116, .int .i64 x118, .int .i64 x119, .int .i64 x120, .slice A0 p0.length c0, .slice Az1_4o4_4 lz1_4o4_3.length cz1_4o4_5, .int .u8 p1, .slice A122 l121.length c123, .slice A124 l61.length c125] 84, rowE .u8 5 A122 c123 l121, rowE .u8 26 A124 c125 l61] := hS132
         have hT133 : Turn [] w0 W48 ft47 W131 ft130 := hT133
         have hf137 : (fCh 100 entembedentry A116 l115).rd W131 ft130 := hU135 _ _ (fun k hk => by exact hk) hf117
         refine gx_nil ?_
         refine gx_blkN ?_
         refine gx_thenN ?_
         refine hK71 _ _ ?_
         refine gx_region ?_
         refine gx_k (.int .i64 (IntKind.i64.wrap (x62 + 1))) w127 (gx_k (.int .i64 (IntKind.i64.wrap (x62 + 1))) w127 ?_)
         refine gx_nil ?_
         refine gx_thenN ?_
         exact ⟨k63, Nat.lt_succ_self k63, l115, x118, x119, x120, l121, l61, (IntKind.i64.wrap (x62 + 1)), ft130, W131, A116, A122, c123, A124, c125, selfA_i (by kernel_rfl), hF109, (hS132.pick [0, 1, 4, 5, 3, 2] rfl rfl), (Turn.trans hT49 hT133), hf137⟩
        ·rcases if_in hF109 with ⟨h138, hF139⟩ | ⟨h138, hF139⟩
         ·have hz140 : x74 = ((Int.toNat x74 : Nat) : Int) := by rw [h138]; rfl
          have hi141 : Int.toNat x74 < 24 := by rw [h138]; decide
          have hj142 : ([Value.nilFunc, .func (.func 58) #[] #[], .func (.func 58) #[] #[], .func (.func 58) #[] #[], .func (.func 58) #[] #[], .func (.func 58) #[] #[], .func (.func 58) #[] #[], .func (.func 58) #[] #[], .func (.func 58) #[] #[], .func (.func 58) #[] #[], .func (.func 59) #[] #[], .func (.func 60) #[] #[], .func (.func 58) #[] #[], .func (.func 58) #[] #[], .func (.func 58) #[] #[], .func (.func 61) #[] #[], .func (.func 62) #[] #[], .func (.func 63) #[] #[], .func (.func 64) #[] #[], .func (.func 65) #[] #[], .func (.func 66) #[] #[], .func (.func 67) #[] #[], .func (.func 68) #[] #[], .func (.func 69) #[] #[]] : List Value)[Int.toNat x74]? = some (.func (.func 61) #[] #[]) := by rw [h138]; rfl
          refine gx_v (.pointer (some ⟨w14.heap.size, (Int.toNat x74), none⟩)) w44 (run_ixarr (E := 86) (m := 24) (k := .u8) (i := Int.toNat x74) rfl (by kernel_rfl) (by kernel_rfl) hz140 (by kernel_rfl) (fun _ => by kernel_rfl) hi141) ?_
          refine gx_v (.func (.func 61) #[] #[]) w44 (run_load1 rfl (by kernel_rfl) (fun _ => by kernel_rfl) (hS45.box 5 rfl (Int.toNat x74) hj142)) ?_
          refine gx_k (.pointer (some ⟨gz1_4B0, 0, none⟩)) w44 (gx_k (.int .i64 x62) w44 ?_)
          have hP143 : St _ _ w44 ([boxE gz1_4B0 [.pointer A50, .int .i64 x53, .int .i64 x54, .int .i64 x55, .slice A0 p0.length c0, .slice Az1_4o4_4 lz1_4o4_3.length cz1_4o4_5, .int .u8 p1, .slice A56 l58.length c57, .slice A59 l61.length c60] 84, rowE .u8 5 A56 c57 l58, rowE .u8 26 A59 c60 l61] ++ [poolE ft47 W48, rowE .i64 3 Az1_4o4_4 cz1_4o4_5 lz1_4o4_3, boxE w14.heap.size [Value.nilFunc, .func (.func 58) #[] #[], .func (.func 58) #[] #[], .func (.func 58) #[] #[], .func (.func 58) #[] #[], .func (.func 58) #[] #[], .func (.func 58) #[] #[], .func (.func 58) #[] #[], .func (.func 58) #[] #[], .func (.func 58) #[] #[], .func (.func 59) #[] #[], .func (.func 60) #[] #[], .func (.func 58) #[] #[], .func (.func 58) #[] #[], .func (.func 58) #[] #[], .func (.func 61) #[] #[], .func (.func 62) #[] #[], .func (.func 63) #[] #[], .func (.func 64) #[] #[], .func (.func 65) #[] #[], .func (.func 66) #[] #[], .func (.func 67) #[] #[], .func (.func 68) #[] #[], .func (.func 69) #[] #[]] 87]) := hS45.pick [4, 2, 3, 0, 1, 5] rfl rfl
          obtain ⟨⟨l145, x148, l149, l152⟩, hc144, hF139⟩ := bind_in hF139
          try dsimp only at hF139
          refine gx_c (pEmL_R l52 x53 x54 x55 p0 lz1_4o4_3 p1 l58 l61 x62 gz1_4B0 A50 ft47 A0 c0 Az1_4o4_4 cz1_4o4_5 A56 c57 A59 c60 (l145, x148, l149, l152) w44) (pEmL_ok N l52 x53 x54 x55 p0 lz1_4o4_3 p1 l58 l61 x62 gz1_4B0 A50 ft47 A0 c0 Az1_4o4_4 cz1_4o4_5 A56 c57 A59 c60 _ hc144 w44 (hS45.now 0 rfl hf51) (hP143.offPA 0 rfl) (hP143.vwA hv0) (hP143.vwB 1 rfl) hP143.part) ?_
          rintro _ w156 ⟨A146, A150, c151, A153, c154, ft155, rfl, hT158, hf147⟩
          have hS157 : St _ _ w156 [poolE ft47 W48, rowE .i64 3 Az1_4o4_4 cz1_4o4_5 lz1_4o4_3, boxE w14.heap.size [Value.nilFunc, .func (.func 58) #[] #[], .func (.func 58) #[] #[], .func (.func 58) #[] #[], .func (.func 58) #[] #[], .func (.func 58) #[] #[], .func (.func 58) #[] #[], .func (.func 58) #[] #[], .func (.func 58) #[] #[], .func (.func 58) #[] #[], .func (.func 59) #[] #[], .func (.func 60) #[] #[], .func (.func 58) #[] #[], .func (.func 58) #[] #[], .func (.func 58) #[] #[], .func (.func 61) #[] #[], .func (.func 62) #[] #[], .func (.func 63) #[] #[], .func (.func 64) #[] #[], .func (.func 65) #[] #[], .func (.func 66) #[] #[], .func (.func 67) #[] #[], .func (.func 68) #[] #[], .func (.func 69) #[] #[]] 87, boxE gz1_4B0 [.pointer A146, .int .i64 x53, .int .i64 x54, .int .i64 x148, .slice A0 p0.length c0, .slice Az1_4o4_4 lz1_4o4_3.length cz1_4o4_5, .int .u8 p1, .slice A150 l149.length c151, .slice A153 l152.length c154] 84, rowE .u8 5 A150 c151 l149, rowE .u8 26 A153 c154 l152, poolE ft155 w156] := hP143.lendN _ hT158
          obtain ⟨ft159, W160, hS161, hT162, hU163, hU164, hU165⟩ := hS157.mergeW 6 0 rfl rfl (by decide)
          have hS161 : St _ _ w156 [poolE ft159 W160, rowE .i64 3 Az1_4o4_4 cz1_4o4_5 lz1_4o4_3, boxE w14.heap.size [Value.nilFunc, .func (.func 58) #[] #[], .func (.func 58) #[] #[], .func (.func 58) #[] #[], .func (.func 58) #[] #[], .func (.func 58) #[] #[], .func (.func 58) #[] #[], .func (.func 58) #[] #[], .func (.func 58) #[] #[], .func (.func 58) #[] #[], .func (.func 59) #[] #[], .func (.func 60) #[] #[], .func (.func 58) #[] #[], .func (.func 58) #[] #[], .func (.func 58) #[] #[], .func (.func 61) #[] #[], .func (.func 62) #[] #[], .func (.func 63) #[] #[], .func (.func 64) #[] #[], .func (.func 65) #[] #[], .func (.func 66) #[] #[], .func (.func 67) #[] #[], .func (.func 68) #[] #[], .func (.func 69) #[] #[]] 87, boxE gz1_4B0 [.pointer A146, .int .i64 x53, .int .i64 x54, .int .i64 x148, .slice A0 p0.length c0, .slice Az1_4o4_4 lz1_4o4_3.length cz1_4o4_5, .int .u8 p1, .slice A150 l149.length c151, .slice A153 l152.length c154] 84, rowE .u8 5 A150 c151 l149, rowE .u8 26 A153 c154 l152] := hS161
          have hT162 : Turn [] w0 W48 ft47 W160 ft159 := hT162
          have hf166 : (fCh 100 entembedentry A146 l145).rd W160 ft159 := hU164 _ _ (fun k hk => by exact hk) hf147
          refine gx_nil ?_
          refine gx_blkN ?_
          refine gx_thenN ?_
          refine hK71 _ _ ?_
          refine gx_region ?_
          refine gx_k (.int .i64 (IntKind.i64.wrap (x62 + 1))) w156 (gx_k (.int .i64 (IntKind.i64.wrap (x62 + 1))) w156 ?_)
          refine gx_nil ?_
          refine gx_thenN ?_
          exact ⟨k63, Nat.lt_succ_self k63, l145, x53, x54, x148, l149, l152, (IntKind.i64.wrap (x62 + 1)), ft159, W160, A146, A150, c151, A153, c154, selfA_i (by kernel_rfl), hF139, (hS161.pick [0, 1, 4, 5, 3, 2] rfl rfl), (Turn.trans hT49 hT162), hf166⟩
         ·rcases if_in hF139 with ⟨h167, hF168⟩ | ⟨h167, hF168⟩
          ·have hz169 : x74 = ((Int.toNat x74 : Nat) : Int) := by rw [h167]; rfl
           have hi170 : Int.toNat x74 < 24 := by rw [h167]; decide
           have hj171 : ([Value.nilFunc, .func (.func 58) #[] #[], .func (.func 58) #[] #[], .func (.func 58) #[] #[], .func (.func 58) #[] #[], .func (.func 58) #[] #[], .func (.func 58) #[] #[], .func (.func 58) #[] #[], .func (.func 58) #[] #[], .func (.func 58) #[] #[], .func (.func 59) #[] #[], .func (.func 60) #[] #[], .func (.func 58) #[] #[], .func (.func 58) #[] #[], .func (.func 58) #[] #[], .func (.func 61) #[] #[], .func (.func 62) #[] #[], .func (.func 63) #[] #[], .func (.func 64) #[] #[], .func (.func 65) #[] #[], .func (.func 66) #[] #[], .func (.func 67) #[] #[], .func (.func 68) #[] #[], .func (.func 69) #[] #[]] : List Value)[Int.toNat x74]? = some (.func (.func 62) #[] #[]) := by rw [h167]; rfl
           refine gx_v (.pointer (some ⟨w14.heap.size, (Int.toNat x74), none⟩)) w44 (run_ixarr (E := 86) (m := 24) (k := .u8) (i := Int.toNat x74) rfl (by kernel_rfl) (by kernel_rfl) hz169 (by kernel_rfl) (fun _ => by kernel_rfl) hi170) ?_
           refine gx_v (.func (.func 62) #[] #[]) w44 (run_load1 rfl (by kernel_rfl) (fun _ => by kernel_rfl) (hS45.box 5 rfl (Int.toNat x74) hj171)) ?_
           refine gx_k (.pointer (some ⟨gz1_4B0, 0, none⟩)) w44 (gx_k (.int .i64 x62) w44 ?_)
           have hP172 : St _ _ w44 ([boxE gz1_4B0 [.pointer A50, .int .i64 x53, .int .i64 x54, .int .i64 x55, .slice A0 p0.length c0, .slice Az1_4o4_4 lz1_4o4_3.length cz1_4o4_5, .int .u8 p1, .slice A56 l58.length c57, .slice A59 l61.length c60] 84, rowE .u8 5 A56 c57 l58, rowE .u8 26 A59 c60 l61] ++ [poolE ft47 W48, rowE .i64 3 Az1_4o4_4 cz1_4o4_5 lz1_4o4_3, boxE w14.heap.size [Value.nilFunc, .func (.func 58) #[] #[], .func (.func 58) #[] #[], .func (.func 58) #[] #[], .func (.func 58) #[] #[], .func (.func 58) #[] #[], .func (.func 58) #[] #[], .func (.func 58) #[] #[], .func (.func 58) #[] #[], .func (.func 58) #[] #[], .func (.func 59) #[] #[], .func (.func 60) #[] #[], .func (.func 58) #[] #[], .func (.func 58) #[] #[], .func (.func 58) #[] #[], .func (.func 61) #[] #[], .func (.func 62) #[] #[], .func (.func 63) #[] #[], .func (.func 64) #[] #[], .func (.func 65) #[] #[], .func (.func 66) #[] #[], .func (.func 67) #[] #[], .func (.func 68) #[] #[], .func (.func 69) #[] #[]] 87]) := hS45.pick [4, 2, 3, 0, 1, 5] rfl rfl
           obtain ⟨⟨l174, x177, l178, l181⟩, hc173, hF168⟩ := bind_in hF168
           try dsimp only at hF168
           refine gx_c (pEmR_R l52 x53 x54 x55 p0 lz1_4o4_3 p1 l58 l61 x62 gz1_4B0 A50 ft47 A0 c0 Az1_4o4_4 cz1_4o4_5 A56 c57 A59 c60 (l174, x177, l178, l181) w44) (pEmR_ok N l52 x53 x54 x55 p0 lz1_4o4_3 p1 l58 l61 x62 gz1_4B0 A50 ft47 A0 c0 Az1_4o4_4 cz1_4o4_5 A56 c57 A59 c60 _ hc173 w44 (hS45.now 0 rfl hf51) (hP172.offPA 0 rfl) (hP172.vwA hv0) (hP172.vwB 1 rfl) hP172.part) ?_
           rintro _ w185 ⟨A175, A179, c180, A182, c183, ft184, rfl, hT187, hf176⟩
           have hS186 : St _ _ w185 [poolE ft47 W48, rowE .i64 3 Az1_4o4_4 cz1_4o4_5 lz1_4o4_3, boxE w14.heap.size [Value.nilFunc, .func (.func 58) #[] #[], .func (.func 58) #[] #[], .func (.func 58) #[] #[], .func (.func 58) #[] #[], .func (.func 58) #[] #[], .func (.func 58) #[] #[], .func (.func 58) #[] #[], .func (.func 58) #[] #[], .func (.func 58) #[] #[], .func (.func 59) #[] #[], .func (.func 60) #[] #[], .func (.func 58) #[] #[], .func (.func 58) #[] #[], .func (.func 58) #[] #[], .func (.func 61) #[] #[], .func (.func 62) #[] #[], .func (.func 63) #[] #[], .func (.func 64) #[] #[], .func (.func 65) #[] #[], .func (.func 66) #[] #[], .func (.func 67) #[] #[], .func (.func 68) #[] #[], .func (.func 69) #[] #[]] 87, boxE gz1_4B0 [.pointer A175, .int .i64 x53, .int .i64 x54, .int .i64 x177, .slice A0 p0.length c0, .slice Az1_4o4_4 lz1_4o4_3.length cz1_4o4_5, .int .u8 p1, .slice A179 l178.length c180, .slice A182 l181.length c183] 84, rowE .u8 5 A179 c180 l178, rowE .u8 26 A182 c183 l181, poolE ft184 w185] := hP172.lendN _ hT187
           obtain ⟨ft188, W189, hS190, hT191, hU192, hU193, hU194⟩ := hS186.mergeW 6 0 rfl rfl (by decide)
           have hS190 : St _ _ w185 [poolE ft188 W189, rowE .i64 3 Az1_4o4_4 cz1_4o4_5 lz1_4o4_3, boxE w14.heap.size [Value.nilFunc, .func (.func 58) #[] #[], .func (.func 58) #[] #[], .func (.func 58) #[] #[], .func (.func 58) #[] #[], .func (.func 58) #[] #[], .func (.func 58) #[] #[], .func (.func 58) #[] #[], .func (.func 58) #[] #[], .func (.func 58) #[] #[], .func (.func 59) #[] #[], .func (.func 60) #[] #[], .func (.func 58) #[] #[], .func (.func 58) #[] #[], .func (.func 58) #[] #[], .func (.func 61) #[] #[], .func (.func 62) #[] #[], .func (.func 63) #[] #[], .func (.func 64) #[] #[], .func (.func 65) #[] #[], .func (.func 66) #[] #[], .func (.func 67) #[] #[], .func (.func 68) #[] #[], .func (.func 69) #[] #[]] 87, boxE gz1_4B0 [.pointer A175, .int .i64 x53, .int .i64 x54, .int .i64 x177, .slice A0 p0.length c0, .slice Az1_4o4_4 lz1_4o4_3.length cz1_4o4_5, .int .u8 p1, .slice A179 l178.length c180, .slice A182 l181.length c183] 84, rowE .u8 5 A179 c180 l178, rowE .u8 26 A182 c183 l181] := hS190
           have hT191 : Turn [] w0 W48 ft47 W189 ft188 := hT191
           have hf195 : (fCh 100 entembedentry A175 l174).rd W189 ft188 := hU193 _ _ (fun k hk => by exact hk) hf176
           refine gx_nil ?_
           refine gx_blkN ?_
           refine gx_thenN ?_
           refine hK71 _ _ ?_
           refine gx_region ?_
           refine gx_k (.int .i64 (IntKind.i64.wrap (x62 + 1))) w185 (gx_k (.int .i64 (IntKind.i64.wrap (x62 + 1))) w185 ?_)
           refine gx_nil ?_
           refine gx_thenN ?_
           exact ⟨k63, Nat.lt_succ_self k63, l174, x53, x54, x177, l178, l181, (IntKind.i64.wrap (x62 + 1)), ft188, W189, A175, A179, c180, A182, c183, selfA_i (by kernel_rfl), hF168, (hS190.pick [0, 1, 4, 5, 3, 2] rfl rfl), (Turn.trans hT49 hT191), hf195⟩
          ·rcases if_in hF168 with ⟨h196, hF197⟩ | ⟨h196, hF197⟩
           ·have hz198 : x74 = ((Int.toNat x74 : Nat) : Int) := by rw [h196]; rfl
            have hi199 : Int.toNat x74 < 24 := by rw [h196]; decide
            have hj200 : ([Value.nilFunc, .func (.func 58) #[] #[], .func (.func 58) #[] #[], .func (.func 58) #[] #[], .func (.func 58) #[] #[], .func (.func 58) #[] #[], .func (.func 58) #[] #[], .func (.func 58) #[] #[], .func (.func 58) #[] #[], .func (.func 58) #[] #[], .func (.func 59) #[] #[], .func (.func 60) #[] #[], .func (.func 58) #[] #[], .func (.func 58) #[] #[], .func (.func 58) #[] #[], .func (.func 61) #[] #[], .func (.func 62) #[] #[], .func (.func 63) #[] #[], .func (.func 64) #[] #[], .func (.func 65) #[] #[], .func (.func 66) #[] #[], .func (.func 67) #[] #[], .func (.func 68) #[] #[], .func (.func 69) #[] #[]] : List Value)[Int.toNat x74]? = some (.func (.func 63) #[] #[]) := by rw [h196]; rfl
            refine gx_v (.pointer (some ⟨w14.heap.size, (Int.toNat x74), none⟩)) w44 (run_ixarr (E := 86) (m := 24) (k := .u8) (i := Int.toNat x74) rfl (by kernel_rfl) (by kernel_rfl) hz198 (by kernel_rfl) (fun _ => by kernel_rfl) hi199) ?_
            refine gx_v (.func (.func 63) #[] #[]) w44 (run_load1 rfl (by kernel_rfl) (fun _ => by kernel_rfl) (hS45.box 5 rfl (Int.toNat x74) hj200)) ?_
            refine gx_k (.pointer (some ⟨gz1_4B0, 0, none⟩)) w44 (gx_k (.int .i64 x62) w44 ?_)
            have hP201 : St _ _ w44 ([boxE gz1_4B0 [.pointer A50, .int .i64 x53, .int .i64 x54, .int .i64 x55, .slice A0 p0.length c0, .slice Az1_4o4_4 lz1_4o4_3.length cz1_4o4_5, .int .u8 p1, .slice A56 l58.length c57, .slice A59 l61.length c60] 84, rowE .u8 5 A56 c57 l58, rowE .u8 26 A59 c60 l61] ++ [poolE ft47 W48, rowE .i64 3 Az1_4o4_4 cz1_4o4_5 lz1_4o4_3, boxE w14.heap.size [Value.nilFunc, .func (.func 58) #[] #[], .func (.func 58) #[] #[], .func (.func 58) #[] #[], .func (.func 58) #[] #[], .func (.func 58) #[] #[], .func (.func 58) #[] #[], .func (.func 58) #[] #[], .func (.func 58) #[] #[], .func (.func 58) #[] #[], .func (.func 59) #[] #[], .func (.func 60) #[] #[], .func (.func 58) #[] #[], .func (.func 58) #[] #[], .func (.func 58) #[] #[], .func (.func 61) #[] #[], .func (.func 62) #[] #[], .func (.func 63) #[] #[], .func (.func 64) #[] #[], .func (.func 65) #[] #[], .func (.func 66) #[] #[], .func (.func 67) #[] #[], .func (.func 68) #[] #[], .func (.func 69) #[] #[]] 87]) := hS45.pick [4, 2, 3, 0, 1, 5] rfl rfl
            obtain ⟨⟨l203, x206, l207, l210⟩, hc202, hF197⟩ := bind_in hF197
            try dsimp only at hF197
            refine gx_c (pOvL_R l52 x53 x54 x55 p0 lz1_4o4_3 p1 l58 l61 x62 gz1_4B0 A50 ft47 A0 c0 Az1_4o4_4 cz1_4o4_5 A56 c57 A59 c60 (l203, x206, l207, l210) w44) (pOvL_ok N l52 x53 x54 x55 p0 lz1_4o4_3 p1 l58 l61 x62 gz1_4B0 A50 ft47 A0 c0 Az1_4o4_4 cz1_4o4_5 A56 c57 A59 c60 _ hc202 w44 (hS45.now 0 rfl hf51) (hP201.offPA 0 rfl) (hP201.vwA hv0) (hP201.vwB 1 rfl) hP201.part) ?_
            rintro _ w214 ⟨A204, A208, c209, A211, c212, ft213, rfl, hT216, hf205⟩
            have hS215 : St _ _ w214 [poolE ft47 W48, rowE .i64 3 Az1_4o4_4 cz1_4o4_5 lz1_4o4_3, boxE w14.heap.size [Value.nilFunc, .func (.func 58) #[] #[], .func (.func 58) #[] #[], .func (.func 58) #[] #[], .func (.func 58) #[] #[], .func (.func 58) #[] #[], .func (.func 58) #[] #[], .func (.func 58) #[] #[], .func (.func 58) #[] #[], .func (.func 58) #[] #[], .func (.func 59) #[] #[], .func (.func 60) #[] #[], .func (.func 58) #[] #[], .func (.func 58) #[] #[], .func (.func 58) #[] #[], .func (.func 61) #[] #[], .func (.func 62) #[] #[], .func (.func 63) #[] #[], .func (.func 64) #[] #[], .func (.func 65) #[] #[], .func (.func 66) #[] #[], .func (.func 67) #[] #[], .func (.func 68) #[] #[], .func (.func 69) #[] #[]] 87, boxE gz1_4B0 [.pointer A204, .int .i64 x53, .int .i64 x54, .int .i64 x206, .slice A0 p0.length c0, .slice Az1_4o4_4 lz1_4o4_3.length cz1_4o4_5, .int .u8 p1, .slice A208 l207.length c209, .slice A211 l210.length c212] 84, rowE .u8 5 A208 c209 l207, rowE .u8 26 A211 c212 l210, poolE ft213 w214] := hP201.lendN _ hT216
            obtain ⟨ft217, W218, hS219, hT220, hU221, hU222, hU223⟩ := hS215.mergeW 6 0 rfl rfl (by decide)
            have hS219 : St _ _ w214 [poolE ft217 W218, rowE .i64 3 Az1_4o4_4 cz1_4o4_5 lz1_4o4_3, boxE w14.heap.size [Value.nilFunc, .func (.func 58) #[] #[], .func (.func 58) #[] #[], .func (.func 58) #[] #[], .func (.func 58) #[] #[], .func (.func 58) #[] #[], .func (.func 58) #[] #[], .func (.func 58) #[] #[], .func (.func 58) #[] #[], .func (.func 58) #[] #[], .func (.func 59) #[] #[], .func (.func 60) #[] #[], .func (.func 58) #[] #[], .func (.func 58) #[] #[], .func (.func 58) #[] #[], .func (.func 61) #[] #[], .func (.func 62) #[] #[], .func (.func 63) #[] #[], .func (.func 64) #[] #[], .func (.func 65) #[] #[], .func (.func 66) #[] #[], .func (.func 67) #[] #[], .func (.func 68) #[] #[], .func (.func 69) #[] #[]] 87, boxE gz1_4B0 [.pointer A204, .int .i64 x53, .int .i64 x54, .int .i64 x206, .slice A0 p0.length c0, .slice Az1_4o4_4 lz1_4o4_3.length cz1_4o4_5, .int .u8 p1, .slice A208 l207.length c209, .slice A211 l210.length c212] 84, rowE .u8 5 A208 c209 l207, rowE .u8 26 A211 c212 l210] := hS219
            have hT220 : Turn [] w0 W48 ft47 W218 ft217 := hT220
            have hf224 : (fCh 100 entembedentry A204 l203).rd W218 ft217 := hU222 _ _ (fun k hk => by exact hk) hf205
            refine gx_nil ?_
            refine gx_blkN ?_
            refine gx_thenN ?_
            refine hK71 _ _ ?_
            refine gx_region ?_
            refine gx_k (.int .i64 (IntKind.i64.wrap (x62 + 1))) w214 (gx_k (.int .i64 (IntKind.i64.wrap (x62 + 1))) w214 ?_)
            refine gx_nil ?_
            refine gx_thenN ?_
            exact ⟨k63, Nat.lt_succ_self k63, l203, x53, x54, x206, l207, l210, (IntKind.i64.wrap (x62 + 1)), ft217, W218, A204, A208, c209, A211, c212, selfA_i (by kernel_rfl), hF197, (hS219.pick [0, 1, 4, 5, 3, 2] rfl rfl), (Turn.trans hT49 hT220), hf224⟩
           ·rcases if_in hF197 with ⟨h225, hF226⟩ | ⟨h225, hF226⟩
            ·have hz227 : x74 = ((Int.toNat x74 : Nat) : Int) := by rw [h225]; rfl
             have hi228 : Int.toNat x74 < 24 := by rw [h225]; decide
             have hj229 : ([Value.nilFunc, .func (.func 58) #[] #[], .func (.func 58) #[] #[], .func (.func 58) #[] #[], .func (.func 58) #[] #[], .func (.func 58) #[] #[], .func (.func 58) #[] #[], .func (.func 58) #[] #[], .func (.func 58) #[] #[], .func (.func 58) #[] #[], .func (.func 59) #[] #[], .func (.func 60) #[] #[], .func (.func 58) #[] #[], .func (.func 58) #[] #[], .func (.func 58) #[] #[], .func (.func 61) #[] #[], .func (.func 62) #[] #[], .func (.func 63) #[] #[], .func (.func 64) #[] #[], .func (.func 65) #[] #[], .func (.func 66) #[] #[], .func (.func 67) #[] #[], .func (.func 68) #[] #[], .func (.func 69) #[] #[]] : List Value)[Int.toNat x74]? = some (.func (.func 64) #[] #[]) := by rw [h225]; rfl
             refine gx_v (.pointer (some ⟨w14.heap.size, (Int.toNat x74), none⟩)) w44 (run_ixarr (E := 86) (m := 24) (k := .u8) (i := Int.toNat x74) rfl (by kernel_rfl) (by kernel_rfl) hz227 (by kernel_rfl) (fun _ => by kernel_rfl) hi228) ?_
             refine gx_v (.func (.func 64) #[] #[]) w44 (run_load1 rfl (by kernel_rfl) (fun _ => by kernel_rfl) (hS45.box 5 rfl (Int.toNat x74) hj229)) ?_
             refine gx_k (.pointer (some ⟨gz1_4B0, 0, none⟩)) w44 (gx_k (.int .i64 x62) w44 ?_)
             have hP230 : St _ _ w44 ([boxE gz1_4B0 [.pointer A50, .int .i64 x53, .int .i64 x54, .int .i64 x55, .slice A0 p0.length c0, .slice Az1_4o4_4 lz1_4o4_3.length cz1_4o4_5, .int .u8 p1, .slice A56 l58.length c57, .slice A59 l61.length c60] 84, rowE .u8 5 A56 c57 l58, rowE .u8 26 A59 c60 l61] ++ [poolE ft47 W48, rowE .i64 3 Az1_4o4_4 cz1_4o4_5 lz1_4o4_3, boxE w14.heap.size [Value.nilFunc, .func (.func 58) #[] #[], .func (.func 58) #[] #[], .func (.func 58) #[] #[], .func (.func 58) #[] #[], .func (.func 58) #[] #[], .func (.func 58) #[] #[], .func (.func 58) #[] #[], .func (.func 58) #[] #[], .func (.func 58) #[] #[], .func (.func 59) #[] #[], .func (.func 60) #[] #[], .func (.func 58) #[] #[], .func (.func 58) #[] #[], .func (.func 58) #[] #[], .func (.func 61) #[] #[], .func (.func 62) #[] #[], .func (.func 63) #[] #[], .func (.func 64) #[] #[], .func (.func 65) #[] #[], .func (.func 66) #[] #[], .func (.func 67) #[] #[], .func (.func 68) #[] #[], .func (.func 69) #[] #[]] 87]) := hS45.pick [4, 2, 3, 0, 1, 5] rfl rfl
             obtain ⟨⟨l232, x235, l236, l239⟩, hc231, hF226⟩ := bind_in hF226
             try dsimp only at hF226
             refine gx_c (pOvR_R l52 x53 x54 x55 p0 lz1_4o4_3 p1 l58 l61 x62 gz1_4B0 A50 ft47 A0 c0 Az1_4o4_4 cz1_4o4_5 A56 c57 A59 c60 (l232, x235, l236, l239) w44) (pOvR_ok N l52 x53 x54 x55 p0 lz1_4o4_3 p1 l58 l61 x62 gz1_4B0 A50 ft47 A0 c0 Az1_4o4_4 cz1_4o4_5 A56 c57 A59 c60 _ hc231 w44 (hS45.now 0 rfl hf51) (hP230.offPA 0 rfl) (hP230.vwA hv0) (hP230.vwB 1 rfl) hP230.part) ?_
             rintro _ w243 ⟨A233, A237, c238, A240, c241, ft242, rfl, hT245, hf234⟩
             have hS244 : St _ _ w243 [poolE ft47 W48, rowE .i64 3 Az1_4o4_4 cz1_4o4_5 lz1_4o4_3, boxE w14.heap.size [Value.nilFunc, .func (.func 58) #[] #[], .func (.func 58) #[] #[], .func (.func 58) #[] #[], .func (.func 58) #[] #[], .func (.func 58) #[] #[], .func (.func 58) #[] #[], .func (.func 58) #[] #[], .func (.func 58) #[] #[], .func (.func 58) #[] #[], .func (.func 59) #[] #[], .func (.func 60) #[] #[], .func (.func 58) #[] #[], .func (.func 58) #[] #[], .func (.func 58) #[] #[], .func (.func 61) #[] #[], .func (.func 62) #[] #[], .func (.func 63) #[] #[], .func (.func 64) #[] #[], .func (.func 65) #[] #[], .func (.func 66) #[] #[], .func (.func 67) #[] #[], .func (.func 68) #[] #[], .func (.func 69) #[] #[]] 87, boxE gz1_4B0 [.pointer A233, .int .i64 x53, .int .i64 x54, .int .i64 x235, .slice A0 p0.length c0, .slice Az1_4o4_4 lz1_4o4_3.length cz1_4o4_5, .int .u8 p1, .slice A237 l236.length c238, .slice A240 l239.length c241] 84, rowE .u8 5 A237 c238 l236, rowE .u8 26 A240 c241 l239, poolE ft242 w243] := hP230.lendN _ hT245
             obtain ⟨ft246, W247, hS248, hT249, hU250, hU251, hU252⟩ := hS244.mergeW 6 0 rfl rfl (by decide)
             have hS248 : St _ _ w243 [poolE ft246 W247, rowE .i64 3 Az1_4o4_4 cz1_4o4_5 lz1_4o4_3, boxE w14.heap.size [Value.nilFunc, .func (.func 58) #[] #[], .func (.func 58) #[] #[], .func (.func 58) #[] #[], .func (.func 58) #[] #[], .func (.func 58) #[] #[], .func (.func 58) #[] #[], .func (.func 58) #[] #[], .func (.func 58) #[] #[], .func (.func 58) #[] #[], .func (.func 59) #[] #[], .func (.func 60) #[] #[], .func (.func 58) #[] #[], .func (.func 58) #[] #[], .func (.func 58) #[] #[], .func (.func 61) #[] #[], .func (.func 62) #[] #[], .func (.func 63) #[] #[], .func (.func 64) #[] #[], .func (.func 65) #[] #[], .func (.func 66) #[] #[], .func (.func 67) #[] #[], .func (.func 68) #[] #[], .func (.func 69) #[] #[]] 87, boxE gz1_4B0 [.pointer A233, .int .i64 x53, .int .i64 x54, .int .i64 x235, .slice A0 p0.length c0, .slice Az1_4o4_4 lz1_4o4_3.length cz1_4o4_5, .int .u8 p1, .slice A237 l236.length c238, .slice A240 l239.length c241] 84, rowE .u8 5 A237 c238 l236, rowE .u8 26 A240 c241 l239] := hS248
             have hT249 : Turn [] w0 W48 ft47 W247 ft246 := hT249
             have hf253 : (fCh 100 entembedentry A233 l232).rd W247 ft246 := hU251 _ _ (fun k hk => by exact hk) hf234
             refine gx_nil ?_
             refine gx_blkN ?_
             refine gx_thenN ?_
             refine hK71 _ _ ?_
             refine gx_region ?_
             refine gx_k (.int .i64 (IntKind.i64.wrap (x62 + 1))) w243 (gx_k (.int .i64 (IntKind.i64.wrap (x62 + 1))) w243 ?_)
             refine gx_nil ?_
             refine gx_thenN ?_
             exact ⟨k63, Nat.lt_succ_self k63, l232, x53, x54, x235, l236, l239, (IntKind.i64.wrap (x62 + 1)), ft246, W247, A233, A237, c238, A240, c241, selfA_i (by kernel_rfl), hF226, (hS248.pick [0, 1, 4, 5, 3, 2] rfl rfl), (Turn.trans hT49 hT249), hf253⟩
            ·rcases if_in hF226 with ⟨h254, hF255⟩ | ⟨h254, hF255⟩
             ·have hz256 : x74 = ((Int.toNat x74 : Nat) : Int) := by rw [h254]; rfl
              have hi257 : Int.toNat x74 < 24 := by rw [h254]; decide
              have hj258 : ([Value.nilFunc, .func (.func 58) #[] #[], .func (.func 58) #[] #[], .func (.func 58) #[] #[], .func (.func 58) #[] #[], .func (.func 58) #[] #[], .func (.func 58) #[] #[], .func (.func 58) #[] #[], .func (.func 58) #[] #[], .func (.func 58) #[] #[], .func (.func 59) #[] #[], .func (.func 60) #[] #[], .func (.func 58) #[] #[], .func (.func 58) #[] #[], .func (.func 58) #[] #[], .func (.func 61) #[] #[], .func (.func 62) #[] #[], .func (.func 63) #[] #[], .func (.func 64) #[] #[], .func (.func 65) #[] #[], .func (.func 66) #[] #[], .func (.func 67) #[] #[], .func (.func 68) #[] #[], .func (.func 69) #[] #[]] : List Value)[Int.toNat x74]? = some (.func (.func 65) #[] #[]) := by rw [h254]; rfl
              refine gx_v (.pointer (some ⟨w14.heap.size, (Int.toNat x74), none⟩)) w44 (run_ixarr (E := 86) (m := 24) (k := .u8) (i := Int.toNat x74) rfl (by kernel_rfl) (by kernel_rfl) hz256 (by kernel_rfl) (fun _ => by kernel_rfl) hi257) ?_
              refine gx_v (.func (.func 65) #[] #[]) w44 (run_load1 rfl (by kernel_rfl) (fun _ => by kernel_rfl) (hS45.box 5 rfl (Int.toNat x74) hj258)) ?_
              refine gx_k (.pointer (some ⟨gz1_4B0, 0, none⟩)) w44 (gx_k (.int .i64 x62) w44 ?_)
              have hP259 : St _ _ w44 ([boxE gz1_4B0 [.pointer A50, .int .i64 x53, .int .i64 x54, .int .i64 x55, .slice A0 p0.length c0, .slice Az1_4o4_4 lz1_4o4_3.length cz1_4o4_5, .int .u8 p1, .slice A56 l58.length c57, .slice A59 l61.length c60] 84, rowE .u8 5 A56 c57 l58, rowE .u8 26 A59 c60 l61] ++ [poolE ft47 W48, rowE .i64 3 Az1_4o4_4 cz1_4o4_5 lz1_4o4_3, boxE w14.heap.size [Value.nilFunc, .func (.func 58) #[] #[], .func (.func 58) #[] #[], .func (.func 58) #[] #[], .func (.func 58) #[] #[], .func (.func 58) #[] #[], .func (.func 58) #[] #[], .func (.func 58) #[] #[], .func (.func 58) #[] #[], .func (.func 58) #[] #[], .func (.func 59) #[] #[], .func (.func 60) #[] #[], .func (.func 58) #[] #[], .func (.func 58) #[] #[], .func (.func 58) #[] #[], .func (.func 61) #[] #[], .func (.func 62) #[] #[], .func (.func 63) #[] #[], .func (.func 64) #[] #[], .func (.func 65) #[] #[], .func (.func 66) #[] #[], .func (.func 67) #[] #[], .func (.func 68) #[] #[], .func (.func 69) #[] #[]] 87]) := hS45.pick [4, 2, 3, 0, 1, 5] rfl rfl
              obtain ⟨⟨l261, x264, l265, l268⟩, hc260, hF255⟩ := bind_in hF255
              try dsimp only at hF255
              refine gx_c (pLeE_R l52 x53 x54 x55 p0 lz1_4o4_3 p1 l58 l61 x62 gz1_4B0 A50 ft47 A0 c0 Az1_4o4_4 cz1_4o4_5 A56 c57 A59 c60 (l261, x264, l265, l268) w44) (pLeE_ok N l52 x53 x54 x55 p0 lz1_4o4_3 p1 l58 l61 x62 gz1_4B0 A50 ft47 A0 c0 Az1_4o4_4 cz1_4o4_5 A56 c57 A59 c60 _ hc260 w44 (hS45.now 0 rfl hf51) (hP259.offPA 0 rfl) (hP259.vwA hv0) (hP259.vwB 1 rfl) hP259.part) ?_
              rintro _ w272 ⟨A262, A266, c267, A269, c270, ft271, rfl, hT274, hf263⟩
              have hS273 : St _ _ w272 [poolE ft47 W48, rowE .i64 3 Az1_4o4_4 cz1_4o4_5 lz1_4o4_3, boxE w14.heap.size [Value.nilFunc, .func (.func 58) #[] #[], .func (.func 58) #[] #[], .func (.func 58) #[] #[], .func (.func 58) #[] #[], .func (.func 58) #[] #[], .func (.func 58) #[] #[], .func (.func 58) #[] #[], .func (.func 58) #[] #[], .func (.func 58) #[] #[], .func (.func 59) #[] #[], .func (.func 60) #[] #[], .func (.func 58) #[] #[], .func (.func 58) #[] #[], .func (.func 58) #[] #[], .func (.func 61) #[] #[], .func (.func 62) #[] #[], .func (.func 63) #[] #[], .func (.func 64) #[] #[], .func (.func 65) #[] #[], .func (.func 66) #[] #[], .func (.func 67) #[] #[], .func (.func 68) #[] #[], .func (.func 69) #[] #[]] 87, boxE gz1_4B0 [.pointer A262, .int .i64 x53, .int .i64 x54, .int .i64 x264, .slice A0 p0.length c0, .slice Az1_4o4_4 lz1_4o4_3.length cz1_4o4_5, .int .u8 p1, .slice A266 l265.length c267, .slice A269 l268.length c270] 84, rowE .u8 5 A266 c267 l265, rowE .u8 26 A269 c270 l268, poolE ft271 w272] := hP259.lendN _ hT274
              obtain ⟨ft275, W276, hS277, hT278, hU279, hU280, hU281⟩ := hS273.mergeW 6 0 rfl rfl (by decide)
              have hS277 : St _ _ w272 [poolE ft275 W276, rowE .i64 3 Az1_4o4_4 cz1_4o4_5 lz1_4o4_3, boxE w14.heap.size [Value.nilFunc, .func (.func 58) #[] #[], .func (.func 58) #[] #[], .func (.func 58) #[] #[], .func (.func 58) #[] #[], .func (.func 58) #[] #[], .func (.func 58) #[] #[], .func (.func 58) #[] #[], .func (.func 58) #[] #[], .func (.func 58) #[] #[], .func (.func 59) #[] #[], .func (.func 60) #[] #[], .func (.func 58) #[] #[], .func (.func 58) #[] #[], .func (.func 58) #[] #[], .func (.func 61) #[] #[], .func (.func 62) #[] #[], .func (.func 63) #[] #[], .func (.func 64) #[] #[], .func (.func 65) #[] #[], .func (.func 66) #[] #[], .func (.func 67) #[] #[], .func (.func 68) #[] #[], .func (.func 69) #[] #[]] 87, boxE gz1_4B0 [.pointer A262, .int .i64 x53, .int .i64 x54, .int .i64 x264, .slice A0 p0.length c0, .slice Az1_4o4_4 lz1_4o4_3.length cz1_4o4_5, .int .u8 p1, .slice A266 l265.length c267, .slice A269 l268.length c270] 84, rowE .u8 5 A266 c267 l265, rowE .u8 26 A269 c270 l268] := hS277
              have hT278 : Turn [] w0 W48 ft47 W276 ft275 := hT278
              have hf282 : (fCh 100 entembedentry A262 l261).rd W276 ft275 := hU280 _ _ (fun k hk => by exact hk) hf263
              refine gx_nil ?_
              refine gx_blkN ?_
              refine gx_thenN ?_
              refine hK71 _ _ ?_
              refine gx_region ?_
              refine gx_k (.int .i64 (IntKind.i64.wrap (x62 + 1))) w272 (gx_k (.int .i64 (IntKind.i64.wrap (x62 + 1))) w272 ?_)
              refine gx_nil ?_
              refine gx_thenN ?_
              exact ⟨k63, Nat.lt_succ_self k63, l261, x53, x54, x264, l265, l268, (IntKind.i64.wrap (x62 + 1)), ft275, W276, A262, A266, c267, A269, c270, selfA_i (by kernel_rfl), hF255, (hS277.pick [0, 1, 4, 5, 3, 2] rfl rfl), (Turn.trans hT49 hT278), hf282⟩
             ·rcases if_in hF255 with ⟨h283, hF284⟩ | ⟨h283, hF284⟩
              ·have hz285 : x74 = ((Int.toNat x74 : Nat) : Int) := by rw [h283]; rfl
               have hi286 : Int.toNat x74 < 24 := by rw [h283]; decide
               have hj287 : ([Value.nilFunc, .func (.func 58) #[] #[], .func (.func 58) #[] #[], .func (.func 58) #[] #[], .func (.func 58) #[] #[], .func (.func 58) #[] #[], .func (.func 58) #[] #[], .func (.func 58) #[] #[], .func (.func 58) #[] #[], .func (.func 58) #[] #[], .func (.func 59) #[] #[], .func (.func 60) #[] #[], .func (.func 58) #[] #[], .func (.func 58) #[] #[], .func (.func 58) #[] #[], .func (.func 61) #[] #[], .func (.func 62) #[] #[], .func (.func 63) #[] #[], .func (.func 64) #[] #[], .func (.func 65) #[] #[], .func (.func 66) #[] #[], .func (.func 67) #[] #[], .func (.func 68) #[] #[], .func (.func 69) #[] #[]] : List Value)[Int.toNat x74]? = some (.func (.func 66) #[] #[]) := by rw [h283]; rfl
               refine gx_v (.pointer (some ⟨w14.heap.size, (Int.toNat x74), none⟩)) w44 (run_ixarr (E := 86) (m := 24) (k := .u8) (i := Int.toNat x74) rfl (by kernel_rfl) (by kernel_rfl) hz285 (by kernel_rfl) (fun _ => by kernel_rfl) hi286) ?_
               refine gx_v (.func (.func 66) #[] #[]) w44 (run_load1 rfl (by kernel_rfl) (fun _ => by kernel_rfl) (hS45.box 5 rfl (Int.toNat x74) hj287)) ?_
               refine gx_k (.pointer (some ⟨gz1_4B0, 0, none⟩)) w44 (gx_k (.int .i64 x62) w44 ?_)
               have hP288 : St _ _ w44 ([boxE gz1_4B0 [.pointer A50, .int .i64 x53, .int .i64 x54, .int .i64 x55, .slice A0 p0.length c0, .slice Az1_4o4_4 lz1_4o4_3.length cz1_4o4_5, .int .u8 p1, .slice A56 l58.length c57, .slice A59 l61.length c60] 84, rowE .u8 5 A56 c57 l58, rowE .u8 26 A59 c60 l61] ++ [poolE ft47 W48, rowE .i64 3 Az1_4o4_4 cz1_4o4_5 lz1_4o4_3, boxE w14.heap.size [Value.nilFunc, .func (.func 58) #[] #[], .func (.func 58) #[] #[], .func (.func 58) #[] #[], .func (.func 58) #[] #[], .func (.func 58) #[] #[], .func (.func 58) #[] #[], .func (.func 58) #[] #[], .func (.func 58) #[] #[], .func (.func 58) #[] #[], .func (.func 59) #[] #[], .func (.func 60) #[] #[], .func (.func 58) #[] #[], .func (.func 58) #[] #[], .func (.func 58) #[] #[], .func (.func 61) #[] #[], .func (.func 62) #[] #[], .func (.func 63) #[] #[], .func (.func 64) #[] #[], .func (.func 65) #[] #[], .func (.func 66) #[] #[], .func (.func 67) #[] #[], .func (.func 68) #[] #[], .func (.func 69) #[] #[]] 87]) := hS45.pick [4, 2, 3, 0, 1, 5] rfl rfl
               obtain ⟨⟨l290, x293, x294, l295, l298⟩, hc289, hF284⟩ := bind_in hF284
               try dsimp only at hF284
               refine gx_c (pIsL_R l52 x53 x54 x55 p0 lz1_4o4_3 p1 l58 l61 x62 gz1_4B0 A50 ft47 A0 c0 Az1_4o4_4 cz1_4o4_5 A56 c57 A59 c60 (l290, x293, x294, l295, l298) w44) (pIsL_ok N l52 x53 x54 x55 p0 lz1_4o4_3 p1 l58 l61 x62 gz1_4B0 A50 ft47 A0 c0 Az1_4o4_4 cz1_4o4_5 A56 c57 A59 c60 _ hc289 w44 (hS45.now 0 rfl hf51) (hP288.offPA 0 rfl) (hP288.vwA hv0) (hP288.vwB 1 rfl) hP288.part) ?_
               rintro _ w302 ⟨A291, A296, c297, A299, c300, ft301, rfl, hT304, hf292⟩
               have hS303 : St _ _ w302 [poolE ft47 W48, rowE .i64 3 Az1_4o4_4 cz1_4o4_5 lz1_4o4_3, boxE w14.heap.size [Value.nilFunc, .func (.func 58) #[] #[], .func (.func 58) #[] #[], .func (.func 58) #[] #[], .func (.func 58) #[] #[], .func (.func 58) #[] #[], .func (.func 58) #[] #[], .func (.func 58) #[] #[], .func (.func 58) #[] #[], .func (.func 58) #[] #[], .func (.func 59) #[] #[], .func (.func 60) #[] #[], .func (.func 58) #[] #[], .func (.func 58) #[] #[], .func (.func 58) #[] #[], .func (.func 61) #[] #[], .func (.func 62) #[] #[], .func (.func 63) #[] #[], .func (.func 64) #[] #[], .func (.func 65) #[] #[], .func (.func 66) #[] #[], .func (.func 67) #[] #[], .func (.func 68) #[] #[], .func (.func 69) #[] #[]] 87, boxE gz1_4B0 [.pointer A291, .int .i64 x293, .int .i64 x294, .int .i64 x55, .slice A0 p0.length c0, .slice Az1_4o4_4 lz1_4o4_3.length cz1_4o4_5, .int .u8 p1, .slice A296 l295.length c297, .slice A299 l298.length c300] 84, rowE .u8 5 A296 c297 l295, rowE .u8 26 A299 c300 l298, poolE ft301 w302] := hP288.lendN _ hT304
               obtain ⟨ft305, W306, hS307, hT308, hU309, hU310, hU311⟩ := hS303.mergeW 6 0 rfl rfl (by decide)
               have hS307 : St _ _ w302 [poolE ft305 W306, rowE .i64 3 Az1_4o4_4 cz1_4o4_5 lz1_4o4_3, boxE w14.heap.size [Value.nilFunc, .func (.func 58) #[] #[], .func (.func 58) #[] #[], .func (.func 58) #[] #[], .func (.func 58) #[] #[], .func (.func 58) #[] #[], .func (.func 58) #[] #[], .func (.func 58) #[] #[], .func (.func 58) #[] #[], .func (.func 58) #[] #[], .func (.func 59) #[] #[], .func (.func 60) #[] #[], .func (.func 58) #[] #[], .func (.func 58) #[] #[], .func (.func 58) #[] #[], .func (.func 61) #[] #[], .func (.func 62) #[] #[], .func (.func 63) #[] #[], .func (.func 64) #[] #[], .func (.func 65) #[] #[], .func (.func 66) #[] #[], .func (.func 67) #[] #[], .func (.func 68) #[] #[], .func (.func 69) #[] #[]] 87, boxE gz1_4B0 [.pointer A291, .int .i64 x293, .int .i64 x294, .int .i64 x55, .slice A0 p0.length c0, .slice Az1_4o4_4 lz1_4o4_3.length cz1_4o4_5, .int .u8 p1, .slice A296 l295.length c297, .slice A299 l298.length c300] 84, rowE .u8 5 A296 c297 l295, rowE .u8 26 A299 c300 l298] := hS307
               have hT308 : Turn [] w0 W48 ft47 W306 ft305 := hT308
               have hf312 : (fCh 100 entembedentry A291 l290).rd W306 ft305 := hU310 _ _ (fun k hk => by exact hk) hf292
               refine gx_nil ?_
               refine gx_blkN ?_
               refine gx_thenN ?_
               refine hK71 _ _ ?_
               refine gx_region ?_
               refine gx_k (.int .i64 (IntKind.i64.wrap (x62 + 1))) w302 (gx_k (.int .i64 (IntKind.i64.wrap (x62 + 1))) w302 ?_)
               refine gx_nil ?_
               refine gx_thenN ?_
               exact ⟨k63, Nat.lt_succ_self k63, l290, x293, x294, x55, l295, l298, (IntKind.i64.wrap (x62 + 1)), ft305, W306, A291, A296, c297, A299, c300, selfA_i (by kernel_rfl), hF284, (hS307.pick [0, 1, 4, 5, 3, 2] rfl rfl), (Turn.trans hT49 hT308), hf312⟩
              ·rcases if_in hF284 with ⟨h313, hF314⟩ | ⟨h313, hF314⟩
               ·have hz315 : x74 = ((Int.toNat x74 : Nat) : Int) := by rw [h313]; rfl
                have hi316 : Int.toNat x74 < 24 := by rw [h313]; decide
                have hj317 : ([Value.nilFunc, .func (.func 58) #[] #[], .func (.func 58) #[] #[], .func (.func 58) #[] #[], .func (.func 58) #[] #[], .func (.func 58) #[] #[], .func (.func 58) #[] #[], .func (.func 58) #[] #[], .func (.func 58) #[] #[], .func (.func 58) #[] #[], .func (.func 59) #[] #[], .func (.func 60) #[] #[], .func (.func 58) #[] #[], .func (.func 58) #[] #[], .func (.func 58) #[] #[], .func (.func 61) #[] #[], .func (.func 62) #[] #[], .func (.func 63) #[] #[], .func (.func 64) #[] #[], .func (.func 65) #[] #[], .func (.func 66) #[] #[], .func (.func 67) #[] #[], .func (.func 68) #[] #[], .func (.func 69) #[] #[]] : List Value)[Int.toNat x74]? = some (.func (.func 67) #[] #[]) := by rw [h313]; rfl
                refine gx_v (.pointer (some ⟨w14.heap.size, (Int.toNat x74), none⟩)) w44 (run_ixarr (E := 86) (m := 24) (k := .u8) (i := Int.toNat x74) rfl (by kernel_rfl) (by kernel_rfl) hz315 (by kernel_rfl) (fun _ => by kernel_rfl) hi316) ?_
                refine gx_v (.func (.func 67) #[] #[]) w44 (run_load1 rfl (by kernel_rfl) (fun _ => by kernel_rfl) (hS45.box 5 rfl (Int.toNat x74) hj317)) ?_
                refine gx_k (.pointer (some ⟨gz1_4B0, 0, none⟩)) w44 (gx_k (.int .i64 x62) w44 ?_)
                have hP318 : St _ _ w44 ([boxE gz1_4B0 [.pointer A50, .int .i64 x53, .int .i64 x54, .int .i64 x55, .slice A0 p0.length c0, .slice Az1_4o4_4 lz1_4o4_3.length cz1_4o4_5, .int .u8 p1, .slice A56 l58.length c57, .slice A59 l61.length c60] 84, rowE .u8 5 A56 c57 l58, rowE .u8 26 A59 c60 l61] ++ [poolE ft47 W48, rowE .i64 3 Az1_4o4_4 cz1_4o4_5 lz1_4o4_3, boxE w14.heap.size [Value.nilFunc, .func (.func 58) #[] #[], .func (.func 58) #[] #[], .func (.func 58) #[] #[], .func (.func 58) #[] #[], .func (.func 58) #[] #[], .func (.func 58) #[] #[], .func (.func 58) #[] #[], .func (.func 58) #[] #[], .func (.func 58) #[] #[], .func (.func 59) #[] #[], .func (.func 60) #[] #[], .func (.func 58) #[] #[], .func (.func 58) #[] #[], .func (.func 58) #[] #[], .func (.func 61) #[] #[], .func (.func 62) #[] #[], .func (.func 63) #[] #[], .func (.func 64) #[] #[], .func (.func 65) #[] #[], .func (.func 66) #[] #[], .func (.func 67) #[] #[], .func (.func 68) #[] #[], .func (.func 69) #[] #[]] 87]) := hS45.pick [4, 2, 3, 0, 1, 5] rfl rfl
                obtain ⟨⟨l320, x323, x324, l325, l328⟩, hc319, hF314⟩ := bind_in hF314
                try dsimp only at hF314
                refine gx_c (pIsR_R l52 x53 x54 x55 p0 lz1_4o4_3 p1 l58 l61 x62 gz1_4B0 A50 ft47 A0 c0 Az1_4o4_4 cz1_4o4_5 A56 c57 A59 c60 (l320, x323, x324, l325, l328) w44) (pIsR_ok N l52 x53 x54 x55 p0 lz1_4o4_3 p1 l58 l61 x62 gz1_4B0 A50 ft47 A0 c0 Az1_4o4_4 cz1_4o4_5 A56 c57 A59 c60 _ hc319 w44 (hS45.now 0 rfl hf51) (hP318.offPA 0 rfl) (hP318.vwA hv0) (hP318.vwB 1 rfl) hP318.part) ?_
                rintro _ w332 ⟨A321, A326, c327, A329, c330, ft331, rfl, hT334, hf322⟩
                have hS333 : St _ _ w332 [poolE ft47 W48, rowE .i64 3 Az1_4o4_4 cz1_4o4_5 lz1_4o4_3, boxE w14.heap.size [Value.nilFunc, .func (.func 58) #[] #[], .func (.func 58) #[] #[], .func (.func 58) #[] #[], .func (.func 58) #[] #[], .func (.func 58) #[] #[], .func (.func 58) #[] #[], .func (.func 58) #[] #[], .func (.func 58) #[] #[], .func (.func 58) #[] #[], .func (.func 59) #[] #[], .func (.func 60) #[] #[], .func (.func 58) #[] #[], .func (.func 58) #[] #[], .func (.func 58) #[] #[], .func (.func 61) #[] #[], .func (.func 62) #[] #[], .func (.func 63) #[] #[], .func (.func 64) #[] #[], .func (.func 65) #[] #[], .func (.func 66) #[] #[], .func (.func 67) #[] #[], .func (.func 68) #[] #[], .func (.func 69) #[] #[]] 87, boxE gz1_4B0 [.pointer A321, .int .i64 x323, .int .i64 x324, .int .i64 x55, .slice A0 p0.length c0, .slice Az1_4o4_4 lz1_4o4_3.length cz1_4o4_5, .int .u8 p1, .slice A326 l325.length c327, .slice A329 l328.length c330] 84, rowE .u8 5 A326 c327 l325, rowE .u8 26 A329 c330 l328, poolE ft331 w332] := hP318.lendN _ hT334
                obtain ⟨ft335, W336, hS337, hT338, hU339, hU340, hU341⟩ := hS333.mergeW 6 0 rfl rfl (by decide)
                have hS337 : St _ _ w332 [poolE ft335 W336, rowE .i64 3 Az1_4o4_4 cz1_4o4_5 lz1_4o4_3, boxE w14.heap.size [Value.nilFunc, .func (.func 58) #[] #[], .func (.func 58) #[] #[], .func (.func 58) #[] #[], .func (.func 58) #[] #[], .func (.func 58) #[] #[], .func (.func 58) #[] #[], .func (.func 58) #[] #[], .func (.func 58) #[] #[], .func (.func 58) #[] #[], .func (.func 59) #[] #[], .func (.func 60) #[] #[], .func (.func 58) #[] #[], .func (.func 58) #[] #[], .func (.func 58) #[] #[], .func (.func 61) #[] #[], .func (.func 62) #[] #[], .func (.func 63) #[] #[], .func (.func 64) #[] #[], .func (.func 65) #[] #[], .func (.func 66) #[] #[], .func (.func 67) #[] #[], .func (.func 68) #[] #[], .func (.func 69) #[] #[]] 87, boxE gz1_4B0 [.pointer A321, .int .i64 x323, .int .i64 x324, .int .i64 x55, .slice A0 p0.length c0, .slice Az1_4o4_4 lz1_4o4_3.length cz1_4o4_5, .int .u8 p1, .slice A326 l325.length c327, .slice A329 l328.length c330] 84, rowE .u8 5 A326 c327 l325, rowE .u8 26 A329 c330 l328] := hS337
                have hT338 : Turn [] w0 W48 ft47 W336 ft335 := hT338
                have hf342 : (fCh 100 entembedentry A321 l320).rd W336 ft335 := hU340 _ _ (fun k hk => by exact hk) hf322
                refine gx_nil ?_
                refine gx_blkN ?_
                refine gx_thenN ?_
                refine hK71 _ _ ?_
                refine gx_region ?_
                refine gx_k (.int .i64 (IntKind.i64.wrap (x62 + 1))) w332 (gx_k (.int .i64 (IntKind.i64.wrap (x62 + 1))) w332 ?_)
                refine gx_nil ?_
                refine gx_thenN ?_
                exact ⟨k63, Nat.lt_succ_self k63, l320, x323, x324, x55, l325, l328, (IntKind.i64.wrap (x62 + 1)), ft335, W336, A321, A326, c327, A329, c330, selfA_i (by kernel_rfl), hF314, (hS337.pick [0, 1, 4, 5, 3, 2] rfl rfl), (Turn.trans hT49 hT338), hf342⟩
               ·rcases if_in hF314 with ⟨h343, hF344⟩ | ⟨h343, hF344⟩
                ·have hz345 : x74 = ((Int.toNat x74 : Nat) : Int) := by rw [h343]; rfl
                 have hi346 : Int.toNat x74 < 24 := by rw [h343]; decide
                 have hj347 : ([Value.nilFunc, .func (.func 58) #[] #[], .func (.func 58) #[] #[], .func (.func 58) #[] #[], .func (.func 58) #[] #[], .func (.func 58) #[] #[], .func (.func 58) #[] #[], .func (.func 58) #[] #[], .func (.func 58) #[] #[], .func (.func 58) #[] #[], .func (.func 59) #[] #[], .func (.func 60) #[] #[], .func (.func 58) #[] #[], .func (.func 58) #[] #[], .func (.func 58) #[] #[], .func (.func 61) #[] #[], .func (.func 62) #[] #[], .func (.func 63) #[] #[], .func (.func 64) #[] #[], .func (.func 65) #[] #[], .func (.func 66) #[] #[], .func (.func 67) #[] #[], .func (.func 68) #[] #[], .func (.func 69) #[] #[]] : List Value)[Int.toNat x74]? = some (.func (.func 68) #[] #[]) := by rw [h343]; rfl
                 refine gx_v (.pointer (some ⟨w14.heap.size, (Int.toNat x74), none⟩)) w44 (run_ixarr (E := 86) (m := 24) (k := .u8) (i := Int.toNat x74) rfl (by kernel_rfl) (by kernel_rfl) hz345 (by kernel_rfl) (fun _ => by kernel_rfl) hi346) ?_
                 refine gx_v (.func (.func 68) #[] #[]) w44 (run_load1 rfl (by kernel_rfl) (fun _ => by kernel_rfl) (hS45.box 5 rfl (Int.toNat x74) hj347)) ?_
                 refine gx_k (.pointer (some ⟨gz1_4B0, 0, none⟩)) w44 (gx_k (.int .i64 x62) w44 ?_)
                 have hP348 : St _ _ w44 ([boxE gz1_4B0 [.pointer A50, .int .i64 x53, .int .i64 x54, .int .i64 x55, .slice A0 p0.length c0, .slice Az1_4o4_4 lz1_4o4_3.length cz1_4o4_5, .int .u8 p1, .slice A56 l58.length c57, .slice A59 l61.length c60] 84, rowE .u8 5 A56 c57 l58, rowE .u8 26 A59 c60 l61] ++ [poolE ft47 W48, rowE .i64 3 Az1_4o4_4 cz1_4o4_5 lz1_4o4_3, boxE w14.heap.size [Value.nilFunc, .func (.func 58) #[] #[], .func (.func 58) #[] #[], .func (.func 58) #[] #[], .func (.func 58) #[] #[], .func (.func 58) #[] #[], .func (.func 58) #[] #[], .func (.func 58) #[] #[], .func (.func 58) #[] #[], .func (.func 58) #[] #[], .func (.func 59) #[] #[], .func (.func 60) #[] #[], .func (.func 58) #[] #[], .func (.func 58) #[] #[], .func (.func 58) #[] #[], .func (.func 61) #[] #[], .func (.func 62) #[] #[], .func (.func 63) #[] #[], .func (.func 64) #[] #[], .func (.func 65) #[] #[], .func (.func 66) #[] #[], .func (.func 67) #[] #[], .func (.func 68) #[] #[], .func (.func 69) #[] #[]] 87]) := hS45.pick [4, 2, 3, 0, 1, 5] rfl rfl
                 obtain ⟨⟨l350, x353, x354, l355, l358⟩, hc349, hF344⟩ := bind_in hF344
                 try dsimp only at hF344
                 refine gx_c (pIsT_R l52 x53 x54 x55 p0 lz1_4o4_3 p1 l58 l61 x62 gz1_4B0 A50 ft47 A0 c0 Az1_4o4_4 cz1_4o4_5 A56 c57 A59 c60 (l350, x353, x354, l355, l358) w44) (pIsT_ok N l52 x53 x54 x55 p0 lz1_4o4_3 p1 l58 l61 x62 gz1_4B0 A50 ft47 A0 c0 Az1_4o4_4 cz1_4o4_5 A56 c57 A59 c60 _ hc349 w44 (hS45.now 0 rfl hf51) (hP348.offPA 0 rfl) (hP348.vwA hv0) (hP348.vwB 1 rfl) hP348.part) ?_
                 rintro _ w362 ⟨A351, A356, c357, A359, c360, ft361, rfl, hT364, hf352⟩
                 have hS363 : St _ _ w362 [poolE ft47 W48, rowE .i64 3 Az1_4o4_4 cz1_4o4_5 lz1_4o4_3, boxE w14.heap.size [Value.nilFunc, .func (.func 58) #[] #[], .func (.func 58) #[] #[], .func (.func 58) #[] #[], .func (.func 58) #[] #[], .func (.func 58) #[] #[], .func (.func 58) #[] #[], .func (.func 58) #[] #[], .func (.func 58) #[] #[], .func (.func 58) #[] #[], .func (.func 59) #[] #[], .func (.func 60) #[] #[], .func (.func 58) #[] #[], .func (.func 58) #[] #[], .func (.func 58) #[] #[], .func (.func 61) #[] #[], .func (.func 62) #[] #[], .func (.func 63) #[] #[], .func (.func 64) #[] #[], .func (.func 65) #[] #[], .func (.func 66) #[] #[], .func (.func 67) #[] #[], .func (.func 68) #[] #[], .func (.func 69) #[] #[]] 87, boxE gz1_4B0 [.pointer A351, .int .i64 x353, .int .i64 x354, .int .i64 x55, .slice A0 p0.length c0, .slice Az1_4o4_4 lz1_4o4_3.length cz1_4o4_5, .int .u8 p1, .slice A356 l355.length c357, .slice A359 l358.length c360] 84, rowE .u8 5 A356 c357 l355, rowE .u8 26 A359 c360 l358, poolE ft361 w362] := hP348.lendN _ hT364
                 obtain ⟨ft365, W366, hS367, hT368, hU369, hU370, hU371⟩ := hS363.mergeW 6 0 rfl rfl (by decide)
                 have hS367 : St _ _ w362 [poolE ft365 W366, rowE .i64 3 Az1_4o4_4 cz1_4o4_5 lz1_4o4_3, boxE w14.heap.size [Value.nilFunc, .func (.func 58) #[] #[], .func (.func 58) #[] #[], .func (.func 58) #[] #[], .func (.func 58) #[] #[], .func (.func 58) #[] #[], .func (.func 58) #[] #[], .func (.func 58) #[] #[], .func (.func 58) #[] #[], .func (.func 58) #[] #[], .func (.func 59) #[] #[], .func (.func 60) #[] #[], .func (.func 58) #[] #[], .func (.func 58) #[] #[], .func (.func 58) #[] #[], .func (.func 61) #[] #[], .func (.func 62) #[] #[], .func (.func 63) #[] #[], .func (.func 64) #[] #[], .func (.func 65) #[] #[], .func (.func 66) #[] #[], .func (.func 67) #[] #[], .func (.func 68) #[] #[], .func (.func 69) #[] #[]] 87, boxE gz1_4B0 [.pointer A351, .int .i64 x353, .int .i64 x354, .int .i64 x55, .slice A0 p0.length c0, .slice Az1_4o4_4 lz1_4o4_3.length cz1_4o4_5, .int .u8 p1, .slice A356 l355.length c357, .slice A359 l358.length c360] 84, rowE .u8 5 A356 c357 l355, rowE .u8 26 A359 c360 l358] := hS367
                 have hT368 : Turn [] w0 W48 ft47 W366 ft365 := hT368
                 have hf372 : (fCh 100 entembedentry A351 l350).rd W366 ft365 := hU370 _ _ (fun k hk => by exact hk) hf352
                 refine gx_nil ?_
                 refine gx_blkN ?_
                 refine gx_thenN ?_
                 refine hK71 _ _ ?_
                 refine gx_region ?_
                 refine gx_k (.int .i64 (IntKind.i64.wrap (x62 + 1))) w362 (gx_k (.int .i64 (IntKind.i64.wrap (x62 + 1))) w362 ?_)
                 refine gx_nil ?_
                 refine gx_thenN ?_
                 exact ⟨k63, Nat.lt_succ_self k63, l350, x353, x354, x55, l355, l358, (IntKind.i64.wrap (x62 + 1)), ft365, W366, A351, A356, c357, A359, c360, selfA_i (by kernel_rfl), hF344, (hS367.pick [0, 1, 4, 5, 3, 2] rfl rfl), (Turn.trans hT49 hT368), hf372⟩
                ·rcases if_in hF344 with ⟨h373, hF374⟩ | ⟨h373, hF374⟩
                 ·have hz375 : x74 = ((Int.toNat x74 : Nat) : Int) := by rw [h373]; rfl
                  have hi376 : Int.toNat x74 < 24 := by rw [h373]; decide
                  have hj377 : ([Value.nilFunc, .func (.func 58) #[] #[], .func (.func 58) #[] #[], .func (.func 58) #[] #[], .func (.func 58) #[] #[], .func (.func 58) #[] #[], .func (.func 58) #[] #[], .func (.func 58) #[] #[], .func (.func 58) #[] #[], .func (.func 58) #[] #[], .func (.func 59) #[] #[], .func (.func 60) #[] #[], .func (.func 58) #[] #[], .func (.func 58) #[] #[], .func (.func 58) #[] #[], .func (.func 61) #[] #[], .func (.func 62) #[] #[], .func (.func 63) #[] #[], .func (.func 64) #[] #[], .func (.func 65) #[] #[], .func (.func 66) #[] #[], .func (.func 67) #[] #[], .func (.func 68) #[] #[], .func (.func 69) #[] #[]] : List Value)[Int.toNat x74]? = some (.func (.func 69) #[] #[]) := by rw [h373]; rfl
                  refine gx_v (.pointer (some ⟨w14.heap.size, (Int.toNat x74), none⟩)) w44 (run_ixarr (E := 86) (m := 24) (k := .u8) (i := Int.toNat x74) rfl (by kernel_rfl) (by kernel_rfl) hz375 (by kernel_rfl) (fun _ => by kernel_rfl) hi376) ?_
                  refine gx_v (.func (.func 69) #[] #[]) w44 (run_load1 rfl (by kernel_rfl) (fun _ => by kernel_rfl) (hS45.box 5 rfl (Int.toNat x74) hj377)) ?_
                  refine gx_k (.pointer (some ⟨gz1_4B0, 0, none⟩)) w44 (gx_k (.int .i64 x62) w44 ?_)
                  have hP378 : St _ _ w44 ([boxE gz1_4B0 [.pointer A50, .int .i64 x53, .int .i64 x54, .int .i64 x55, .slice A0 p0.length c0, .slice Az1_4o4_4 lz1_4o4_3.length cz1_4o4_5, .int .u8 p1, .slice A56 l58.length c57, .slice A59 l61.length c60] 84, rowE .u8 5 A56 c57 l58, rowE .u8 26 A59 c60 l61] ++ [poolE ft47 W48, rowE .i64 3 Az1_4o4_4 cz1_4o4_5 lz1_4o4_3, boxE w14.heap.size [Value.nilFunc, .func (.func 58) #[] #[], .func (.func 58) #[] #[], .func (.func 58) #[] #[], .func (.func 58) #[] #[], .func (.func 58) #[] #[], .func (.func 58) #[] #[], .func (.func 58) #[] #[], .func (.func 58) #[] #[], .func (.func 58) #[] #[], .func (.func 59) #[] #[], .func (.func 60) #[] #[], .func (.func 58) #[] #[], .func (.func 58) #[] #[], .func (.func 58) #[] #[], .func (.func 61) #[] #[], .func (.func 62) #[] #[], .func (.func 63) #[] #[], .func (.func 64) #[] #[], .func (.func 65) #[] #[], .func (.func 66) #[] #[], .func (.func 67) #[] #[], .func (.func 68) #[] #[], .func (.func 69) #[] #[]] 87]) := hS45.pick [4, 2, 3, 0, 1, 5] rfl rfl
                  obtain ⟨⟨l380, x383, x384, x385, l386, l389⟩, hc379, hF374⟩ := bind_in hF374
                  try dsimp only at hF374
                  refine gx_c (pLeI_R l52 x53 x54 x55 p0 lz1_4o4_3 p1 l58 l61 x62 gz1_4B0 A50 ft47 A0 c0 Az1_4o4_4 cz1_4o4_5 A56 c57 A59 c60 (l380, x383, x384, x385, l386, l389) w44) (pLeI_ok N l52 x53 x54 x55 p0 lz1_4o4_3 p1 l58 l61 x62 gz1_4B0 A50 ft47 A0 c0 Az1_4o4_4 cz1_4o4_5 A56 c57 A59 c60 _ hc379 w44 (hS45.now 0 rfl hf51) (hP378.offPA 0 rfl) (hP378.vwA hv0) (hP378.vwB 1 rfl) hP378.part) ?_
                  rintro _ w393 ⟨A381, A387, c388, A390, c391, ft392, rfl, hT395, hf382⟩
                  have hS394 : St _ _ w393 [poolE ft47 W48, rowE .i64 3 Az1_4o4_4 cz1_4o4_5 lz1_4o4_3, boxE w14.heap.size [Value.nilFunc, .func (.func 58) #[] #[], .func (.func 58) #[] #[], .func (.func 58) #[] #[], .func (.func 58) #[] #[], .func (.func 58) #[] #[], .func (.func 58) #[] #[], .func (.func 58) #[] #[], .func (.func 58) #[] #[], .func (.func 58) #[] #[], .func (.func 59) #[] #[], .func (.func 60) #[] #[], .func (.func 58) #[] #[], .func (.func 58) #[] #[], .func (.func 58) #[] #[], .func (.func 61) #[] #[], .func (.func 62) #[] #[], .func (.func 63) #[] #[], .func (.func 64) #[] #[], .func (.func 65) #[] #[], .func (.func 66) #[] #[], .func (.func 67) #[] #[], .func (.func 68) #[] #[], .func (.func 69) #[] #[]] 87, boxE gz1_4B0 [.pointer A381, .int .i64 x383, .int .i64 x384, .int .i64 x385, .slice A0 p0.length c0, .slice Az1_4o4_4 lz1_4o4_3.length cz1_4o4_5, .int .u8 p1, .slice A387 l386.length c388, .slice A390 l389.length c391] 84, rowE .u8 5 A387 c388 l386, rowE .u8 26 A390 c391 l389, poolE ft392 w393] := hP378.lendN _ hT395
                  obtain ⟨ft396, W397, hS398, hT399, hU400, hU401, hU402⟩ := hS394.mergeW 6 0 rfl rfl (by decide)
                  have hS398 : St _ _ w393 [poolE ft396 W397, rowE .i64 3 Az1_4o4_4 cz1_4o4_5 lz1_4o4_3, boxE w14.heap.size [Value.nilFunc, .func (.func 58) #[] #[], .func (.func 58) #[] #[], .func (.func 58) #[] #[], .func (.func 58) #[] #[], .func (.func 58) #[] #[], .func (.func 58) #[] #[], .func (.func 58) #[] #[], .func (.func 58) #[] #[], .func (.func 58) #[] #[], .func (.func 59) #[] #[], .func (.func 60) #[] #[], .func (.func 58) #[] #[], .func (.func 58) #[] #[], .func (.func 58) #[] #[], .func (.func 61) #[] #[], .func (.func 62) #[] #[], .func (.func 63) #[] #[], .func (.func 64) #[] #[], .func (.func 65) #[] #[], .func (.func 66) #[] #[], .func (.func 67) #[] #[], .func (.func 68) #[] #[], .func (.func 69) #[] #[]] 87, boxE gz1_4B0 [.pointer A381, .int .i64 x383, .int .i64 x384, .int .i64 x385, .slice A0 p0.length c0, .slice Az1_4o4_4 lz1_4o4_3.length cz1_4o4_5, .int .u8 p1, .slice A387 l386.length c388, .slice A390 l389.length c391] 84, rowE .u8 5 A387 c388 l386, rowE .u8 26 A390 c391 l389] := hS398
                  have hT399 : Turn [] w0 W48 ft47 W397 ft396 := hT399
                  have hf403 : (fCh 100 entembedentry A381 l380).rd W397 ft396 := hU401 _ _ (fun k hk => by exact hk) hf382
                  refine gx_nil ?_
                  refine gx_blkN ?_
                  refine gx_thenN ?_
                  refine hK71 _ _ ?_
                  refine gx_region ?_
                  refine gx_k (.int .i64 (IntKind.i64.wrap (x62 + 1))) w393 (gx_k (.int .i64 (IntKind.i64.wrap (x62 + 1))) w393 ?_)
                  refine gx_nil ?_
                  refine gx_thenN ?_
                  exact ⟨k63, Nat.lt_succ_self k63, l380, x383, x384, x385, l386, l389, (IntKind.i64.wrap (x62 + 1)), ft396, W397, A381, A387, c388, A390, c391, selfA_i (by kernel_rfl), hF374, (hS398.pick [0, 1, 4, 5, 3, 2] rfl rfl), (Turn.trans hT49 hT399), hf403⟩
                 ·cases hF374
     ·refine gx_v (.bool false) w44 (run_boolE (decide_eq_false h67) (by kernel_rfl)) ?_
      refine gx_nil ?_
      refine gx_thenN ?_
      refine hK66 _ _ ?_
      refine gx_seq (fun K404 hK405 => ?_)
      refine gx_no (by kernel_rfl) ?_
      refine gx_exit ?_
      refine gx_thenE ?_
      refine gx_thenE ?_
      refine gx_blkE ?_
      refine gx_thenN ?_
      exact ⟨l52, x53, x54, x55, l58, l61, ft47, W48, A50, A56, c57, A59, c60, selfA_i (by kernel_rfl), (Option.some.inj hL64), hS45, hT49, hf51⟩
  ·rintro _ w21 ⟨l29, x30, x31, x32, l35, l38, ft24, W25, A27, A33, c34, A36, c37, hq411, rfl, hS22, hT26, hf28⟩
   obtain ⟨u23, rfl⟩ := selfA_u hq411
   try dsimp only at hO41
   refine gx_seq (fun K407 hK408 => ?_)
   refine gd_start (fun w => St [] w0 w [poolE ft24 W25, rowE .i64 3 Az1_4o4_4 cz1_4o4_5 lz1_4o4_3, rowE .u8 5 A33 c34 l35, rowE .u8 26 A36 c37 l38, boxE gz1_4B0 [.pointer A27, .int .i64 x30, .int .i64 x31, .int .i64 x32, .slice A0 p0.length c0, .slice Az1_4o4_4 lz1_4o4_3.length cz1_4o4_5, .int .u8 p1, .slice A33 l35.length c34, .slice A36 l38.length c37] 84, boxE w14.heap.size [Value.nilFunc, .func (.func 58) #[] #[], .func (.func 58) #[] #[], .func (.func 58) #[] #[], .func (.func 58) #[] #[], .func (.func 58) #[] #[], .func (.func 58) #[] #[], .func (.func 58) #[] #[], .func (.func 58) #[] #[], .func (.func 58) #[] #[], .func (.func 59) #[] #[], .func (.func 60) #[] #[], .func (.func 58) #[] #[], .func (.func 58) #[] #[], .func (.func 58) #[] #[], .func (.func 61) #[] #[], .func (.func 62) #[] #[], .func (.func 63) #[] #[], .func (.func 64) #[] #[], .func (.func 65) #[] #[], .func (.func 66) #[] #[], .func (.func 67) #[] #[], .func (.func 68) #[] #[], .func (.func 69) #[] #[]] 87]) 10 #[false, false, false, false, false, false, false, false, false, false] (by kernel_rfl) (by kernel_rfl) ?_
   have hS410 := hS22.drew
   generalize w21.drew = w409 at hS410 ⊢
   refine gd1 0 { dst := some 38, op := _, type := _, pos := _, after := _, guard := _ } (.pointer (some ⟨gz1_4B0, 0, none⟩)) rfl hS410 (fun w hSw => by kernel_rfl) ?_
   refine gd1 1 { dst := some 39, op := _, type := _, pos := _, after := _, guard := _ } (.pointer (some ⟨gz1_4B0, 0, none⟩)) rfl hS410 (fun w hSw => by kernel_rfl) ?_
   refine gd1 2 { dst := some 40, op := _, type := _, pos := _, after := _, guard := _ } (.pointer (some ⟨gz1_4B0, 7, none⟩)) rfl hS410 (fun w hSw => by kernel_rfl) ?_
   refine gd1 3 { dst := some 41, op := _, type := _, pos := _, after := _, guard := _ } (.slice A33 l35.length c34) rfl hS410 (fun w hSw => run_load1 rfl (by kernel_rfl) (fun _ => by kernel_rfl) (hSw.box 4 rfl 7 rfl)) ?_
   refine gd1 4 { dst := some 42, op := _, type := _, pos := _, after := _, guard := _ } (.pointer (some ⟨gz1_4B0, 0, none⟩)) rfl hS410 (fun w hSw => by kernel_rfl) ?_
   refine gd1 5 { dst := some 43, op := _, type := _, pos := _, after := _, guard := _ } (.pointer (some ⟨gz1_4B0, 0, none⟩)) rfl hS410 (fun w hSw => by kernel_rfl) ?_
   refine gd1 6 { dst := some 44, op := _, type := _, pos := _, after := _, guard := _ } (.pointer (some ⟨gz1_4B0, 8, none⟩)) rfl hS410 (fun w hSw => by kernel_rfl) ?_
   refine gd1 7 { dst := some 45, op := _, type := _, pos := _, after := _, guard := _ } (.slice A36 l38.length c37) rfl hS410 (fun w hSw => run_load1 rfl (by kernel_rfl) (fun _ => by kernel_rfl) (hSw.box 4 rfl 8 rfl)) ?_
   refine gd1 8 { dst := some 4, op := _, type := _, pos := _, after := _, guard := _ } (.slice A33 l35.length c34) rfl hS410 (fun w hSw => by kernel_rfl) ?_
   refine gd1 9 { dst := some 5, op := _, type := _, pos := _, after := _, guard := _ } (.slice A36 l38.length c37) rfl hS410 (fun w hSw => by kernel_rfl) ?_
   refine gd_done (by kernel_rfl) ?_
   refine gx_thenN ?_
   refine hK408 _ _ ?_
   refine gx_ret ?_
   obtain rfl := Option.some.inj hO41
   exact gx_fin (.tuple #[.slice A33 l35.length c34, .slice A36 l38.length c37]) (by kernel_rfl) (by kernel_rfl) ⟨_, rfl, A33, c34, A36, c37, rfl, (hS410.pick [2, 3] rfl rfl)⟩
 ·intro K412
  refine gd1 0 { dst := some 10, op := _, type := _, pos := _, after := _, guard := _ } (.int .u8 p1) rfl (hS7.pick [] rfl rfl) (fun w hSw => by kernel_rfl) ?_
  refine gd1 2 { dst := some 12, op := _, type := _, pos := _, after := _, guard := _ } (.slice A0 p0.length c0) rfl (hS7.pick [] rfl rfl) (fun w hSw => by kernel_rfl) ?_
  refine gd1 3 { dst := some 13, op := _, type := _, pos := _, after := _, guard := _ } (.slice A0 p0.length c0) rfl (hS7.pick [] rfl rfl) (fun w hSw => by kernel_rfl) ?_
  refine gd1 5 { dst := some 15, op := _, type := _, pos := _, after := _, guard := _ } (.int .u8 p1) rfl (hS7.pick [] rfl rfl) (fun w hSw => by kernel_rfl) ?_
  refine gd1 6 { dst := some 16, op := _, type := _, pos := _, after := _, guard := _ } (.slice A0 p0.length c0) rfl (hS7.pick [] rfl rfl) (fun w hSw => by kernel_rfl) ?_
  refine gd1 7 { dst := some 17, op := _, type := _, pos := _, after := _, guard := _ } (.int .i64 ((p0.length : Nat) : Int)) rfl (hS7.pick [] rfl rfl) (fun w hSw => by kernel_rfl) ?_
  refine gd1 9 { dst := some 19, op := _, type := _, pos := _, after := _, guard := _ } (.slice A0 p0.length c0) rfl (hS7.pick [] rfl rfl) (fun w hSw => by kernel_rfl) ?_
  refine gd_fork2 1 8 { dst := some 11, op := _, type := _, pos := _, after := _, guard := _ } { dst := some 18, op := _, type := _, pos := _, after := _, guard := _ } rfl rfl ?_ ?_
  ·have hPz1_4o1_1 : St _ _ w6 ([] ++ [poolE ([]) w0]) := hS7
   refine gfC 1 { dst := some 11, op := _, type := _, pos := _, after := _, guard := _ } (pStackOf_R (lz1_4o1_3, xz1_4o1_6, xz1_4o1_7, xz1_4o1_8) w6) rfl (by kernel_rfl) (pStackOf_ok N p1 _ hcz1_4o1_2 w6 ) ?_
   rintro _ wz1_4o1_10 ⟨Az1_4o1_4, ftz1_4o1_9, rfl, hTz1_4o1_12, hfz1_4o1_5⟩
   have hSz1_4o1_11 : St _ _ wz1_4o1_10 [poolE ([]) w0, poolE ftz1_4o1_9 wz1_4o1_10] := hS7.take _ hTz1_4o1_12
   obtain ⟨ftz1_4o1_13, Wz1_4o1_14, hSz1_4o1_15, hTz1_4o1_16, hUz1_4o1_17, hUz1_4o1_18, hUz1_4o1_19⟩ := hSz1_4o1_11.mergeW 1 0 rfl rfl (by decide)
   have hSz1_4o1_15 : St _ _ wz1_4o1_10 [poolE ftz1_4o1_13 Wz1_4o1_14] := hSz1_4o1_15
   have hTz1_4o1_16 : Turn [] w0 w0 ([]) Wz1_4o1_14 ftz1_4o1_13 := hTz1_4o1_16
   have hfz1_4o1_20 : (fCh 100 entembedentry Az1_4o1_4 lz1_4o1_3).rd Wz1_4o1_14 ftz1_4o1_13 := hUz1_4o1_17 _ hfz1_4o1_5
   refine ⟨(hSz1_4o1_15.pick [] rfl rfl), ?_⟩
   refine gd_fork2 4 8 { dst := some 14, op := _, type := _, pos := _, after := _, guard := _ } { dst := some 18, op := _, type := _, pos := _, after := _, guard := _ } rfl rfl ?_ ?_
   ·have hPz1_4o4_1 : St _ _ wz1_4o1_10 ([] ++ [poolE ftz1_4o1_13 Wz1_4o1_14]) := hSz1_4o1_15
    refine gfC 4 { dst := some 14, op := _, type := _, pos := _, after := _, guard := _ } (pMatch_R lz1_4o4_3 wz1_4o1_10) rfl (by kernel_rfl) (pMatch_ok N p0 A0 c0 _ hcz1_4o4_2 wz1_4o1_10 (hPz1_4o4_1.vwA hv0)) ?_
    rintro _ wz1_4o4_6 ⟨Az1_4o4_4, cz1_4o4_5, rfl, hTz1_4o4_8⟩
    have hSz1_4o4_7 : St _ _ wz1_4o4_6 [poolE ftz1_4o1_13 Wz1_4o1_14, rowE .i64 3 Az1_4o4_4 cz1_4o4_5 lz1_4o4_3] := hSz1_4o1_15.take _ hTz1_4o4_8
    refine ⟨(hSz1_4o4_7.pick [] rfl rfl), ?_⟩
    refine gd_fork2 8 10 { dst := some 18, op := _, type := _, pos := _, after := _, guard := _ } { dst := some 20, op := _, type := _, pos := _, after := _, guard := _ } rfl rfl ?_ ?_
    ·skip
     refine gfR 8 { dst := some 18, op := _, type := _, pos := _, after := _, guard := _ } rfl (st_make (T := 5) (k := .u8) (by_ := 1) rfl (by kernel_rfl) (by kernel_rfl) (by kernel_rfl) (by kernel_rfl) (by kernel_rfl) hSz1_4o4_7 hmz1_4o8_2) ?_
     rintro _ wz1_4o8_3 ⟨Az1_4o8_5, cz1_4o8_6, rfl, hSz1_4o8_4⟩
     have hSz1_4o8_4 : St _ _ wz1_4o8_3 [poolE ftz1_4o1_13 Wz1_4o1_14, rowE .i64 3 Az1_4o4_4 cz1_4o4_5 lz1_4o4_3, rowE .u8 5 Az1_4o8_5 cz1_4o8_6 lz1_4o8_1] := hSz1_4o8_4
     refine ⟨(hSz1_4o8_4.pick [] rfl rfl), ?_⟩
     refine gdC 10 { dst := some 20, op := _, type := _, pos := _, after := _, guard := _ } (pClone_R  lz1_4o10_5 wz1_4o8_3) rfl (by kernel_rfl) (pClone_ok N p0 A0 c0 _ hcz1_4o10_2 wz1_4o8_3 (Vw.of (hSz1_4o8_4.view hv0) hv0.nn)) ?_
     rintro _ wz1_4o10_3 ⟨Az1_4o10_6, cz1_4o10_7, rfl, hTz1_4o10_8⟩
     have hSz1_4o10_4 : St _ _ wz1_4o10_3 [poolE ftz1_4o1_13 Wz1_4o1_14, rowE .i64 3 Az1_4o4_4 cz1_4o4_5 lz1_4o4_3, rowE .u8 5 Az1_4o8_5 cz1_4o8_6 lz1_4o8_1, rowE .u8 26 Az1_4o10_6 cz1_4o10_7 lz1_4o10_5] := hSz1_4o8_4.take _ hTz1_4o10_8
     refine ⟨(hSz1_4o10_4.pick [] rfl rfl), ?_⟩
     refine gd1 11 { dst := some 21, op := _, type := _, pos := _, after := _, guard := _ } (.agg #[.pointer Az1_4o1_4, .int .i64 xz1_4o1_6, .int .i64 xz1_4o1_7, .int .i64 xz1_4o1_8, .slice A0 p0.length c0, .slice Az1_4o4_4 lz1_4o4_3.length cz1_4o4_5, .int .u8 p1, .slice Az1_4o8_5 lz1_4o8_1.length cz1_4o8_6, .slice Az1_4o10_6 lz1_4o10_5.length cz1_4o10_7]) rfl (hSz1_4o10_4.pick [] rfl rfl) (fun w hSw => by kernel_rfl) ?_
     refine gdR 12 { dst := some 22, op := _, type := _, pos := _, after := _, guard := _ } rfl (st_boxed [.pointer Az1_4o1_4, .int .i64 xz1_4o1_6, .int .i64 xz1_4o1_7, .int .i64 xz1_4o1_8, .slice A0 p0.length c0, .slice Az1_4o4_4 lz1_4o4_3.length cz1_4o4_5, .int .u8 p1, .slice Az1_4o8_5 lz1_4o8_1.length cz1_4o8_6, .slice Az1_4o10_6 lz1_4o10_5.length cz1_4o10_7] 84 hSz1_4o10_4 (by kernel_rfl)) ?_
     rintro _ wz1_4o12_1 ⟨rfl, hSz1_4o12_2⟩
     have hSz1_4o12_2 : St _ _ wz1_4o12_1 [poolE ftz1_4o1_13 Wz1_4o1_14, rowE .i64 3 Az1_4o4_4 cz1_4o4_5 lz1_4o4_3, rowE .u8 5 Az1_4o8_5 cz1_4o8_6 lz1_4o8_1, rowE .u8 26 Az1_4o10_6 cz1_4o10_7 lz1_4o10_5, boxE wz1_4o10_3.heap.size [.pointer Az1_4o1_4, .int .i64 xz1_4o1_6, .int .i64 xz1_4o1_7, .int .i64 xz1_4o1_8, .slice A0 p0.length c0, .slice Az1_4o4_4 lz1_4o4_3.length cz1_4o4_5, .int .u8 p1, .slice Az1_4o8_5 lz1_4o8_1.length cz1_4o8_6, .slice Az1_4o10_6 lz1_4o10_5.length cz1_4o10_7] 84] := hSz1_4o12_2
     refine ⟨(hSz1_4o12_2.pick [] rfl rfl), ?_⟩
     refine gd1 13 { dst := some 6, op := _, type := _, pos := _, after := _, guard := _ } (.pointer (some ⟨wz1_4o10_3.heap.size, 0, none⟩)) rfl (hSz1_4o12_2.pick [] rfl rfl) (fun w hSw => by kernel_rfl) ?_
     exact gd_meet (by kernel_rfl) (by kernel_rfl) (K412 (Az1_4o1_4, Az1_4o4_4, cz1_4o4_5, Az1_4o8_5, cz1_4o8_6, Az1_4o10_6, cz1_4o10_7, wz1_4o10_3.heap.size, ftz1_4o1_13, Wz1_4o1_14) _ ⟨hfz1_4o1_20, hTz1_4o1_16, hSz1_4o12_2⟩)
    ·skip
     refine gfC 10 { dst := some 20, op := _, type := _, pos := _, after := _, guard := _ } (pClone_R  lz1_4o10_5 wz1_4o4_6) rfl (by kernel_rfl) (pClone_ok N p0 A0 c0 _ hcz1_4o10_2 wz1_4o4_6 (Vw.of (hSz1_4o4_7.view hv0) hv0.nn)) ?_
     rintro _ wz1_4o10_3 ⟨Az1_4o10_6, cz1_4o10_7, rfl, hTz1_4o10_8⟩
     have hSz1_4o10_4 : St _ _ wz1_4o10_3 [poolE ftz1_4o1_13 Wz1_4o1_14, rowE .i64 3 Az1_4o4_4 cz1_4o4_5 lz1_4o4_3, rowE .u8 26 Az1_4o10_6 cz1_4o10_7 lz1_4o10_5] := hSz1_4o4_7.take _ hTz1_4o10_8
     refine ⟨(hSz1_4o10_4.pick [] rfl rfl), ?_⟩
     refine gdR 8 { dst := some 18, op := _, type := _, pos := _, after := _, guard := _ } rfl (st_make (T := 5) (k := .u8) (by_ := 1) rfl (by kernel_rfl) (by kernel_rfl) (by kernel_rfl) (by kernel_rfl) (by kernel_rfl) hSz1_4o10_4 hmz1_4o8_2) ?_
     rintro _ wz1_4o8_3 ⟨Az1_4o8_5, cz1_4o8_6, rfl, hSz1_4o8_4⟩
     have hSz1_4o8_4 : St _ _ wz1_4o8_3 [poolE ftz1_4o1_13 Wz1_4o1_14, rowE .i64 3 Az1_4o4_4 cz1_4o4_5 lz1_4o4_3, rowE .u8 26 Az1_4o10_6 cz1_4o10_7 lz1_4o10_5, rowE .u8 5 Az1_4o8_5 cz1_4o8_6 lz1_4o8_1] := hSz1_4o8_4
     refine ⟨(hSz1_4o8_4.pick [] rfl rfl), ?_⟩
     refine gd1 11 { dst := some 21, op := _, type := _, pos := _, after := _, guard := _ } (.agg #[.pointer Az1_4o1_4, .int .i64 xz1_4o1_6, .int .i64 xz1_4o1_7, .int .i64 xz1_4o1_8, .slice A0 p0.length c0, .slice Az1_4o4_4 lz1_4o4_3.length cz1_4o4_5, .int .u8 p1, .slice Az1_4o8_5 lz1_4o8_1.length cz1_4o8_6, .slice Az1_4o10_6 lz1_4o10_5.length cz1_4o10_7]) rfl (hSz1_4o8_4.pick [] rfl rfl) (fun w hSw => by kernel_rfl) ?_
     refine gdR 12 { dst := some 22, op := _, type := _, pos := _, after := _, guard := _ } rfl (st_boxed [.pointer Az1_4o1_4, .int .i64 xz1_4o1_6, .int .i64 xz1_4o1_7, .int .i64 xz1_4o1_8, .slice A0 p0.length c0, .slice Az1_4o4_4 lz1_4o4_3.length cz1_4o4_5, .int .u8 p1, .slice Az1_4o8_5 lz1_4o8_1.length cz1_4o8_6, .slice Az1_4o10_6 lz1_4o10_5.length cz1_4o10_7] 84 hSz1_4o8_4 (by kernel_rfl)) ?_
     rintro _ wz1_4o12_1 ⟨rfl, hSz1_4o12_2⟩
     have hSz1_4o12_2 : St _ _ wz1_4o12_1 [poolE ftz1_4o1_13 Wz1_4o1_14, rowE .i64 3 Az1_4o4_4 cz1_4o4_5 lz1_4o4_3, rowE .u8 26 Az1_4o10_6 cz1_4o10_7 lz1_4o10_5, rowE .u8 5 Az1_4o8_5 cz1_4o8_6 lz1_4o8_1, boxE wz1_4o8_3.heap.size [.pointer Az1_4o1_4, .int .i64 xz1_4o1_6, .int .i64 xz1_4o1_7, .int .i64 xz1_4o1_8, .slice A0 p0.length c0, .slice Az1_4o4_4 lz1_4o4_3.length cz1_4o4_5, .int .u8 p1, .slice Az1_4o8_5 lz1_4o8_1.length cz1_4o8_6, .slice Az1_4o10_6 lz1_4o10_5.length cz1_4o10_7] 84] := hSz1_4o12_2
     refine ⟨(hSz1_4o12_2.pick [] rfl rfl), ?_⟩
     refine gd1 13 { dst := some 6, op := _, type := _, pos := _, after := _, guard := _ } (.pointer (some ⟨wz1_4o8_3.heap.size, 0, none⟩)) rfl (hSz1_4o12_2.pick [] rfl rfl) (fun w hSw => by kernel_rfl) ?_
     exact gd_meet (by kernel_rfl) (by kernel_rfl) (K412 (Az1_4o1_4, Az1_4o4_4, cz1_4o4_5, Az1_4o8_5, cz1_4o8_6, Az1_4o10_6, cz1_4o10_7, wz1_4o8_3.heap.size, ftz1_4o1_13, Wz1_4o1_14) _ ⟨hfz1_4o1_20, hTz1_4o1_16, (hSz1_4o12_2.pick [0, 1, 3, 2, 4] rfl rfl)⟩)
   ·skip
    refine gfR 8 { dst := some 18, op := _, type := _, pos := _, after := _, guard := _ } rfl (st_make (T := 5) (k := .u8) (by_ := 1) rfl (by kernel_rfl) (by kernel_rfl) (by kernel_rfl) (by kernel_rfl) (by kernel_rfl) hSz1_4o1_15 hmz1_4o8_2) ?_
    rintro _ wz1_4o8_3 ⟨Az1_4o8_5, cz1_4o8_6, rfl, hSz1_4o8_4⟩
    have hSz1_4o8_4 : St _ _ wz1_4o8_3 [poolE ftz1_4o1_13 Wz1_4o1_14, rowE .u8 5 Az1_4o8_5 cz1_4o8_6 lz1_4o8_1] := hSz1_4o8_4
    refine ⟨(hSz1_4o8_4.pick [] rfl rfl), ?_⟩
    have hPz1_4o4_1 : St _ _ wz1_4o8_3 ([] ++ [poolE ftz1_4o1_13 Wz1_4o1_14, rowE .u8 5 Az1_4o8_5 cz1_4o8_6 lz1_4o8_1]) := hSz1_4o8_4
    refine gdC 4 { dst := some 14, op := _, type := _, pos := _, after := _, guard := _ } (pMatch_R lz1_4o4_3 wz1_4o8_3) rfl (by kernel_rfl) (pMatch_ok N p0 A0 c0 _ hcz1_4o4_2 wz1_4o8_3 (hPz1_4o4_1.vwA hv0)) ?_
    rintro _ wz1_4o4_6 ⟨Az1_4o4_4, cz1_4o4_5, rfl, hTz1_4o4_8⟩
    have hSz1_4o4_7 : St _ _ wz1_4o4_6 [poolE ftz1_4o1_13 Wz1_4o1_14, rowE .u8 5 Az1_4o8_5 cz1_4o8_6 lz1_4o8_1, rowE .i64 3 Az1_4o4_4 cz1_4o4_5 lz1_4o4_3] := hSz1_4o8_4.take _ hTz1_4o4_8
    refine ⟨(hSz1_4o4_7.pick [] rfl rfl), ?_⟩
    refine gdC 10 { dst := some 20, op := _, type := _, pos := _, after := _, guard := _ } (pClone_R  lz1_4o10_5 wz1_4o4_6) rfl (by kernel_rfl) (pClone_ok N p0 A0 c0 _ hcz1_4o10_2 wz1_4o4_6 (Vw.of (hSz1_4o4_7.view hv0) hv0.nn)) ?_
    rintro _ wz1_4o10_3 ⟨Az1_4o10_6, cz1_4o10_7, rfl, hTz1_4o10_8⟩
    have hSz1_4o10_4 : St _ _ wz1_4o10_3 [poolE ftz1_4o1_13 Wz1_4o1_14, rowE .u8 5 Az1_4o8_5 cz1_4o8_6 lz1_4o8_1, rowE .i64 3 Az1_4o4_4 cz1_4o4_5 lz1_4o4_3, rowE .u8 26 Az1_4o10_6 cz1_4o10_7 lz1_4o10_5] := hSz1_4o4_7.take _ hTz1_4o10_8
    refine ⟨(hSz1_4o10_4.pick [] rfl rfl), ?_⟩
    refine gd1 11 { dst := some 21, op := _, type := _, pos := _, after := _, guard := _ } (.agg #[.pointer Az1_4o1_4, .int .i64 xz1_4o1_6, .int .i64 xz1_4o1_7, .int .i64 xz1_4o1_8, .slice A0 p0.length c0, .slice Az1_4o4_4 lz1_4o4_3.length cz1_4o4_5, .int .u8 p1, .slice Az1_4o8_5 lz1_4o8_1.length cz1_4o8_6, .slice Az1_4o10_6 lz1_4o10_5.length cz1_4o10_7]) rfl (hSz1_4o10_4.pick [] rfl rfl) (fun w hSw => by kernel_rfl) ?_
    refine gdR 12 { dst := some 22, op := _, type := _, pos := _, after := _, guard := _ } rfl (st_boxed [.pointer Az1_4o1_4, .int .i64 xz1_4o1_6, .int .i64 xz1_4o1_7, .int .i64 xz1_4o1_8, .slice A0 p0.length c0, .slice Az1_4o4_4 lz1_4o4_3.length cz1_4o4_5, .int .u8 p1, .slice Az1_4o8_5 lz1_4o8_1.length cz1_4o8_6, .slice Az1_4o10_6 lz1_4o10_5.length cz1_4o10_7] 84 hSz1_4o10_4 (by kernel_rfl)) ?_
    rintro _ wz1_4o12_1 ⟨rfl, hSz1_4o12_2⟩
    have hSz1_4o12_2 : St _ _ wz1_4o12_1 [poolE ftz1_4o1_13 Wz1_4o1_14, rowE .u8 5 Az1_4o8_5 cz1_4o8_6 lz1_4o8_1, rowE .i64 3 Az1_4o4_4 cz1_4o4_5 lz1_4o4_3, rowE .u8 26 Az1_4o10_6 cz1_4o10_7 lz1_4o10_5, boxE wz1_4o10_3.heap.size [.pointer Az1_4o1_4, .int .i64 xz1_4o1_6, .int .i64 xz1_4o1_7, .int .i64 xz1_4o1_8, .slice A0 p0.length c0, .slice Az1_4o4_4 lz1_4o4_3.length cz1_4o4_5, .int .u8 p1, .slice Az1_4o8_5 lz1_4o8_1.length cz1_4o8_6, .slice Az1_4o10_6 lz1_4o10_5.length cz1_4o10_7] 84] := hSz1_4o12_2
    refine ⟨(hSz1_4o12_2.pick [] rfl rfl), ?_⟩
    refine gd1 13 { dst := some 6, op := _, type := _, pos := _, after := _, guard := _ } (.pointer (some ⟨wz1_4o10_3.heap.size, 0, none⟩)) rfl (hSz1_4o12_2.pick [] rfl rfl) (fun w hSw => by kernel_rfl) ?_
    exact gd_meet (by kernel_rfl) (by kernel_rfl) (K412 (Az1_4o1_4, Az1_4o4_4, cz1_4o4_5, Az1_4o8_5, cz1_4o8_6, Az1_4o10_6, cz1_4o10_7, wz1_4o10_3.heap.size, ftz1_4o1_13, Wz1_4o1_14) _ ⟨hfz1_4o1_20, hTz1_4o1_16, (hSz1_4o12_2.pick [0, 2, 1, 3, 4] rfl rfl)⟩)
  ·skip
   refine gfR 8 { dst := some 18, op := _, type := _, pos := _, after := _, guard := _ } rfl (st_make (T := 5) (k := .u8) (by_ := 1) rfl (by kernel_rfl) (by kernel_rfl) (by kernel_rfl) (by kernel_rfl) (by kernel_rfl) hS7 hmz1_4o8_2) ?_
   rintro _ wz1_4o8_3 ⟨Az1_4o8_5, cz1_4o8_6, rfl, hSz1_4o8_4⟩
   have hSz1_4o8_4 : St _ _ wz1_4o8_3 [poolE ([]) w0, rowE .u8 5 Az1_4o8_5 cz1_4o8_6 lz1_4o8_1] := hSz1_4o8_4
   refine ⟨(hSz1_4o8_4.pick [] rfl rfl), ?_⟩
   have hPz1_4o1_1 : St _ _ wz1_4o8_3 ([] ++ [poolE ([]) w0, rowE .u8 5 Az1_4o8_5 cz1_4o8_6 lz1_4o8_1]) := hSz1_4o8_4
   refine gdC 1 { dst := some 11, op := _, type := _, pos := _, after := _, guard := _ } (pStackOf_R (lz1_4o1_3, xz1_4o1_6, xz1_4o1_7, xz1_4o1_8) wz1_4o8_3) rfl (by kernel_rfl) (pStackOf_ok N p1 _ hcz1_4o1_2 wz1_4o8_3 ) ?_
   rintro _ wz1_4o1_10 ⟨Az1_4o1_4, ftz1_4o1_9, rfl, hTz1_4o1_12, hfz1_4o1_5⟩
   have hSz1_4o1_11 : St _ _ wz1_4o1_10 [poolE ([]) w0, rowE .u8 5 Az1_4o8_5 cz1_4o8_6 lz1_4o8_1, poolE ftz1_4o1_9 wz1_4o1_10] := hSz1_4o8_4.take _ hTz1_4o1_12
   obtain ⟨ftz1_4o1_13, Wz1_4o1_14, hSz1_4o1_15, hTz1_4o1_16, hUz1_4o1_17, hUz1_4o1_18, hUz1_4o1_19⟩ := hSz1_4o1_11.mergeW 2 0 rfl rfl (by decide)
   have hSz1_4o1_15 : St _ _ wz1_4o1_10 [poolE ftz1_4o1_13 Wz1_4o1_14, rowE .u8 5 Az1_4o8_5 cz1_4o8_6 lz1_4o8_1] := hSz1_4o1_15
   have hTz1_4o1_16 : Turn [] w0 w0 ([]) Wz1_4o1_14 ftz1_4o1_13 := hTz1_4o1_16
   have hfz1_4o1_20 : (fCh 100 entembedentry Az1_4o1_4 lz1_4o1_3).rd Wz1_4o1_14 ftz1_4o1_13 := hUz1_4o1_17 _ hfz1_4o1_5
   refine ⟨(hSz1_4o1_15.pick [] rfl rfl), ?_⟩
   have hPz1_4o4_1 : St _ _ wz1_4o1_10 ([] ++ [poolE ftz1_4o1_13 Wz1_4o1_14, rowE .u8 5 Az1_4o8_5 cz1_4o8_6 lz1_4o8_1]) := hSz1_4o1_15
   refine gdC 4 { dst := some 14, op := _, type := _, pos := _, after := _, guard := _ } (pMatch_R lz1_4o4_3 wz1_4o1_10) rfl (by kernel_rfl) (pMatch_ok N p0 A0 c0 _ hcz1_4o4_2 wz1_4o1_10 (hPz1_4o4_1.vwA hv0)) ?_
   rintro _ wz1_4o4_6 ⟨Az1_4o4_4, cz1_4o4_5, rfl, hTz1_4o4_8⟩
   have hSz1_4o4_7 : St _ _ wz1_4o4_6 [poolE ftz1_4o1_13 Wz1_4o1_14, rowE .u8 5 Az1_4o8_5 cz1_4o8_6 lz1_4o8_1, rowE .i64 3 Az1_4o4_4 cz1_4o4_5 lz1_4o4_3] := hSz1_4o1_15.take _ hTz1_4o4_8
   refine ⟨(hSz1_4o4_7.pick [] rfl rfl), ?_⟩
   refine gdC 10 { dst := some 20, op := _, type := _, pos := _, after := _, guard := _ } (pClone_R  lz1_4o10_5 wz1_4o4_6) rfl (by kernel_rfl) (pClone_ok N p0 A0 c0 _ hcz1_4o10_2 wz1_4o4_6 (Vw.of (hSz1_4o4_7.view hv0) hv0.nn)) ?_
   rintro _ wz1_4o10_3 ⟨Az1_4o10_6, cz1_4o10_7, rfl, hTz1_4o10_8⟩
   have hSz1_4o10_4 : St _ _ wz1_4o10_3 [poolE ftz1_4o1_13 Wz1_4o1_14, rowE .u8 5 Az1_4o8_5 cz1_4o8_6 lz1_4o8_1, rowE .i64 3 Az1_4o4_4 cz1_4o4_5 lz1_4o4_3, rowE .u8 26 Az1_4o10_6 cz1_4o10_7 lz1_4o10_5] := hSz1_4o4_7.take _ hTz1_4o10_8
   refine ⟨(hSz1_4o10_4.pick [] rfl rfl), ?_⟩
   refine gd1 11 { dst := some 21, op := _, type := _, pos := _, after := _, guard := _ } (.agg #[.pointer Az1_4o1_4, .int .i64 xz1_4o1_6, .int .i64 xz1_4o1_7, .int .i64 xz1_4o1_8, .slice A0 p0.length c0, .slice Az1_4o4_4 lz1_4o4_3.length cz1_4o4_5, .int .u8 p1, .slice Az1_4o8_5 lz1_4o8_1.length cz1_4o8_6, .slice Az1_4o10_6 lz1_4o10_5.length cz1_4o10_7]) rfl (hSz1_4o10_4.pick [] rfl rfl) (fun w hSw => by kernel_rfl) ?_
   refine gdR 12 { dst := some 22, op := _, type := _, pos := _, after := _, guard := _ } rfl (st_boxed [.pointer Az1_4o1_4, .int .i64 xz1_4o1_6, .int .i64 xz1_4o1_7, .int .i64 xz1_4o1_8, .slice A0 p0.length c0, .slice Az1_4o4_4 lz1_4o4_3.length cz1_4o4_5, .int .u8 p1, .slice Az1_4o8_5 lz1_4o8_1.length cz1_4o8_6, .slice Az1_4o10_6 lz1_4o10_5.length cz1_4o10_7] 84 hSz1_4o10_4 (by kernel_rfl)) ?_
   rintro _ wz1_4o12_1 ⟨rfl, hSz1_4o12_2⟩
   have hSz1_4o12_2 : St _ _ wz1_4o12_1 [poolE ftz1_4o1_13 Wz1_4o1_14, rowE .u8 5 Az1_4o8_5 cz1_4o8_6 lz1_4o8_1, rowE .i64 3 Az1_4o4_4 cz1_4o4_5 lz1_4o4_3, rowE .u8 26 Az1_4o10_6 cz1_4o10_7 lz1_4o10_5, boxE wz1_4o10_3.heap.size [.pointer Az1_4o1_4, .int .i64 xz1_4o1_6, .int .i64 xz1_4o1_7, .int .i64 xz1_4o1_8, .slice A0 p0.length c0, .slice Az1_4o4_4 lz1_4o4_3.length cz1_4o4_5, .int .u8 p1, .slice Az1_4o8_5 lz1_4o8_1.length cz1_4o8_6, .slice Az1_4o10_6 lz1_4o10_5.length cz1_4o10_7] 84] := hSz1_4o12_2
   refine ⟨(hSz1_4o12_2.pick [] rfl rfl), ?_⟩
   refine gd1 13 { dst := some 6, op := _, type := _, pos := _, after := _, guard := _ } (.pointer (some ⟨wz1_4o10_3.heap.size, 0, none⟩)) rfl (hSz1_4o12_2.pick [] rfl rfl) (fun w hSw => by kernel_rfl) ?_
   exact gd_meet (by kernel_rfl) (by kernel_rfl) (K412 (Az1_4o1_4, Az1_4o4_4, cz1_4o4_5, Az1_4o8_5, cz1_4o8_6, Az1_4o10_6, cz1_4o10_7, wz1_4o10_3.heap.size, ftz1_4o1_13, Wz1_4o1_14) _ ⟨hfz1_4o1_20, hTz1_4o1_16, (hSz1_4o12_2.pick [0, 2, 1, 3, 4] rfl rfl)⟩)

def pLevels (N : Nat) (p0 : List Int) (p1 : Int) : Option (List Int × List Int × Int × Int) :=
 (if ((p0.length : Nat) : Int) > 65536 then some ([], [], 0, 3) else (((if p1 > 2 then some (Ctl.ret ([], [], 0, 2)) else ((pHas N p0).bind fun b27 => (match b27 with | true => some (Ctl.ret ([], [], 0, 2)) | false => some (Ctl.go ())))) : Option (Ctl (Unit) (List Int × List Int × Int × Int))).bind fun | Ctl.go () => (((if p1 = 2 then ((pBase N p0).bind fun x47 => some (x47)) else some (p1)) : Option (Int)).bind fun x38 => ((pWalked N p0 x38).bind fun (l55, l58) => some (l55, l58, x38, 0))) | Ctl.ret r => some r))

set_option linter.unusedVariables false in
def pLevels_R (r : List Int × List Int × Int × Int) (w0 : World) (v : Value) (w : World) : Prop := ∃ (A0' : Option Addr) (c0' : Nat) (A1' : Option Addr) (c1' : Nat), v = .tuple #[.slice A0' r.1.length c0', .slice A1' r.2.1.length c1', .int .u8 r.2.2.1, .int .i64 r.2.2.2] ∧ St [] w0 w [rowE .u8 5 A0' c0' r.1, rowE .u8 26 A1' c1' r.2.1]

set_option maxRecDepth 100000 in
set_option maxHeartbeats 4000000 in
theorem pLevels_ok (N : Nat) (p0 : List Int) (p1 : Int) (A0 : Option Addr) (c0 : Nat) (r : List Int × List Int × Int × Int) (hF : pLevels N p0 p1 = some r) (w0 : World) (hv0 : Vw [] .u8 w0 A0 c0 p0) :
  Calls Try.prog 20 #[.slice A0 p0.length c0, .int .u8 p1] w0 fun e w => ∃ v, e = .returned v ∧ pLevels_R r w0 v w := by
 have hS0 := St.start w0
 unfold pLevels at hF
 refine calls_of Try.func20 rfl ⟨((.slice A0 p0.length c0) :: (.int .u8 p1) :: un 30 ([])).toArray, []⟩ (by kernel_rfl) ?_
 refine gx_seq (fun K1 hK2 => ?_)
 refine gx_region ?_
 refine gx_k (.slice none 0 0) w0 (gx_k (.slice none 0 0) w0 (gx_k (.int .u8 0) w0 (gx_k (.int .i64 0) w0 ?_)))
 refine gx_nil ?_
 refine gx_thenN ?_
 refine hK2 _ _ ?_
 refine gx_seq (fun K3 hK4 => ?_)
 refine gx_seq (fun K5 hK6 => ?_)
 refine gx_region ?_
 refine gx_k (.slice A0 p0.length c0) w0 (gx_k (.int .i64 ((p0.length : Nat) : Int)) w0 ?_)
 rcases if_in hF with ⟨h7, hF⟩ | ⟨h7, hF⟩
 ·refine gx_v (.bool true) w0 (run_boolE (decide_eq_true h7) (by kernel_rfl)) ?_
  refine gx_nil ?_
  refine gx_thenN ?_
  refine hK6 _ _ ?_
  refine gx_yes (by kernel_rfl) ?_
  refine gx_seq (fun K8 hK9 => ?_)
  refine gx_region ?_
  refine gx_k (.slice none 0 0) w0 (gx_k (.slice none 0 0) w0 (gx_k (.int .u8 0) w0 (gx_k (.int .i64 3) w0 ?_)))
  refine gx_nil ?_
  refine gx_thenN ?_
  refine hK9 _ _ ?_
  refine gx_ret ?_
  refine gx_thenR ?_
  have hS10 : St _ _ w0 [rowE .u8 5 none 0 ([])] := hS0.nilrow .u8 5
  have hS11 : St _ _ w0 [rowE .u8 5 none 0 ([]), rowE .u8 26 none 0 ([])] := hS10.nilrow .u8 26
  obtain rfl := Option.some.inj hF
  exact gx_fin (.tuple #[.slice none (([] : List Int).length) 0, .slice none (([] : List Int).length) 0, .int .u8 0, .int .i64 3]) (by kernel_rfl) (by kernel_rfl) ⟨_, rfl, none, 0, none, 0, rfl, hS11⟩
 ·refine gx_v (.bool false) w0 (run_boolE (decide_eq_false h7) (by kernel_rfl)) ?_
  refine gx_nil ?_
  refine gx_thenN ?_
  refine hK6 _ _ ?_
  refine gx_no (by kernel_rfl) ?_
  refine gx_pass ?_
  refine gx_thenN ?_
  refine hK4 _ _ ?_
  obtain ⟨c15, hE16, hO17⟩ := bind_in hF
  refine gx_cut (fun a w => selfA (fun u14 => ⟨((.slice A0 p0.length c0) :: (.int .u8 p1) :: undef :: undef :: dd u14 4 4 (undef :: undef :: (u14 10) :: (.int .i64 ((p0.length : Nat) : Int)) :: (.bool false) :: dd u14 13 6 (un 13 ([])))).toArray, []⟩) a ∧ Ctl.go () = c15 ∧ St [] w0 w []) ?_ ?_
  ·refine gx_seq (fun K18 hK19 => ?_)
   refine gx_region ?_
   refine gx_k (.int .u8 p1) w0 ?_
   rcases if_in hE16 with ⟨h20, hE16⟩ | ⟨h20, hE16⟩
   ·refine gx_v (.bool true) w0 (run_boolE (decide_eq_true h20) (by kernel_rfl)) ?_
    refine gx_k (.bool true) w0 (gx_o (gx_o (gx_k (.bool true) w0 ?_)))
    refine gx_nil ?_
    refine gx_thenN ?_
    refine hK19 _ _ ?_
    refine gx_yes (by kernel_rfl) ?_
    refine gx_seq (fun K21 hK22 => ?_)
    refine gx_region ?_
    refine gx_k (.slice none 0 0) w0 (gx_k (.slice none 0 0) w0 (gx_k (.int .u8 0) w0 (gx_k (.int .i64 2) w0 ?_)))
    refine gx_nil ?_
    refine gx_thenN ?_
    refine hK22 _ _ ?_
    refine gx_ret ?_
    refine gx_thenR ?_
    obtain rfl := Option.some.inj hE16
    try dsimp only at hO17
    have hS23 : St _ _ w0 [rowE .u8 5 none 0 ([])] := hS0.nilrow .u8 5
    have hS24 : St _ _ w0 [rowE .u8 5 none 0 ([]), rowE .u8 26 none 0 ([])] := hS23.nilrow .u8 26
    obtain rfl := Option.some.inj hO17
    exact gx_fin (.tuple #[.slice none (([] : List Int).length) 0, .slice none (([] : List Int).length) 0, .int .u8 0, .int .i64 2]) (by kernel_rfl) (by kernel_rfl) ⟨_, rfl, none, 0, none, 0, rfl, hS24⟩
   ·refine gx_v (.bool false) w0 (run_boolE (decide_eq_false h20) (by kernel_rfl)) ?_
    refine gx_k (.bool false) w0 (gx_k (.slice A0 p0.length c0) w0 ?_)
    have hP25 : St _ _ w0 ([] ++ []) := hS0
    obtain ⟨b27, hc26, hE16⟩ := bind_in hE16
    try dsimp only at hE16
    refine gx_c (pHas_R b27 w0) (pHas_ok N p0 A0 c0 _ hc26 w0 (hP25.vwA hv0)) ?_
    rintro _ w28 ⟨rfl, hT30⟩
    have hS29 : St _ _ w28 [] := hS0.take _ hT30
    refine gx_k (.bool b27) w28 ?_
    refine gx_nil ?_
    refine gx_thenN ?_
    refine hK19 _ _ ?_
    cases b27 with
    | true =>
     try dsimp only at hE16
     refine gx_yes (by kernel_rfl) ?_
     refine gx_seq (fun K31 hK32 => ?_)
     refine gx_region ?_
     refine gx_k (.slice none 0 0) w28 (gx_k (.slice none 0 0) w28 (gx_k (.int .u8 0) w28 (gx_k (.int .i64 2) w28 ?_)))
     refine gx_nil ?_
     refine gx_thenN ?_
     refine hK32 _ _ ?_
     refine gx_ret ?_
     refine gx_thenR ?_
     obtain rfl := Option.some.inj hE16
     try dsimp only at hO17
     have hS33 : St _ _ w28 [rowE .u8 5 none 0 ([])] := hS29.nilrow .u8 5
     have hS34 : St _ _ w28 [rowE .u8 5 none 0 ([]), rowE .u8 26 none 0 ([])] := hS33.nilrow .u8 26
     obtain rfl := Option.some.inj hO17
     exact gx_fin (.tuple #[.slice none (([] : List Int).length) 0, .slice none (([] : List Int).length) 0, .int .u8 0, .int .i64 2]) (by kernel_rfl) (by kernel_rfl) ⟨_, rfl, none, 0, none, 0, rfl, hS34⟩
    | false =>
     try dsimp only at hE16
     refine gx_no (by kernel_rfl) ?_
     refine gx_pass ?_
     refine gx_thenN ?_
     exact ⟨selfA_i (by kernel_rfl), (Option.some.inj hE16), hS29⟩
  ·rintro _ w12 ⟨hq67, rfl, hS13⟩
   obtain ⟨u14, rfl⟩ := selfA_u hq67
   try dsimp only at hO17
   obtain ⟨c39, hE40, hO41⟩ := bind_in hO17
   refine gx_cut (fun a w => ∃ (x38 : Int), selfA (fun u37 => ⟨((.slice A0 p0.length c0) :: (.int .u8 x38) :: undef :: undef :: dd u14 4 4 (undef :: undef :: (u14 10) :: (.int .i64 ((p0.length : Nat) : Int)) :: (.bool false) :: dd u14 13 6 (dd u37 19 4 (un 9 ([]))))).toArray, []⟩) a ∧ x38 = c39 ∧ St [] w0 w []) ?_ ?_
   ·refine gx_seq (fun K42 hK43 => ?_)
    refine gx_region ?_
    refine gx_k (.int .u8 p1) w12 ?_
    rcases if_in hE40 with ⟨h44, hE40⟩ | ⟨h44, hE40⟩
    ·refine gx_v (.bool true) w12 (run_boolE (decide_eq_true h44) (by kernel_rfl)) ?_
     refine gx_nil ?_
     refine gx_thenN ?_
     refine hK43 _ _ ?_
     refine gx_yes (by kernel_rfl) ?_
     refine gx_region ?_
     refine gx_k (.slice A0 p0.length c0) w12 ?_
     have hP45 : St _ _ w12 ([] ++ []) := hS13
     obtain ⟨x47, hc46, hE40⟩ := bind_in hE40
     try dsimp only at hE40
     refine gx_c (pBase_R x47 w12) (pBase_ok N p0 A0 c0 _ hc46 w12 (hP45.vwA hv0)) ?_
     rintro _ w48 ⟨rfl, hT50⟩
     have hS49 : St _ _ w48 [] := hS13.take _ hT50
     refine gx_k (.int .u8 x47) w48 ?_
     refine gx_nil ?_
     refine gx_thenN ?_
     exact ⟨x47, selfA_i (by kernel_rfl), (Option.some.inj hE40), hS49⟩
    ·refine gx_v (.bool false) w12 (run_boolE (decide_eq_false h44) (by kernel_rfl)) ?_
     refine gx_nil ?_
     refine gx_thenN ?_
     refine hK43 _ _ ?_
     refine gx_no (by kernel_rfl) ?_
     refine gx_pass ?_
     refine gx_thenN ?_
     exact ⟨p1, selfA_i (by kernel_rfl), (Option.some.inj hE40), hS13⟩
   ·rintro _ w35 ⟨x38, hq66, rfl, hS36⟩
    obtain ⟨u37, rfl⟩ := selfA_u hq66
    try dsimp only at hO41
    refine gx_seq (fun K51 hK52 => ?_)
    refine gx_region ?_
    refine gx_k (.slice A0 p0.length c0) w35 (gx_k (.int .u8 x38) w35 ?_)
    have hP53 : St _ _ w35 ([] ++ []) := hS36
    obtain ⟨⟨l55, l58⟩, hc54, hO41⟩ := bind_in hO41
    try dsimp only at hO41
    refine gx_c (pWalked_R (l55, l58) w35) (pWalked_ok N p0 x38 A0 c0 _ hc54 w35 (hP53.vwA hv0)) ?_
    rintro _ w61 ⟨A56, c57, A59, c60, rfl, hT63⟩
    have hS62 : St _ _ w61 [rowE .u8 5 A56 c57 l55, rowE .u8 26 A59 c60 l58] := hS36.take _ hT63
    refine gx_k (.tuple #[.slice A56 l55.length c57, .slice A59 l58.length c60]) w61 (gx_k (.slice A56 l55.length c57) w61 (gx_k (.slice A59 l58.length c60) w61 (gx_k (.slice A56 l55.length c57) w61 (gx_k (.slice A59 l58.length c60) w61 ?_))))
    refine gx_nil ?_
    refine gx_thenN ?_
    refine hK52 _ _ ?_
    refine gx_seq (fun K64 hK65 => ?_)
    refine gx_region ?_
    refine gx_k (.slice A56 l55.length c57) w61 (gx_k (.slice A59 l58.length c60) w61 (gx_k (.int .u8 x38) w61 (gx_k (.slice A56 l55.length c57) w61 (gx_k (.slice A59 l58.length c60) w61 (gx_k (.int .u8 x38) w61 (gx_k (.int .i64 0) w61 ?_))))))
    refine gx_nil ?_
    refine gx_thenN ?_
    refine hK65 _ _ ?_
    refine gx_ret ?_
    obtain rfl := Option.some.inj hO41
    exact gx_fin (.tuple #[.slice A56 l55.length c57, .slice A59 l58.length c60, .int .u8 x38, .int .i64 0]) (by kernel_rfl) (by kernel_rfl) ⟨_, rfl, A56, c57, A59, c60, rfl, hS62⟩

end Go.Proofs.Ytapfdafmhiilkaa
