/-
  ResolveWeak, walked.
-/
import Derived.Test.YtdpcaidhpccaiaaF0
namespace Go.Proofs.Ytdpcaidhpccaiaa
open Go Go.RowKit
set_option linter.unusedVariables false

def fWeak (N : Nat) (p0 : List Int) (p1 : Int) : Option (Bool) :=
 (if ((p0.length : Nat) : Int) > 3000 then ((kArabic N ).bind fun b12 => some b12) else ((kOwn N p0).bind fun l20 => ((pWeak N l20 p1).bind fun l30 => ((rWeak N p0 p1).bind fun l38 => ((kIs N l30 l38).bind fun b46 => (match b46 with | true => ((kIs N l20 p0).bind fun b52 => (match b52 with | true => ((kArabic N ).bind fun b58 => some b58) | false => some false)) | false => some false))))))

set_option linter.unusedVariables false in
def fWeak_R (r : Bool) (w0 : World) (v : Value) (w : World) : Prop := v = .bool r ∧ St [] w0 w []

set_option maxRecDepth 100000 in
set_option maxHeartbeats 4000000 in
theorem fWeak_ok (N : Nat) (p0 : List Int) (p1 : Int) (A0 : Option Addr) (c0 : Nat) (r : Bool) (hF : fWeak N p0 p1 = some r) (w0 : World) (hv0 : Vw [] .u8 w0 A0 c0 p0) :
  Calls Try.prog 3 #[.slice A0 p0.length c0, .int .u8 p1] w0 fun e w => ∃ v, e = .returned v ∧ fWeak_R r w0 v w := by
 have hS0 := St.start w0
 unfold fWeak at hF
 refine calls_of Try.func3 rfl ⟨((.slice A0 p0.length c0) :: (.int .u8 p1) :: un 25 ([])).toArray, []⟩ (by kernel_rfl) ?_
 refine gx_seq (fun K1 hK2 => ?_)
 refine gx_region ?_
 refine gx_k (.bool false) w0 ?_
 refine gx_nil ?_
 refine gx_thenN ?_
 refine hK2 _ _ ?_
 refine gx_seq (fun K3 hK4 => ?_)
 refine gx_seq (fun K5 hK6 => ?_)
 refine gx_region ?_
 refine gx_k (.slice A0 p0.length c0) w0 (gx_k (.int .i64 ((p0.length : Nat) : Int)) w0 ?_)
 rcases if_in hF with ⟨h7, hF⟩ | ⟨h7, hF⟩
 ·refine gx_v (.bool true) w0 (run_boolE (decide_eq_true h7) (by kernel_rfl)) ?_
  refine gx_nil ?_
  refine gx_thenN ?_
  refine hK6 _ _ ?_
  refine gx_yes (by kernel_rfl) ?_
  refine gx_seq (fun K8 hK9 => ?_)
  refine gx_region ?_
  have hP10 : St _ _ w0 ([] ++ []) := hS0
  obtain ⟨b12, hc11, hF⟩ := bind_in hF
  try dsimp only at hF
  refine gx_c (kArabic_R b12 w0) (kArabic_ok N  _ hc11 w0 ) ?_
  rintro _ w13 ⟨rfl, hT15⟩
  have hS14 : St _ _ w13 [] := hS0.take _ hT15
  refine gx_k (.bool b12) w13 ?_
  refine gx_nil ?_
  refine gx_thenN ?_
  refine hK9 _ _ ?_
  refine gx_ret ?_
  refine gx_thenR ?_
  obtain rfl := Option.some.inj hF
  exact gx_fin (.bool b12) (by kernel_rfl) (by kernel_rfl) ⟨_, rfl, rfl, hS14⟩
 ·refine gx_v (.bool false) w0 (run_boolE (decide_eq_false h7) (by kernel_rfl)) ?_
  refine gx_nil ?_
  refine gx_thenN ?_
  refine hK6 _ _ ?_
  refine gx_no (by kernel_rfl) ?_
  refine gx_pass ?_
  refine gx_thenN ?_
  refine hK4 _ _ ?_
  refine gx_seq (fun K16 hK17 => ?_)
  refine gx_region ?_
  refine gx_k (.slice A0 p0.length c0) w0 ?_
  have hP18 : St _ _ w0 ([] ++ []) := hS0
  obtain ⟨l20, hc19, hF⟩ := bind_in hF
  try dsimp only at hF
  refine gx_c (kOwn_R l20 w0) (kOwn_ok N p0 A0 c0 _ hc19 w0 (hP18.vwA hv0)) ?_
  rintro _ w23 ⟨A21, c22, rfl, hT25⟩
  have hS24 : St _ _ w23 [rowE .u8 23 A21 c22 l20] := hS0.take _ hT25
  refine gx_k (.slice A21 l20.length c22) w23 ?_
  refine gx_nil ?_
  refine gx_thenN ?_
  refine hK17 _ _ ?_
  refine gx_seq (fun K26 hK27 => ?_)
  refine gx_region ?_
  refine gx_k (.slice A21 l20.length c22) w23 (gx_k (.int .u8 p1) w23 ?_)
  have hP28 : St _ _ w23 ([] ++ [rowE .u8 23 A21 c22 l20]) := hS24
  obtain ⟨l30, hc29, hF⟩ := bind_in hF
  try dsimp only at hF
  refine gx_c (pWeak_R l30 w23) (pWeak_ok N l20 p1 A21 c22 _ hc29 w23 (hP28.vwB 0 rfl)) ?_
  rintro _ w33 ⟨A31, c32, rfl, hT35⟩
  have hS34 : St _ _ w33 [rowE .u8 23 A21 c22 l20, rowE .u8 23 A31 c32 l30] := hS24.take _ hT35
  refine gx_k (.slice A0 p0.length c0) w33 (gx_k (.int .u8 p1) w33 ?_)
  have hP36 : St _ _ w33 ([] ++ [rowE .u8 23 A21 c22 l20, rowE .u8 23 A31 c32 l30]) := hS34
  obtain ⟨l38, hc37, hF⟩ := bind_in hF
  try dsimp only at hF
  refine gx_c (rWeak_R l38 w33) (rWeak_ok N p0 p1 A0 c0 _ hc37 w33 (hP36.vwA hv0)) ?_
  rintro _ w41 ⟨A39, c40, rfl, hT43⟩
  have hS42 : St _ _ w41 [rowE .u8 23 A21 c22 l20, rowE .u8 23 A31 c32 l30, rowE .u8 23 A39 c40 l38] := hS34.take _ hT43
  have hP44 : St _ _ w41 ([] ++ [rowE .u8 23 A21 c22 l20, rowE .u8 23 A31 c32 l30, rowE .u8 23 A39 c40 l38]) := hS42
  obtain ⟨b46, hc45, hF⟩ := bind_in hF
  try dsimp only at hF
  refine gx_c (kIs_R b46 w41) (kIs_ok N l30 l38 A31 c32 A39 c40 _ hc45 w41 (hP44.vwB 1 rfl) (hP44.vwB 2 rfl)) ?_
  rintro _ w47 ⟨rfl, hT49⟩
  have hS48 : St _ _ w47 [rowE .u8 23 A21 c22 l20, rowE .u8 23 A31 c32 l30, rowE .u8 23 A39 c40 l38] := hS42.take _ hT49
  refine gx_k (.bool b46) w47 ?_
  cases b46 with
  | true =>
   try dsimp only at hF
   refine gx_k (.slice A21 l20.length c22) w47 (gx_k (.slice A0 p0.length c0) w47 ?_)
   have hP50 : St _ _ w47 ([] ++ [rowE .u8 23 A21 c22 l20, rowE .u8 23 A31 c32 l30, rowE .u8 23 A39 c40 l38]) := hS48
   obtain ⟨b52, hc51, hF⟩ := bind_in hF
   try dsimp only at hF
   refine gx_c (kIs_R b52 w47) (kIs_ok N l20 p0 A21 c22 A0 c0 _ hc51 w47 (hP50.vwB 0 rfl) (hP50.vwA hv0)) ?_
   rintro _ w53 ⟨rfl, hT55⟩
   have hS54 : St _ _ w53 [rowE .u8 23 A21 c22 l20, rowE .u8 23 A31 c32 l30, rowE .u8 23 A39 c40 l38] := hS48.take _ hT55
   refine gx_k (.bool b52) w53 (gx_k (.bool b52) w53 ?_)
   cases b52 with
   | true =>
    try dsimp only at hF
    have hP56 : St _ _ w53 ([] ++ [rowE .u8 23 A21 c22 l20, rowE .u8 23 A31 c32 l30, rowE .u8 23 A39 c40 l38]) := hS54
    obtain ⟨b58, hc57, hF⟩ := bind_in hF
    try dsimp only at hF
    refine gx_c (kArabic_R b58 w53) (kArabic_ok N  _ hc57 w53 ) ?_
    rintro _ w59 ⟨rfl, hT61⟩
    have hS60 : St _ _ w59 [rowE .u8 23 A21 c22 l20, rowE .u8 23 A31 c32 l30, rowE .u8 23 A39 c40 l38] := hS54.take _ hT61
    refine gx_k (.bool b58) w59 (gx_k (.bool b58) w59 ?_)
    refine gx_nil ?_
    refine gx_thenN ?_
    refine hK27 _ _ ?_
    refine gx_ret ?_
    obtain rfl := Option.some.inj hF
    exact gx_fin (.bool b58) (by kernel_rfl) (by kernel_rfl) ⟨_, rfl, rfl, (hS60.pick [] rfl rfl)⟩
   | false =>
    try dsimp only at hF
    refine gx_o (gx_k (.bool false) w53 (gx_k (.bool false) w53 ?_))
    refine gx_nil ?_
    refine gx_thenN ?_
    refine hK27 _ _ ?_
    refine gx_ret ?_
    obtain rfl := Option.some.inj hF
    exact gx_fin (.bool false) (by kernel_rfl) (by kernel_rfl) ⟨_, rfl, rfl, (hS54.pick [] rfl rfl)⟩
  | false =>
   try dsimp only at hF
   refine gx_o (gx_o (gx_o (gx_k (.bool false) w47 (gx_k (.bool false) w47 (gx_o (gx_k (.bool false) w47 (gx_k (.bool false) w47 ?_)))))))
   refine gx_nil ?_
   refine gx_thenN ?_
   refine hK27 _ _ ?_
   refine gx_ret ?_
   obtain rfl := Option.some.inj hF
   exact gx_fin (.bool false) (by kernel_rfl) (by kernel_rfl) ⟨_, rfl, rfl, (hS48.pick [] rfl rfl)⟩

end Go.Proofs.Ytdpcaidhpccaiaa
