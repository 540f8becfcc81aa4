/-
  ItemiseKnown, walked.
-/
import Derived.Test.YtkcmemldhbifdaaDoorFScripts
import Derived.Test.YtkcmemldhbifdaaDoorFRuns
import Derived.Test.YtkcmemldhbifdaaDoorFTiles
import Derived.Test.YtkcmemldhbifdaaDoorFParts
namespace Go.Proofs.YtkcmemldhbifdaaDoor
open Go Go.RowKit
set_option linter.unusedVariables false
def fKnown_L1 (N : Nat) : Nat → (List Int) → Int → Option (List Int)
 | 0, _, _ => none
 | k133+1, l131, x132 => (if x132 < 70 then ((apx l131 ([40, 97])).bind fun l144 => fKnown_L1 N k133 l144 (IntKind.i64.wrap (x132 + 1))) else some (l131))
def fKnown_L2 (N : Nat) : Nat → (List Int) → Int → Option (List Int)
 | 0, _, _ => none
 | k181+1, l179, x180 => (if x180 < 70 then ((apx l179 ([41, 49])).bind fun l192 => fKnown_L2 N k181 l192 (IntKind.i64.wrap (x180 + 1))) else some (l179))
def fKnown_L3 (N : Nat) (l168 : List Int) : Nat → (List Int) → Int → Option (List Int)
 | 0, _, _ => none
 | k221+1, l219, x220 => (if x220 < ((l168.length : Nat) : Int) then ((apx l219 ([(IntKind.u8.wrap (Int.tmod (IntKind.i64.wrap (Int.tdiv x220 3)) 2))])).bind fun l232 => fKnown_L3 N l168 k221 l232 (IntKind.i64.wrap (x220 + 1))) else some (l219))
def fKnown (N : Nat) : Option (Bool) :=
 ((((((kScripts N (⟨#[97, 32, 215, 144, 33, 216, 168]⟩ : ByteArray) (⟨#[50, 50, 51, 51, 52]⟩ : ByteArray)).bind fun b20 => (match b20 with | true => ((kScripts N (⟨#[49, 97, 40, 215, 144, 41, 204, 129]⟩ : ByteArray) (⟨#[50, 50, 50, 51, 50, 50]⟩ : ByteArray)).bind fun b26 => some (b26)) | false => some (false))) : Option (Bool)).bind fun b13 => (((match b13 with | true => ((kScripts N (⟨#[33, 63]⟩ : ByteArray) (⟨#[48, 48]⟩ : ByteArray)).bind fun b40 => some (b40)) | false => some (false)) : Option (Bool)).bind fun b33 => (((match b33 with | true => ((kScripts N (⟨#[97, 226, 128, 169, 33, 215, 144]⟩ : ByteArray) (⟨#[50, 50, 51, 51]⟩ : ByteArray)).bind fun b54 => some (b54)) | false => some (false)) : Option (Bool)).bind fun b47 => (((match b47 with | true => ((kScripts N (⟨#[40, 215, 144, 41, 33, 97]⟩ : ByteArray) (⟨#[51, 51, 51, 51, 50]⟩ : ByteArray)).bind fun b68 => some (b68)) | false => some (false)) : Option (Bool)).bind fun b61 => (((match b61 with | true => ((kScripts N (⟨#[97, 40, 215, 144, 91, 98, 41, 93, 33]⟩ : ByteArray) (⟨#[50, 50, 51, 51, 50, 50, 50, 50]⟩ : ByteArray)).bind fun b82 => some (b82)) | false => some (false)) : Option (Bool)).bind fun b75 => (((match b75 with | true => ((kScripts N (⟨#[]⟩ : ByteArray) (⟨#[]⟩ : ByteArray)).bind fun b96 => some (b96)) | false => some (false)) : Option (Bool)).bind fun b89 => (match b89 with | true => ((kScripts N (⟨#[41, 97]⟩ : ByteArray) (⟨#[50, 50]⟩ : ByteArray)).bind fun b102 => (match b102 with | true => ((kScripts N (⟨#[204, 129, 215, 144]⟩ : ByteArray) (⟨#[51, 51]⟩ : ByteArray)).bind fun b108 => some (b108)) | false => some (false))) | false => some (false)))))))) : Option (Bool)).bind fun b6 => ((fKnown_L1 N N ([]) 0 : Option (List Int)).bind fun l119 => ((apx l119 ([1488])).bind fun l156 => ((fKnown_L2 N N l156 0 : Option (List Int)).bind fun l168 => ((fKnown_L3 N l168 N ([]) 0 : Option (List Int)).bind fun l207 => ((((((fScripts N l168).bind fun b257 => (match b257 with | true => ((fRuns N l168 l207).bind fun b263 => some (b263)) | false => some (false))) : Option (Bool)).bind fun b250 => (((match b250 with | true => ((fTiles N l168 l207).bind fun b277 => some (b277)) | false => some (false)) : Option (Bool)).bind fun b270 => (match b270 with | true => ((cutx l207 (1 : Int) ((l207.length : Nat) : Int)).bind fun l281 => ((fRuns N l168 l281).bind fun b289 => (match b289 with | true => ((fRuns N ([]) ([])).bind fun b297 => some (b297)) | false => some (false)))) | false => some (false)))) : Option (Bool)).bind fun b243 => ((mkx (65537 : Int)).bind fun lz18_302o0_1 => ((mkx (65537 : Int)).bind fun lz18_302o1_1 => ((pRuns N lz18_302o0_1 lz18_302o1_1).bind fun (_lz18_302o2_3, xz18_302o2_8) => ((mkx (2 : Int)).bind fun l310 => ((pRuns N l310 ([])).bind fun (_l319, x324) => ((mkx (65536 : Int)).bind fun lz20_338o0_1 => ((mkx (65536 : Int)).bind fun lz20_338o1_1 => ((pRuns N lz20_338o0_1 lz20_338o1_1).bind fun (_lz20_338o2_3, xz20_338o2_8) => (((match b6 with | true => some (b243) | false => some (false)) : Option (Bool)).bind fun b349 => (((match b349 with | true => (if xz18_302o2_8 = 3 then some (true) else some (false)) | false => some (false)) : Option (Bool)).bind fun b357 => (((match b357 with | true => (if x324 = 2 then some (true) else some (false)) | false => some (false)) : Option (Bool)).bind fun b366 => (match b366 with | true => (if xz20_338o2_8 = 0 then ((kWorks N ).bind fun b375 => some b375) else some false) | false => some false))))))))))))))))))
set_option linter.unusedVariables false in
def fKnown_R (r : Bool) (w0 : World) (v : Value) (w : World) : Prop := v = .bool r ∧ St [] w0 w []
set_option maxRecDepth 100000 in
set_option maxHeartbeats 4000000 in
theorem fKnown_ok (N : Nat)  (r : Bool) (hF : fKnown N = some r) (w0 : World) (hcd : MirB [] w0) :
  Calls Tryd.prog 7 #[] w0 fun e w => ∃ v, e = .returned v ∧ fKnown_R r w0 v w := by
 have hS0 := (St.start w0).pool0
 unfold fKnown at hF
 refine calls_of Tryd.func7 rfl ⟨(un 126 ([])).toArray, []⟩ (by as_aux_lemma => kernel_rfl) ?_
 refine gx_seq (fun K1 hK2 => ?_)
 refine gx_region ?_
 refine gx_kA (.bool false) w0 ?_
 refine gx_nil ?_
 refine gx_thenN ?_
 refine hK2 _ _ ?_
 obtain ⟨c7, hE8, hO9⟩ := bind_in hF
 refine gx_cut (fun a w => ∃ (b6 : Bool), selfA (fun u5 => ⟨((.bool false) :: (.bool b6) :: un 12 (dd u5 14 25 (un 87 ([])))).toArray, []⟩) a ∧ b6 = c7 ∧ St [] w0 w [poolE ([]) w0]) ?_ ?_
 ·refine gx_region ?_
  obtain ⟨c14, hE15, hO16⟩ := bind_in hE8
  refine gx_part (l1 := [_, _, _, _]) (fun a w => ∃ (b13 : Bool), selfA (fun u12 => ⟨((.bool false) :: un 13 (dd u12 14 3 ((.bool b13) :: un 108 ([])))).toArray, []⟩) a ∧ b13 = c14 ∧ St [] w0 w [poolE ([]) w0]) rfl ?_ ?_
  ·have hP18 : St _ _ w0 ([] ++ [poolE ([]) w0]) := hS0
   obtain ⟨b20, hc19, hE15⟩ := bind_in hE15
   try dsimp only at hE15
   refine gx_cA (kScripts_R b20 w0) (kScripts_ok N (⟨#[97, 32, 215, 144, 33, 216, 168]⟩ : ByteArray) (⟨#[50, 50, 51, 51, 52]⟩ : ByteArray) _ hc19 w0 (MirB.atL hcd hP18)) ?_
   rintro _ w21 ⟨rfl, hT23⟩
   have hS22 : St _ _ w21 [poolE ([]) w0] := hS0.take _ hT23
   refine gx_kA (.bool b20) w21 ?_
   cases b20 with
   | true =>
    try dsimp only at hE15
    have hP24 : St _ _ w21 ([] ++ [poolE ([]) w0]) := hS22
    obtain ⟨b26, hc25, hE15⟩ := bind_in hE15
    try dsimp only at hE15
    refine gx_cA (kScripts_R b26 w21) (kScripts_ok N (⟨#[49, 97, 40, 215, 144, 41, 204, 129]⟩ : ByteArray) (⟨#[50, 50, 50, 51, 50, 50]⟩ : ByteArray) _ hc25 w21 (MirB.atL hcd hP24)) ?_
    rintro _ w27 ⟨rfl, hT29⟩
    have hS28 : St _ _ w27 [poolE ([]) w0] := hS22.take _ hT29
    refine gx_kA (.bool b26) w27 ?_
    refine gx_nil ?_
    refine gx_thenN ?_
    exact ⟨b26, selfA_i (by as_aux_lemma => kernel_rfl), (Option.some.inj hE15), hS28⟩
   | false =>
    try dsimp only at hE15
    refine gx_oA (gx_kA (.bool false) w21 ?_)
    refine gx_nil ?_
    refine gx_thenN ?_
    exact ⟨false, selfA_i (by as_aux_lemma => kernel_rfl), (Option.some.inj hE15), hS22⟩
  ·rintro _ w10 ⟨b13, hq17, rfl, hS11⟩
   obtain ⟨u12, rfl⟩ := selfA_u hq17
   try dsimp only at hO16
   obtain ⟨c34, hE35, hO36⟩ := bind_in hO16
   refine gx_part (l1 := [_, _, _]) (fun a w => ∃ (b33 : Bool), selfA (fun u32 => ⟨((.bool false) :: un 13 (dd u12 14 3 ((.bool b13) :: dd u32 18 2 ((.bool b33) :: un 105 ([]))))).toArray, []⟩) a ∧ b33 = c34 ∧ St [] w0 w [poolE ([]) w0]) rfl ?_ ?_
   ·refine gx_kA (.bool b13) w10 ?_
    cases b13 with
    | true =>
     try dsimp only at hE35
     have hP38 : St _ _ w10 ([] ++ [poolE ([]) w0]) := hS11
     obtain ⟨b40, hc39, hE35⟩ := bind_in hE35
     try dsimp only at hE35
     refine gx_cA (kScripts_R b40 w10) (kScripts_ok N (⟨#[33, 63]⟩ : ByteArray) (⟨#[48, 48]⟩ : ByteArray) _ hc39 w10 (MirB.atL hcd hP38)) ?_
     rintro _ w41 ⟨rfl, hT43⟩
     have hS42 : St _ _ w41 [poolE ([]) w0] := hS11.take _ hT43
     refine gx_kA (.bool b40) w41 ?_
     refine gx_nil ?_
     refine gx_thenN ?_
     exact ⟨b40, selfA_i (by as_aux_lemma => kernel_rfl), (Option.some.inj hE35), hS42⟩
    | false =>
     try dsimp only at hE35
     refine gx_oA (gx_kA (.bool false) w10 ?_)
     refine gx_nil ?_
     refine gx_thenN ?_
     exact ⟨false, selfA_i (by as_aux_lemma => kernel_rfl), (Option.some.inj hE35), hS11⟩
   ·rintro _ w30 ⟨b33, hq37, rfl, hS31⟩
    obtain ⟨u32, rfl⟩ := selfA_u hq37
    try dsimp only at hO36
    obtain ⟨c48, hE49, hO50⟩ := bind_in hO36
    refine gx_part (l1 := [_, _, _]) (fun a w => ∃ (b47 : Bool), selfA (fun u46 => ⟨((.bool false) :: un 13 (dd u12 14 3 ((.bool b13) :: dd u32 18 2 ((.bool b33) :: dd u46 21 2 ((.bool b47) :: un 102 ([])))))).toArray, []⟩) a ∧ b47 = c48 ∧ St [] w0 w [poolE ([]) w0]) rfl ?_ ?_
    ·refine gx_kA (.bool b33) w30 ?_
     cases b33 with
     | true =>
      try dsimp only at hE49
      have hP52 : St _ _ w30 ([] ++ [poolE ([]) w0]) := hS31
      obtain ⟨b54, hc53, hE49⟩ := bind_in hE49
      try dsimp only at hE49
      refine gx_cA (kScripts_R b54 w30) (kScripts_ok N (⟨#[97, 226, 128, 169, 33, 215, 144]⟩ : ByteArray) (⟨#[50, 50, 51, 51]⟩ : ByteArray) _ hc53 w30 (MirB.atL hcd hP52)) ?_
      rintro _ w55 ⟨rfl, hT57⟩
      have hS56 : St _ _ w55 [poolE ([]) w0] := hS31.take _ hT57
      refine gx_kA (.bool b54) w55 ?_
      refine gx_nil ?_
      refine gx_thenN ?_
      exact ⟨b54, selfA_i (by as_aux_lemma => kernel_rfl), (Option.some.inj hE49), hS56⟩
     | false =>
      try dsimp only at hE49
      refine gx_oA (gx_kA (.bool false) w30 ?_)
      refine gx_nil ?_
      refine gx_thenN ?_
      exact ⟨false, selfA_i (by as_aux_lemma => kernel_rfl), (Option.some.inj hE49), hS31⟩
    ·rintro _ w44 ⟨b47, hq51, rfl, hS45⟩
     obtain ⟨u46, rfl⟩ := selfA_u hq51
     try dsimp only at hO50
     obtain ⟨c62, hE63, hO64⟩ := bind_in hO50
     refine gx_part (l1 := [_, _, _]) (fun a w => ∃ (b61 : Bool), selfA (fun u60 => ⟨((.bool false) :: un 13 (dd u12 14 3 ((.bool b13) :: dd u32 18 2 ((.bool b33) :: dd u46 21 2 ((.bool b47) :: dd u60 24 2 ((.bool b61) :: un 99 ([]))))))).toArray, []⟩) a ∧ b61 = c62 ∧ St [] w0 w [poolE ([]) w0]) rfl ?_ ?_
     ·refine gx_kA (.bool b47) w44 ?_
      cases b47 with
      | true =>
       try dsimp only at hE63
       have hP66 : St _ _ w44 ([] ++ [poolE ([]) w0]) := hS45
       obtain ⟨b68, hc67, hE63⟩ := bind_in hE63
       try dsimp only at hE63
       refine gx_cA (kScripts_R b68 w44) (kScripts_ok N (⟨#[40, 215, 144, 41, 33, 97]⟩ : ByteArray) (⟨#[51, 51, 51, 51, 50]⟩ : ByteArray) _ hc67 w44 (MirB.atL hcd hP66)) ?_
       rintro _ w69 ⟨rfl, hT71⟩
       have hS70 : St _ _ w69 [poolE ([]) w0] := hS45.take _ hT71
       refine gx_kA (.bool b68) w69 ?_
       refine gx_nil ?_
       refine gx_thenN ?_
       exact ⟨b68, selfA_i (by as_aux_lemma => kernel_rfl), (Option.some.inj hE63), hS70⟩
      | false =>
       try dsimp only at hE63
       refine gx_oA (gx_kA (.bool false) w44 ?_)
       refine gx_nil ?_
       refine gx_thenN ?_
       exact ⟨false, selfA_i (by as_aux_lemma => kernel_rfl), (Option.some.inj hE63), hS45⟩
     ·rintro _ w58 ⟨b61, hq65, rfl, hS59⟩
      obtain ⟨u60, rfl⟩ := selfA_u hq65
      try dsimp only at hO64
      obtain ⟨c76, hE77, hO78⟩ := bind_in hO64
      refine gx_part (l1 := [_, _, _]) (fun a w => ∃ (b75 : Bool), selfA (fun u74 => ⟨((.bool false) :: un 13 (dd u12 14 3 ((.bool b13) :: dd u32 18 2 ((.bool b33) :: dd u46 21 2 ((.bool b47) :: dd u60 24 2 ((.bool b61) :: dd u74 27 2 ((.bool b75) :: un 96 ([])))))))).toArray, []⟩) a ∧ b75 = c76 ∧ St [] w0 w [poolE ([]) w0]) rfl ?_ ?_
      ·refine gx_kA (.bool b61) w58 ?_
       cases b61 with
       | true =>
        try dsimp only at hE77
        have hP80 : St _ _ w58 ([] ++ [poolE ([]) w0]) := hS59
        obtain ⟨b82, hc81, hE77⟩ := bind_in hE77
        try dsimp only at hE77
        refine gx_cA (kScripts_R b82 w58) (kScripts_ok N (⟨#[97, 40, 215, 144, 91, 98, 41, 93, 33]⟩ : ByteArray) (⟨#[50, 50, 51, 51, 50, 50, 50, 50]⟩ : ByteArray) _ hc81 w58 (MirB.atL hcd hP80)) ?_
        rintro _ w83 ⟨rfl, hT85⟩
        have hS84 : St _ _ w83 [poolE ([]) w0] := hS59.take _ hT85
        refine gx_kA (.bool b82) w83 ?_
        refine gx_nil ?_
        refine gx_thenN ?_
        exact ⟨b82, selfA_i (by as_aux_lemma => kernel_rfl), (Option.some.inj hE77), hS84⟩
       | false =>
        try dsimp only at hE77
        refine gx_oA (gx_kA (.bool false) w58 ?_)
        refine gx_nil ?_
        refine gx_thenN ?_
        exact ⟨false, selfA_i (by as_aux_lemma => kernel_rfl), (Option.some.inj hE77), hS59⟩
      ·rintro _ w72 ⟨b75, hq79, rfl, hS73⟩
       obtain ⟨u74, rfl⟩ := selfA_u hq79
       try dsimp only at hO78
       obtain ⟨c90, hE91, hO92⟩ := bind_in hO78
       refine gx_part (l1 := [_, _, _]) (fun a w => ∃ (b89 : Bool), selfA (fun u88 => ⟨((.bool false) :: un 13 (dd u12 14 3 ((.bool b13) :: dd u32 18 2 ((.bool b33) :: dd u46 21 2 ((.bool b47) :: dd u60 24 2 ((.bool b61) :: dd u74 27 2 ((.bool b75) :: dd u88 30 2 ((.bool b89) :: un 93 ([]))))))))).toArray, []⟩) a ∧ b89 = c90 ∧ St [] w0 w [poolE ([]) w0]) rfl ?_ ?_
       ·refine gx_kA (.bool b75) w72 ?_
        cases b75 with
        | true =>
         try dsimp only at hE91
         have hP94 : St _ _ w72 ([] ++ [poolE ([]) w0]) := hS73
         obtain ⟨b96, hc95, hE91⟩ := bind_in hE91
         try dsimp only at hE91
         refine gx_cA (kScripts_R b96 w72) (kScripts_ok N (⟨#[]⟩ : ByteArray) (⟨#[]⟩ : ByteArray) _ hc95 w72 (MirB.atL hcd hP94)) ?_
         rintro _ w97 ⟨rfl, hT99⟩
         have hS98 : St _ _ w97 [poolE ([]) w0] := hS73.take _ hT99
         refine gx_kA (.bool b96) w97 ?_
         refine gx_nil ?_
         refine gx_thenN ?_
         exact ⟨b96, selfA_i (by as_aux_lemma => kernel_rfl), (Option.some.inj hE91), hS98⟩
        | false =>
         try dsimp only at hE91
         refine gx_oA (gx_kA (.bool false) w72 ?_)
         refine gx_nil ?_
         refine gx_thenN ?_
         exact ⟨false, selfA_i (by as_aux_lemma => kernel_rfl), (Option.some.inj hE91), hS73⟩
       ·rintro _ w86 ⟨b89, hq93, rfl, hS87⟩
        obtain ⟨u88, rfl⟩ := selfA_u hq93
        try dsimp only at hO92
        refine gx_kA (.bool b89) w86 ?_
        cases b89 with
        | true =>
         try dsimp only at hO92
         have hP100 : St _ _ w86 ([] ++ [poolE ([]) w0]) := hS87
         obtain ⟨b102, hc101, hO92⟩ := bind_in hO92
         try dsimp only at hO92
         refine gx_cA (kScripts_R b102 w86) (kScripts_ok N (⟨#[41, 97]⟩ : ByteArray) (⟨#[50, 50]⟩ : ByteArray) _ hc101 w86 (MirB.atL hcd hP100)) ?_
         rintro _ w103 ⟨rfl, hT105⟩
         have hS104 : St _ _ w103 [poolE ([]) w0] := hS87.take _ hT105
         refine gx_kA (.bool b102) w103 (gx_kA (.bool b102) w103 ?_)
         cases b102 with
         | true =>
          try dsimp only at hO92
          have hP106 : St _ _ w103 ([] ++ [poolE ([]) w0]) := hS104
          obtain ⟨b108, hc107, hO92⟩ := bind_in hO92
          try dsimp only at hO92
          refine gx_cA (kScripts_R b108 w103) (kScripts_ok N (⟨#[204, 129, 215, 144]⟩ : ByteArray) (⟨#[51, 51]⟩ : ByteArray) _ hc107 w103 (MirB.atL hcd hP106)) ?_
          rintro _ w109 ⟨rfl, hT111⟩
          have hS110 : St _ _ w109 [poolE ([]) w0] := hS104.take _ hT111
          refine gx_kA (.bool b108) w109 (gx_kA (.bool b108) w109 ?_)
          refine gx_nil ?_
          refine gx_thenN ?_
          exact ⟨b108, selfA_i (by as_aux_lemma => kernel_rfl), (Option.some.inj hO92), hS110⟩
         | false =>
          try dsimp only at hO92
          refine gx_oA (gx_kA (.bool false) w103 (gx_kA (.bool false) w103 ?_))
          refine gx_nil ?_
          refine gx_thenN ?_
          exact ⟨false, selfA_i (by as_aux_lemma => kernel_rfl), (Option.some.inj hO92), hS104⟩
        | false =>
         try dsimp only at hO92
         refine gx_oA (gx_kA (.bool false) w86 (gx_kA (.bool false) w86 (gx_oA (gx_kA (.bool false) w86 (gx_kA (.bool false) w86 ?_)))))
         refine gx_nil ?_
         refine gx_thenN ?_
         exact ⟨false, selfA_i (by as_aux_lemma => kernel_rfl), (Option.some.inj hO92), hS87⟩
 ·rintro _ w3 ⟨b6, hq385, rfl, hS4⟩
  obtain ⟨u5, rfl⟩ := selfA_u hq385
  try dsimp only at hO9
  refine gx_seq (fun K112 hK113 => ?_)
  refine gx_region ?_
  refine gx_kA (.slice none 0 0) w3 ?_
  refine gx_nil ?_
  refine gx_thenN ?_
  refine hK113 _ _ ?_
  obtain ⟨c120, hE121, hO122⟩ := bind_in hO9
  refine gx_cut (fun a w => ∃ (l119 : List Int) (A117 : Option Addr) (c118 : Nat), selfA (fun u116 => ⟨((.bool false) :: (.bool b6) :: (.slice A117 l119.length c118) :: (u116 3) :: un 10 (dd u5 14 25 (dd u116 39 7 (un 80 ([]))))).toArray, []⟩) a ∧ l119 = c120 ∧ St [] w0 w [poolE ([]) w0, rowE .i32 21 A117 c118 l119]) ?_ ?_
  ·refine gx_seq (fun K123 hK124 => ?_)
   refine gx_region ?_
   refine gx_kA (.int .i64 0) w3 ?_
   refine gx_nil ?_
   refine gx_thenN ?_
   refine hK124 _ _ ?_
   refine gx_block ?_
   have hS125 : St _ _ w3 [poolE ([]) w0, rowE .i32 21 none 0 ([])] := hS4.nilrow .i32 21
   refine gx_loop (fun k a w => ∃ (l131 : List Int) (x132 : Int) (A129 : Option Addr) (c130 : Nat), selfA (fun u128 => ⟨((.bool false) :: (.bool b6) :: (.slice A129 l131.length c130) :: (.int .i64 x132) :: un 10 (dd u5 14 25 (dd u128 39 7 (un 80 ([]))))).toArray, []⟩) a ∧ fKnown_L1 N k l131 x132 = some c120 ∧ St [] w0 w [poolE ([]) w0, rowE .i32 21 A129 c130 l131]) N ?_ ?_
   ·exact ⟨([]), 0, none, 0, selfA_i (by as_aux_lemma => kernel_rfl), hE121, hS125⟩
   ·rintro k133 _ w126 ⟨l131, x132, A129, c130, hq151, hL134, hS127⟩
    obtain ⟨u128, rfl⟩ := selfA_u hq151
    cases k133 with
    | zero => cases hL134
    | succ k133 =>
     first | rw [fKnown_L1] at hL134 | unfold fKnown_L1 at hL134
     refine gx_seq (fun K135 hK136 => ?_)
     refine gx_seq (fun K137 hK138 => ?_)
     refine gx_region ?_
     refine gx_kA (.int .i64 x132) w126 ?_
     rcases if_in hL134 with ⟨h139, hL134⟩ | ⟨h139, hL134⟩
     ·refine gx_vA (.bool true) w126 (run_boolE (decide_eq_true h139) (by as_aux_lemma => kernel_rfl)) ?_
      refine gx_nil ?_
      refine gx_thenN ?_
      refine hK138 _ _ ?_
      refine gx_yes (by as_aux_lemma => kernel_rfl) ?_
      refine gx_pass ?_
      refine gx_thenN ?_
      refine hK136 _ _ ?_
      refine gx_seq (fun K140 hK141 => ?_)
      refine gx_block ?_
      refine gx_region ?_
      refine gx_kA (.slice A129 l131.length c130) w126 ?_
      refine gx_rA (st_made .i32 21 [40, 97] hS127 (by show 2 ≤ 1000000000; decide) (by as_aux_lemma => kernel_rfl)) ?_
      rintro _ w142 ⟨rfl, hS143⟩
      have hS143 : St _ _ w142 [poolE ([]) w0, rowE .i32 21 A129 c130 l131, rowE .i32 21 (some ⟨w126.heap.size, 0, none⟩) 2 ([40, 97])] := hS143
      obtain ⟨l144, ha145, hL134⟩ := bind_in hL134
      obtain ⟨ha145, hq146⟩ := apx_in ha145
      refine gx_rA (st_append rfl (by as_aux_lemma => kernel_rfl) (by as_aux_lemma => kernel_rfl) hS143 1 rfl (hS143.row 2 rfl).1 (hS143.row 2 rfl).2 ha145 (by as_aux_lemma => kernel_rfl) (by as_aux_lemma => kernel_rfl)) ?_
      rintro _ w149 ⟨A147, c148, rfl, hS150⟩
      rw [← hq146] at hS150 ⊢
      have hS150 : St _ _ w149 [poolE ([]) w0, rowE .i32 21 A147 c148 l144, rowE .i32 21 (some ⟨w126.heap.size, 0, none⟩) 2 ([40, 97])] := hS150
      refine gx_kA (.slice A147 l144.length c148) w149 ?_
      refine gx_nil ?_
      refine gx_blkN ?_
      refine gx_thenN ?_
      refine hK141 _ _ ?_
      refine gx_region ?_
      refine gx_kA (.int .i64 x132) w149 (gx_kA (.int .i64 (IntKind.i64.wrap (x132 + 1))) w149 (gx_kA (.int .i64 (IntKind.i64.wrap (x132 + 1))) w149 ?_))
      refine gx_nil ?_
      refine gx_thenN ?_
      exact ⟨k133, Nat.lt_succ_self k133, l144, (IntKind.i64.wrap (x132 + 1)), A147, c148, selfA_i (by as_aux_lemma => kernel_rfl), hL134, (hS150.pick [0, 1] rfl rfl)⟩
     ·refine gx_vA (.bool false) w126 (run_boolE (decide_eq_false h139) (by as_aux_lemma => kernel_rfl)) ?_
      refine gx_nil ?_
      refine gx_thenN ?_
      refine hK138 _ _ ?_
      refine gx_no (by as_aux_lemma => kernel_rfl) ?_
      refine gx_exit ?_
      refine gx_thenE ?_
      refine gx_thenE ?_
      refine gx_blkE ?_
      refine gx_thenN ?_
      exact ⟨l131, A129, c130, selfA_i (by as_aux_lemma => kernel_rfl), (Option.some.inj hL134), hS127⟩
  ·rintro _ w114 ⟨l119, A117, c118, hq384, rfl, hS115⟩
   obtain ⟨u116, rfl⟩ := selfA_u hq384
   try dsimp only at hO122
   refine gx_seq (fun K152 hK153 => ?_)
   refine gx_region ?_
   refine gx_kA (.slice A117 l119.length c118) w114 ?_
   refine gx_rA (st_made .i32 21 [1488] hS115 (by show 1 ≤ 1000000000; decide) (by as_aux_lemma => kernel_rfl)) ?_
   rintro _ w154 ⟨rfl, hS155⟩
   have hS155 : St _ _ w154 [poolE ([]) w0, rowE .i32 21 A117 c118 l119, rowE .i32 21 (some ⟨w114.heap.size, 0, none⟩) 1 ([1488])] := hS155
   obtain ⟨l156, ha157, hO122⟩ := bind_in hO122
   obtain ⟨ha157, hq158⟩ := apx_in ha157
   refine gx_rA (st_append rfl (by as_aux_lemma => kernel_rfl) (by as_aux_lemma => kernel_rfl) hS155 1 rfl (hS155.row 2 rfl).1 (hS155.row 2 rfl).2 ha157 (by as_aux_lemma => kernel_rfl) (by as_aux_lemma => kernel_rfl)) ?_
   rintro _ w161 ⟨A159, c160, rfl, hS162⟩
   rw [← hq158] at hS162 ⊢
   have hS162 : St _ _ w161 [poolE ([]) w0, rowE .i32 21 A159 c160 l156, rowE .i32 21 (some ⟨w114.heap.size, 0, none⟩) 1 ([1488])] := hS162
   refine gx_kA (.slice A159 l156.length c160) w161 ?_
   refine gx_nil ?_
   refine gx_thenN ?_
   refine hK153 _ _ ?_
   obtain ⟨c169, hE170, hO171⟩ := bind_in hO122
   refine gx_cut (fun a w => ∃ (l168 : List Int) (A166 : Option Addr) (c167 : Nat), selfA (fun u165 => ⟨((.bool false) :: (.bool b6) :: (.slice A166 l168.length c167) :: (u116 3) :: (u165 4) :: un 9 (dd u5 14 25 (dd u116 39 7 (dd u165 46 10 (un 70 ([])))))).toArray, []⟩) a ∧ l168 = c169 ∧ St [] w0 w [poolE ([]) w0, rowE .i32 21 A166 c167 l168]) ?_ ?_
   ·refine gx_seq (fun K172 hK173 => ?_)
    refine gx_region ?_
    refine gx_kA (.int .i64 0) w161 ?_
    refine gx_nil ?_
    refine gx_thenN ?_
    refine hK173 _ _ ?_
    refine gx_block ?_
    refine gx_loop (fun k a w => ∃ (l179 : List Int) (x180 : Int) (A177 : Option Addr) (c178 : Nat), selfA (fun u176 => ⟨((.bool false) :: (.bool b6) :: (.slice A177 l179.length c178) :: (u116 3) :: (.int .i64 x180) :: un 9 (dd u5 14 25 (dd u116 39 7 (dd u176 46 10 (un 70 ([])))))).toArray, []⟩) a ∧ fKnown_L2 N k l179 x180 = some c169 ∧ St [] w0 w [poolE ([]) w0, rowE .i32 21 A177 c178 l179]) N ?_ ?_
    ·exact ⟨l156, 0, A159, c160, selfA_i (by as_aux_lemma => kernel_rfl), hE170, (hS162.pick [0, 1] rfl rfl)⟩
    ·rintro k181 _ w174 ⟨l179, x180, A177, c178, hq199, hL182, hS175⟩
     obtain ⟨u176, rfl⟩ := selfA_u hq199
     cases k181 with
     | zero => cases hL182
     | succ k181 =>
      first | rw [fKnown_L2] at hL182 | unfold fKnown_L2 at hL182
      refine gx_seq (fun K183 hK184 => ?_)
      refine gx_seq (fun K185 hK186 => ?_)
      refine gx_region ?_
      refine gx_kA (.int .i64 x180) w174 ?_
      rcases if_in hL182 with ⟨h187, hL182⟩ | ⟨h187, hL182⟩
      ·refine gx_vA (.bool true) w174 (run_boolE (decide_eq_true h187) (by as_aux_lemma => kernel_rfl)) ?_
       refine gx_nil ?_
       refine gx_thenN ?_
       refine hK186 _ _ ?_
       refine gx_yes (by as_aux_lemma => kernel_rfl) ?_
       refine gx_pass ?_
       refine gx_thenN ?_
       refine hK184 _ _ ?_
       refine gx_seq (fun K188 hK189 => ?_)
       refine gx_block ?_
       refine gx_region ?_
       refine gx_kA (.slice A177 l179.length c178) w174 ?_
       refine gx_rA (st_made .i32 21 [41, 49] hS175 (by show 2 ≤ 1000000000; decide) (by as_aux_lemma => kernel_rfl)) ?_
       rintro _ w190 ⟨rfl, hS191⟩
       have hS191 : St _ _ w190 [poolE ([]) w0, rowE .i32 21 A177 c178 l179, rowE .i32 21 (some ⟨w174.heap.size, 0, none⟩) 2 ([41, 49])] := hS191
       obtain ⟨l192, ha193, hL182⟩ := bind_in hL182
       obtain ⟨ha193, hq194⟩ := apx_in ha193
       refine gx_rA (st_append rfl (by as_aux_lemma => kernel_rfl) (by as_aux_lemma => kernel_rfl) hS191 1 rfl (hS191.row 2 rfl).1 (hS191.row 2 rfl).2 ha193 (by as_aux_lemma => kernel_rfl) (by as_aux_lemma => kernel_rfl)) ?_
       rintro _ w197 ⟨A195, c196, rfl, hS198⟩
       rw [← hq194] at hS198 ⊢
       have hS198 : St _ _ w197 [poolE ([]) w0, rowE .i32 21 A195 c196 l192, rowE .i32 21 (some ⟨w174.heap.size, 0, none⟩) 2 ([41, 49])] := hS198
       refine gx_kA (.slice A195 l192.length c196) w197 ?_
       refine gx_nil ?_
       refine gx_blkN ?_
       refine gx_thenN ?_
       refine hK189 _ _ ?_
       refine gx_region ?_
       refine gx_kA (.int .i64 x180) w197 (gx_kA (.int .i64 (IntKind.i64.wrap (x180 + 1))) w197 (gx_kA (.int .i64 (IntKind.i64.wrap (x180 + 1))) w197 ?_))
       refine gx_nil ?_
       refine gx_thenN ?_
       exact ⟨k181, Nat.lt_succ_self k181, l192, (IntKind.i64.wrap (x180 + 1)), A195, c196, selfA_i (by as_aux_lemma => kernel_rfl), hL182, (hS198.pick [0, 1] rfl rfl)⟩
      ·refine gx_vA (.bool false) w174 (run_boolE (decide_eq_false h187) (by as_aux_lemma => kernel_rfl)) ?_
       refine gx_nil ?_
       refine gx_thenN ?_
       refine hK186 _ _ ?_
       refine gx_no (by as_aux_lemma => kernel_rfl) ?_
       refine gx_exit ?_
       refine gx_thenE ?_
       refine gx_thenE ?_
       refine gx_blkE ?_
       refine gx_thenN ?_
       exact ⟨l179, A177, c178, selfA_i (by as_aux_lemma => kernel_rfl), (Option.some.inj hL182), hS175⟩
   ·rintro _ w163 ⟨l168, A166, c167, hq383, rfl, hS164⟩
    obtain ⟨u165, rfl⟩ := selfA_u hq383
    try dsimp only at hO171
    refine gx_seq (fun K200 hK201 => ?_)
    refine gx_region ?_
    refine gx_kA (.slice none 0 0) w163 ?_
    refine gx_nil ?_
    refine gx_thenN ?_
    refine hK201 _ _ ?_
    obtain ⟨c208, hE209, hO210⟩ := bind_in hO171
    refine gx_cut (fun a w => ∃ (l207 : List Int) (A205 : Option Addr) (c206 : Nat), selfA (fun u204 => ⟨((.bool false) :: (.bool b6) :: (.slice A166 l168.length c167) :: (u116 3) :: (u165 4) :: (.slice A205 l207.length c206) :: (u204 6) :: un 7 (dd u5 14 25 (dd u116 39 7 (dd u165 46 10 (dd u204 56 13 (un 57 ([]))))))).toArray, []⟩) a ∧ l207 = c208 ∧ St [] w0 w [poolE ([]) w0, rowE .i32 21 A166 c167 l168, rowE .u8 5 A205 c206 l207]) ?_ ?_
    ·refine gx_seq (fun K211 hK212 => ?_)
     refine gx_region ?_
     refine gx_kA (.int .i64 0) w163 ?_
     refine gx_nil ?_
     refine gx_thenN ?_
     refine hK212 _ _ ?_
     refine gx_block ?_
     have hS213 : St _ _ w163 [poolE ([]) w0, rowE .i32 21 A166 c167 l168, rowE .u8 5 none 0 ([])] := hS164.nilrow .u8 5
     refine gx_loop (fun k a w => ∃ (l219 : List Int) (x220 : Int) (A217 : Option Addr) (c218 : Nat), selfA (fun u216 => ⟨((.bool false) :: (.bool b6) :: (.slice A166 l168.length c167) :: (u116 3) :: (u165 4) :: (.slice A217 l219.length c218) :: (.int .i64 x220) :: un 7 (dd u5 14 25 (dd u116 39 7 (dd u165 46 10 (dd u216 56 13 (un 57 ([]))))))).toArray, []⟩) a ∧ fKnown_L3 N l168 k l219 x220 = some c208 ∧ St [] w0 w [poolE ([]) w0, rowE .i32 21 A166 c167 l168, rowE .u8 5 A217 c218 l219]) N ?_ ?_
     ·exact ⟨([]), 0, none, 0, selfA_i (by as_aux_lemma => kernel_rfl), hE209, hS213⟩
     ·rintro k221 _ w214 ⟨l219, x220, A217, c218, hq239, hL222, hS215⟩
      obtain ⟨u216, rfl⟩ := selfA_u hq239
      cases k221 with
      | zero => cases hL222
      | succ k221 =>
       first | rw [fKnown_L3] at hL222 | unfold fKnown_L3 at hL222
       refine gx_seq (fun K223 hK224 => ?_)
       refine gx_seq (fun K225 hK226 => ?_)
       refine gx_region ?_
       refine gx_kA (.int .i64 x220) w214 (gx_kA (.slice A166 l168.length c167) w214 (gx_kA (.int .i64 ((l168.length : Nat) : Int)) w214 ?_))
       rcases if_in hL222 with ⟨h227, hL222⟩ | ⟨h227, hL222⟩
       ·refine gx_vA (.bool true) w214 (run_boolE (decide_eq_true h227) (by as_aux_lemma => kernel_rfl)) ?_
        refine gx_nil ?_
        refine gx_thenN ?_
        refine hK226 _ _ ?_
        refine gx_yes (by as_aux_lemma => kernel_rfl) ?_
        refine gx_pass ?_
        refine gx_thenN ?_
        refine hK224 _ _ ?_
        refine gx_seq (fun K228 hK229 => ?_)
        refine gx_block ?_
        refine gx_region ?_
        refine gx_kA (.slice A217 l219.length c218) w214 (gx_kA (.int .i64 x220) w214 (gx_kA (.int .i64 (IntKind.i64.wrap (Int.tdiv x220 3))) w214 (gx_kA (.int .i64 (Int.tmod (IntKind.i64.wrap (Int.tdiv x220 3)) 2)) w214 (gx_kA (.int .u8 (IntKind.u8.wrap (Int.tmod (IntKind.i64.wrap (Int.tdiv x220 3)) 2))) w214 ?_))))
        refine gx_rA (st_made .u8 5 [(IntKind.u8.wrap (Int.tmod (IntKind.i64.wrap (Int.tdiv x220 3)) 2))] hS215 (by show 1 ≤ 1000000000; decide) (by as_aux_lemma => kernel_rfl)) ?_
        rintro _ w230 ⟨rfl, hS231⟩
        have hS231 : St _ _ w230 [poolE ([]) w0, rowE .i32 21 A166 c167 l168, rowE .u8 5 A217 c218 l219, rowE .u8 5 (some ⟨w214.heap.size, 0, none⟩) 1 ([(IntKind.u8.wrap (Int.tmod (IntKind.i64.wrap (Int.tdiv x220 3)) 2))])] := hS231
        obtain ⟨l232, ha233, hL222⟩ := bind_in hL222
        obtain ⟨ha233, hq234⟩ := apx_in ha233
        refine gx_rA (st_append rfl (by as_aux_lemma => kernel_rfl) (by as_aux_lemma => kernel_rfl) hS231 2 rfl (hS231.row 3 rfl).1 (hS231.row 3 rfl).2 ha233 (by as_aux_lemma => kernel_rfl) (by as_aux_lemma => kernel_rfl)) ?_
        rintro _ w237 ⟨A235, c236, rfl, hS238⟩
        rw [← hq234] at hS238 ⊢
        have hS238 : St _ _ w237 [poolE ([]) w0, rowE .i32 21 A166 c167 l168, rowE .u8 5 A235 c236 l232, rowE .u8 5 (some ⟨w214.heap.size, 0, none⟩) 1 ([(IntKind.u8.wrap (Int.tmod (IntKind.i64.wrap (Int.tdiv x220 3)) 2))])] := hS238
        refine gx_kA (.slice A235 l232.length c236) w237 ?_
        refine gx_nil ?_
        refine gx_blkN ?_
        refine gx_thenN ?_
        refine hK229 _ _ ?_
        refine gx_region ?_
        refine gx_kA (.int .i64 x220) w237 (gx_kA (.int .i64 (IntKind.i64.wrap (x220 + 1))) w237 (gx_kA (.int .i64 (IntKind.i64.wrap (x220 + 1))) w237 ?_))
        refine gx_nil ?_
        refine gx_thenN ?_
        exact ⟨k221, Nat.lt_succ_self k221, l232, (IntKind.i64.wrap (x220 + 1)), A235, c236, selfA_i (by as_aux_lemma => kernel_rfl), hL222, (hS238.pick [0, 1, 2] rfl rfl)⟩
       ·refine gx_vA (.bool false) w214 (run_boolE (decide_eq_false h227) (by as_aux_lemma => kernel_rfl)) ?_
        refine gx_nil ?_
        refine gx_thenN ?_
        refine hK226 _ _ ?_
        refine gx_no (by as_aux_lemma => kernel_rfl) ?_
        refine gx_exit ?_
        refine gx_thenE ?_
        refine gx_thenE ?_
        refine gx_blkE ?_
        refine gx_thenN ?_
        exact ⟨l219, A217, c218, selfA_i (by as_aux_lemma => kernel_rfl), (Option.some.inj hL222), hS215⟩
    ·rintro _ w202 ⟨l207, A205, c206, hq382, rfl, hS203⟩
     obtain ⟨u204, rfl⟩ := selfA_u hq382
     try dsimp only at hO210
     obtain ⟨c244, hE245, hO246⟩ := bind_in hO210
     refine gx_cut (fun a w => ∃ (b243 : Bool), selfA (fun u242 => ⟨((.bool false) :: (.bool b6) :: (u242 2) :: (u116 3) :: (u165 4) :: (u242 5) :: (u204 6) :: (.bool b243) :: un 6 (dd u5 14 25 (dd u116 39 7 (dd u165 46 10 (dd u204 56 13 (dd u242 69 21 (un 36 ([])))))))).toArray, []⟩) a ∧ b243 = c244 ∧ St [] w0 w [poolE ([]) w0]) ?_ ?_
     ·refine gx_region ?_
      refine gx_kA (.slice A166 l168.length c167) w202 ?_
      obtain ⟨c251, hE252, hO253⟩ := bind_in hE245
      refine gx_part (l1 := [_, _, _, _, _, _]) (fun a w => ∃ (b250 : Bool), selfA (fun u249 => ⟨((.bool false) :: (.bool b6) :: (.slice A166 l168.length c167) :: (u116 3) :: (u165 4) :: (.slice A205 l207.length c206) :: (u204 6) :: un 7 (dd u5 14 25 (dd u116 39 7 (dd u165 46 10 (dd u204 56 13 (dd u249 69 6 ((.bool b250) :: un 50 ([])))))))).toArray, []⟩) a ∧ b250 = c251 ∧ St [] w0 w [poolE ([]) w0, rowE .i32 21 A166 c167 l168, rowE .u8 5 A205 c206 l207]) rfl ?_ ?_
      ·have hP255 : St _ _ w202 ([] ++ [poolE ([]) w0, rowE .i32 21 A166 c167 l168, rowE .u8 5 A205 c206 l207]) := hS203
       obtain ⟨b257, hc256, hE252⟩ := bind_in hE252
       try dsimp only at hE252
       refine gx_cA (fScripts_R b257 w202) (fScripts_ok N l168 A166 c167 _ hc256 w202 (hP255.vwB 1 rfl) (MirB.atL hcd hP255)) ?_
       rintro _ w258 ⟨rfl, hT260⟩
       have hS259 : St _ _ w258 [poolE ([]) w0, rowE .i32 21 A166 c167 l168, rowE .u8 5 A205 c206 l207] := hS203.take _ hT260
       refine gx_kA (.bool b257) w258 ?_
       cases b257 with
       | true =>
        try dsimp only at hE252
        refine gx_kA (.slice A166 l168.length c167) w258 (gx_kA (.slice A205 l207.length c206) w258 ?_)
        have hP261 : St _ _ w258 ([] ++ [poolE ([]) w0, rowE .i32 21 A166 c167 l168, rowE .u8 5 A205 c206 l207]) := hS259
        obtain ⟨b263, hc262, hE252⟩ := bind_in hE252
        try dsimp only at hE252
        refine gx_cA (fRuns_R b263 w258) (fRuns_ok N l168 l207 A166 c167 A205 c206 _ hc262 w258 (hP261.vwB 1 rfl) (hP261.vwB 2 rfl) (MirB.atL hcd hP261)) ?_
        rintro _ w264 ⟨rfl, hT266⟩
        have hS265 : St _ _ w264 [poolE ([]) w0, rowE .i32 21 A166 c167 l168, rowE .u8 5 A205 c206 l207] := hS259.take _ hT266
        refine gx_kA (.bool b263) w264 ?_
        refine gx_nil ?_
        refine gx_thenN ?_
        exact ⟨b263, selfA_i (by as_aux_lemma => kernel_rfl), (Option.some.inj hE252), hS265⟩
       | false =>
        try dsimp only at hE252
        refine gx_oA (gx_oA (gx_oA (gx_kA (.bool false) w258 ?_)))
        refine gx_nil ?_
        refine gx_thenN ?_
        exact ⟨false, selfA_i (by as_aux_lemma => kernel_rfl), (Option.some.inj hE252), hS259⟩
      ·rintro _ w247 ⟨b250, hq254, rfl, hS248⟩
       obtain ⟨u249, rfl⟩ := selfA_u hq254
       try dsimp only at hO253
       obtain ⟨c271, hE272, hO273⟩ := bind_in hO253
       refine gx_part (l1 := [_, _, _, _, _]) (fun a w => ∃ (b270 : Bool), selfA (fun u269 => ⟨((.bool false) :: (.bool b6) :: (.slice A166 l168.length c167) :: (u116 3) :: (u165 4) :: (.slice A205 l207.length c206) :: (u204 6) :: un 7 (dd u5 14 25 (dd u116 39 7 (dd u165 46 10 (dd u204 56 13 (dd u249 69 6 ((.bool b250) :: dd u269 76 4 ((.bool b270) :: un 45 ([]))))))))).toArray, []⟩) a ∧ b270 = c271 ∧ St [] w0 w [poolE ([]) w0, rowE .i32 21 A166 c167 l168, rowE .u8 5 A205 c206 l207]) rfl ?_ ?_
       ·refine gx_kA (.bool b250) w247 ?_
        cases b250 with
        | true =>
         try dsimp only at hE272
         refine gx_kA (.slice A166 l168.length c167) w247 (gx_kA (.slice A205 l207.length c206) w247 ?_)
         have hP275 : St _ _ w247 ([] ++ [poolE ([]) w0, rowE .i32 21 A166 c167 l168, rowE .u8 5 A205 c206 l207]) := hS248
         obtain ⟨b277, hc276, hE272⟩ := bind_in hE272
         try dsimp only at hE272
         refine gx_cA (fTiles_R b277 w247) (fTiles_ok N l168 l207 A166 c167 A205 c206 _ hc276 w247 (hP275.vwB 1 rfl) (hP275.vwB 2 rfl) (MirB.atL hcd hP275)) ?_
         rintro _ w278 ⟨rfl, hT280⟩
         have hS279 : St _ _ w278 [poolE ([]) w0, rowE .i32 21 A166 c167 l168, rowE .u8 5 A205 c206 l207] := hS248.take _ hT280
         refine gx_kA (.bool b277) w278 ?_
         refine gx_nil ?_
         refine gx_thenN ?_
         exact ⟨b277, selfA_i (by as_aux_lemma => kernel_rfl), (Option.some.inj hE272), hS279⟩
        | false =>
         try dsimp only at hE272
         refine gx_oA (gx_oA (gx_oA (gx_kA (.bool false) w247 ?_)))
         refine gx_nil ?_
         refine gx_thenN ?_
         exact ⟨false, selfA_i (by as_aux_lemma => kernel_rfl), (Option.some.inj hE272), hS248⟩
       ·rintro _ w267 ⟨b270, hq274, rfl, hS268⟩
        obtain ⟨u269, rfl⟩ := selfA_u hq274
        try dsimp only at hO273
        refine gx_kA (.bool b270) w267 ?_
        cases b270 with
        | true =>
         try dsimp only at hO273
         refine gx_kA (.slice A166 l168.length c167) w267 (gx_kA (.slice A205 l207.length c206) w267 ?_)
         obtain ⟨l281, hx282, hO273⟩ := bind_in hO273
         obtain ⟨A283, c284, hA285⟩ := cut_is A205 (Int.toNat (1 : Int)) (Int.toNat ((l207.length : Nat) : Int)) c206
         rw [← cutx_len hx282] at hA285
         refine gx_vA (.slice A283 l281.length c284) w267 (run_cut (TE := 5) (n := l207.length) (l := Int.toNat (1 : Int)) (h := Int.toNat ((l207.length : Nat) : Int)) (some (.int .i64 1)) none rfl (by as_aux_lemma => kernel_rfl) (by as_aux_lemma => kernel_rfl) (by as_aux_lemma => kernel_rfl) (by as_aux_lemma => kernel_rfl) (fun _ => by kernel_rfl) (bnd_l (cutx_in hx282).1 (cutx_in hx282).2.1) hA285) ?_
         have hP287 : St _ _ w267 ([] ++ [poolE ([]) w0, rowE .i32 21 A166 c167 l168, rowE .u8 5 A205 c206 l207]) := hS268
         obtain ⟨b289, hc288, hO273⟩ := bind_in hO273
         try dsimp only at hO273
         refine gx_cA (fRuns_R b289 w267) (fRuns_ok N l168 l281 A166 c167 A283 c284 _ hc288 w267 (hP287.vwB 1 rfl) (Vw.of (num_cut (hS268.row 2 rfl).1 hx282 hA285) (cut_nn (hS268.row 2 rfl).2 hA285)) (MirB.atL hcd hP287)) ?_
         rintro _ w290 ⟨rfl, hT292⟩
         have hS291 : St _ _ w290 [poolE ([]) w0, rowE .i32 21 A166 c167 l168, rowE .u8 5 A205 c206 l207] := hS268.take _ hT292
         refine gx_kA (.bool b289) w290 (gx_kA (.bool b289) w290 ?_)
         cases b289 with
         | true =>
          try dsimp only at hO273
          have hS293 : St _ _ w290 [poolE ([]) w0, rowE .i32 21 A166 c167 l168, rowE .u8 5 A205 c206 l207, rowE .i32 21 none 0 ([])] := hS291.nilrow .i32 21
          have hS294 : St _ _ w290 [poolE ([]) w0, rowE .i32 21 A166 c167 l168, rowE .u8 5 A205 c206 l207, rowE .i32 21 none 0 ([]), rowE .u8 5 none 0 ([])] := hS293.nilrow .u8 5
          have hP295 : St _ _ w290 ([] ++ [poolE ([]) w0, rowE .i32 21 A166 c167 l168, rowE .u8 5 A205 c206 l207, rowE .i32 21 none 0 ([]), rowE .u8 5 none 0 ([])]) := hS294
          obtain ⟨b297, hc296, hO273⟩ := bind_in hO273
          try dsimp only at hO273
          refine gx_cA (fRuns_R b297 w290) (fRuns_ok N ([]) ([]) none 0 none 0 _ hc296 w290 (hP295.vwB 3 rfl) (hP295.vwB 4 rfl) (MirB.atL hcd hP295)) ?_
          rintro _ w298 ⟨rfl, hT300⟩
          have hS299 : St _ _ w298 [poolE ([]) w0, rowE .i32 21 A166 c167 l168, rowE .u8 5 A205 c206 l207, rowE .i32 21 none 0 ([]), rowE .u8 5 none 0 ([])] := hS294.take _ hT300
          refine gx_kA (.bool b297) w298 (gx_kA (.bool b297) w298 ?_)
          refine gx_nil ?_
          refine gx_thenN ?_
          exact ⟨b297, selfA_i (by as_aux_lemma => kernel_rfl), (Option.some.inj hO273), (hS299.pick [0] rfl rfl)⟩
         | false =>
          try dsimp only at hO273
          refine gx_oA (gx_kA (.bool false) w290 (gx_kA (.bool false) w290 ?_))
          refine gx_nil ?_
          refine gx_thenN ?_
          exact ⟨false, selfA_i (by as_aux_lemma => kernel_rfl), (Option.some.inj hO273), (hS291.pick [0] rfl rfl)⟩
        | false =>
         try dsimp only at hO273
         refine gx_oA (gx_oA (gx_oA (gx_oA (gx_kA (.bool false) w267 (gx_kA (.bool false) w267 (gx_oA (gx_kA (.bool false) w267 ?_)))))))
         refine gx_kA (.bool false) w267 ?_
         refine gx_nil ?_
         refine gx_thenN ?_
         exact ⟨false, selfA_i (by as_aux_lemma => kernel_rfl), (Option.some.inj hO273), (hS268.pick [0] rfl rfl)⟩
     ·rintro _ w240 ⟨b243, hq381, rfl, hS241⟩
      obtain ⟨u242, rfl⟩ := selfA_u hq381
      try dsimp only at hO246
      refine gx_seq (fun K301 hK302 => ?_)
      refine gd_start (fun w => St [] w0 w []) 8 #[false, false, false, false, false, false, false, false] (by as_aux_lemma => kernel_rfl) (by as_aux_lemma => kernel_rfl) ?_
      have hS305 := hS241.drew
      generalize w240.drew = w304 at hS305 ⊢
      obtain ⟨lz18_302o0_1, hmz18_302o0_2, hO246⟩ := bind_in hO246
      obtain ⟨lz18_302o1_1, hmz18_302o1_2, hO246⟩ := bind_in hO246
      obtain ⟨⟨lz18_302o2_3, xz18_302o2_8⟩, hcz18_302o2_2, hO246⟩ := bind_in hO246
      try dsimp only at hO246
      refine gd_share (X := (Option Addr) × Nat × (Option Addr) × Nat × (Option Addr) × Nat × (List Nat) × World × (List Value)) (fun ⟨Az18_302o0_5, cz18_302o0_6, Az18_302o1_5, cz18_302o1_6, Az18_302o2_4, cz18_302o2_5, ftz18_302o2_13, Wz18_302o2_14, vsz18_302o2_6⟩ => ⟨((.bool false) :: (.bool b6) :: (u242 2) :: (u116 3) :: (u165 4) :: (u242 5) :: (u204 6) :: (.bool b243) :: (.slice Az18_302o2_4 lz18_302o2_3.length cz18_302o2_5) :: (.int .i64 xz18_302o2_8) :: un 4 (dd u5 14 25 (dd u116 39 7 (dd u165 46 10 (dd u204 56 13 (dd u242 69 21 ((.tuple #[.slice Az18_302o2_4 lz18_302o2_3.length cz18_302o2_5, .int .i64 xz18_302o2_8]) :: (.slice Az18_302o0_5 lz18_302o0_1.length cz18_302o0_6) :: (.slice Az18_302o1_5 lz18_302o1_1.length cz18_302o1_6) :: (.tuple #[.slice Az18_302o2_4 lz18_302o2_3.length cz18_302o2_5, .int .i64 xz18_302o2_8]) :: (.slice Az18_302o2_4 lz18_302o2_3.length cz18_302o2_5) :: (.int .i64 xz18_302o2_8) :: un 30 ([])))))))).toArray, []⟩) (fun ⟨Az18_302o0_5, cz18_302o0_6, Az18_302o1_5, cz18_302o1_6, Az18_302o2_4, cz18_302o2_5, ftz18_302o2_13, Wz18_302o2_14, vsz18_302o2_6⟩ w => (fEach encitemiseRun vsz18_302o2_6 lz18_302o2_3).rd Wz18_302o2_14 ftz18_302o2_13 ∧ Turn [] w0 w0 ([]) Wz18_302o2_14 ftz18_302o2_13 ∧ St [] w0 w [poolE ftz18_302o2_13 Wz18_302o2_14, rowE .i32 21 Az18_302o0_5 cz18_302o0_6 lz18_302o0_1, rowE .u8 5 Az18_302o1_5 cz18_302o1_6 lz18_302o1_1, rowG 35 4 (.slice Az18_302o2_4 lz18_302o2_3.length cz18_302o2_5) lz18_302o2_3.length vsz18_302o2_6]) ?_ ?_
      ·rintro ⟨Az18_302o0_5, cz18_302o0_6, Az18_302o1_5, cz18_302o1_6, Az18_302o2_4, cz18_302o2_5, ftz18_302o2_13, Wz18_302o2_14, vsz18_302o2_6⟩ w306 ⟨hfz18_302o2_20, hTz18_302o2_16, hS307⟩
       have hS307 : St _ _ w306 [poolE ftz18_302o2_13 Wz18_302o2_14, rowE .i32 21 Az18_302o0_5 cz18_302o0_6 lz18_302o0_1, rowE .u8 5 Az18_302o1_5 cz18_302o1_6 lz18_302o1_1, rowG 35 4 (.slice Az18_302o2_4 lz18_302o2_3.length cz18_302o2_5) lz18_302o2_3.length vsz18_302o2_6] := hS307
       have hfz18_302o2_20 : (fEach encitemiseRun vsz18_302o2_6 lz18_302o2_3).rd Wz18_302o2_14 ftz18_302o2_13 := hfz18_302o2_20
       have hTz18_302o2_16 : Turn [] w0 w0 ([]) Wz18_302o2_14 ftz18_302o2_13 := hTz18_302o2_16
       show WQ _ _ ⟨((.bool false) :: (.bool b6) :: (u242 2) :: (u116 3) :: (u165 4) :: (u242 5) :: (u204 6) :: (.bool b243) :: (.slice Az18_302o2_4 lz18_302o2_3.length cz18_302o2_5) :: (.int .i64 xz18_302o2_8) :: un 4 (dd u5 14 25 (dd u116 39 7 (dd u165 46 10 (dd u204 56 13 (dd u242 69 21 ((.tuple #[.slice Az18_302o2_4 lz18_302o2_3.length cz18_302o2_5, .int .i64 xz18_302o2_8]) :: (.slice Az18_302o0_5 lz18_302o0_1.length cz18_302o0_6) :: (.slice Az18_302o1_5 lz18_302o1_1.length cz18_302o1_6) :: (.tuple #[.slice Az18_302o2_4 lz18_302o2_3.length cz18_302o2_5, .int .i64 xz18_302o2_8]) :: (.slice Az18_302o2_4 lz18_302o2_3.length cz18_302o2_5) :: (.int .i64 xz18_302o2_8) :: un 30 ([])))))))).toArray, []⟩ _
       refine gx_thenN ?_
       refine hK302 _ _ ?_
       refine gx_seq (fun K308 hK309 => ?_)
       refine gx_region ?_
       obtain ⟨l310, hm311, hO246⟩ := bind_in hO246
       refine gx_rA (st_make (T := 21) (k := .i32) (by_ := 4) rfl (by as_aux_lemma => kernel_rfl) (by as_aux_lemma => kernel_rfl) (by as_aux_lemma => kernel_rfl) (by as_aux_lemma => kernel_rfl) (by as_aux_lemma => kernel_rfl) hS307 hm311) ?_
       rintro _ w312 ⟨A314, c315, rfl, hS313⟩
       have hS313 : St _ _ w312 [poolE ftz18_302o2_13 Wz18_302o2_14, rowE .i32 21 Az18_302o0_5 cz18_302o0_6 lz18_302o0_1, rowE .u8 5 Az18_302o1_5 cz18_302o1_6 lz18_302o1_1, rowG 35 4 (.slice Az18_302o2_4 lz18_302o2_3.length cz18_302o2_5) lz18_302o2_3.length vsz18_302o2_6, rowE .i32 21 A314 c315 l310] := hS313
       have hS316 : St _ _ w312 [poolE ftz18_302o2_13 Wz18_302o2_14, rowE .i32 21 Az18_302o0_5 cz18_302o0_6 lz18_302o0_1, rowE .u8 5 Az18_302o1_5 cz18_302o1_6 lz18_302o1_1, rowG 35 4 (.slice Az18_302o2_4 lz18_302o2_3.length cz18_302o2_5) lz18_302o2_3.length vsz18_302o2_6, rowE .i32 21 A314 c315 l310, rowE .u8 5 none 0 ([])] := hS313.nilrow .u8 5
       have hP317 : St _ _ w312 ([] ++ [poolE ftz18_302o2_13 Wz18_302o2_14, rowE .i32 21 Az18_302o0_5 cz18_302o0_6 lz18_302o0_1, rowE .u8 5 Az18_302o1_5 cz18_302o1_6 lz18_302o1_1, rowG 35 4 (.slice Az18_302o2_4 lz18_302o2_3.length cz18_302o2_5) lz18_302o2_3.length vsz18_302o2_6, rowE .i32 21 A314 c315 l310, rowE .u8 5 none 0 ([])]) := hS316
       obtain ⟨⟨l319, x324⟩, hc318, hO246⟩ := bind_in hO246
       try dsimp only at hO246
       refine gx_cA (pRuns_R (l319, x324) w312) (pRuns_ok N l310 ([]) A314 c315 none 0 _ hc318 w312 (hP317.vwB 4 rfl) (hP317.vwB 5 rfl) (MirB.atL hcd hP317)) ?_
       rintro _ w326 ⟨A320, c321, vs322, ft325, rfl, hT328, hf323⟩
       have hS327 : St _ _ w326 [poolE ftz18_302o2_13 Wz18_302o2_14, rowE .i32 21 Az18_302o0_5 cz18_302o0_6 lz18_302o0_1, rowE .u8 5 Az18_302o1_5 cz18_302o1_6 lz18_302o1_1, rowG 35 4 (.slice Az18_302o2_4 lz18_302o2_3.length cz18_302o2_5) lz18_302o2_3.length vsz18_302o2_6, rowE .i32 21 A314 c315 l310, rowE .u8 5 none 0 ([]), rowG 35 4 (.slice A320 l319.length c321) l319.length vs322, poolE ft325 w326] := hS316.take _ hT328
       obtain ⟨ft329, W330, hS331, hT332, hU333⟩ := hS327.merge 7 0 rfl rfl (by decide)
       have hS331 : St _ _ w326 [poolE ft329 W330, rowE .i32 21 Az18_302o0_5 cz18_302o0_6 lz18_302o0_1, rowE .u8 5 Az18_302o1_5 cz18_302o1_6 lz18_302o1_1, rowG 35 4 (.slice Az18_302o2_4 lz18_302o2_3.length cz18_302o2_5) lz18_302o2_3.length vsz18_302o2_6, rowE .i32 21 A314 c315 l310, rowE .u8 5 none 0 ([]), rowG 35 4 (.slice A320 l319.length c321) l319.length vs322] := hS331
       have hT332 : Turn [] w0 Wz18_302o2_14 ftz18_302o2_13 W330 ft329 := hT332
       have hf336 : (fEach encitemiseRun vs322 l319).rd W330 ft329 := hU333 _ hf323
       refine gx_kA (.tuple #[.slice A320 l319.length c321, .int .i64 x324]) w326 (gx_kA (.slice A320 l319.length c321) w326 (gx_kA (.int .i64 x324) w326 (gx_kA (.slice A320 l319.length c321) w326 (gx_kA (.int .i64 x324) w326 ?_))))
       refine gx_nil ?_
       refine gx_thenN ?_
       refine hK309 _ _ ?_
       refine gx_seq (fun K337 hK338 => ?_)
       refine gd_start (fun w => St [] w0 w [rowE .i32 21 Az18_302o0_5 cz18_302o0_6 lz18_302o0_1, rowE .u8 5 Az18_302o1_5 cz18_302o1_6 lz18_302o1_1, rowG 35 4 (.slice Az18_302o2_4 lz18_302o2_3.length cz18_302o2_5) lz18_302o2_3.length vsz18_302o2_6, rowE .i32 21 A314 c315 l310, rowE .u8 5 none 0 ([]), rowG 35 4 (.slice A320 l319.length c321) l319.length vs322]) 8 #[false, false, false, false, false, false, false, false] (by as_aux_lemma => kernel_rfl) (by as_aux_lemma => kernel_rfl) ?_
       have hS341 := hS331.drew
       generalize w326.drew = w340 at hS341 ⊢
       obtain ⟨lz20_338o0_1, hmz20_338o0_2, hO246⟩ := bind_in hO246
       obtain ⟨lz20_338o1_1, hmz20_338o1_2, hO246⟩ := bind_in hO246
       obtain ⟨⟨lz20_338o2_3, xz20_338o2_8⟩, hcz20_338o2_2, hO246⟩ := bind_in hO246
       try dsimp only at hO246
       refine gd_share (X := (Option Addr) × Nat × (Option Addr) × Nat × (Option Addr) × Nat × (List Nat) × World × (List Value)) (fun ⟨Az20_338o0_5, cz20_338o0_6, Az20_338o1_5, cz20_338o1_6, Az20_338o2_4, cz20_338o2_5, ftz20_338o2_13, Wz20_338o2_14, vsz20_338o2_6⟩ => ⟨((.bool false) :: (.bool b6) :: (u242 2) :: (u116 3) :: (u165 4) :: (u242 5) :: (u204 6) :: (.bool b243) :: (.slice Az18_302o2_4 lz18_302o2_3.length cz18_302o2_5) :: (.int .i64 xz18_302o2_8) :: (.slice A320 l319.length c321) :: (.int .i64 x324) :: (.slice Az20_338o2_4 lz20_338o2_3.length cz20_338o2_5) :: (.int .i64 xz20_338o2_8) :: dd u5 14 25 (dd u116 39 7 (dd u165 46 10 (dd u204 56 13 (dd u242 69 21 ((.tuple #[.slice Az18_302o2_4 lz18_302o2_3.length cz18_302o2_5, .int .i64 xz18_302o2_8]) :: (.slice Az18_302o0_5 lz18_302o0_1.length cz18_302o0_6) :: (.slice Az18_302o1_5 lz18_302o1_1.length cz18_302o1_6) :: (.tuple #[.slice Az18_302o2_4 lz18_302o2_3.length cz18_302o2_5, .int .i64 xz18_302o2_8]) :: (.slice Az18_302o2_4 lz18_302o2_3.length cz18_302o2_5) :: (.int .i64 xz18_302o2_8) :: (.tuple #[.slice A320 l319.length c321, .int .i64 x324]) :: (.slice A314 l310.length c315) :: (.tuple #[.slice A320 l319.length c321, .int .i64 x324]) :: (.slice A320 l319.length c321) :: (.int .i64 x324) :: (.tuple #[.slice Az20_338o2_4 lz20_338o2_3.length cz20_338o2_5, .int .i64 xz20_338o2_8]) :: (.slice Az20_338o0_5 lz20_338o0_1.length cz20_338o0_6) :: (.slice Az20_338o1_5 lz20_338o1_1.length cz20_338o1_6) :: (.tuple #[.slice Az20_338o2_4 lz20_338o2_3.length cz20_338o2_5, .int .i64 xz20_338o2_8]) :: (.slice Az20_338o2_4 lz20_338o2_3.length cz20_338o2_5) :: (.int .i64 xz20_338o2_8) :: un 19 ([]))))))).toArray, []⟩) (fun ⟨Az20_338o0_5, cz20_338o0_6, Az20_338o1_5, cz20_338o1_6, Az20_338o2_4, cz20_338o2_5, ftz20_338o2_13, Wz20_338o2_14, vsz20_338o2_6⟩ w => (fEach encitemiseRun vsz20_338o2_6 lz20_338o2_3).rd Wz20_338o2_14 ftz20_338o2_13 ∧ Turn [] w0 W330 ft329 Wz20_338o2_14 ftz20_338o2_13 ∧ St [] w0 w [poolE ftz20_338o2_13 Wz20_338o2_14, rowE .i32 21 Az18_302o0_5 cz18_302o0_6 lz18_302o0_1, rowE .u8 5 Az18_302o1_5 cz18_302o1_6 lz18_302o1_1, rowG 35 4 (.slice Az18_302o2_4 lz18_302o2_3.length cz18_302o2_5) lz18_302o2_3.length vsz18_302o2_6, rowE .i32 21 A314 c315 l310, rowE .u8 5 none 0 ([]), rowG 35 4 (.slice A320 l319.length c321) l319.length vs322, rowE .i32 21 Az20_338o0_5 cz20_338o0_6 lz20_338o0_1, rowE .u8 5 Az20_338o1_5 cz20_338o1_6 lz20_338o1_1, rowG 35 4 (.slice Az20_338o2_4 lz20_338o2_3.length cz20_338o2_5) lz20_338o2_3.length vsz20_338o2_6]) ?_ ?_
       ·rintro ⟨Az20_338o0_5, cz20_338o0_6, Az20_338o1_5, cz20_338o1_6, Az20_338o2_4, cz20_338o2_5, ftz20_338o2_13, Wz20_338o2_14, vsz20_338o2_6⟩ w342 ⟨hfz20_338o2_20, hTz20_338o2_16, hS343⟩
        have hS343 : St _ _ w342 [poolE ftz20_338o2_13 Wz20_338o2_14, rowE .i32 21 Az18_302o0_5 cz18_302o0_6 lz18_302o0_1, rowE .u8 5 Az18_302o1_5 cz18_302o1_6 lz18_302o1_1, rowG 35 4 (.slice Az18_302o2_4 lz18_302o2_3.length cz18_302o2_5) lz18_302o2_3.length vsz18_302o2_6, rowE .i32 21 A314 c315 l310, rowE .u8 5 none 0 ([]), rowG 35 4 (.slice A320 l319.length c321) l319.length vs322, rowE .i32 21 Az20_338o0_5 cz20_338o0_6 lz20_338o0_1, rowE .u8 5 Az20_338o1_5 cz20_338o1_6 lz20_338o1_1, rowG 35 4 (.slice Az20_338o2_4 lz20_338o2_3.length cz20_338o2_5) lz20_338o2_3.length vsz20_338o2_6] := hS343
        have hfz20_338o2_20 : (fEach encitemiseRun vsz20_338o2_6 lz20_338o2_3).rd Wz20_338o2_14 ftz20_338o2_13 := hfz20_338o2_20
        have hTz20_338o2_16 : Turn [] w0 W330 ft329 Wz20_338o2_14 ftz20_338o2_13 := hTz20_338o2_16
        show WQ _ _ ⟨((.bool false) :: (.bool b6) :: (u242 2) :: (u116 3) :: (u165 4) :: (u242 5) :: (u204 6) :: (.bool b243) :: (.slice Az18_302o2_4 lz18_302o2_3.length cz18_302o2_5) :: (.int .i64 xz18_302o2_8) :: (.slice A320 l319.length c321) :: (.int .i64 x324) :: (.slice Az20_338o2_4 lz20_338o2_3.length cz20_338o2_5) :: (.int .i64 xz20_338o2_8) :: dd u5 14 25 (dd u116 39 7 (dd u165 46 10 (dd u204 56 13 (dd u242 69 21 ((.tuple #[.slice Az18_302o2_4 lz18_302o2_3.length cz18_302o2_5, .int .i64 xz18_302o2_8]) :: (.slice Az18_302o0_5 lz18_302o0_1.length cz18_302o0_6) :: (.slice Az18_302o1_5 lz18_302o1_1.length cz18_302o1_6) :: (.tuple #[.slice Az18_302o2_4 lz18_302o2_3.length cz18_302o2_5, .int .i64 xz18_302o2_8]) :: (.slice Az18_302o2_4 lz18_302o2_3.length cz18_302o2_5) :: (.int .i64 xz18_302o2_8) :: (.tuple #[.slice A320 l319.length c321, .int .i64 x324]) :: (.slice A314 l310.length c315) :: (.tuple #[.slice A320 l319.length c321, .int .i64 x324]) :: (.slice A320 l319.length c321) :: (.int .i64 x324) :: (.tuple #[.slice Az20_338o2_4 lz20_338o2_3.length cz20_338o2_5, .int .i64 xz20_338o2_8]) :: (.slice Az20_338o0_5 lz20_338o0_1.length cz20_338o0_6) :: (.slice Az20_338o1_5 lz20_338o1_1.length cz20_338o1_6) :: (.tuple #[.slice Az20_338o2_4 lz20_338o2_3.length cz20_338o2_5, .int .i64 xz20_338o2_8]) :: (.slice Az20_338o2_4 lz20_338o2_3.length cz20_338o2_5) :: (.int .i64 xz20_338o2_8) :: un 19 ([]))))))).toArray, []⟩ _
        refine gx_thenN ?_
        refine hK338 _ _ ?_
        refine gx_seq (fun K344 hK345 => ?_)
        refine gx_region ?_
        obtain ⟨c350, hE351, hO352⟩ := bind_in hO246
        refine gx_part (l1 := [_, _, _, _]) (fun a w => ∃ (b349 : Bool), selfA (fun u348 => ⟨((.bool false) :: (.bool b6) :: (u242 2) :: (u116 3) :: (u165 4) :: (u242 5) :: (u204 6) :: (.bool b243) :: (u348 8) :: (.int .i64 xz18_302o2_8) :: (u348 10) :: (.int .i64 x324) :: (u348 12) :: (.int .i64 xz20_338o2_8) :: dd u5 14 25 (dd u116 39 7 (dd u165 46 10 (dd u204 56 13 (dd u242 69 21 (dd u348 90 5 ((.int .i64 xz18_302o2_8) :: dd u348 96 4 ((.int .i64 x324) :: dd u348 101 5 ((.int .i64 xz20_338o2_8) :: dd u348 107 3 ((.bool b349) :: un 15 ([]))))))))))).toArray, []⟩) a ∧ b349 = c350 ∧ St [] w0 w [poolE ftz20_338o2_13 Wz20_338o2_14]) rfl ?_ ?_
        ·refine gx_kA (.bool b6) w342 (gx_kA (.bool b6) w342 ?_)
         cases b6 with
         | true =>
          try dsimp only at hE351
          refine gx_kA (.bool b243) w342 (gx_kA (.bool b243) w342 ?_)
          refine gx_nil ?_
          refine gx_thenN ?_
          exact ⟨b243, selfA_i (by as_aux_lemma => kernel_rfl), (Option.some.inj hE351), (hS343.pick [0] rfl rfl)⟩
         | false =>
          try dsimp only at hE351
          refine gx_oA (gx_kA (.bool false) w342 ?_)
          refine gx_nil ?_
          refine gx_thenN ?_
          exact ⟨false, selfA_i (by as_aux_lemma => kernel_rfl), (Option.some.inj hE351), (hS343.pick [0] rfl rfl)⟩
        ·rintro _ w346 ⟨b349, hq353, rfl, hS347⟩
         obtain ⟨u348, rfl⟩ := selfA_u hq353
         try dsimp only at hO352
         obtain ⟨c358, hE359, hO360⟩ := bind_in hO352
         refine gx_part (l1 := [_, _, _, _]) (fun a w => ∃ (b357 : Bool), selfA (fun u356 => ⟨((.bool false) :: (.bool b6) :: (u242 2) :: (u116 3) :: (u165 4) :: (u242 5) :: (u204 6) :: (.bool b243) :: (u348 8) :: (.int .i64 xz18_302o2_8) :: (u348 10) :: (.int .i64 x324) :: (u348 12) :: (.int .i64 xz20_338o2_8) :: dd u5 14 25 (dd u116 39 7 (dd u165 46 10 (dd u204 56 13 (dd u242 69 21 (dd u348 90 5 ((.int .i64 xz18_302o2_8) :: dd u348 96 4 ((.int .i64 x324) :: dd u348 101 5 ((.int .i64 xz20_338o2_8) :: dd u348 107 3 ((.bool b349) :: dd u356 111 3 ((.bool b357) :: un 11 ([])))))))))))).toArray, []⟩) a ∧ b357 = c358 ∧ St [] w0 w [poolE ftz20_338o2_13 Wz20_338o2_14]) rfl ?_ ?_
         ·refine gx_kA (.bool b349) w346 ?_
          cases b349 with
          | true =>
           try dsimp only at hE359
           refine gx_kA (.int .i64 xz18_302o2_8) w346 ?_
           rcases if_in hE359 with ⟨h362, hE359⟩ | ⟨h362, hE359⟩
           ·refine gx_vA (.bool true) w346 (run_boolE (decide_eq_true h362) (by as_aux_lemma => kernel_rfl)) ?_
            refine gx_kA (.bool true) w346 ?_
            refine gx_nil ?_
            refine gx_thenN ?_
            exact ⟨true, selfA_i (by as_aux_lemma => kernel_rfl), (Option.some.inj hE359), hS347⟩
           ·refine gx_vA (.bool false) w346 (run_boolE (decide_eq_false h362) (by as_aux_lemma => kernel_rfl)) ?_
            refine gx_kA (.bool false) w346 ?_
            refine gx_nil ?_
            refine gx_thenN ?_
            exact ⟨false, selfA_i (by as_aux_lemma => kernel_rfl), (Option.some.inj hE359), hS347⟩
          | false =>
           try dsimp only at hE359
           refine gx_oA (gx_oA (gx_kA (.bool false) w346 ?_))
           refine gx_nil ?_
           refine gx_thenN ?_
           exact ⟨false, selfA_i (by as_aux_lemma => kernel_rfl), (Option.some.inj hE359), hS347⟩
         ·rintro _ w354 ⟨b357, hq361, rfl, hS355⟩
          obtain ⟨u356, rfl⟩ := selfA_u hq361
          try dsimp only at hO360
          obtain ⟨c367, hE368, hO369⟩ := bind_in hO360
          refine gx_part (l1 := [_, _, _, _]) (fun a w => ∃ (b366 : Bool), selfA (fun u365 => ⟨((.bool false) :: (.bool b6) :: (u242 2) :: (u116 3) :: (u165 4) :: (u242 5) :: (u204 6) :: (.bool b243) :: (u348 8) :: (.int .i64 xz18_302o2_8) :: (u348 10) :: (.int .i64 x324) :: (u348 12) :: (.int .i64 xz20_338o2_8) :: dd u5 14 25 (dd u116 39 7 (dd u165 46 10 (dd u204 56 13 (dd u242 69 21 (dd u348 90 5 ((.int .i64 xz18_302o2_8) :: dd u348 96 4 ((.int .i64 x324) :: dd u348 101 5 ((.int .i64 xz20_338o2_8) :: dd u348 107 3 ((.bool b349) :: dd u356 111 3 ((.bool b357) :: dd u365 115 3 ((.bool b366) :: un 7 ([]))))))))))))).toArray, []⟩) a ∧ b366 = c367 ∧ St [] w0 w [poolE ftz20_338o2_13 Wz20_338o2_14]) rfl ?_ ?_
          ·refine gx_kA (.bool b357) w354 ?_
           cases b357 with
           | true =>
            try dsimp only at hE368
            refine gx_kA (.int .i64 x324) w354 ?_
            rcases if_in hE368 with ⟨h371, hE368⟩ | ⟨h371, hE368⟩
            ·refine gx_vA (.bool true) w354 (run_boolE (decide_eq_true h371) (by as_aux_lemma => kernel_rfl)) ?_
             refine gx_kA (.bool true) w354 ?_
             refine gx_nil ?_
             refine gx_thenN ?_
             exact ⟨true, selfA_i (by as_aux_lemma => kernel_rfl), (Option.some.inj hE368), hS355⟩
            ·refine gx_vA (.bool false) w354 (run_boolE (decide_eq_false h371) (by as_aux_lemma => kernel_rfl)) ?_
             refine gx_kA (.bool false) w354 ?_
             refine gx_nil ?_
             refine gx_thenN ?_
             exact ⟨false, selfA_i (by as_aux_lemma => kernel_rfl), (Option.some.inj hE368), hS355⟩
           | false =>
            try dsimp only at hE368
            refine gx_oA (gx_oA (gx_kA (.bool false) w354 ?_))
            refine gx_nil ?_
            refine gx_thenN ?_
            exact ⟨false, selfA_i (by as_aux_lemma => kernel_rfl), (Option.some.inj hE368), hS355⟩
          ·rintro _ w363 ⟨b366, hq370, rfl, hS364⟩
           obtain ⟨u365, rfl⟩ := selfA_u hq370
           try dsimp only at hO369
           refine gx_kA (.bool b366) w363 ?_
           cases b366 with
           | true =>
            try dsimp only at hO369
            refine gx_kA (.int .i64 xz20_338o2_8) w363 ?_
            rcases if_in hO369 with ⟨h372, hO369⟩ | ⟨h372, hO369⟩
            ·refine gx_vA (.bool true) w363 (run_boolE (decide_eq_true h372) (by as_aux_lemma => kernel_rfl)) ?_
             refine gx_kA (.bool true) w363 (gx_kA (.bool true) w363 ?_)
             have hP373 : St _ _ w363 ([] ++ [poolE ftz20_338o2_13 Wz20_338o2_14]) := hS364
             obtain ⟨b375, hc374, hO369⟩ := bind_in hO369
             try dsimp only at hO369
             refine gx_cA (kWorks_R b375 w363) (kWorks_ok N  _ hc374 w363 (MirB.atL hcd hP373)) ?_
             rintro _ w376 ⟨rfl, hT378⟩
             have hS377 : St _ _ w376 [poolE ftz20_338o2_13 Wz20_338o2_14] := hS364.take _ hT378
             refine gx_kA (.bool b375) w376 (gx_kA (.bool b375) w376 ?_)
             refine gx_nil ?_
             refine gx_thenN ?_
             refine hK345 _ _ ?_
             refine gx_ret ?_
             obtain rfl := Option.some.inj hO369
             exact gx_fin (.bool b375) (by as_aux_lemma => kernel_rfl) (by as_aux_lemma => kernel_rfl) ⟨_, rfl, rfl, (hS377.pick [] rfl rfl)⟩
            ·refine gx_vA (.bool false) w363 (run_boolE (decide_eq_false h372) (by as_aux_lemma => kernel_rfl)) ?_
             refine gx_kA (.bool false) w363 (gx_kA (.bool false) w363 (gx_oA (gx_kA (.bool false) w363 (gx_kA (.bool false) w363 ?_))))
             refine gx_nil ?_
             refine gx_thenN ?_
             refine hK345 _ _ ?_
             refine gx_ret ?_
             obtain rfl := Option.some.inj hO369
             exact gx_fin (.bool false) (by as_aux_lemma => kernel_rfl) (by as_aux_lemma => kernel_rfl) ⟨_, rfl, rfl, (hS364.pick [] rfl rfl)⟩
           | false =>
            try dsimp only at hO369
            refine gx_oA (gx_oA (gx_kA (.bool false) w363 (gx_kA (.bool false) w363 (gx_oA (gx_kA (.bool false) w363 (gx_kA (.bool false) w363 ?_))))))
            refine gx_nil ?_
            refine gx_thenN ?_
            refine hK345 _ _ ?_
            refine gx_ret ?_
            obtain rfl := Option.some.inj hO369
            exact gx_fin (.bool false) (by as_aux_lemma => kernel_rfl) (by as_aux_lemma => kernel_rfl) ⟨_, rfl, rfl, (hS364.pick [] rfl rfl)⟩
       ·intro K379
        refine gd_fork2 0 1 { dst := some 102, op := _, type := _, pos := _, after := _, guard := _ } { dst := some 103, op := _, type := _, pos := _, after := _, guard := _ } rfl rfl ?_ ?_
        ·skip
         refine gfR 0 { dst := some 102, op := _, type := _, pos := _, after := _, guard := _ } rfl (st_make (T := 21) (k := .i32) (by_ := 4) rfl (by as_aux_lemma => kernel_rfl) (by as_aux_lemma => kernel_rfl) (by as_aux_lemma => kernel_rfl) (by as_aux_lemma => kernel_rfl) (by as_aux_lemma => kernel_rfl) hS341 hmz20_338o0_2) ?_
         rintro _ wz20_338o0_3 ⟨Az20_338o0_5, cz20_338o0_6, rfl, hSz20_338o0_4⟩
         have hSz20_338o0_4 : St _ _ wz20_338o0_3 [poolE ft329 W330, rowE .i32 21 Az18_302o0_5 cz18_302o0_6 lz18_302o0_1, rowE .u8 5 Az18_302o1_5 cz18_302o1_6 lz18_302o1_1, rowG 35 4 (.slice Az18_302o2_4 lz18_302o2_3.length cz18_302o2_5) lz18_302o2_3.length vsz18_302o2_6, rowE .i32 21 A314 c315 l310, rowE .u8 5 none 0 ([]), rowG 35 4 (.slice A320 l319.length c321) l319.length vs322, rowE .i32 21 Az20_338o0_5 cz20_338o0_6 lz20_338o0_1] := hSz20_338o0_4
         refine ⟨(hSz20_338o0_4.pick [1, 2, 3, 4, 5, 6] rfl rfl), ?_⟩
         refine gdR 1 { dst := some 103, op := _, type := _, pos := _, after := _, guard := _ } rfl (st_make (T := 5) (k := .u8) (by_ := 1) rfl (by as_aux_lemma => kernel_rfl) (by as_aux_lemma => kernel_rfl) (by as_aux_lemma => kernel_rfl) (by as_aux_lemma => kernel_rfl) (by as_aux_lemma => kernel_rfl) hSz20_338o0_4 hmz20_338o1_2) ?_
         rintro _ wz20_338o1_3 ⟨Az20_338o1_5, cz20_338o1_6, rfl, hSz20_338o1_4⟩
         have hSz20_338o1_4 : St _ _ wz20_338o1_3 [poolE ft329 W330, rowE .i32 21 Az18_302o0_5 cz18_302o0_6 lz18_302o0_1, rowE .u8 5 Az18_302o1_5 cz18_302o1_6 lz18_302o1_1, rowG 35 4 (.slice Az18_302o2_4 lz18_302o2_3.length cz18_302o2_5) lz18_302o2_3.length vsz18_302o2_6, rowE .i32 21 A314 c315 l310, rowE .u8 5 none 0 ([]), rowG 35 4 (.slice A320 l319.length c321) l319.length vs322, rowE .i32 21 Az20_338o0_5 cz20_338o0_6 lz20_338o0_1, rowE .u8 5 Az20_338o1_5 cz20_338o1_6 lz20_338o1_1] := hSz20_338o1_4
         refine ⟨(hSz20_338o1_4.pick [1, 2, 3, 4, 5, 6] rfl rfl), ?_⟩
         have hPz20_338o2_1 : St _ _ wz20_338o1_3 ([] ++ [poolE ft329 W330, rowE .i32 21 Az18_302o0_5 cz18_302o0_6 lz18_302o0_1, rowE .u8 5 Az18_302o1_5 cz18_302o1_6 lz18_302o1_1, rowG 35 4 (.slice Az18_302o2_4 lz18_302o2_3.length cz18_302o2_5) lz18_302o2_3.length vsz18_302o2_6, rowE .i32 21 A314 c315 l310, rowE .u8 5 none 0 ([]), rowG 35 4 (.slice A320 l319.length c321) l319.length vs322, rowE .i32 21 Az20_338o0_5 cz20_338o0_6 lz20_338o0_1, rowE .u8 5 Az20_338o1_5 cz20_338o1_6 lz20_338o1_1]) := hSz20_338o1_4
         refine gdC 2 { dst := some 104, op := _, type := _, pos := _, after := _, guard := _ } (pRuns_R (lz20_338o2_3, xz20_338o2_8) wz20_338o1_3) rfl (by as_aux_lemma => kernel_rfl) (pRuns_ok N lz20_338o0_1 lz20_338o1_1 Az20_338o0_5 cz20_338o0_6 Az20_338o1_5 cz20_338o1_6 _ hcz20_338o2_2 wz20_338o1_3 (hPz20_338o2_1.vwB 7 rfl) (hPz20_338o2_1.vwB 8 rfl) (MirB.atL hcd hPz20_338o2_1)) ?_
         rintro _ wz20_338o2_10 ⟨Az20_338o2_4, cz20_338o2_5, vsz20_338o2_6, ftz20_338o2_9, rfl, hTz20_338o2_12, hfz20_338o2_7⟩
         have hSz20_338o2_11 : St _ _ wz20_338o2_10 [poolE ft329 W330, rowE .i32 21 Az18_302o0_5 cz18_302o0_6 lz18_302o0_1, rowE .u8 5 Az18_302o1_5 cz18_302o1_6 lz18_302o1_1, rowG 35 4 (.slice Az18_302o2_4 lz18_302o2_3.length cz18_302o2_5) lz18_302o2_3.length vsz18_302o2_6, rowE .i32 21 A314 c315 l310, rowE .u8 5 none 0 ([]), rowG 35 4 (.slice A320 l319.length c321) l319.length vs322, rowE .i32 21 Az20_338o0_5 cz20_338o0_6 lz20_338o0_1, rowE .u8 5 Az20_338o1_5 cz20_338o1_6 lz20_338o1_1, rowG 35 4 (.slice Az20_338o2_4 lz20_338o2_3.length cz20_338o2_5) lz20_338o2_3.length vsz20_338o2_6, poolE ftz20_338o2_9 wz20_338o2_10] := hSz20_338o1_4.take _ hTz20_338o2_12
         obtain ⟨ftz20_338o2_13, Wz20_338o2_14, hSz20_338o2_15, hTz20_338o2_16, hUz20_338o2_17⟩ := hSz20_338o2_11.merge 10 0 rfl rfl (by decide)
         have hSz20_338o2_15 : St _ _ wz20_338o2_10 [poolE ftz20_338o2_13 Wz20_338o2_14, rowE .i32 21 Az18_302o0_5 cz18_302o0_6 lz18_302o0_1, rowE .u8 5 Az18_302o1_5 cz18_302o1_6 lz18_302o1_1, rowG 35 4 (.slice Az18_302o2_4 lz18_302o2_3.length cz18_302o2_5) lz18_302o2_3.length vsz18_302o2_6, rowE .i32 21 A314 c315 l310, rowE .u8 5 none 0 ([]), rowG 35 4 (.slice A320 l319.length c321) l319.length vs322, rowE .i32 21 Az20_338o0_5 cz20_338o0_6 lz20_338o0_1, rowE .u8 5 Az20_338o1_5 cz20_338o1_6 lz20_338o1_1, rowG 35 4 (.slice Az20_338o2_4 lz20_338o2_3.length cz20_338o2_5) lz20_338o2_3.length vsz20_338o2_6] := hSz20_338o2_15
         have hTz20_338o2_16 : Turn [] w0 W330 ft329 Wz20_338o2_14 ftz20_338o2_13 := hTz20_338o2_16
         have hfz20_338o2_20 : (fEach encitemiseRun vsz20_338o2_6 lz20_338o2_3).rd Wz20_338o2_14 ftz20_338o2_13 := hUz20_338o2_17 _ hfz20_338o2_7
         refine ⟨(hSz20_338o2_15.pick [1, 2, 3, 4, 5, 6] rfl rfl), ?_⟩
         refine gv1 3 101 (.tuple #[.slice Az20_338o2_4 lz20_338o2_3.length cz20_338o2_5, .int .i64 xz20_338o2_8]) rfl (hSz20_338o2_15.pick [1, 2, 3, 4, 5, 6] rfl rfl) ?_
         refine gv1 4 105 (.slice Az20_338o2_4 lz20_338o2_3.length cz20_338o2_5) rfl (hSz20_338o2_15.pick [1, 2, 3, 4, 5, 6] rfl rfl) ?_
         refine gv1 5 106 (.int .i64 xz20_338o2_8) rfl (hSz20_338o2_15.pick [1, 2, 3, 4, 5, 6] rfl rfl) ?_
         refine gv1 6 12 (.slice Az20_338o2_4 lz20_338o2_3.length cz20_338o2_5) rfl (hSz20_338o2_15.pick [1, 2, 3, 4, 5, 6] rfl rfl) ?_
         refine gv1 7 13 (.int .i64 xz20_338o2_8) rfl (hSz20_338o2_15.pick [1, 2, 3, 4, 5, 6] rfl rfl) ?_
         exact gd_meet (by as_aux_lemma => kernel_rfl) (by as_aux_lemma => kernel_rfl) (K379 (Az20_338o0_5, cz20_338o0_6, Az20_338o1_5, cz20_338o1_6, Az20_338o2_4, cz20_338o2_5, ftz20_338o2_13, Wz20_338o2_14, vsz20_338o2_6) _ ⟨hfz20_338o2_20, hTz20_338o2_16, hSz20_338o2_15⟩)
        ·skip
         refine gfR 1 { dst := some 103, op := _, type := _, pos := _, after := _, guard := _ } rfl (st_make (T := 5) (k := .u8) (by_ := 1) rfl (by as_aux_lemma => kernel_rfl) (by as_aux_lemma => kernel_rfl) (by as_aux_lemma => kernel_rfl) (by as_aux_lemma => kernel_rfl) (by as_aux_lemma => kernel_rfl) hS341 hmz20_338o1_2) ?_
         rintro _ wz20_338o1_3 ⟨Az20_338o1_5, cz20_338o1_6, rfl, hSz20_338o1_4⟩
         have hSz20_338o1_4 : St _ _ wz20_338o1_3 [poolE ft329 W330, rowE .i32 21 Az18_302o0_5 cz18_302o0_6 lz18_302o0_1, rowE .u8 5 Az18_302o1_5 cz18_302o1_6 lz18_302o1_1, rowG 35 4 (.slice Az18_302o2_4 lz18_302o2_3.length cz18_302o2_5) lz18_302o2_3.length vsz18_302o2_6, rowE .i32 21 A314 c315 l310, rowE .u8 5 none 0 ([]), rowG 35 4 (.slice A320 l319.length c321) l319.length vs322, rowE .u8 5 Az20_338o1_5 cz20_338o1_6 lz20_338o1_1] := hSz20_338o1_4
         refine ⟨(hSz20_338o1_4.pick [1, 2, 3, 4, 5, 6] rfl rfl), ?_⟩
         refine gdR 0 { dst := some 102, op := _, type := _, pos := _, after := _, guard := _ } rfl (st_make (T := 21) (k := .i32) (by_ := 4) rfl (by as_aux_lemma => kernel_rfl) (by as_aux_lemma => kernel_rfl) (by as_aux_lemma => kernel_rfl) (by as_aux_lemma => kernel_rfl) (by as_aux_lemma => kernel_rfl) hSz20_338o1_4 hmz20_338o0_2) ?_
         rintro _ wz20_338o0_3 ⟨Az20_338o0_5, cz20_338o0_6, rfl, hSz20_338o0_4⟩
         have hSz20_338o0_4 : St _ _ wz20_338o0_3 [poolE ft329 W330, rowE .i32 21 Az18_302o0_5 cz18_302o0_6 lz18_302o0_1, rowE .u8 5 Az18_302o1_5 cz18_302o1_6 lz18_302o1_1, rowG 35 4 (.slice Az18_302o2_4 lz18_302o2_3.length cz18_302o2_5) lz18_302o2_3.length vsz18_302o2_6, rowE .i32 21 A314 c315 l310, rowE .u8 5 none 0 ([]), rowG 35 4 (.slice A320 l319.length c321) l319.length vs322, rowE .u8 5 Az20_338o1_5 cz20_338o1_6 lz20_338o1_1, rowE .i32 21 Az20_338o0_5 cz20_338o0_6 lz20_338o0_1] := hSz20_338o0_4
         refine ⟨(hSz20_338o0_4.pick [1, 2, 3, 4, 5, 6] rfl rfl), ?_⟩
         have hPz20_338o2_1 : St _ _ wz20_338o0_3 ([] ++ [poolE ft329 W330, rowE .i32 21 Az18_302o0_5 cz18_302o0_6 lz18_302o0_1, rowE .u8 5 Az18_302o1_5 cz18_302o1_6 lz18_302o1_1, rowG 35 4 (.slice Az18_302o2_4 lz18_302o2_3.length cz18_302o2_5) lz18_302o2_3.length vsz18_302o2_6, rowE .i32 21 A314 c315 l310, rowE .u8 5 none 0 ([]), rowG 35 4 (.slice A320 l319.length c321) l319.length vs322, rowE .u8 5 Az20_338o1_5 cz20_338o1_6 lz20_338o1_1, rowE .i32 21 Az20_338o0_5 cz20_338o0_6 lz20_338o0_1]) := hSz20_338o0_4
         refine gdC 2 { dst := some 104, op := _, type := _, pos := _, after := _, guard := _ } (pRuns_R (lz20_338o2_3, xz20_338o2_8) wz20_338o0_3) rfl (by as_aux_lemma => kernel_rfl) (pRuns_ok N lz20_338o0_1 lz20_338o1_1 Az20_338o0_5 cz20_338o0_6 Az20_338o1_5 cz20_338o1_6 _ hcz20_338o2_2 wz20_338o0_3 (hPz20_338o2_1.vwB 8 rfl) (hPz20_338o2_1.vwB 7 rfl) (MirB.atL hcd hPz20_338o2_1)) ?_
         rintro _ wz20_338o2_10 ⟨Az20_338o2_4, cz20_338o2_5, vsz20_338o2_6, ftz20_338o2_9, rfl, hTz20_338o2_12, hfz20_338o2_7⟩
         have hSz20_338o2_11 : St _ _ wz20_338o2_10 [poolE ft329 W330, rowE .i32 21 Az18_302o0_5 cz18_302o0_6 lz18_302o0_1, rowE .u8 5 Az18_302o1_5 cz18_302o1_6 lz18_302o1_1, rowG 35 4 (.slice Az18_302o2_4 lz18_302o2_3.length cz18_302o2_5) lz18_302o2_3.length vsz18_302o2_6, rowE .i32 21 A314 c315 l310, rowE .u8 5 none 0 ([]), rowG 35 4 (.slice A320 l319.length c321) l319.length vs322, rowE .u8 5 Az20_338o1_5 cz20_338o1_6 lz20_338o1_1, rowE .i32 21 Az20_338o0_5 cz20_338o0_6 lz20_338o0_1, rowG 35 4 (.slice Az20_338o2_4 lz20_338o2_3.length cz20_338o2_5) lz20_338o2_3.length vsz20_338o2_6, poolE ftz20_338o2_9 wz20_338o2_10] := hSz20_338o0_4.take _ hTz20_338o2_12
         obtain ⟨ftz20_338o2_13, Wz20_338o2_14, hSz20_338o2_15, hTz20_338o2_16, hUz20_338o2_17⟩ := hSz20_338o2_11.merge 10 0 rfl rfl (by decide)
         have hSz20_338o2_15 : St _ _ wz20_338o2_10 [poolE ftz20_338o2_13 Wz20_338o2_14, rowE .i32 21 Az18_302o0_5 cz18_302o0_6 lz18_302o0_1, rowE .u8 5 Az18_302o1_5 cz18_302o1_6 lz18_302o1_1, rowG 35 4 (.slice Az18_302o2_4 lz18_302o2_3.length cz18_302o2_5) lz18_302o2_3.length vsz18_302o2_6, rowE .i32 21 A314 c315 l310, rowE .u8 5 none 0 ([]), rowG 35 4 (.slice A320 l319.length c321) l319.length vs322, rowE .u8 5 Az20_338o1_5 cz20_338o1_6 lz20_338o1_1, rowE .i32 21 Az20_338o0_5 cz20_338o0_6 lz20_338o0_1, rowG 35 4 (.slice Az20_338o2_4 lz20_338o2_3.length cz20_338o2_5) lz20_338o2_3.length vsz20_338o2_6] := hSz20_338o2_15
         have hTz20_338o2_16 : Turn [] w0 W330 ft329 Wz20_338o2_14 ftz20_338o2_13 := hTz20_338o2_16
         have hfz20_338o2_20 : (fEach encitemiseRun vsz20_338o2_6 lz20_338o2_3).rd Wz20_338o2_14 ftz20_338o2_13 := hUz20_338o2_17 _ hfz20_338o2_7
         refine ⟨(hSz20_338o2_15.pick [1, 2, 3, 4, 5, 6] rfl rfl), ?_⟩
         refine gv1 3 101 (.tuple #[.slice Az20_338o2_4 lz20_338o2_3.length cz20_338o2_5, .int .i64 xz20_338o2_8]) rfl (hSz20_338o2_15.pick [1, 2, 3, 4, 5, 6] rfl rfl) ?_
         refine gv1 4 105 (.slice Az20_338o2_4 lz20_338o2_3.length cz20_338o2_5) rfl (hSz20_338o2_15.pick [1, 2, 3, 4, 5, 6] rfl rfl) ?_
         refine gv1 5 106 (.int .i64 xz20_338o2_8) rfl (hSz20_338o2_15.pick [1, 2, 3, 4, 5, 6] rfl rfl) ?_
         refine gv1 6 12 (.slice Az20_338o2_4 lz20_338o2_3.length cz20_338o2_5) rfl (hSz20_338o2_15.pick [1, 2, 3, 4, 5, 6] rfl rfl) ?_
         refine gv1 7 13 (.int .i64 xz20_338o2_8) rfl (hSz20_338o2_15.pick [1, 2, 3, 4, 5, 6] rfl rfl) ?_
         exact gd_meet (by as_aux_lemma => kernel_rfl) (by as_aux_lemma => kernel_rfl) (K379 (Az20_338o0_5, cz20_338o0_6, Az20_338o1_5, cz20_338o1_6, Az20_338o2_4, cz20_338o2_5, ftz20_338o2_13, Wz20_338o2_14, vsz20_338o2_6) _ ⟨hfz20_338o2_20, hTz20_338o2_16, (hSz20_338o2_15.pick [0, 1, 2, 3, 4, 5, 6, 8, 7, 9] rfl rfl)⟩)
      ·intro K380
       refine gd_fork2 0 1 { dst := some 91, op := _, type := _, pos := _, after := _, guard := _ } { dst := some 92, op := _, type := _, pos := _, after := _, guard := _ } rfl rfl ?_ ?_
       ·skip
        refine gfR 0 { dst := some 91, op := _, type := _, pos := _, after := _, guard := _ } rfl (st_make (T := 21) (k := .i32) (by_ := 4) rfl (by as_aux_lemma => kernel_rfl) (by as_aux_lemma => kernel_rfl) (by as_aux_lemma => kernel_rfl) (by as_aux_lemma => kernel_rfl) (by as_aux_lemma => kernel_rfl) hS305 hmz18_302o0_2) ?_
        rintro _ wz18_302o0_3 ⟨Az18_302o0_5, cz18_302o0_6, rfl, hSz18_302o0_4⟩
        have hSz18_302o0_4 : St _ _ wz18_302o0_3 [poolE ([]) w0, rowE .i32 21 Az18_302o0_5 cz18_302o0_6 lz18_302o0_1] := hSz18_302o0_4
        refine ⟨(hSz18_302o0_4.pick [] rfl rfl), ?_⟩
        refine gdR 1 { dst := some 92, op := _, type := _, pos := _, after := _, guard := _ } rfl (st_make (T := 5) (k := .u8) (by_ := 1) rfl (by as_aux_lemma => kernel_rfl) (by as_aux_lemma => kernel_rfl) (by as_aux_lemma => kernel_rfl) (by as_aux_lemma => kernel_rfl) (by as_aux_lemma => kernel_rfl) hSz18_302o0_4 hmz18_302o1_2) ?_
        rintro _ wz18_302o1_3 ⟨Az18_302o1_5, cz18_302o1_6, rfl, hSz18_302o1_4⟩
        have hSz18_302o1_4 : St _ _ wz18_302o1_3 [poolE ([]) w0, rowE .i32 21 Az18_302o0_5 cz18_302o0_6 lz18_302o0_1, rowE .u8 5 Az18_302o1_5 cz18_302o1_6 lz18_302o1_1] := hSz18_302o1_4
        refine ⟨(hSz18_302o1_4.pick [] rfl rfl), ?_⟩
        have hPz18_302o2_1 : St _ _ wz18_302o1_3 ([] ++ [poolE ([]) w0, rowE .i32 21 Az18_302o0_5 cz18_302o0_6 lz18_302o0_1, rowE .u8 5 Az18_302o1_5 cz18_302o1_6 lz18_302o1_1]) := hSz18_302o1_4
        refine gdC 2 { dst := some 93, op := _, type := _, pos := _, after := _, guard := _ } (pRuns_R (lz18_302o2_3, xz18_302o2_8) wz18_302o1_3) rfl (by as_aux_lemma => kernel_rfl) (pRuns_ok N lz18_302o0_1 lz18_302o1_1 Az18_302o0_5 cz18_302o0_6 Az18_302o1_5 cz18_302o1_6 _ hcz18_302o2_2 wz18_302o1_3 (hPz18_302o2_1.vwB 1 rfl) (hPz18_302o2_1.vwB 2 rfl) (MirB.atL hcd hPz18_302o2_1)) ?_
        rintro _ wz18_302o2_10 ⟨Az18_302o2_4, cz18_302o2_5, vsz18_302o2_6, ftz18_302o2_9, rfl, hTz18_302o2_12, hfz18_302o2_7⟩
        have hSz18_302o2_11 : St _ _ wz18_302o2_10 [poolE ([]) w0, rowE .i32 21 Az18_302o0_5 cz18_302o0_6 lz18_302o0_1, rowE .u8 5 Az18_302o1_5 cz18_302o1_6 lz18_302o1_1, rowG 35 4 (.slice Az18_302o2_4 lz18_302o2_3.length cz18_302o2_5) lz18_302o2_3.length vsz18_302o2_6, poolE ftz18_302o2_9 wz18_302o2_10] := hSz18_302o1_4.take _ hTz18_302o2_12
        obtain ⟨ftz18_302o2_13, Wz18_302o2_14, hSz18_302o2_15, hTz18_302o2_16, hUz18_302o2_17⟩ := hSz18_302o2_11.merge 4 0 rfl rfl (by decide)
        have hSz18_302o2_15 : St _ _ wz18_302o2_10 [poolE ftz18_302o2_13 Wz18_302o2_14, rowE .i32 21 Az18_302o0_5 cz18_302o0_6 lz18_302o0_1, rowE .u8 5 Az18_302o1_5 cz18_302o1_6 lz18_302o1_1, rowG 35 4 (.slice Az18_302o2_4 lz18_302o2_3.length cz18_302o2_5) lz18_302o2_3.length vsz18_302o2_6] := hSz18_302o2_15
        have hTz18_302o2_16 : Turn [] w0 w0 ([]) Wz18_302o2_14 ftz18_302o2_13 := hTz18_302o2_16
        have hfz18_302o2_20 : (fEach encitemiseRun vsz18_302o2_6 lz18_302o2_3).rd Wz18_302o2_14 ftz18_302o2_13 := hUz18_302o2_17 _ hfz18_302o2_7
        refine ⟨(hSz18_302o2_15.pick [] rfl rfl), ?_⟩
        refine gv1 3 90 (.tuple #[.slice Az18_302o2_4 lz18_302o2_3.length cz18_302o2_5, .int .i64 xz18_302o2_8]) rfl (hSz18_302o2_15.pick [] rfl rfl) ?_
        refine gv1 4 94 (.slice Az18_302o2_4 lz18_302o2_3.length cz18_302o2_5) rfl (hSz18_302o2_15.pick [] rfl rfl) ?_
        refine gv1 5 95 (.int .i64 xz18_302o2_8) rfl (hSz18_302o2_15.pick [] rfl rfl) ?_
        refine gv1 6 8 (.slice Az18_302o2_4 lz18_302o2_3.length cz18_302o2_5) rfl (hSz18_302o2_15.pick [] rfl rfl) ?_
        refine gv1 7 9 (.int .i64 xz18_302o2_8) rfl (hSz18_302o2_15.pick [] rfl rfl) ?_
        exact gd_meet (by as_aux_lemma => kernel_rfl) (by as_aux_lemma => kernel_rfl) (K380 (Az18_302o0_5, cz18_302o0_6, Az18_302o1_5, cz18_302o1_6, Az18_302o2_4, cz18_302o2_5, ftz18_302o2_13, Wz18_302o2_14, vsz18_302o2_6) _ ⟨hfz18_302o2_20, hTz18_302o2_16, hSz18_302o2_15⟩)
       ·skip
        refine gfR 1 { dst := some 92, op := _, type := _, pos := _, after := _, guard := _ } rfl (st_make (T := 5) (k := .u8) (by_ := 1) rfl (by as_aux_lemma => kernel_rfl) (by as_aux_lemma => kernel_rfl) (by as_aux_lemma => kernel_rfl) (by as_aux_lemma => kernel_rfl) (by as_aux_lemma => kernel_rfl) hS305 hmz18_302o1_2) ?_
        rintro _ wz18_302o1_3 ⟨Az18_302o1_5, cz18_302o1_6, rfl, hSz18_302o1_4⟩
        have hSz18_302o1_4 : St _ _ wz18_302o1_3 [poolE ([]) w0, rowE .u8 5 Az18_302o1_5 cz18_302o1_6 lz18_302o1_1] := hSz18_302o1_4
        refine ⟨(hSz18_302o1_4.pick [] rfl rfl), ?_⟩
        refine gdR 0 { dst := some 91, op := _, type := _, pos := _, after := _, guard := _ } rfl (st_make (T := 21) (k := .i32) (by_ := 4) rfl (by as_aux_lemma => kernel_rfl) (by as_aux_lemma => kernel_rfl) (by as_aux_lemma => kernel_rfl) (by as_aux_lemma => kernel_rfl) (by as_aux_lemma => kernel_rfl) hSz18_302o1_4 hmz18_302o0_2) ?_
        rintro _ wz18_302o0_3 ⟨Az18_302o0_5, cz18_302o0_6, rfl, hSz18_302o0_4⟩
        have hSz18_302o0_4 : St _ _ wz18_302o0_3 [poolE ([]) w0, rowE .u8 5 Az18_302o1_5 cz18_302o1_6 lz18_302o1_1, rowE .i32 21 Az18_302o0_5 cz18_302o0_6 lz18_302o0_1] := hSz18_302o0_4
        refine ⟨(hSz18_302o0_4.pick [] rfl rfl), ?_⟩
        have hPz18_302o2_1 : St _ _ wz18_302o0_3 ([] ++ [poolE ([]) w0, rowE .u8 5 Az18_302o1_5 cz18_302o1_6 lz18_302o1_1, rowE .i32 21 Az18_302o0_5 cz18_302o0_6 lz18_302o0_1]) := hSz18_302o0_4
        refine gdC 2 { dst := some 93, op := _, type := _, pos := _, after := _, guard := _ } (pRuns_R (lz18_302o2_3, xz18_302o2_8) wz18_302o0_3) rfl (by as_aux_lemma => kernel_rfl) (pRuns_ok N lz18_302o0_1 lz18_302o1_1 Az18_302o0_5 cz18_302o0_6 Az18_302o1_5 cz18_302o1_6 _ hcz18_302o2_2 wz18_302o0_3 (hPz18_302o2_1.vwB 2 rfl) (hPz18_302o2_1.vwB 1 rfl) (MirB.atL hcd hPz18_302o2_1)) ?_
        rintro _ wz18_302o2_10 ⟨Az18_302o2_4, cz18_302o2_5, vsz18_302o2_6, ftz18_302o2_9, rfl, hTz18_302o2_12, hfz18_302o2_7⟩
        have hSz18_302o2_11 : St _ _ wz18_302o2_10 [poolE ([]) w0, rowE .u8 5 Az18_302o1_5 cz18_302o1_6 lz18_302o1_1, rowE .i32 21 Az18_302o0_5 cz18_302o0_6 lz18_302o0_1, rowG 35 4 (.slice Az18_302o2_4 lz18_302o2_3.length cz18_302o2_5) lz18_302o2_3.length vsz18_302o2_6, poolE ftz18_302o2_9 wz18_302o2_10] := hSz18_302o0_4.take _ hTz18_302o2_12
        obtain ⟨ftz18_302o2_13, Wz18_302o2_14, hSz18_302o2_15, hTz18_302o2_16, hUz18_302o2_17⟩ := hSz18_302o2_11.merge 4 0 rfl rfl (by decide)
        have hSz18_302o2_15 : St _ _ wz18_302o2_10 [poolE ftz18_302o2_13 Wz18_302o2_14, rowE .u8 5 Az18_302o1_5 cz18_302o1_6 lz18_302o1_1, rowE .i32 21 Az18_302o0_5 cz18_302o0_6 lz18_302o0_1, rowG 35 4 (.slice Az18_302o2_4 lz18_302o2_3.length cz18_302o2_5) lz18_302o2_3.length vsz18_302o2_6] := hSz18_302o2_15
        have hTz18_302o2_16 : Turn [] w0 w0 ([]) Wz18_302o2_14 ftz18_302o2_13 := hTz18_302o2_16
        have hfz18_302o2_20 : (fEach encitemiseRun vsz18_302o2_6 lz18_302o2_3).rd Wz18_302o2_14 ftz18_302o2_13 := hUz18_302o2_17 _ hfz18_302o2_7
        refine ⟨(hSz18_302o2_15.pick [] rfl rfl), ?_⟩
        refine gv1 3 90 (.tuple #[.slice Az18_302o2_4 lz18_302o2_3.length cz18_302o2_5, .int .i64 xz18_302o2_8]) rfl (hSz18_302o2_15.pick [] rfl rfl) ?_
        refine gv1 4 94 (.slice Az18_302o2_4 lz18_302o2_3.length cz18_302o2_5) rfl (hSz18_302o2_15.pick [] rfl rfl) ?_
        refine gv1 5 95 (.int .i64 xz18_302o2_8) rfl (hSz18_302o2_15.pick [] rfl rfl) ?_
        refine gv1 6 8 (.slice Az18_302o2_4 lz18_302o2_3.length cz18_302o2_5) rfl (hSz18_302o2_15.pick [] rfl rfl) ?_
        refine gv1 7 9 (.int .i64 xz18_302o2_8) rfl (hSz18_302o2_15.pick [] rfl rfl) ?_
        exact gd_meet (by as_aux_lemma => kernel_rfl) (by as_aux_lemma => kernel_rfl) (K380 (Az18_302o0_5, cz18_302o0_6, Az18_302o1_5, cz18_302o1_6, Az18_302o2_4, cz18_302o2_5, ftz18_302o2_13, Wz18_302o2_14, vsz18_302o2_6) _ ⟨hfz18_302o2_20, hTz18_302o2_16, (hSz18_302o2_15.pick [0, 2, 1, 3] rfl rfl)⟩)
end Go.Proofs.YtkcmemldhbifdaaDoor
