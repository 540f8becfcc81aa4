/-
  gsub: lookups, walked.
-/
import Derived.Test.YtgjlpiljacecpaaHD
namespace Go.Proofs.Ytgjlpiljacecpaa
open Go Go.RowKit
set_option linter.unusedVariables false
set_option maxRecDepth 100000
set_option maxHeartbeats 4000000
def encapiSub : Enc ((List (Int × Int)) × (List (Int × List Int)) × (List (List Int × Int)) × List (List Int) × List (List Int) × List (List Int) × List (Int × Int)) := (pairE (rowOf (pairE (intE .u16) (intE .u16))) (pairE (rowOf (pairE (intE .u16) (rowOf (intE .u16)))) (pairE (rowOf (pairE (rowOf (intE .u16)) (intE .u16))) (pairE (rowOf (rowOf (intE .u16))) (pairE (rowOf (rowOf (intE .u16))) (pairE (rowOf (rowOf (intE .u16))) (rowOf (pairE (intE .i64) (intE .i64)))))))))
def encapiKern : Enc (Int × Int × Int) := (pairE (intE .u16) (pairE (intE .u16) (intE .i16)))
def encapiMark : Enc (Int × Int × Int × Int) := (pairE (intE .u16) (pairE (intE .u16) (pairE (intE .i16) (intE .i16))))
def encapiAnchor : Enc (Bool × Int × Int) := (pairE boolE (pairE (intE .i16) (intE .i16)))
def encapiPos : Enc ((List (Int × Int × Int)) × (List (Int × Int × Int × Int)) × List (Int × List (Bool × Int × Int))) := (pairE (rowOf encapiKern) (pairE (rowOf encapiMark) (rowOf (pairE (intE .u16) (rowOf encapiAnchor)))))
def enccoverSubtable : Enc (Int × Int × List Int) := (pairE (intE .u16) (pairE (intE .u16) (rowOf (intE .i64))))
def encapiLookup : Enc (Int × Int × (List ((List (Int × Int)) × (List (Int × List Int)) × (List (List Int × Int)) × List (List Int) × List (List Int) × List (List Int) × List (Int × Int))) × List ((List (Int × Int × Int)) × (List (Int × Int × Int × Int)) × List (Int × List (Bool × Int × Int)))) := (pairE (intE .u16) (pairE (intE .u16) (pairE (rowOf encapiSub) (rowOf encapiPos))))
def gReading (N : Nat) (_p0_1 : Int) (_p0_2 : Int) (_p0_3 : Int) (_p0_0 : List Int) (_p0_0s_0 : Bool) (p1 : Int) : Option (Pan (Int) (Int)) :=
 (if p1 = 1 then some (Pan.ok 87) else (if p1 = 2 then some (Pan.ok 88) else (if p1 = 3 then some (Pan.ok 89) else (if p1 = 4 then some (Pan.ok 90) else (if p1 = 6 then some (Pan.ok 91) else ((gGiveUp N ).bind fun | Pan.ok _ => none | Pan.gone x34 => some (Pan.gone x34)))))))
def gReading_R (zg : Int) (zl : Int) (zn : Int) (zb : List Int) (zq : Bool) (p1 : Int) (g0 : Nat) (zr : Nat) (zA : Option Addr) (zc : Nat) (zs : Nat) (r : Int) (w0 : World) (v : Value) (w : World) : Prop := v = .func (.func (Int.toNat r)) #[.pointer (some ⟨g0, 0, none⟩)] #[] ∧ St (foots [eW g0 zr zg zl zn, eR zr zs zA zb zc, eS zs zq]) w0 w [eW g0 zr zg zl zn, eR zr zs zA zb zc, eS zs zq]
def gReading_X (zg : Int) (zl : Int) (zn : Int) (zb : List Int) (zq : Bool) (p1 : Int) (g0 : Nat) (zr : Nat) (zA : Option Addr) (zc : Nat) (zs : Nat) (g : Int) (w0 : World) (c : List PanicEntry) (w : World) : Prop := c = goneB 113 g ∧ St (foots [eW g0 zr zg zl zn, eR zr zs zA zb zc, eS zs zq]) w0 w [eW g0 zr zg zl zn, eR zr zs zA zb zc, eS zs zq]
theorem gReading_ok (N : Nat) (zg : Int) (zl : Int) (zn : Int) (zb : List Int) (zq : Bool) (p1 : Int) (g0 : Nat) (zr : Nat) (zA : Option Addr) (zc : Nat) (zs : Nat) (r : Pan (Int) (Int)) (hF : gReading N zg zl zn zb zq p1 = some r) (w0 : World) (_hv0_0 : Vw (foots [eW g0 zr zg zl zn, eR zr zs zA zb zc, eS zs zq]) .u8 w0 zA zc zb) (hl : St (foots [eW g0 zr zg zl zn, eR zr zs zA zb zc, eS zs zq]) w0 w0 [eW g0 zr zg zl zn, eR zr zs zA zb zc, eS zs zq]) :
  Calls Try.prog 72 #[.pointer (some ⟨g0, 0, none⟩), .int .u16 p1] w0 fun e w => (∃ r', r = .ok r' ∧ ∃ v, e = .returned v ∧ gReading_R zg zl zn zb zq p1 g0 zr zA zc zs r' w0 v w) ∨ (∃ g, r = .gone g ∧ ∃ c, e = .panicked c ∧ gReading_X zg zl zn zb zq p1 g0 zr zA zc zs g w0 c w) := by
 have hS0 := hl
 unfold gReading at hF
 refine calls_of Try.func72 rfl ⟨((vP g0) :: (u6 p1) :: un 26 ([])).toArray, []⟩ (by kernel_rfl) (gx_seq (fun K1 hK2 => gx_region (gx_k (Value.nilFunc) w0 (gx_nil (gx_thenN (hK2 _ _ (gx_seq (fun K3 hK4 => ?_))))))))
 refine gx_seq (fun K5 hK6 => gx_region (gx_k (u6 p1) w0 (gx_nil (gx_thenN (hK6 _ _ (gx_block (gx_seq (fun K7 hK8 => ?_))))))))
 refine gx_region ?_
 rcases if_in hF with ⟨h9, hF⟩ | ⟨h9, hF⟩
 refine gx_v (.bool true) w0 (rbE (decide_eq_true h9)) (gx_k (.bool true) w0 (gx_nil (gx_thenN (hK8 _ _ (gx_yes (by kernel_rfl) (gx_region (gx_k (vP g0) w0 (gx_k (.func (.func 87) #[vP g0] #[]) w0 (gx_k (.func (.func 87) #[vP g0] #[]) w0 ?_)))))))))
 refine gx_nil (gx_blkN (gx_thenN (hK4 _ _ (gx_seq (fun K10 hK11 => gx_region (gx_k (.func (.func 87) #[vP g0] #[]) w0 (gx_k (.func (.func 87) #[vP g0] #[]) w0 (gx_nil ?_))))))))
 refine gx_thenN (hK11 _ _ (gx_ret ?_))
 obtain rfl := sj hF
 exact gxF (.func (.func 87) #[vP g0] #[]) (.inl ⟨_, rfl, _, rfl, rfl, hS0⟩)
 refine gx_v (.bool false) w0 (rbE (decide_eq_false h9)) (gx_k (.bool false) w0 (gx_nil (gx_thenN (hK8 _ _ (gx_no (by kernel_rfl) (gx_seq (fun K12 hK13 => gx_region ?_)))))))
 rcases if_in hF with ⟨h14, hF⟩ | ⟨h14, hF⟩
 refine gx_v (.bool true) w0 (rbE (decide_eq_true h14)) (gx_k (.bool true) w0 (gx_nil (gx_thenN (hK13 _ _ (gx_yes (by kernel_rfl) (gx_region (gx_k (vP g0) w0 (gx_k (.func (.func 88) #[vP g0] #[]) w0 (gx_k (.func (.func 88) #[vP g0] #[]) w0 ?_)))))))))
 refine gx_nil (gx_blkN (gx_thenN (hK4 _ _ (gx_seq (fun K15 hK16 => gx_region (gx_k (.func (.func 88) #[vP g0] #[]) w0 (gx_k (.func (.func 88) #[vP g0] #[]) w0 (gx_nil ?_))))))))
 refine gx_thenN (hK16 _ _ (gx_ret ?_))
 obtain rfl := sj hF
 exact gxF (.func (.func 88) #[vP g0] #[]) (.inl ⟨_, rfl, _, rfl, rfl, hS0⟩)
 refine gx_v (.bool false) w0 (rbE (decide_eq_false h14)) (gx_k (.bool false) w0 (gx_nil (gx_thenN (hK13 _ _ (gx_no (by kernel_rfl) (gx_seq (fun K17 hK18 => gx_region ?_)))))))
 rcases if_in hF with ⟨h19, hF⟩ | ⟨h19, hF⟩
 refine gx_v (.bool true) w0 (rbE (decide_eq_true h19)) (gx_k (.bool true) w0 (gx_nil (gx_thenN (hK18 _ _ (gx_yes (by kernel_rfl) (gx_region (gx_k (vP g0) w0 (gx_k (.func (.func 89) #[vP g0] #[]) w0 (gx_k (.func (.func 89) #[vP g0] #[]) w0 ?_)))))))))
 refine gx_nil (gx_blkN (gx_thenN (hK4 _ _ (gx_seq (fun K20 hK21 => gx_region (gx_k (.func (.func 89) #[vP g0] #[]) w0 (gx_k (.func (.func 89) #[vP g0] #[]) w0 (gx_nil ?_))))))))
 refine gx_thenN (hK21 _ _ (gx_ret ?_))
 obtain rfl := sj hF
 exact gxF (.func (.func 89) #[vP g0] #[]) (.inl ⟨_, rfl, _, rfl, rfl, hS0⟩)
 refine gx_v (.bool false) w0 (rbE (decide_eq_false h19)) (gx_k (.bool false) w0 (gx_nil (gx_thenN (hK18 _ _ (gx_no (by kernel_rfl) (gx_seq (fun K22 hK23 => gx_region ?_)))))))
 rcases if_in hF with ⟨h24, hF⟩ | ⟨h24, hF⟩
 refine gx_v (.bool true) w0 (rbE (decide_eq_true h24)) (gx_k (.bool true) w0 (gx_nil (gx_thenN (hK23 _ _ (gx_yes (by kernel_rfl) (gx_region (gx_k (vP g0) w0 (gx_k (.func (.func 90) #[vP g0] #[]) w0 (gx_k (.func (.func 90) #[vP g0] #[]) w0 ?_)))))))))
 refine gx_nil (gx_blkN (gx_thenN (hK4 _ _ (gx_seq (fun K25 hK26 => gx_region (gx_k (.func (.func 90) #[vP g0] #[]) w0 (gx_k (.func (.func 90) #[vP g0] #[]) w0 (gx_nil ?_))))))))
 refine gx_thenN (hK26 _ _ (gx_ret ?_))
 obtain rfl := sj hF
 exact gxF (.func (.func 90) #[vP g0] #[]) (.inl ⟨_, rfl, _, rfl, rfl, hS0⟩)
 refine gx_v (.bool false) w0 (rbE (decide_eq_false h24)) (gx_k (.bool false) w0 (gx_nil (gx_thenN (hK23 _ _ (gx_no (by kernel_rfl) (gx_seq (fun K27 hK28 => gx_region ?_)))))))
 rcases if_in hF with ⟨h29, hF⟩ | ⟨h29, hF⟩
 refine gx_v (.bool true) w0 (rbE (decide_eq_true h29)) (gx_k (.bool true) w0 (gx_nil (gx_thenN (hK28 _ _ (gx_yes (by kernel_rfl) (gx_region (gx_k (vP g0) w0 (gx_k (.func (.func 91) #[vP g0] #[]) w0 (gx_k (.func (.func 91) #[vP g0] #[]) w0 ?_)))))))))
 refine gx_nil (gx_blkN (gx_thenN (hK4 _ _ (gx_seq (fun K30 hK31 => gx_region (gx_k (.func (.func 91) #[vP g0] #[]) w0 (gx_k (.func (.func 91) #[vP g0] #[]) w0 (gx_nil ?_))))))))
 refine gx_thenN (hK31 _ _ (gx_ret ?_))
 obtain rfl := sj hF
 exact gxF (.func (.func 91) #[vP g0] #[]) (.inl ⟨_, rfl, _, rfl, rfl, hS0⟩)
 refine gx_v (.bool false) w0 (rbE (decide_eq_false h29)) (gx_k (.bool false) w0 (gx_nil (gx_thenN (hK28 _ _ (gx_no (by kernel_rfl) (gx_region ?_))))))
 have hP32 : St _ _ w0 ([] ++ [eW g0 zr zg zl zn, eR zr zs zA zb zc, eS zs zq]) := hS0
 obtain ⟨rq40, hc33, hF⟩ := bind_in hF
 rcases rq40 with q0 | x34
 try dsimp only at hF
 cases hF
 try dsimp only at hF
 refine gx_callX _ (by kernel_rfl) (by kernel_rfl) (pan_gone (gGiveUp_ok N  _ hc33 w0 ) :) ?_
 rintro c38 w35 ⟨hx39, hT37⟩
 have hS36 : St _ _ w35 [eW g0 zr zg zl zn, eR zr zs zA zb zc, eS zs zq] := hS0.take _ hT37
 refine gx_blkP (gx_thenP ?_)
 obtain rfl := sj hF
 exact gx_finP (by kernel_rfl) (.inr ⟨_, rfl, _, rfl, hx39, hS36⟩)
def gDisp (N : Nat) (fn : Int) (zg : Int) (zl : Int) (zn : Int) (zb : List Int) (zq : Bool) (p1 : Int) : Option (Pan (List (Int × Int) × List (Int × List Int) × List (List Int × Int) × List (List Int) × List (List Int) × List (List Int) × List (Int × Int) × Int × Bool) (Int × Int × Bool)) :=
  if fn = (87 : Int) then gSingle N zg zl zn zb zq p1 else if fn = (88 : Int) then gMultiple N zg zl zn zb zq p1 else if fn = (89 : Int) then gAlternate N zg zl zn zb zq p1 else if fn = (90 : Int) then gLigatures N zg zl zn zb zq p1 else if fn = (91 : Int) then gChained N zg zl zn zb zq p1 else none
theorem gDisp_ok (N : Nat) (fn : Int) (zg : Int) (zl : Int) (zn : Int) (zb : List Int) (zq : Bool) (p1 : Int) (g0 : Nat) (zr : Nat) (zA : Option Addr) (zc : Nat) (zs : Nat) (r : Pan (List (Int × Int) × List (Int × List Int) × List (List Int × Int) × List (List Int) × List (List Int) × List (List Int) × List (Int × Int) × Int × Bool) (Int × Int × Bool)) (hF : gDisp N fn zg zl zn zb zq p1 = some r) (w0 : World) (hv0_0 : Vw (foots [eW g0 zr zg zl zn, eR zr zs zA zb zc, eS zs zq]) .u8 w0 zA zc zb) (hl : St (foots [eW g0 zr zg zl zn, eR zr zs zA zb zc, eS zs zq]) w0 w0 [eW g0 zr zg zl zn, eR zr zs zA zb zc, eS zs zq]) :
    Calls Try.prog (Int.toNat fn) #[.pointer (some ⟨g0, 0, none⟩), .int .i64 p1] w0 fun e w => (∃ r', r = .ok r' ∧ ∃ v, e = .returned v ∧ gSingle_R zg zl zn zb zq p1 g0 zr zA zc zs r' w0 v w) ∨ (∃ g, r = .gone g ∧ ∃ c, e = .panicked c ∧ gSingle_X zg zl zn zb zq p1 g0 zr zA zc zs g w0 c w) := by
 unfold gDisp at hF
 split at hF
 rename_i h; subst h; exact gSingle_ok N zg zl zn zb zq p1 g0 zr zA zc zs r hF w0 hv0_0 hl
 split at hF
 rename_i h; subst h; exact gMultiple_ok N zg zl zn zb zq p1 g0 zr zA zc zs r hF w0 hv0_0 hl
 split at hF
 rename_i h; subst h; exact gAlternate_ok N zg zl zn zb zq p1 g0 zr zA zc zs r hF w0 hv0_0 hl
 split at hF
 rename_i h; subst h; exact gLigatures_ok N zg zl zn zb zq p1 g0 zr zA zc zs r hF w0 hv0_0 hl
 split at hF
 rename_i h; subst h; exact gChained_ok N zg zl zn zb zq p1 g0 zr zA zc zs r hF w0 hv0_0 hl
 cases hF
theorem gDisp_in {N : Nat} {fn : Int} {zg : Int} {zl : Int} {zn : Int} {zb : List Int} {zq : Bool} {p1 : Int} {r : Pan (List (Int × Int) × List (Int × List Int) × List (List Int × Int) × List (List Int) × List (List Int) × List (List Int) × List (Int × Int) × Int × Bool) (Int × Int × Bool)} (h : gDisp N fn zg zl zn zb zq p1 = some r) : fn = 87 ∨ fn = 88 ∨ fn = 89 ∨ fn = 90 ∨ fn = 91 := by
 unfold gDisp at h
 by_cases h0 : fn = 87
 exact .inl h0
 rw [if_neg h0] at h
 by_cases h1 : fn = 88
 exact .inr (.inl h1)
 rw [if_neg h1] at h
 by_cases h2 : fn = 89
 exact .inr (.inr (.inl h2))
 rw [if_neg h2] at h
 by_cases h3 : fn = 90
 exact .inr (.inr (.inr (.inl h3)))
 rw [if_neg h3] at h
 by_cases h4 : fn = 91
 exact .inr (.inr (.inr (.inr (h4))))
 rw [if_neg h4] at h
 cases h
def gLookup_L1 (N : Nat) (zg : Int) (zl : Int) (zb : List Int) (p1_2 : List Int) (x11 : Int) : Nat → Int → Bool → (List ((List (Int × Int)) × (List (Int × List Int)) × (List (List Int × Int)) × List (List Int) × List (List Int) × List (List Int) × List (Int × Int))) → Int → Option (Ctl (Int × Bool × List ((List (Int × Int)) × (List (Int × List Int)) × (List (List Int × Int)) × List (List Int) × List (List Int) × List (List Int) × List (Int × Int))) (Pan (Int × Int × List ((List (Int × Int)) × (List (Int × List Int)) × (List (List Int × Int)) × List (List Int) × List (List Int) × List (List Int) × List (Int × Int)) × List ((List (Int × Int × Int)) × (List (Int × Int × Int × Int)) × List (Int × List (Bool × Int × Int))) × Int × Bool) (Int × Int × Bool)))
 | 0, _, _, _, _ => none
 | k55+1, x45, b46, l51, x52 => (if x52 < ((p1_2.length : Nat) : Int) then ((ix p1_2 x52).bind fun x66 => ((gDisp N x11 zg zl x45 zb b46 x66).bind fun | Pan.ok (l74, l79, l84, l89, l94, l99, l104, x72, b73) => ((apg l51 ([(l74, l79, l84, l89, l94, l99, l104)] : List ((List (Int × Int)) × (List (Int × List Int)) × (List (List Int × Int)) × List (List Int) × List (List Int) × List (List Int) × List (Int × Int)))).bind fun l165 => gLookup_L1 N zg zl zb p1_2 x11 k55 x72 b73 l165 (IntKind.i64.wrap (x52 + 1))) | Pan.gone (x175, x176, b177) => some (Ctl.ret (Pan.gone (x175, x176, b177))))) else some (Ctl.go (x45, b46, l51)))
def gLookup (N : Nat) (zg : Int) (zl : Int) (zn : Int) (zb : List Int) (zq : Bool) (p1_0 : Int) (p1_1 : Int) (p1_2 : List Int) : Option (Pan (Int × Int × List ((List (Int × Int)) × (List (Int × List Int)) × (List (List Int × Int)) × List (List Int) × List (List Int) × List (List Int) × List (Int × Int)) × List ((List (Int × Int × Int)) × (List (Int × Int × Int × Int)) × List (Int × List (Bool × Int × Int))) × Int × Bool) (Int × Int × Bool)) :=
 ((gReading N zg zl zn zb zq p1_0).bind fun | Pan.ok x11 => ((gLookup_L1 N zg zl zb p1_2 x11 N zn zq ([] : List ((List (Int × Int)) × (List (Int × List Int)) × (List (List Int × Int)) × List (List Int) × List (List Int) × List (List Int) × List (Int × Int))) 0 : Option (Ctl (Int × Bool × List ((List (Int × Int)) × (List (Int × List Int)) × (List (List Int × Int)) × List (List Int) × List (List Int) × List (List Int) × List (Int × Int))) (Pan (Int × Int × List ((List (Int × Int)) × (List (Int × List Int)) × (List (List Int × Int)) × List (List Int) × List (List Int) × List (List Int) × List (Int × Int)) × List ((List (Int × Int × Int)) × (List (Int × Int × Int × Int)) × List (Int × List (Bool × Int × Int))) × Int × Bool) (Int × Int × Bool)))).bind fun | Ctl.go (x27, b28, l33) => some (Pan.ok (p1_0, p1_1, l33, ([] : List ((List (Int × Int × Int)) × (List (Int × Int × Int × Int)) × List (Int × List (Bool × Int × Int)))), x27, b28)) | Ctl.ret r => some r) | Pan.gone x195 => some (Pan.gone (x195, zn, zq)))
def gLookup_R (zg : Int) (zl : Int) (zn : Int) (zb : List Int) (zq : Bool) (p1_0 : Int) (p1_1 : Int) (p1_2 : List Int) (g0 : Nat) (zr : Nat) (zA : Option Addr) (zc : Nat) (zs : Nat) (A1_2 : Option Addr) (c1_2 : Nat) (r : Int × Int × List ((List (Int × Int)) × (List (Int × List Int)) × (List (List Int × Int)) × List (List Int) × List (List Int) × List (List Int) × List (Int × Int)) × List ((List (Int × Int × Int)) × (List (Int × Int × Int × Int)) × List (Int × List (Bool × Int × Int))) × Int × Bool) (w0 : World) (v : Value) (w : World) : Prop := ∃ (A0_2' : Option Addr) (c0_2' : Nat) (vs0_2' : List Value) (A0_3' : Option Addr) (c0_3' : Nat) (vs0_3' : List Value) (ft' : List Nat), v = .agg #[.int .u16 r.1, .int .u16 r.2.1, .slice A0_2' r.2.2.1.length c0_2', .slice A0_3' r.2.2.2.1.length c0_3'] ∧ St (foots [eW g0 zr zg zl zn, eR zr zs zA zb zc, eS zs zq]) w0 w [eW g0 zr zg zl r.2.2.2.2.1, eR zr zs zA zb zc, eS zs r.2.2.2.2.2, rowG 43 7 (.slice A0_2' r.2.2.1.length c0_2') r.2.2.1.length vs0_2', rowG 86 3 (.slice A0_3' r.2.2.2.1.length c0_3') r.2.2.2.1.length vs0_3', poolE ft' w] ∧ (fEach encapiSub vs0_2' r.2.2.1).rd w ft' ∧ (fEach encapiPos vs0_3' r.2.2.2.1).rd w ft'
def gLookup_X (zg : Int) (zl : Int) (zn : Int) (zb : List Int) (zq : Bool) (p1_0 : Int) (p1_1 : Int) (p1_2 : List Int) (g0 : Nat) (zr : Nat) (zA : Option Addr) (zc : Nat) (zs : Nat) (A1_2 : Option Addr) (c1_2 : Nat) (g : Int × Int × Bool) (w0 : World) (c : List PanicEntry) (w : World) : Prop := c = goneB 113 g.1 ∧ St (foots [eW g0 zr zg zl zn, eR zr zs zA zb zc, eS zs zq]) w0 w [eW g0 zr zg zl g.2.1, eR zr zs zA zb zc, eS zs g.2.2]
theorem gLookup_ok (N : Nat) (zg : Int) (zl : Int) (zn : Int) (zb : List Int) (zq : Bool) (p1_0 : Int) (p1_1 : Int) (p1_2 : List Int) (g0 : Nat) (zr : Nat) (zA : Option Addr) (zc : Nat) (zs : Nat) (A1_2 : Option Addr) (c1_2 : Nat) (r : Pan (Int × Int × List ((List (Int × Int)) × (List (Int × List Int)) × (List (List Int × Int)) × List (List Int) × List (List Int) × List (List Int) × List (Int × Int)) × List ((List (Int × Int × Int)) × (List (Int × Int × Int × Int)) × List (Int × List (Bool × Int × Int))) × Int × Bool) (Int × Int × Bool)) (hF : gLookup N zg zl zn zb zq p1_0 p1_1 p1_2 = some r) (w0 : World) (hv0_0 : Vw (foots [eW g0 zr zg zl zn, eR zr zs zA zb zc, eS zs zq]) .u8 w0 zA zc zb) (hv1_2 : Vw (foots [eW g0 zr zg zl zn, eR zr zs zA zb zc, eS zs zq]) .i64 w0 A1_2 c1_2 p1_2) (hl : St (foots [eW g0 zr zg zl zn, eR zr zs zA zb zc, eS zs zq]) w0 w0 [eW g0 zr zg zl zn, eR zr zs zA zb zc, eS zs zq]) :
  Calls Try.prog 48 #[.pointer (some ⟨g0, 0, none⟩), .agg #[.int .u16 p1_0, .int .u16 p1_1, .slice A1_2 p1_2.length c1_2]] w0 fun e w => (∃ r', r = .ok r' ∧ ∃ v, e = .returned v ∧ gLookup_R zg zl zn zb zq p1_0 p1_1 p1_2 g0 zr zA zc zs A1_2 c1_2 r' w0 v w) ∨ (∃ g, r = .gone g ∧ ∃ c, e = .panicked c ∧ gLookup_X zg zl zn zb zq p1_0 p1_1 p1_2 g0 zr zA zc zs A1_2 c1_2 g w0 c w) := by
 have hS0 := (hl).pool0
 unfold gLookup at hF
 refine calls_of Try.func48 rfl ⟨((vP g0) :: (.agg #[u6 p1_0, u6 p1_1, .slice A1_2 p1_2.length c1_2]) :: un 33 ([])).toArray, []⟩ (by kernel_rfl) (gx_seq (fun K1 hK2 => gx_region (gx_r (st_boxed [u6 p1_0, u6 p1_1, .slice A1_2 p1_2.length c1_2] 121 hS0 (by kernel_rfl)) ?_)))
 rintro _ w3 ⟨rfl, hS4⟩
 have hS4 : St _ _ w3 [eW g0 zr zg zl zn, eR zr zs zA zb zc, eS zs zq, poolE ([]) w0, boxE w0.heap.size [u6 p1_0, u6 p1_1, .slice A1_2 p1_2.length c1_2] 121] := hS4
 refine gx_r (st_boxed [u6 0, u6 0, nS, nS] 35 hS4 (by kernel_rfl)) ?_
 rintro _ w5 ⟨rfl, hS6⟩
 have hS6 : St _ _ w5 [eW g0 zr zg zl zn, eR zr zs zA zb zc, eS zs zq, poolE ([]) w0, boxE w0.heap.size [u6 p1_0, u6 p1_1, .slice A1_2 p1_2.length c1_2] 121, boxE w3.heap.size [u6 0, u6 0, nS, nS] 35] := hS6
 refine gx_nil (gx_thenN (hK2 _ _ (gx_seq (fun K7 hK8 => gx_region (gx_k (vP g0) w5 (gx_k (vP w0.heap.size) w5 (gx_v (u6 p1_0) w5 (rl1 (hS6.box 4 rfl 0 rfl)) ?_)))))))
 have hP9 : St _ _ w5 ([eW g0 zr zg zl zn, eR zr zs zA zb zc, eS zs zq] ++ [poolE ([]) w0, boxE w0.heap.size [u6 p1_0, u6 p1_1, .slice A1_2 p1_2.length c1_2] 121, boxE w3.heap.size [u6 0, u6 0, nS, nS] 35]) := hS6
 obtain ⟨rq201, hc10, hF⟩ := bind_in hF
 rcases rq201 with x11 | x195
 try dsimp only at hF
 refine gx_c _ (pan_ok (gReading_ok N zg zl zn zb zq p1_0 g0 zr zA zc zs _ hc10 w5 (hP9.vwA hv0_0) hP9.part) :) ?_
 rintro _ w12 ⟨rfl, hT14⟩
 have hS13 : St _ _ w12 [poolE ([]) w0, boxE w0.heap.size [u6 p1_0, u6 p1_1, .slice A1_2 p1_2.length c1_2] 121, boxE w3.heap.size [u6 0, u6 0, nS, nS] 35, eW g0 zr zg zl zn, eR zr zs zA zb zc, eS zs zq] := hP9.lendN _ hT14
 refine gx_k (.func (.func (Int.toNat x11)) #[vP g0] #[]) w12 (gx_nil (gx_thenN (hK8 _ _ (gx_seq (fun K15 hK16 => gx_region (gx_k (vP w0.heap.size) w12 (gx_v (u6 p1_0) w12 (rl1 (hS13.box 1 rfl 0 rfl)) ?_)))))))
 refine gx_k (vQ w0.heap.size 1) w12 (gx_v (u6 p1_1) w12 (rl1 (hS13.box 1 rfl 1 rfl)) (gx_k (.agg #[u6 p1_0, u6 p1_1, nS, nS]) w12 (gx_r (st_boxed [u6 0, u6 0, nS, nS] 35 hS13 (by kernel_rfl)) ?_)))
 rintro _ w17 ⟨rfl, hS18⟩
 have hS18 : St _ _ w17 [poolE ([]) w0, boxE w0.heap.size [u6 p1_0, u6 p1_1, .slice A1_2 p1_2.length c1_2] 121, boxE w3.heap.size [u6 0, u6 0, nS, nS] 35, eW g0 zr zg zl zn, eR zr zs zA zb zc, eS zs zq, boxE w12.heap.size [u6 0, u6 0, nS, nS] 35] := hS18
 refine gx_s (st_storeG (cs := [u6 0, u6 0, nS, nS]) (ds := [u6 p1_0, u6 p1_1, nS, nS]) rfl (by kernel_rfl) (by kernel_rfl) (by kernel_rfl) rfl rfl hS18 6 rfl) ?_
 rintro w19 hS20
 have hS20 : St _ _ w19 [poolE ([]) w0, boxE w0.heap.size [u6 p1_0, u6 p1_1, .slice A1_2 p1_2.length c1_2] 121, boxE w3.heap.size [u6 0, u6 0, nS, nS] 35, eW g0 zr zg zl zn, eR zr zs zA zb zc, eS zs zq, boxE w12.heap.size [u6 p1_0, u6 p1_1, nS, nS] 35] := hS20
 refine gx_nil (gx_thenN (hK16 _ _ ?_))
 obtain ⟨c34, hE35, hO36⟩ := bind_in hF
 refine gx_cut (fun a w => ∃ (x27 : Int) (b28 : Bool) (l33 : List ((List (Int × Int)) × (List (Int × List Int)) × (List (List Int × Int)) × List (List Int) × List (List Int) × List (List Int) × List (Int × Int))) (ft24 : List Nat) (W25 : World) (A29 : Option Addr) (c30 : Nat) (vs31 : List Value), selfA (fun u23 => ⟨((vP g0) :: (u23 1) :: undef :: (vP w0.heap.size) :: (vP w3.heap.size) :: (.func (.func (Int.toNat x11)) #[vP g0] #[]) :: (vP w12.heap.size) :: undef :: (u23 8) :: (vP g0) :: (vP w0.heap.size) :: (u6 p1_0) :: (.func (.func (Int.toNat x11)) #[vP g0] #[]) :: (vP w0.heap.size) :: (u6 p1_0) :: (vQ w0.heap.size 1) :: (u6 p1_1) :: dd u23 17 17 (undef :: [])).toArray, []⟩) a ∧ Ctl.go (x27, b28, l33) = c34 ∧ St (foots [eW g0 zr zg zl zn, eR zr zs zA zb zc, eS zs zq]) w0 w [poolE ft24 W25, boxE w0.heap.size [u6 p1_0, u6 p1_1, .slice A1_2 p1_2.length c1_2] 121, boxE w3.heap.size [u6 0, u6 0, nS, nS] 35, eW g0 zr zg zl x27, eR zr zs zA zb zc, eS zs b28, rowG 43 7 (.slice A29 l33.length c30) l33.length vs31, boxE w12.heap.size [u6 p1_0, u6 p1_1, .slice A29 l33.length c30, nS] 35] ∧ Turn (foots [eW g0 zr zg zl zn, eR zr zs zA zb zc, eS zs zq]) w0 w0 ([]) W25 ft24 ∧ (fEach encapiSub vs31 l33).rd W25 ft24) ?_ ?_
 refine gx_seq (fun K37 hK38 => gx_region (gx_k (vQ w0.heap.size 2) w19 (gx_v (.slice A1_2 p1_2.length c1_2) w19 (rl1 (hS20.box 1 rfl 2 rfl)) (gx_k (i6 ((p1_2.length : Nat) : Int)) w19 (gx_k (i6 0) w19 (gx_nil (gx_thenN (hK38 _ _ ?_))))))))
 refine gx_block ?_
 have hS53 : St _ _ w19 [poolE ([]) w0, boxE w0.heap.size [u6 p1_0, u6 p1_1, .slice A1_2 p1_2.length c1_2] 121, boxE w3.heap.size [u6 0, u6 0, nS, nS] 35, eW g0 zr zg zl zn, eR zr zs zA zb zc, eS zs zq, boxE w12.heap.size [u6 p1_0, u6 p1_1, nS, nS] 35, rowG 43 7 (.slice none (([] : List ((List (Int × Int)) × (List (Int × List Int)) × (List (List Int × Int)) × List (List Int) × List (List Int) × List (List Int) × List (Int × Int))).length) 0) (([] : List ((List (Int × Int)) × (List (Int × List Int)) × (List (List Int × Int)) × List (List Int) × List (List Int) × List (List Int) × List (Int × Int))).length) ([])] := hS20.nilrowN 43 7
 have hf54 : (fEach encapiSub [] []).rd w0 ([]) := each_nil
 refine gx_loop (fun k a w => ∃ (x45 : Int) (b46 : Bool) (l51 : List ((List (Int × Int)) × (List (Int × List Int)) × (List (List Int × Int)) × List (List Int) × List (List Int) × List (List Int) × List (Int × Int))) (x52 : Int) (ft42 : List Nat) (W43 : World) (A47 : Option Addr) (c48 : Nat) (vs49 : List Value), selfA (fun u41 => ⟨((vP g0) :: (u41 1) :: undef :: (vP w0.heap.size) :: (vP w3.heap.size) :: (.func (.func (Int.toNat x11)) #[vP g0] #[]) :: (vP w12.heap.size) :: undef :: (u41 8) :: (vP g0) :: (vP w0.heap.size) :: (u6 p1_0) :: (.func (.func (Int.toNat x11)) #[vP g0] #[]) :: (vP w0.heap.size) :: (u6 p1_0) :: (vQ w0.heap.size 1) :: (u6 p1_1) :: (u41 17) :: (vQ w0.heap.size 2) :: (.slice A1_2 p1_2.length c1_2) :: (i6 ((p1_2.length : Nat) : Int)) :: (i6 x52) :: dd u41 22 12 (undef :: [])).toArray, []⟩) a ∧ gLookup_L1 N zg zl zb p1_2 x11 k x45 b46 l51 x52 = some c34 ∧ St (foots [eW g0 zr zg zl zn, eR zr zs zA zb zc, eS zs zq]) w0 w [poolE ft42 W43, boxE w0.heap.size [u6 p1_0, u6 p1_1, .slice A1_2 p1_2.length c1_2] 121, boxE w3.heap.size [u6 0, u6 0, nS, nS] 35, eW g0 zr zg zl x45, eR zr zs zA zb zc, eS zs b46, rowG 43 7 (.slice A47 l51.length c48) l51.length vs49, boxE w12.heap.size [u6 p1_0, u6 p1_1, .slice A47 l51.length c48, nS] 35] ∧ Turn (foots [eW g0 zr zg zl zn, eR zr zs zA zb zc, eS zs zq]) w0 w0 ([]) W43 ft42 ∧ (fEach encapiSub vs49 l51).rd W43 ft42) N ?_ ?_
 exact ⟨zn, zq, ([] : List ((List (Int × Int)) × (List (Int × List Int)) × (List (List Int × Int)) × List (List Int) × List (List Int) × List (List Int) × List (Int × Int))), 0, ([]), w0, none, 0, ([]), selfA_i (by kernel_rfl), hE35, (hS53.pick [0, 1, 2, 3, 4, 5, 7, 6] rfl rfl), (Turn.refl _ _ _ _), hf54⟩
 rintro k55 _ w39 ⟨x45, b46, l51, x52, ft42, W43, A47, c48, vs49, hq186, hL56, hS40, hT44, hf50⟩
 obtain ⟨u41, rfl⟩ := selfA_u hq186
 rcases k55 with _ | k55
 cases hL56
 first | rw [gLookup_L1] at hL56 | unfold gLookup_L1 at hL56
 refine gx_seq (fun K57 hK58 => gx_region ?_)
 rcases if_in hL56 with ⟨h59, hL56⟩ | ⟨h59, hL56⟩
 refine gx_v (.bool true) w39 (rbE (decide_eq_true h59)) (gx_nil (gx_thenN (hK58 _ _ (gx_seq (fun K60 hK61 => gx_yes (by kernel_rfl) (gx_pass (gx_thenN ?_)))))))
 refine hK61 _ _ (gx_seq (fun K62 hK63 => gx_block (gx_seq (fun K64 hK65 => gx_region ?_))))
 obtain ⟨x66, hx67, hL56⟩ := bind_in hL56
 refine gx_v (pI x52 A1_2) w39 (rix 3 .i64 hx67 ((hS40.view hv1_2))) (gx_v (i6 x66) w39 (rlx (hS40.view hv1_2) hx67) (gx_k (i6 x66) w39 (gx_nil (gx_thenN (hK65 _ _ (gdst (fun w => St (foots [eW g0 zr zg zl zn, eR zr zs zA zb zc, eS zs zq]) w0 w [boxE w0.heap.size [u6 p1_0, u6 p1_1, .slice A1_2 p1_2.length c1_2] 121, boxE w3.heap.size [u6 0, u6 0, nS, nS] 35, eR zr zs zA zb zc, boxE w12.heap.size [u6 p1_0, u6 p1_1, .slice A47 l51.length c48, nS] 35]) 9 ?_))))))
 have hS69 := hS40.drew
 generalize w39.drew = w68 at hS69 ⊢
 refine gv1 0 25 (vQ w12.heap.size 2) rfl (hS69.pick [1, 2, 4, 7] rfl rfl) (gu1 1 26 (.slice A47 l51.length c48) rfl (hS69.pick [1, 2, 4, 7] rfl rfl) (fun w hSw => rl1 (hSw.box 3 rfl 2 rfl)) (gv1 2 27 (.func (.func (Int.toNat x11)) #[vP g0] #[]) rfl (hS69.pick [1, 2, 4, 7] rfl rfl) (gv1 3 28 (i6 x66) rfl (hS69.pick [1, 2, 4, 7] rfl rfl) ?_)))
 have hP70 : St _ _ w68 ([eW g0 zr zg zl x45, eR zr zs zA zb zc, eS zs b46] ++ [poolE ft42 W43, boxE w0.heap.size [u6 p1_0, u6 p1_1, .slice A1_2 p1_2.length c1_2] 121, boxE w3.heap.size [u6 0, u6 0, nS, nS] 35, rowG 43 7 (.slice A47 l51.length c48) l51.length vs49, boxE w12.heap.size [u6 p1_0, u6 p1_1, .slice A47 l51.length c48, nS] 35]) := hS69.pick [3, 4, 5, 0, 1, 2, 6, 7] rfl rfl
 obtain ⟨rq183, hc71, hL56⟩ := bind_in hL56
 rcases rq183 with q0 | q0
 obtain ⟨l74, l79, l84, l89, l94, l99, l104, x72, b73⟩ := q0
 try dsimp only at hL56
 refine gdC 4 ⟨some 29, _, _, _, _, _⟩ _ rfl (by rcases gDisp_in hc71 with h | h | h | h | h <;> rw [h] <;> kernel_rfl) (pan_ok (gDisp_ok N x11 zg zl x45 zb b46 x66 g0 zr zA zc zs _ hc71 w68 (hP70.vwA hv0_0) hP70.part) :) ?_
 rintro _ w110 ⟨A75, c76, vs77, A80, c81, vs82, A85, c86, vs87, A90, c91, vs92, A95, c96, vs97, A100, c101, vs102, A105, c106, vs107, ft109, rfl, hT112, hf78, hf83, hf88, hf93, hf98, hf103, hf108⟩
 have hS111 : St _ _ w110 [poolE ft42 W43, boxE w0.heap.size [u6 p1_0, u6 p1_1, .slice A1_2 p1_2.length c1_2] 121, boxE w3.heap.size [u6 0, u6 0, nS, nS] 35, rowG 43 7 (.slice A47 l51.length c48) l51.length vs49, boxE w12.heap.size [u6 p1_0, u6 p1_1, .slice A47 l51.length c48, nS] 35, eW g0 zr zg zl x72, eR zr zs zA zb zc, eS zs b73, rowG 74 2 (.slice A75 l74.length c76) l74.length vs77, rowG 76 2 (.slice A80 l79.length c81) l79.length vs82, rowG 62 2 (.slice A85 l84.length c86) l84.length vs87, rowG 60 1 (.slice A90 l89.length c91) l89.length vs92, rowG 60 1 (.slice A95 l94.length c96) l94.length vs97, rowG 60 1 (.slice A100 l99.length c101) l99.length vs102, rowG 79 2 (.slice A105 l104.length c106) l104.length vs107, poolE ft109 w110] := hP70.lendN _ hT112
 obtain ⟨ft113, W114, hS115, hT116, hU117⟩ := hS111.merge 15 0 rfl rfl (by decide)
 have hS115 : St _ _ w110 [poolE ft113 W114, boxE w0.heap.size [u6 p1_0, u6 p1_1, .slice A1_2 p1_2.length c1_2] 121, boxE w3.heap.size [u6 0, u6 0, nS, nS] 35, rowG 43 7 (.slice A47 l51.length c48) l51.length vs49, boxE w12.heap.size [u6 p1_0, u6 p1_1, .slice A47 l51.length c48, nS] 35, eW g0 zr zg zl x72, eR zr zs zA zb zc, eS zs b73, rowG 74 2 (.slice A75 l74.length c76) l74.length vs77, rowG 76 2 (.slice A80 l79.length c81) l79.length vs82, rowG 62 2 (.slice A85 l84.length c86) l84.length vs87, rowG 60 1 (.slice A90 l89.length c91) l89.length vs92, rowG 60 1 (.slice A95 l94.length c96) l94.length vs97, rowG 60 1 (.slice A100 l99.length c101) l99.length vs102, rowG 79 2 (.slice A105 l104.length c106) l104.length vs107] := hS115
 have hT116 : Turn (foots [eW g0 zr zg zl zn, eR zr zs zA zb zc, eS zs zq]) w0 W43 ft42 W114 ft113 := hT116
 have hf120 : (fEach (pairE (intE .u16) (intE .u16)) vs77 l74).rd W114 ft113 := hU117 _ hf78
 have hf121 : (fEach (pairE (intE .u16) (rowOf (intE .u16))) vs82 l79).rd W114 ft113 := hU117 _ hf83
 have hf122 : (fEach (pairE (rowOf (intE .u16)) (intE .u16)) vs87 l84).rd W114 ft113 := hU117 _ hf88
 have hf123 : (fEach (rowOf (intE .u16)) vs92 l89).rd W114 ft113 := hU117 _ hf93
 have hf124 : (fEach (rowOf (intE .u16)) vs97 l94).rd W114 ft113 := hU117 _ hf98
 have hf125 : (fEach (rowOf (intE .u16)) vs102 l99).rd W114 ft113 := hU117 _ hf103
 have hf126 : (fEach (pairE (intE .i64) (intE .i64)) vs107 l104).rd W114 ft113 := hU117 _ hf108
 refine ⟨(hS115.pick [1, 2, 6, 4] rfl rfl), ?_⟩
 obtain ⟨ft127, W128, hS129, hT130, hf131⟩ := hS115.freezeN (e := (pairE (intE .u16) (intE .u16))) 8 0 rfl rfl (by decide) rfl hf120
 have hS129 : St _ _ w110 [poolE ft127 W128, boxE w0.heap.size [u6 p1_0, u6 p1_1, .slice A1_2 p1_2.length c1_2] 121, boxE w3.heap.size [u6 0, u6 0, nS, nS] 35, rowG 43 7 (.slice A47 l51.length c48) l51.length vs49, boxE w12.heap.size [u6 p1_0, u6 p1_1, .slice A47 l51.length c48, nS] 35, eW g0 zr zg zl x72, eR zr zs zA zb zc, eS zs b73, rowG 76 2 (.slice A80 l79.length c81) l79.length vs82, rowG 62 2 (.slice A85 l84.length c86) l84.length vs87, rowG 60 1 (.slice A90 l89.length c91) l89.length vs92, rowG 60 1 (.slice A95 l94.length c96) l94.length vs97, rowG 60 1 (.slice A100 l99.length c101) l99.length vs102, rowG 79 2 (.slice A105 l104.length c106) l104.length vs107] := hS129
 have hT130 : Turn (foots [eW g0 zr zg zl zn, eR zr zs zA zb zc, eS zs zq]) w0 W114 ft113 W128 ft127 := hT130
 have hf131 : (fSl (pairE (intE .u16) (intE .u16)) A75 c76 vs77 l74).rd W128 ft127 := hf131
 obtain ⟨ft132, W133, hS134, hT135, hf136⟩ := hS129.freezeN (e := (pairE (intE .u16) (rowOf (intE .u16)))) 8 0 rfl rfl (by decide) rfl (hT130.pool hf121)
 have hS134 : St _ _ w110 [poolE ft132 W133, boxE w0.heap.size [u6 p1_0, u6 p1_1, .slice A1_2 p1_2.length c1_2] 121, boxE w3.heap.size [u6 0, u6 0, nS, nS] 35, rowG 43 7 (.slice A47 l51.length c48) l51.length vs49, boxE w12.heap.size [u6 p1_0, u6 p1_1, .slice A47 l51.length c48, nS] 35, eW g0 zr zg zl x72, eR zr zs zA zb zc, eS zs b73, rowG 62 2 (.slice A85 l84.length c86) l84.length vs87, rowG 60 1 (.slice A90 l89.length c91) l89.length vs92, rowG 60 1 (.slice A95 l94.length c96) l94.length vs97, rowG 60 1 (.slice A100 l99.length c101) l99.length vs102, rowG 79 2 (.slice A105 l104.length c106) l104.length vs107] := hS134
 have hT135 : Turn (foots [eW g0 zr zg zl zn, eR zr zs zA zb zc, eS zs zq]) w0 W128 ft127 W133 ft132 := hT135
 have hf136 : (fSl (pairE (intE .u16) (rowOf (intE .u16))) A80 c81 vs82 l79).rd W133 ft132 := hf136
 obtain ⟨ft137, W138, hS139, hT140, hf141⟩ := hS134.freezeN (e := (pairE (rowOf (intE .u16)) (intE .u16))) 8 0 rfl rfl (by decide) rfl (hT135.pool (hT130.pool hf122))
 have hS139 : St _ _ w110 [poolE ft137 W138, boxE w0.heap.size [u6 p1_0, u6 p1_1, .slice A1_2 p1_2.length c1_2] 121, boxE w3.heap.size [u6 0, u6 0, nS, nS] 35, rowG 43 7 (.slice A47 l51.length c48) l51.length vs49, boxE w12.heap.size [u6 p1_0, u6 p1_1, .slice A47 l51.length c48, nS] 35, eW g0 zr zg zl x72, eR zr zs zA zb zc, eS zs b73, rowG 60 1 (.slice A90 l89.length c91) l89.length vs92, rowG 60 1 (.slice A95 l94.length c96) l94.length vs97, rowG 60 1 (.slice A100 l99.length c101) l99.length vs102, rowG 79 2 (.slice A105 l104.length c106) l104.length vs107] := hS139
 have hT140 : Turn (foots [eW g0 zr zg zl zn, eR zr zs zA zb zc, eS zs zq]) w0 W133 ft132 W138 ft137 := hT140
 have hf141 : (fSl (pairE (rowOf (intE .u16)) (intE .u16)) A85 c86 vs87 l84).rd W138 ft137 := hf141
 obtain ⟨ft142, W143, hS144, hT145, hf146⟩ := hS139.freezeN (e := (rowOf (intE .u16))) 8 0 rfl rfl (by decide) rfl (hT140.pool (hT135.pool (hT130.pool hf123)))
 have hS144 : St _ _ w110 [poolE ft142 W143, boxE w0.heap.size [u6 p1_0, u6 p1_1, .slice A1_2 p1_2.length c1_2] 121, boxE w3.heap.size [u6 0, u6 0, nS, nS] 35, rowG 43 7 (.slice A47 l51.length c48) l51.length vs49, boxE w12.heap.size [u6 p1_0, u6 p1_1, .slice A47 l51.length c48, nS] 35, eW g0 zr zg zl x72, eR zr zs zA zb zc, eS zs b73, rowG 60 1 (.slice A95 l94.length c96) l94.length vs97, rowG 60 1 (.slice A100 l99.length c101) l99.length vs102, rowG 79 2 (.slice A105 l104.length c106) l104.length vs107] := hS144
 have hT145 : Turn (foots [eW g0 zr zg zl zn, eR zr zs zA zb zc, eS zs zq]) w0 W138 ft137 W143 ft142 := hT145
 have hf146 : (fSl (rowOf (intE .u16)) A90 c91 vs92 l89).rd W143 ft142 := hf146
 obtain ⟨ft147, W148, hS149, hT150, hf151⟩ := hS144.freezeN (e := (rowOf (intE .u16))) 8 0 rfl rfl (by decide) rfl (hT145.pool (hT140.pool (hT135.pool (hT130.pool hf124))))
 have hS149 : St _ _ w110 [poolE ft147 W148, boxE w0.heap.size [u6 p1_0, u6 p1_1, .slice A1_2 p1_2.length c1_2] 121, boxE w3.heap.size [u6 0, u6 0, nS, nS] 35, rowG 43 7 (.slice A47 l51.length c48) l51.length vs49, boxE w12.heap.size [u6 p1_0, u6 p1_1, .slice A47 l51.length c48, nS] 35, eW g0 zr zg zl x72, eR zr zs zA zb zc, eS zs b73, rowG 60 1 (.slice A100 l99.length c101) l99.length vs102, rowG 79 2 (.slice A105 l104.length c106) l104.length vs107] := hS149
 have hT150 : Turn (foots [eW g0 zr zg zl zn, eR zr zs zA zb zc, eS zs zq]) w0 W143 ft142 W148 ft147 := hT150
 have hf151 : (fSl (rowOf (intE .u16)) A95 c96 vs97 l94).rd W148 ft147 := hf151
 obtain ⟨ft152, W153, hS154, hT155, hf156⟩ := hS149.freezeN (e := (rowOf (intE .u16))) 8 0 rfl rfl (by decide) rfl (hT150.pool (hT145.pool (hT140.pool (hT135.pool (hT130.pool hf125)))))
 have hS154 : St _ _ w110 [poolE ft152 W153, boxE w0.heap.size [u6 p1_0, u6 p1_1, .slice A1_2 p1_2.length c1_2] 121, boxE w3.heap.size [u6 0, u6 0, nS, nS] 35, rowG 43 7 (.slice A47 l51.length c48) l51.length vs49, boxE w12.heap.size [u6 p1_0, u6 p1_1, .slice A47 l51.length c48, nS] 35, eW g0 zr zg zl x72, eR zr zs zA zb zc, eS zs b73, rowG 79 2 (.slice A105 l104.length c106) l104.length vs107] := hS154
 have hT155 : Turn (foots [eW g0 zr zg zl zn, eR zr zs zA zb zc, eS zs zq]) w0 W148 ft147 W153 ft152 := hT155
 have hf156 : (fSl (rowOf (intE .u16)) A100 c101 vs102 l99).rd W153 ft152 := hf156
 obtain ⟨ft157, W158, hS159, hT160, hf161⟩ := hS154.freezeN (e := (pairE (intE .i64) (intE .i64))) 8 0 rfl rfl (by decide) rfl (hT155.pool (hT150.pool (hT145.pool (hT140.pool (hT135.pool (hT130.pool hf126))))))
 have hS159 : St _ _ w110 [poolE ft157 W158, boxE w0.heap.size [u6 p1_0, u6 p1_1, .slice A1_2 p1_2.length c1_2] 121, boxE w3.heap.size [u6 0, u6 0, nS, nS] 35, rowG 43 7 (.slice A47 l51.length c48) l51.length vs49, boxE w12.heap.size [u6 p1_0, u6 p1_1, .slice A47 l51.length c48, nS] 35, eW g0 zr zg zl x72, eR zr zs zA zb zc, eS zs b73] := hS159
 have hT160 : Turn (foots [eW g0 zr zg zl zn, eR zr zs zA zb zc, eS zs zq]) w0 W153 ft152 W158 ft157 := hT160
 have hf161 : (fSl (pairE (intE .i64) (intE .i64)) A105 c106 vs107 l104).rd W158 ft157 := hf161
 have hf162 : (fEach encapiSub [.slice A75 l74.length c76, .slice A80 l79.length c81, .slice A85 l84.length c86, .slice A90 l89.length c91, .slice A95 l94.length c96, .slice A100 l99.length c101, .slice A105 l104.length c106] [(l74, l79, l84, l89, l94, l99, l104)]).rd W158 ft157 := (each_cons (rd_pair (rd_row rfl (hT160.pool (hT155.pool (hT150.pool (hT145.pool (hT140.pool (hT135.pool hf131))))))) (rd_pair (rd_row rfl (hT160.pool (hT155.pool (hT150.pool (hT145.pool (hT140.pool hf136)))))) (rd_pair (rd_row rfl (hT160.pool (hT155.pool (hT150.pool (hT145.pool hf141))))) (rd_pair (rd_row rfl (hT160.pool (hT155.pool (hT150.pool hf146)))) (rd_pair (rd_row rfl (hT160.pool (hT155.pool hf151))) (rd_pair (rd_row rfl (hT160.pool hf156)) (rd_row rfl hf161))))))) each_nil)
 refine gdR 5 ⟨some 30, _, _, _, _, _⟩ rfl (st_madeP (e := encapiSub) 43 1 [.slice A75 l74.length c76, .slice A80 l79.length c81, .slice A85 l84.length c86, .slice A90 l89.length c91, .slice A95 l94.length c96, .slice A100 l99.length c101, .slice A105 l104.length c106] [(l74, l79, l84, l89, l94, l99, l104)] hS159 rfl hf162 (by decide) (by kernel_rfl)) ?_
 rintro _ w163 ⟨rfl, hS164⟩
 have hS164 : St _ _ w163 [poolE ft157 W158, boxE w0.heap.size [u6 p1_0, u6 p1_1, .slice A1_2 p1_2.length c1_2] 121, boxE w3.heap.size [u6 0, u6 0, nS, nS] 35, rowG 43 7 (.slice A47 l51.length c48) l51.length vs49, boxE w12.heap.size [u6 p1_0, u6 p1_1, .slice A47 l51.length c48, nS] 35, eW g0 zr zg zl x72, eR zr zs zA zb zc, eS zs b73, rowG 43 7 (.slice (some ⟨w110.heap.size, 0, none⟩) 1 1) 1 ([.slice A75 l74.length c76, .slice A80 l79.length c81, .slice A85 l84.length c86, .slice A90 l89.length c91, .slice A95 l94.length c96, .slice A100 l99.length c101, .slice A105 l104.length c106])] := hS164
 refine ⟨(hS164.pick [1, 2, 6, 4] rfl rfl), ?_⟩
 obtain ⟨l165, ha166, hL56⟩ := bind_in hL56
 refine gdR 6 ⟨some 31, _, _, _, _, _⟩ rfl (st_appendP (e := encapiSub) rfl (by kernel_rfl) (by kernel_rfl) hS164 3 rfl rfl (show 1 = ([(l74, l79, l84, l89, l94, l99, l104)] : List ((List (Int × Int)) × (List (Int × List Int)) × (List (List Int × Int)) × List (List Int) × List (List Int) × List (List Int) × List (Int × Int))).length from rfl) (hT160.pool (hT155.pool (hT150.pool (hT145.pool (hT140.pool (hT135.pool (hT130.pool (hT116.pool hf50)))))))) hf162 (rowG_lies (e := encapiSub) (show 1 = ([(l74, l79, l84, l89, l94, l99, l104)] : List ((List (Int × Int)) × (List (Int × List Int)) × (List (List Int × Int)) × List (List Int) × List (List Int) × List (List Int) × List (Int × Int))).length from rfl) (hS164.get 8 rfl)) (rowG_spec (e := encapiSub) (show 1 = ([(l74, l79, l84, l89, l94, l99, l104)] : List ((List (Int × Int)) × (List (Int × List Int)) × (List (List Int × Int)) × List (List Int) × List (List Int) × List (List Int) × List (Int × Int))).length from rfl) (hS164.get 8 rfl)).2.2.1 ha166 (by kernel_rfl) (by kernel_rfl) (by decide)) ?_
 rintro _ w171 ⟨A167, c168, vs169, rfl, hf170, hS172⟩
 have hS172 : St _ _ w171 [poolE ft157 W158, boxE w0.heap.size [u6 p1_0, u6 p1_1, .slice A1_2 p1_2.length c1_2] 121, boxE w3.heap.size [u6 0, u6 0, nS, nS] 35, rowG 43 7 (.slice A167 l165.length c168) l165.length vs169, boxE w12.heap.size [u6 p1_0, u6 p1_1, .slice A47 l51.length c48, nS] 35, eW g0 zr zg zl x72, eR zr zs zA zb zc, eS zs b73, rowG 43 7 (.slice (some ⟨w110.heap.size, 0, none⟩) 1 1) 1 ([.slice A75 l74.length c76, .slice A80 l79.length c81, .slice A85 l84.length c86, .slice A90 l89.length c91, .slice A95 l94.length c96, .slice A100 l99.length c101, .slice A105 l104.length c106])] := hS172
 refine ⟨(hS172.pick [1, 2, 6, 4] rfl rfl), gv1 7 32 (vQ w12.heap.size 2) rfl (hS172.pick [1, 2, 6, 4] rfl rfl) (gdSz 8 ⟨none, _, _, _, _, _⟩ rfl (st_store (j := 2) (v := (.slice A167 l165.length c168)) rfl (by kernel_rfl) (by kernel_rfl) rfl (fun _ => by kernel_rfl) hS172 4 rfl (by show 2 < 4; decide)) ?_)⟩
 rintro w173 hS174
 have hS174 : St _ _ w173 [poolE ft157 W158, boxE w0.heap.size [u6 p1_0, u6 p1_1, .slice A1_2 p1_2.length c1_2] 121, boxE w3.heap.size [u6 0, u6 0, nS, nS] 35, rowG 43 7 (.slice A167 l165.length c168) l165.length vs169, boxE w12.heap.size [u6 p1_0, u6 p1_1, .slice A167 l165.length c168, nS] 35, eW g0 zr zg zl x72, eR zr zs zA zb zc, eS zs b73, rowG 43 7 (.slice (some ⟨w110.heap.size, 0, none⟩) 1 1) 1 ([.slice A75 l74.length c76, .slice A80 l79.length c81, .slice A85 l84.length c86, .slice A90 l89.length c91, .slice A95 l94.length c96, .slice A100 l99.length c101, .slice A105 l104.length c106])] := hS174
 refine gd_done (by kernel_rfl) (gx_blkN (gx_thenN (hK63 _ _ (gx_region (gx_k (i6 (iw (x52 + 1))) w173 (gx_k (i6 (iw (x52 + 1))) w173 (gx_nil (gx_thenN ?_))))))))
 exact ⟨k55, Nat.lt_succ_self k55, x72, b73, l165, (iw (x52 + 1)), ft157, W158, A167, c168, vs169, selfA_i (by kernel_rfl), hL56, (hS174.pick [0, 1, 2, 5, 6, 7, 3, 4] rfl rfl), (Turn.trans (Turn.trans (Turn.trans (Turn.trans (Turn.trans (Turn.trans (Turn.trans (Turn.trans hT44 hT116) hT130) hT135) hT140) hT145) hT150) hT155) hT160), hf170⟩
 obtain ⟨x175, x176, b177⟩ := q0
 try dsimp only at hL56
 refine gdCX 4 ⟨some 29, _, _, _, _, _⟩ _ rfl (by rcases gDisp_in hc71 with h | h | h | h | h <;> rw [h] <;> kernel_rfl) (pan_gone (gDisp_ok N x11 zg zl x45 zb b46 x66 g0 zr zA zc zs _ hc71 w68 (hP70.vwA hv0_0) hP70.part) :) ?_
 rintro c181 w178 ⟨hx182, hT180⟩
 have hS179 : St _ _ w178 [poolE ft42 W43, boxE w0.heap.size [u6 p1_0, u6 p1_1, .slice A1_2 p1_2.length c1_2] 121, boxE w3.heap.size [u6 0, u6 0, nS, nS] 35, rowG 43 7 (.slice A47 l51.length c48) l51.length vs49, boxE w12.heap.size [u6 p1_0, u6 p1_1, .slice A47 l51.length c48, nS] 35, eW g0 zr zg zl x176, eR zr zs zA zb zc, eS zs b177] := hP70.lendN _ hT180
 refine gx_blkP (gx_thenP (gx_thenP (gx_blkP (gx_thenP ?_))))
 obtain rfl := sj hL56
 try dsimp only at hO36
 obtain rfl := sj hO36
 exact gx_finP (by kernel_rfl) (.inr ⟨_, rfl, _, rfl, hx182, (hS179.pick [5, 6, 7] rfl rfl)⟩)
 refine gx_v (.bool false) w39 (rbE (decide_eq_false h59)) (gx_nil (gx_thenN (hK58 _ _ (gx_seq (fun K184 hK185 => gx_no (by kernel_rfl) (gx_exit (gx_thenE ?_)))))))
 refine gx_thenE (gx_blkE (gx_thenN ?_))
 exact ⟨x45, b46, l51, ft42, W43, A47, c48, vs49, selfA_i (by kernel_rfl), (sj hL56), hS40, hT44, hf50⟩
 rintro _ w21 ⟨x27, b28, l33, ft24, W25, A29, c30, vs31, hq194, rfl, hS22, hT26, hf32⟩
 obtain ⟨u23, rfl⟩ := selfA_u hq194
 try dsimp only at hO36
 refine gx_seq (fun K187 hK188 => gx_region (gx_v (.agg #[u6 p1_0, u6 p1_1, .slice A29 l33.length c30, nS]) w21 (run_loadG (d := _) rfl (by kernel_rfl) (hS22.get 7 rfl) rfl rfl (by kernel_rfl)) (gx_s (st_storeG (cs := [u6 0, u6 0, nS, nS]) (ds := [u6 p1_0, u6 p1_1, .slice A29 l33.length c30, nS]) rfl (by kernel_rfl) (by kernel_rfl) (by kernel_rfl) rfl rfl hS22 2 rfl) ?_)))
 rintro w189 hS190
 have hS190 : St _ _ w189 [poolE ft24 W25, boxE w0.heap.size [u6 p1_0, u6 p1_1, .slice A1_2 p1_2.length c1_2] 121, boxE w3.heap.size [u6 p1_0, u6 p1_1, .slice A29 l33.length c30, nS] 35, eW g0 zr zg zl x27, eR zr zs zA zb zc, eS zs b28, rowG 43 7 (.slice A29 l33.length c30) l33.length vs31, boxE w12.heap.size [u6 p1_0, u6 p1_1, .slice A29 l33.length c30, nS] 35] := hS190
 refine gx_nil (gx_thenN (hK188 _ _ (gx_ret ?_)))
 have hS191 : St _ _ w189 [poolE ft24 W25, boxE w0.heap.size [u6 p1_0, u6 p1_1, .slice A1_2 p1_2.length c1_2] 121, boxE w3.heap.size [u6 p1_0, u6 p1_1, .slice A29 l33.length c30, nS] 35, eW g0 zr zg zl x27, eR zr zs zA zb zc, eS zs b28, rowG 43 7 (.slice A29 l33.length c30) l33.length vs31, boxE w12.heap.size [u6 p1_0, u6 p1_1, .slice A29 l33.length c30, nS] 35, rowG 86 3 (.slice none (([] : List ((List (Int × Int × Int)) × (List (Int × Int × Int × Int)) × List (Int × List (Bool × Int × Int)))).length) 0) (([] : List ((List (Int × Int × Int)) × (List (Int × Int × Int × Int)) × List (Int × List (Bool × Int × Int)))).length) ([])] := hS190.nilrowN 86 3
 have hf192 : (fEach encapiPos [] []).rd W25 ft24 := each_nil
 have hS193 : St _ _ w189 [poolE ft24 w189, boxE w0.heap.size [u6 p1_0, u6 p1_1, .slice A1_2 p1_2.length c1_2] 121, boxE w3.heap.size [u6 p1_0, u6 p1_1, .slice A29 l33.length c30, nS] 35, eW g0 zr zg zl x27, eR zr zs zA zb zc, eS zs b28, rowG 43 7 (.slice A29 l33.length c30) l33.length vs31, boxE w12.heap.size [u6 p1_0, u6 p1_1, .slice A29 l33.length c30, nS] 35, rowG 86 3 (.slice none (([] : List ((List (Int × Int × Int)) × (List (Int × Int × Int × Int)) × List (Int × List (Bool × Int × Int)))).length) 0) (([] : List ((List (Int × Int × Int)) × (List (Int × Int × Int × Int)) × List (Int × List (Bool × Int × Int)))).length) ([])] := hS191.renew 0 rfl
 obtain rfl := sj hO36
 exact gx_fin (.agg #[u6 p1_0, u6 p1_1, .slice A29 l33.length c30, .slice none (([] : List ((List (Int × Int × Int)) × (List (Int × Int × Int × Int)) × List (Int × List (Bool × Int × Int)))).length) 0]) (by kernel_rfl) (res_cell rfl _ _ w3.heap.size _ _ _ (by kernel_rfl) (hS193.get 2 rfl) (by kernel_rfl) (by kernel_rfl)) (.inl ⟨_, rfl, _, rfl, A29, c30, vs31, none, 0, ([]), ft24, rfl, (hS193.pick [3, 4, 5, 6, 8, 0] rfl rfl), (hS191.now 0 rfl hf32), (hS191.now 0 rfl hf192)⟩)
 try dsimp only at hF
 refine gx_callX _ (by kernel_rfl) (by kernel_rfl) (pan_gone (gReading_ok N zg zl zn zb zq p1_0 g0 zr zA zc zs _ hc10 w5 (hP9.vwA hv0_0) hP9.part) :) ?_
 rintro c199 w196 ⟨hx200, hT198⟩
 have hS197 : St _ _ w196 [poolE ([]) w0, boxE w0.heap.size [u6 p1_0, u6 p1_1, .slice A1_2 p1_2.length c1_2] 121, boxE w3.heap.size [u6 0, u6 0, nS, nS] 35, eW g0 zr zg zl zn, eR zr zs zA zb zc, eS zs zq] := hP9.lendN _ hT198
 refine gx_thenP ?_
 obtain rfl := sj hF
 exact gx_finP (by kernel_rfl) (.inr ⟨_, rfl, _, rfl, hx200, (hS197.pick [3, 4, 5] rfl rfl)⟩)
def qLookupAt_L1 (N : Nat) (p1 : Int) (b80 : Bool) (l81 : List Int) : Nat → (List Int) → Int → Option (Bool × List Int)
 | 0, _, _ => none
 | k95+1, l92, x93 => (if x93 < ((l81.length : Nat) : Int) then ((ix l81 x93).bind fun x106 => ((apx l92 ([(IntKind.i64.wrap (p1 + (IntKind.i64.wrap x106)))])).bind fun l110 => qLookupAt_L1 N p1 b80 l81 k95 l110 (IntKind.i64.wrap (x93 + 1)))) else some ((b80, l92)))
def qLookupAt (N : Nat) (p0 : List Int) (p0s_0 : Bool) (p1 : Int) : Option (Int × Int × List Int × Bool × Bool) :=
 ((qWord N p0 p0s_0 (IntKind.i64.wrap (p1 + 2))).bind fun (x10, b9) => ((qWord N p0 b9 (IntKind.i64.wrap (p1 + 4))).bind fun (x17, b16) => (((if (iandn .u16 x10 15) ≠ 0 then some (Ctl.ret (0, 0, [], false, b16)) else (if (IntKind.i64.wrap x17) < 1 then some (Ctl.ret (0, 0, [], false, b16)) else (if (IntKind.i64.wrap x17) > 256 then some (Ctl.ret (0, 0, [], false, b16)) else some (Ctl.go (0, 0, []))))) : Option (Ctl (Int × Int × List Int) (Int × Int × List Int × Bool × Bool))).bind fun | Ctl.go (_x24, _x25, _l28) => ((qWord N p0 b16 p1).bind fun (x58, b57) => ((((qWords N p0 b57 (IntKind.i64.wrap (p1 + 6)) (IntKind.i64.wrap x17)).bind fun (l81, b80) => qLookupAt_L1 N p1 b80 l81 N ([]) 0) : Option (Bool × List Int)).bind fun (b69, l72) => ((qBad N p0 b69).bind fun b128 => some (x58, (iand .u16 x10 14), l72, (!b128), b69)))) | Ctl.ret r => some r)))
def qLookupAt_R (p0 : List Int) (p0s_0 : Bool) (p1 : Int) (g0 : Nat) (A0 : Option Addr) (c0 : Nat) (g0s : Nat) (r : Int × Int × List Int × Bool × Bool) (w0 : World) (v : Value) (w : World) : Prop := ∃ (A0_2' : Option Addr) (c0_2' : Nat), v = .tuple #[.agg #[.int .u16 r.1, .int .u16 r.2.1, .slice A0_2' r.2.2.1.length c0_2'], .bool r.2.2.2.1] ∧ St (foots [eR g0 g0s A0 p0 c0, eS g0s p0s_0]) w0 w [eR g0 g0s A0 p0 c0, eS g0s r.2.2.2.2, rowE .i64 3 A0_2' c0_2' r.2.2.1]
theorem qLookupAt_ok (N : Nat) (p0 : List Int) (p0s_0 : Bool) (p1 : Int) (g0 : Nat) (A0 : Option Addr) (c0 : Nat) (g0s : Nat) (r : Int × Int × List Int × Bool × Bool) (hF : qLookupAt N p0 p0s_0 p1 = some r) (w0 : World) (hv0 : Vw (foots [eR g0 g0s A0 p0 c0, eS g0s p0s_0]) .u8 w0 A0 c0 p0) (hl : St (foots [eR g0 g0s A0 p0 c0, eS g0s p0s_0]) w0 w0 [eR g0 g0s A0 p0 c0, eS g0s p0s_0]) :
  Calls Try.prog 69 #[.pointer (some ⟨g0, 0, none⟩), .int .i64 p1] w0 fun e w => ∃ v, e = .returned v ∧ qLookupAt_R p0 p0s_0 p1 g0 A0 c0 g0s r w0 v w := by
 have hS0 := hl
 unfold qLookupAt at hF
 refine calls_of Try.func69 rfl ⟨((vP g0) :: (i6 p1) :: un 60 ([])).toArray, []⟩ (by kernel_rfl) (gx_seq (fun K1 hK2 => gx_region (gx_r (st_boxed [u6 0, u6 0, nS] 121 hS0 (by kernel_rfl)) ?_)))
 rintro _ w3 ⟨rfl, hS4⟩
 have hS4 : St _ _ w3 [eR g0 g0s A0 p0 c0, eS g0s p0s_0, boxE w0.heap.size [u6 0, u6 0, nS] 121] := hS4
 refine gx_k (.bool false) w3 (gx_nil (gx_thenN (hK2 _ _ (gx_seq (fun K5 hK6 => gx_region (gx_k (vP g0) w3 (gx_k (i6 p1) w3 (gx_k (i6 (iw (p1 + 2))) w3 ?_))))))))
 have hP7 : St _ _ w3 ([eR g0 g0s A0 p0 c0, eS g0s p0s_0] ++ [boxE w0.heap.size [u6 0, u6 0, nS] 121]) := hS4
 obtain ⟨⟨x10, b9⟩, hc8, hF⟩ := bind_in hF
 try dsimp only at hF
 refine gx_c _ (qWord_ok N p0 p0s_0 (iw (p1 + 2)) g0 A0 c0 g0s _ hc8 w3 (hP7.vwA hv0) hP7.part) ?_
 rintro _ w11 ⟨rfl, hT13⟩
 have hS12 : St _ _ w11 [boxE w0.heap.size [u6 0, u6 0, nS] 121, eR g0 g0s A0 p0 c0, eS g0s b9] := hP7.lendN _ hT13
 refine gx_k (vP g0) w11 (gx_k (i6 p1) w11 (gx_k (i6 (iw (p1 + 4))) w11 ?_))
 have hP14 : St _ _ w11 ([eR g0 g0s A0 p0 c0, eS g0s b9] ++ [boxE w0.heap.size [u6 0, u6 0, nS] 121]) := hS12.pick [1, 2, 0] rfl rfl
 obtain ⟨⟨x17, b16⟩, hc15, hF⟩ := bind_in hF
 try dsimp only at hF
 refine gx_c _ (qWord_ok N p0 b9 (iw (p1 + 4)) g0 A0 c0 g0s _ hc15 w11 (hP14.vwA hv0) hP14.part) ?_
 rintro _ w18 ⟨rfl, hT20⟩
 have hS19 : St _ _ w18 [boxE w0.heap.size [u6 0, u6 0, nS] 121, eR g0 g0s A0 p0 c0, eS g0s b16] := hP14.lendN _ hT20
 refine gx_k (i6 (iw x17)) w18 (gx_k (u6 x10) w18 (gx_k (i6 (iw x17)) w18 (gx_nil (gx_thenN (hK6 _ _ ?_)))))
 obtain ⟨c29, hE30, hO31⟩ := bind_in hF
 refine gx_cut (fun a w => ∃ (x24 : Int) (x25 : Int) (l28 : List Int) (A26 : Option Addr) (c27 : Nat), selfA (fun u23 => ⟨((vP g0) :: (i6 p1) :: undef :: undef :: (vP w0.heap.size) :: (u23 5) :: (u6 x10) :: (i6 (iw x17)) :: un 3 ((vP g0) :: (i6 p1) :: (i6 (iw (p1 + 2))) :: (u6 x10) :: (vP g0) :: (i6 p1) :: (i6 (iw (p1 + 4))) :: (u6 x17) :: (i6 (iw x17)) :: dd u23 20 12 (un 30 ([])))).toArray, []⟩) a ∧ Ctl.go (x24, x25, l28) = c29 ∧ St (foots [eR g0 g0s A0 p0 c0, eS g0s p0s_0]) w0 w [rowE .i64 3 A26 c27 l28, boxE w0.heap.size [u6 x24, u6 x25, .slice A26 l28.length c27] 121, eR g0 g0s A0 p0 c0, eS g0s b16]) ?_ ?_
 refine gx_seq (fun K32 hK33 => gx_region (gx_k (u6 x10) w18 (gx_k (u6 (iandn .u16 x10 15)) w18 ?_)))
 rcases if_in hE30 with ⟨h34, hE30⟩ | ⟨h34, hE30⟩
 refine gx_v (.bool true) w18 (rbE (ne_yes h34)) (gx_k (.bool true) w18 (gx_o (gx_o (gx_k (.bool true) w18 (gx_k (.bool true) w18 (gx_o (gx_o (gx_k (.bool true) w18 (gx_nil (gx_thenN (hK33 _ _ (gx_yes (by kernel_rfl) (gx_seq (fun K35 hK36 => gx_region ?_))))))))))))))
 refine gx_k (.agg #[u6 0, u6 0, nS]) w18 (gx_s (st_storeG (cs := [u6 0, u6 0, nS]) (ds := [u6 0, u6 0, nS]) rfl (by kernel_rfl) (by kernel_rfl) (by kernel_rfl) rfl rfl hS19 0 rfl) ?_)
 rintro w37 hS38
 have hS38 : St _ _ w37 [boxE w0.heap.size [u6 0, u6 0, nS] 121, eR g0 g0s A0 p0 c0, eS g0s b16] := hS38
 refine gx_k (.bool false) w37 (gx_nil (gx_thenN (hK36 _ _ (gx_ret (gx_thenR ?_)))))
 obtain rfl := sj hE30
 try dsimp only at hO31
 have hS39 : St _ _ w37 [boxE w0.heap.size [u6 0, u6 0, nS] 121, eR g0 g0s A0 p0 c0, eS g0s b16, rowE .i64 3 none 0 ([])] := hS38.nilrow .i64 3
 obtain rfl := sj hO31
 exact gx_fin (.tuple #[.agg #[u6 0, u6 0, .slice none (([] : List Int).length) 0], .bool false]) (by kernel_rfl) (res_ct rfl _ _ w0.heap.size _ _ _ (by kernel_rfl) (hS39.get 0 rfl) (by kernel_rfl) (by kernel_rfl) _ (by kernel_rfl)) ⟨_, rfl, none, 0, rfl, (hS39.pick [1, 2, 3] rfl rfl)⟩
 refine gx_v (.bool false) w18 (rbE (ne_no h34)) (gx_k (.bool false) w18 (gx_k (i6 (iw x17)) w18 ?_))
 rcases if_in hE30 with ⟨h40, hE30⟩ | ⟨h40, hE30⟩
 refine gx_v (.bool true) w18 (rbE (decide_eq_true h40)) (gx_k (.bool true) w18 (gx_k (.bool true) w18 (gx_o (gx_o (gx_k (.bool true) w18 (gx_nil (gx_thenN (hK33 _ _ (gx_yes (by kernel_rfl) (gx_seq (fun K41 hK42 => gx_region ?_)))))))))))
 refine gx_k (.agg #[u6 0, u6 0, nS]) w18 (gx_s (st_storeG (cs := [u6 0, u6 0, nS]) (ds := [u6 0, u6 0, nS]) rfl (by kernel_rfl) (by kernel_rfl) (by kernel_rfl) rfl rfl hS19 0 rfl) ?_)
 rintro w43 hS44
 have hS44 : St _ _ w43 [boxE w0.heap.size [u6 0, u6 0, nS] 121, eR g0 g0s A0 p0 c0, eS g0s b16] := hS44
 refine gx_k (.bool false) w43 (gx_nil (gx_thenN (hK42 _ _ (gx_ret (gx_thenR ?_)))))
 obtain rfl := sj hE30
 try dsimp only at hO31
 have hS45 : St _ _ w43 [boxE w0.heap.size [u6 0, u6 0, nS] 121, eR g0 g0s A0 p0 c0, eS g0s b16, rowE .i64 3 none 0 ([])] := hS44.nilrow .i64 3
 obtain rfl := sj hO31
 exact gx_fin (.tuple #[.agg #[u6 0, u6 0, .slice none (([] : List Int).length) 0], .bool false]) (by kernel_rfl) (res_ct rfl _ _ w0.heap.size _ _ _ (by kernel_rfl) (hS45.get 0 rfl) (by kernel_rfl) (by kernel_rfl) _ (by kernel_rfl)) ⟨_, rfl, none, 0, rfl, (hS45.pick [1, 2, 3] rfl rfl)⟩
 refine gx_v (.bool false) w18 (rbE (decide_eq_false h40)) (gx_k (.bool false) w18 (gx_k (.bool false) w18 (gx_k (i6 (iw x17)) w18 ?_)))
 rcases if_in hE30 with ⟨h46, hE30⟩ | ⟨h46, hE30⟩
 refine gx_v (.bool true) w18 (rbE (decide_eq_true h46)) (gx_k (.bool true) w18 (gx_nil (gx_thenN (hK33 _ _ (gx_yes (by kernel_rfl) (gx_seq (fun K47 hK48 => gx_region ?_)))))))
 refine gx_k (.agg #[u6 0, u6 0, nS]) w18 (gx_s (st_storeG (cs := [u6 0, u6 0, nS]) (ds := [u6 0, u6 0, nS]) rfl (by kernel_rfl) (by kernel_rfl) (by kernel_rfl) rfl rfl hS19 0 rfl) ?_)
 rintro w49 hS50
 have hS50 : St _ _ w49 [boxE w0.heap.size [u6 0, u6 0, nS] 121, eR g0 g0s A0 p0 c0, eS g0s b16] := hS50
 refine gx_k (.bool false) w49 (gx_nil (gx_thenN (hK48 _ _ (gx_ret (gx_thenR ?_)))))
 obtain rfl := sj hE30
 try dsimp only at hO31
 have hS51 : St _ _ w49 [boxE w0.heap.size [u6 0, u6 0, nS] 121, eR g0 g0s A0 p0 c0, eS g0s b16, rowE .i64 3 none 0 ([])] := hS50.nilrow .i64 3
 obtain rfl := sj hO31
 exact gx_fin (.tuple #[.agg #[u6 0, u6 0, .slice none (([] : List Int).length) 0], .bool false]) (by kernel_rfl) (res_ct rfl _ _ w0.heap.size _ _ _ (by kernel_rfl) (hS51.get 0 rfl) (by kernel_rfl) (by kernel_rfl) _ (by kernel_rfl)) ⟨_, rfl, none, 0, rfl, (hS51.pick [1, 2, 3] rfl rfl)⟩
 refine gx_v (.bool false) w18 (rbE (decide_eq_false h46)) (gx_k (.bool false) w18 (gx_nil (gx_thenN (hK33 _ _ (gx_no (by kernel_rfl) (gx_pass (gx_thenN ?_)))))))
 have hS52 : St _ _ w18 [boxE w0.heap.size [u6 0, u6 0, nS] 121, eR g0 g0s A0 p0 c0, eS g0s b16, rowE .i64 3 none 0 ([])] := hS19.nilrow .i64 3
 exact ⟨0, 0, ([]), none, 0, selfA_i (by kernel_rfl), (sj hE30), (hS52.pick [3, 0, 1, 2] rfl rfl)⟩
 rintro _ w21 ⟨x24, x25, l28, A26, c27, hq135, rfl, hS22⟩
 obtain ⟨u23, rfl⟩ := selfA_u hq135
 try dsimp only at hO31
 refine gx_seq (fun K53 hK54 => gx_region (gx_k (vP g0) w21 (gx_k (i6 p1) w21 ?_)))
 have hP55 : St _ _ w21 ([eR g0 g0s A0 p0 c0, eS g0s b16] ++ [rowE .i64 3 A26 c27 l28, boxE w0.heap.size [u6 x24, u6 x25, .slice A26 l28.length c27] 121]) := hS22.pick [2, 3, 0, 1] rfl rfl
 obtain ⟨⟨x58, b57⟩, hc56, hO31⟩ := bind_in hO31
 try dsimp only at hO31
 refine gx_c _ (qWord_ok N p0 b16 p1 g0 A0 c0 g0s _ hc56 w21 (hP55.vwA hv0) hP55.part) ?_
 rintro _ w59 ⟨rfl, hT61⟩
 have hS60 : St _ _ w59 [rowE .i64 3 A26 c27 l28, boxE w0.heap.size [u6 x24, u6 x25, .slice A26 l28.length c27] 121, eR g0 g0s A0 p0 c0, eS g0s b57] := hP55.lendN _ hT61
 refine gx_k (u6 x10) w59 (gx_k (u6 (iand .u16 x10 14)) w59 (gx_k (.agg #[u6 x58, u6 (iand .u16 x10 14), nS]) w59 (gx_r (st_boxed [u6 0, u6 0, nS] 121 hS60 (by kernel_rfl)) ?_)))
 rintro _ w62 ⟨rfl, hS63⟩
 have hS63 : St _ _ w62 [rowE .i64 3 A26 c27 l28, boxE w0.heap.size [u6 x24, u6 x25, .slice A26 l28.length c27] 121, eR g0 g0s A0 p0 c0, eS g0s b57, boxE w59.heap.size [u6 0, u6 0, nS] 121] := hS63
 refine gx_s (st_storeG (cs := [u6 0, u6 0, nS]) (ds := [u6 x58, u6 (iand .u16 x10 14), nS]) rfl (by kernel_rfl) (by kernel_rfl) (by kernel_rfl) rfl rfl hS63 4 rfl) ?_
 rintro w64 hS65
 have hS65 : St _ _ w64 [rowE .i64 3 A26 c27 l28, boxE w0.heap.size [u6 x24, u6 x25, .slice A26 l28.length c27] 121, eR g0 g0s A0 p0 c0, eS g0s b57, boxE w59.heap.size [u6 x58, u6 (iand .u16 x10 14), nS] 121] := hS65
 refine gx_nil (gx_thenN (hK54 _ _ ?_))
 obtain ⟨c73, hE74, hO75⟩ := bind_in hO31
 refine gx_cut (fun a w => ∃ (b69 : Bool) (l72 : List Int) (A70 : Option Addr) (c71 : Nat), selfA (fun u68 => ⟨((vP g0) :: (i6 p1) :: undef :: undef :: (vP w0.heap.size) :: (u23 5) :: (u6 x10) :: (i6 (iw x17)) :: (vP w59.heap.size) :: undef :: (u68 10) :: (vP g0) :: (i6 p1) :: (i6 (iw (p1 + 2))) :: (u6 x10) :: (vP g0) :: (i6 p1) :: (i6 (iw (p1 + 4))) :: (u6 x17) :: (i6 (iw x17)) :: dd u23 20 12 ((vP g0) :: (i6 p1) :: (u6 x58) :: (u6 x10) :: (u6 (iand .u16 x10 14)) :: dd u68 37 21 (un 4 ([])))).toArray, []⟩) a ∧ (b69, l72) = c73 ∧ St (foots [eR g0 g0s A0 p0 c0, eS g0s p0s_0]) w0 w [rowE .i64 3 A26 c27 l28, boxE w0.heap.size [u6 x24, u6 x25, .slice A26 l28.length c27] 121, eR g0 g0s A0 p0 c0, eS g0s b69, rowE .i64 3 A70 c71 l72, boxE w59.heap.size [u6 x58, u6 (iand .u16 x10 14), .slice A70 l72.length c71] 121]) ?_ ?_
 refine gx_seq (fun K76 hK77 => gx_region (gx_k (vP g0) w64 (gx_k (i6 p1) w64 (gx_k (i6 (iw (p1 + 6))) w64 (gx_k (i6 (iw x17)) w64 ?_)))))
 have hP78 : St _ _ w64 ([eR g0 g0s A0 p0 c0, eS g0s b57] ++ [rowE .i64 3 A26 c27 l28, boxE w0.heap.size [u6 x24, u6 x25, .slice A26 l28.length c27] 121, boxE w59.heap.size [u6 x58, u6 (iand .u16 x10 14), nS] 121]) := hS65.pick [2, 3, 0, 1, 4] rfl rfl
 obtain ⟨⟨l81, b80⟩, hc79, hE74⟩ := bind_in hE74
 try dsimp only at hE74
 refine gx_c _ (qWords_ok N p0 b57 (iw (p1 + 6)) (iw x17) g0 A0 c0 g0s _ hc79 w64 (hP78.vwA hv0) hP78.part) ?_
 rintro _ w84 ⟨A82, c83, rfl, hT86⟩
 have hS85 : St _ _ w84 [rowE .i64 3 A26 c27 l28, boxE w0.heap.size [u6 x24, u6 x25, .slice A26 l28.length c27] 121, boxE w59.heap.size [u6 x58, u6 (iand .u16 x10 14), nS] 121, eR g0 g0s A0 p0 c0, eS g0s b80, rowE .u16 31 A82 c83 l81] := hP78.lendN _ hT86
 refine gx_k (i6 ((l81.length : Nat) : Int)) w84 (gx_k (i6 0) w84 (gx_nil (gx_thenN (hK77 _ _ (gx_block ?_)))))
 have hS94 : St _ _ w84 [rowE .i64 3 A26 c27 l28, boxE w0.heap.size [u6 x24, u6 x25, .slice A26 l28.length c27] 121, boxE w59.heap.size [u6 x58, u6 (iand .u16 x10 14), nS] 121, eR g0 g0s A0 p0 c0, eS g0s b80, rowE .u16 31 A82 c83 l81, rowE .i64 3 none 0 ([])] := hS85.nilrow .i64 3
 refine gx_loop (fun k a w => ∃ (l92 : List Int) (x93 : Int) (A90 : Option Addr) (c91 : Nat), selfA (fun u89 => ⟨((vP g0) :: (i6 p1) :: undef :: undef :: (vP w0.heap.size) :: (u23 5) :: (u6 x10) :: (i6 (iw x17)) :: (vP w59.heap.size) :: undef :: (u89 10) :: (vP g0) :: (i6 p1) :: (i6 (iw (p1 + 2))) :: (u6 x10) :: (vP g0) :: (i6 p1) :: (i6 (iw (p1 + 4))) :: (u6 x17) :: (i6 (iw x17)) :: dd u23 20 12 ((vP g0) :: (i6 p1) :: (u6 x58) :: (u6 x10) :: (u6 (iand .u16 x10 14)) :: (u89 37) :: (vP g0) :: (i6 p1) :: (i6 (iw (p1 + 6))) :: (i6 (iw x17)) :: (.slice A82 l81.length c83) :: (i6 ((l81.length : Nat) : Int)) :: (i6 x93) :: dd u89 45 13 (un 4 ([])))).toArray, []⟩) a ∧ qLookupAt_L1 N p1 b80 l81 k l92 x93 = some c73 ∧ St (foots [eR g0 g0s A0 p0 c0, eS g0s p0s_0]) w0 w [rowE .i64 3 A26 c27 l28, boxE w0.heap.size [u6 x24, u6 x25, .slice A26 l28.length c27] 121, rowE .i64 3 A90 c91 l92, boxE w59.heap.size [u6 x58, u6 (iand .u16 x10 14), .slice A90 l92.length c91] 121, eR g0 g0s A0 p0 c0, eS g0s b80, rowE .u16 31 A82 c83 l81]) N ?_ ?_
 exact ⟨([]), 0, none, 0, selfA_i (by kernel_rfl), hE74, (hS94.pick [0, 1, 6, 2, 3, 4, 5] rfl rfl)⟩
 rintro k95 _ w87 ⟨l92, x93, A90, c91, hq121, hL96, hS88⟩
 obtain ⟨u89, rfl⟩ := selfA_u hq121
 rcases k95 with _ | k95
 cases hL96
 first | rw [qLookupAt_L1] at hL96 | unfold qLookupAt_L1 at hL96
 refine gx_seq (fun K97 hK98 => gx_region ?_)
 rcases if_in hL96 with ⟨h99, hL96⟩ | ⟨h99, hL96⟩
 refine gx_v (.bool true) w87 (rbE (decide_eq_true h99)) (gx_nil (gx_thenN (hK98 _ _ (gx_seq (fun K100 hK101 => gx_yes (by kernel_rfl) (gx_pass (gx_thenN ?_)))))))
 refine hK101 _ _ (gx_seq (fun K102 hK103 => gx_block (gx_seq (fun K104 hK105 => gx_region ?_))))
 obtain ⟨x106, hx107, hL96⟩ := bind_in hL96
 refine gx_v (pI x93 A82) w87 (rix 31 .i64 hx107 ((hS88.row 6 rfl).1)) (gx_v (u6 x106) w87 (rlx (hS88.row 6 rfl).1 hx107) (gx_k (u6 x106) w87 (gx_nil (gx_thenN (hK105 _ _ (gx_region (gx_k (vQ w59.heap.size 2) w87 ?_)))))))
 refine gx_v (.slice A90 l92.length c91) w87 (rl1 (hS88.box 3 rfl 2 rfl)) (gx_k (i6 p1) w87 (gx_k (u6 x106) w87 (gx_k (i6 (iw x106)) w87 (gx_k (i6 (iw (p1 + (iw x106)))) w87 (gx_r (st_made .i64 3 [(iw (p1 + (iw x106)))] hS88 (by show 1 ≤ 1000000000; decide) (by kernel_rfl)) ?_)))))
 rintro _ w108 ⟨rfl, hS109⟩
 have hS109 : St _ _ w108 [rowE .i64 3 A26 c27 l28, boxE w0.heap.size [u6 x24, u6 x25, .slice A26 l28.length c27] 121, rowE .i64 3 A90 c91 l92, boxE w59.heap.size [u6 x58, u6 (iand .u16 x10 14), .slice A90 l92.length c91] 121, eR g0 g0s A0 p0 c0, eS g0s b80, rowE .u16 31 A82 c83 l81, rowE .i64 3 (some ⟨w87.heap.size, 0, none⟩) 1 ([(iw (p1 + (iw x106)))])] := hS109
 obtain ⟨l110, ha111, hL96⟩ := bind_in hL96
 obtain ⟨ha111, hq112⟩ := apx_in ha111
 refine gx_r (st_append rfl (by kernel_rfl) (by kernel_rfl) hS109 2 rfl (hS109.row 7 rfl).1 (hS109.row 7 rfl).2 ha111 (by kernel_rfl) (by kernel_rfl)) ?_
 rintro _ w115 ⟨A113, c114, rfl, hS116⟩
 rw [← hq112] at hS116 ⊢
 have hS116 : St _ _ w115 [rowE .i64 3 A26 c27 l28, boxE w0.heap.size [u6 x24, u6 x25, .slice A26 l28.length c27] 121, rowE .i64 3 A113 c114 l110, boxE w59.heap.size [u6 x58, u6 (iand .u16 x10 14), .slice A90 l92.length c91] 121, eR g0 g0s A0 p0 c0, eS g0s b80, rowE .u16 31 A82 c83 l81, rowE .i64 3 (some ⟨w87.heap.size, 0, none⟩) 1 ([(iw (p1 + (iw x106)))])] := hS116
 refine gx_k (vQ w59.heap.size 2) w115 (gx_s (st_store (j := 2) (v := (.slice A113 l110.length c114)) rfl (by kernel_rfl) (by kernel_rfl) rfl (fun _ => by kernel_rfl) hS116 3 rfl (by show 2 < 3; decide)) ?_)
 rintro w117 hS118
 have hS118 : St _ _ w117 [rowE .i64 3 A26 c27 l28, boxE w0.heap.size [u6 x24, u6 x25, .slice A26 l28.length c27] 121, rowE .i64 3 A113 c114 l110, boxE w59.heap.size [u6 x58, u6 (iand .u16 x10 14), .slice A113 l110.length c114] 121, eR g0 g0s A0 p0 c0, eS g0s b80, rowE .u16 31 A82 c83 l81, rowE .i64 3 (some ⟨w87.heap.size, 0, none⟩) 1 ([(iw (p1 + (iw x106)))])] := hS118
 refine gx_nil (gx_blkN (gx_thenN (hK103 _ _ (gx_region (gx_k (i6 (iw (x93 + 1))) w117 (gx_k (i6 (iw (x93 + 1))) w117 (gx_nil (gx_thenN ?_))))))))
 exact ⟨k95, Nat.lt_succ_self k95, l110, (iw (x93 + 1)), A113, c114, selfA_i (by kernel_rfl), hL96, (hS118.pick [0, 1, 2, 3, 4, 5, 6] rfl rfl)⟩
 refine gx_v (.bool false) w87 (rbE (decide_eq_false h99)) (gx_nil (gx_thenN (hK98 _ _ (gx_seq (fun K119 hK120 => gx_no (by kernel_rfl) (gx_exit (gx_thenE ?_)))))))
 refine gx_thenE (gx_blkE (gx_thenN ?_))
 exact ⟨b80, l92, A90, c91, selfA_i (by kernel_rfl), (sj hL96), (hS88.pick [0, 1, 4, 5, 2, 3] rfl rfl)⟩
 rintro _ w66 ⟨b69, l72, A70, c71, hq134, rfl, hS67⟩
 obtain ⟨u68, rfl⟩ := selfA_u hq134
 try dsimp only at hO75
 refine gx_seq (fun K122 hK123 => gdst (fun w => St (foots [eR g0 g0s A0 p0 c0, eS g0s p0s_0]) w0 w [rowE .i64 3 A26 c27 l28, eR g0 g0s A0 p0 c0, eS g0s b69, rowE .i64 3 A70 c71 l72, boxE w59.heap.size [u6 x58, u6 (iand .u16 x10 14), .slice A70 l72.length c71] 121]) 6 ?_)
 have hS125 := hS67.drew
 generalize w66.drew = w124 at hS125 ⊢
 refine gu1 0 58 (.agg #[u6 x58, u6 (iand .u16 x10 14), .slice A70 l72.length c71]) rfl (hS125.pick [0, 2, 3, 4, 5] rfl rfl) (fun w hSw => run_loadG (d := _) rfl (by kernel_rfl) (hSw.get 4 rfl) rfl rfl (by kernel_rfl)) (gv1 1 59 (vP g0) rfl (hS125.pick [0, 2, 3, 4, 5] rfl rfl) ?_)
 have hP126 : St _ _ w124 ([eR g0 g0s A0 p0 c0, eS g0s b69] ++ [rowE .i64 3 A26 c27 l28, boxE w0.heap.size [u6 x24, u6 x25, .slice A26 l28.length c27] 121, rowE .i64 3 A70 c71 l72, boxE w59.heap.size [u6 x58, u6 (iand .u16 x10 14), .slice A70 l72.length c71] 121]) := hS125.pick [2, 3, 0, 1, 4, 5] rfl rfl
 obtain ⟨b128, hc127, hO75⟩ := bind_in hO75
 try dsimp only at hO75
 refine gdC 2 ⟨some 60, _, _, _, _, _⟩ _ rfl (by kernel_rfl) (qBad_ok N p0 b69 g0 A0 c0 g0s _ hc127 w124 (hP126.vwA hv0) hP126.part) ?_
 rintro _ w129 ⟨rfl, hT131⟩
 have hS130 : St _ _ w129 [rowE .i64 3 A26 c27 l28, boxE w0.heap.size [u6 x24, u6 x25, .slice A26 l28.length c27] 121, rowE .i64 3 A70 c71 l72, boxE w59.heap.size [u6 x58, u6 (iand .u16 x10 14), .slice A70 l72.length c71] 121, eR g0 g0s A0 p0 c0, eS g0s b69] := hP126.lendN _ hT131
 refine ⟨(hS130.pick [0, 4, 5, 2, 3] rfl rfl), gv1 3 61 (.bool (!b128)) rfl (hS130.pick [0, 4, 5, 2, 3] rfl rfl) (gdS 4 ⟨none, _, _, _, _, _⟩ rfl (st_storeG (cs := [u6 x24, u6 x25, .slice A26 l28.length c27]) (ds := [u6 x58, u6 (iand .u16 x10 14), .slice A70 l72.length c71]) rfl (by kernel_rfl) (by kernel_rfl) (by kernel_rfl) rfl rfl hS130 1 rfl) ?_)⟩
 rintro w132 hS133
 have hS133 : St _ _ w132 [rowE .i64 3 A26 c27 l28, boxE w0.heap.size [u6 x58, u6 (iand .u16 x10 14), .slice A70 l72.length c71] 121, rowE .i64 3 A70 c71 l72, boxE w59.heap.size [u6 x58, u6 (iand .u16 x10 14), .slice A70 l72.length c71] 121, eR g0 g0s A0 p0 c0, eS g0s b69] := hS133
 refine ⟨(hS133.pick [0, 4, 5, 2, 3] rfl rfl), gv1 5 5 (.bool (!b128)) rfl (hS133.pick [0, 4, 5, 2, 3] rfl rfl) (gd_done (by kernel_rfl) (gx_thenN (hK123 _ _ (gx_ret ?_))))⟩
 obtain rfl := sj hO75
 exact gx_fin (.tuple #[.agg #[u6 x58, u6 (iand .u16 x10 14), .slice A70 l72.length c71], .bool (!b128)]) (by kernel_rfl) (res_ct rfl _ _ w0.heap.size _ _ _ (by kernel_rfl) (hS133.get 1 rfl) (by kernel_rfl) (by kernel_rfl) _ (by kernel_rfl)) ⟨_, rfl, A70, c71, rfl, (hS133.pick [4, 5, 2] rfl rfl)⟩
def qLookups_L1 (N : Nat) (p0 : List Int) (p1 : Int) (x12 : Int) : Nat → Bool → (List (Int × Int × List Int)) → Int → Option (Ctl (Bool × List (Int × Int × List Int)) (List (Int × Int × List Int) × Int × Bool))
 | 0, _, _, _ => none
 | k77+1, b70, l75, x76 => (if x76 < (IntKind.i64.wrap x12) then ((qWord N p0 b70 (IntKind.i64.wrap ((IntKind.i64.wrap (p1 + 2)) + (IntKind.i64.wrap ((2 : Int) * x76))))).bind fun (x93, b92) => ((qLookupAt N p0 b92 (IntKind.i64.wrap (p1 + (IntKind.i64.wrap x93)))).bind fun (x100, x101, l102, b105, b99) => (match b105 with | true => ((apg l75 ([(x100, x101, l102)] : List (Int × Int × List Int))).bind fun l125 => qLookups_L1 N p0 p1 x12 k77 b99 l125 (IntKind.i64.wrap (x76 + 1))) | false => some (Ctl.ret (([] : List (Int × Int × List Int)), 50, b99))))) else some (Ctl.go (b70, l75)))
def qLookups (N : Nat) (p0 : List Int) (p0s_0 : Bool) (p1 : Int) : Option (List (Int × Int × List Int) × Int × Bool) :=
 ((qWord N p0 p0s_0 p1).bind fun (x12, b11) => ((((qBad N p0 b11).bind fun b26 => (match b26 with | true => some (Ctl.ret (([] : List (Int × Int × List Int)), 50, b11)) | false => (if (IntKind.i64.wrap x12) > 256 then some (Ctl.ret (([] : List (Int × Int × List Int)), 50, b11)) else some (Ctl.go ())))) : Option (Ctl (Unit) (List (Int × Int × List Int) × Int × Bool))).bind fun | Ctl.go () => ((qLookups_L1 N p0 p1 x12 N b11 ([] : List (Int × Int × List Int)) 0 : Option (Ctl (Bool × List (Int × Int × List Int)) (List (Int × Int × List Int) × Int × Bool))).bind fun | Ctl.go (b51, l56) => some (l56, 0, b51) | Ctl.ret r => some r) | Ctl.ret r => some r))
def qLookups_R (p0 : List Int) (p0s_0 : Bool) (p1 : Int) (g0 : Nat) (A0 : Option Addr) (c0 : Nat) (g0s : Nat) (r : List (Int × Int × List Int) × Int × Bool) (w0 : World) (v : Value) (w : World) : Prop := ∃ (A0' : Option Addr) (c0' : Nat) (vs0' : List Value) (ft' : List Nat), v = .tuple #[.slice A0' r.1.length c0', .int .i64 r.2.1] ∧ St (foots [eR g0 g0s A0 p0 c0, eS g0s p0s_0]) w0 w [eR g0 g0s A0 p0 c0, eS g0s r.2.2, rowG 121 3 (.slice A0' r.1.length c0') r.1.length vs0', poolE ft' w] ∧ (fEach enccoverSubtable vs0' r.1).rd w ft'
theorem qLookups_ok (N : Nat) (p0 : List Int) (p0s_0 : Bool) (p1 : Int) (g0 : Nat) (A0 : Option Addr) (c0 : Nat) (g0s : Nat) (r : List (Int × Int × List Int) × Int × Bool) (hF : qLookups N p0 p0s_0 p1 = some r) (w0 : World) (hv0 : Vw (foots [eR g0 g0s A0 p0 c0, eS g0s p0s_0]) .u8 w0 A0 c0 p0) (hl : St (foots [eR g0 g0s A0 p0 c0, eS g0s p0s_0]) w0 w0 [eR g0 g0s A0 p0 c0, eS g0s p0s_0]) :
  Calls Try.prog 46 #[.pointer (some ⟨g0, 0, none⟩), .int .i64 p1] w0 fun e w => ∃ v, e = .returned v ∧ qLookups_R p0 p0s_0 p1 g0 A0 c0 g0s r w0 v w := by
 have hS0 := (hl).pool0
 unfold qLookups at hF
 refine calls_of Try.func46 rfl ⟨((vP g0) :: (i6 p1) :: un 46 ([])).toArray, []⟩ (by kernel_rfl) (gx_seq (fun K1 hK2 => gx_region (gx_k (nS) w0 (gx_k (i6 0) w0 (gx_nil (gx_thenN (hK2 _ _ (gx_scope 0 rfl (fun J3 hJ4 => ?_)))))))))
 refine gx_seq (fun K5 hK6 => gx_region (gx_k (nS) w0 (gx_nil (gx_thenN (hK6 _ _ (gx_seq (fun K7 hK8 => gx_region ?_)))))))
 refine gx_k (vP g0) w0 (gx_k (i6 p1) w0 ?_)
 have hP9 : St _ _ w0 ([eR g0 g0s A0 p0 c0, eS g0s p0s_0] ++ [poolE ([]) w0]) := hS0
 obtain ⟨⟨x12, b11⟩, hc10, hF⟩ := bind_in hF
 try dsimp only at hF
 refine gx_c _ (qWord_ok N p0 p0s_0 p1 g0 A0 c0 g0s _ hc10 w0 (hP9.vwA hv0) hP9.part) ?_
 rintro _ w13 ⟨rfl, hT15⟩
 have hS14 : St _ _ w13 [poolE ([]) w0, eR g0 g0s A0 p0 c0, eS g0s b11] := hP9.lendN _ hT15
 refine gx_k (i6 (iw x12)) w13 (gx_k (i6 (iw x12)) w13 (gx_nil (gx_thenN (hK8 _ _ ?_))))
 obtain ⟨c19, hE20, hO21⟩ := bind_in hF
 refine gx_cut (fun a w => selfA (fun u18 => ⟨((vP g0) :: (i6 p1) :: undef :: undef :: (nS) :: (i6 0) :: (nS) :: (i6 (iw x12)) :: un 3 ((vP g0) :: (i6 p1) :: (u6 x12) :: (i6 (iw x12)) :: dd u18 15 6 (un 27 ([])))).toArray, []⟩) a ∧ Ctl.go () = c19 ∧ St (foots [eR g0 g0s A0 p0 c0, eS g0s p0s_0]) w0 w [poolE ([]) w0, eR g0 g0s A0 p0 c0, eS g0s b11]) ?_ ?_
 refine gx_seq (fun K22 hK23 => gx_region (gx_k (vP g0) w13 ?_))
 have hP24 : St _ _ w13 ([eR g0 g0s A0 p0 c0, eS g0s b11] ++ [poolE ([]) w0]) := hS14.pick [1, 2, 0] rfl rfl
 obtain ⟨b26, hc25, hE20⟩ := bind_in hE20
 try dsimp only at hE20
 refine gx_c _ (qBad_ok N p0 b11 g0 A0 c0 g0s _ hc25 w13 (hP24.vwA hv0) hP24.part) ?_
 rintro _ w27 ⟨rfl, hT29⟩
 have hS28 : St _ _ w27 [poolE ([]) w0, eR g0 g0s A0 p0 c0, eS g0s b11] := hP24.lendN _ hT29
 refine gx_k (.bool b26) w27 ?_
 rcases b26 with _ | _
 try dsimp only at hE20
 refine gx_k (i6 (iw x12)) w27 ?_
 rcases if_in hE20 with ⟨h37, hE20⟩ | ⟨h37, hE20⟩
 refine gx_v (.bool true) w27 (rbE (decide_eq_true h37)) (gx_k (.bool true) w27 (gx_nil (gx_thenN (hK23 _ _ (gx_yes (by kernel_rfl) (gx_goto (gx_thenG ?_)))))))
 obtain rfl := sj hE20
 try dsimp only at hO21
 refine gx_jmpG (hJ4 _ _ (gx_seq (fun K38 hK39 => gx_pass (gx_thenN (hK39 _ _ (gx_seq (fun K40 hK41 => gx_region ?_)))))))
 refine gx_k (nS) w27 (gx_k (i6 50) w27 (gx_nil (gx_thenN (hK41 _ _ (gx_ret (gx_jmpR ?_))))))
 have hS42 : St _ _ w27 [poolE ([]) w0, eR g0 g0s A0 p0 c0, eS g0s b11, rowG 121 3 (.slice none (([] : List (Int × Int × List Int)).length) 0) (([] : List (Int × Int × List Int)).length) ([])] := hS28.nilrowN 121 3
 have hf43 : (fEach enccoverSubtable [] []).rd w0 ([]) := each_nil
 have hS44 : St _ _ w27 [poolE ([]) w27, eR g0 g0s A0 p0 c0, eS g0s b11, rowG 121 3 (.slice none (([] : List (Int × Int × List Int)).length) 0) (([] : List (Int × Int × List Int)).length) ([])] := hS42.renew 0 rfl
 obtain rfl := sj hO21
 exact gxF (.tuple #[.slice none (([] : List (Int × Int × List Int)).length) 0, i6 50]) ⟨_, rfl, none, 0, ([]), ([]), rfl, (hS44.pick [1, 2, 3, 0] rfl rfl), (hS42.now 0 rfl hf43)⟩
 refine gx_v (.bool false) w27 (rbE (decide_eq_false h37)) (gx_k (.bool false) w27 (gx_nil (gx_thenN (hK23 _ _ (gx_no (by kernel_rfl) (gx_pass (gx_thenN ?_)))))))
 exact ⟨selfA_i (by kernel_rfl), (sj hE20), hS28⟩
 try dsimp only at hE20
 refine gx_o (gx_o (gx_k (.bool true) w27 (gx_nil (gx_thenN (hK23 _ _ (gx_yes (by kernel_rfl) (gx_goto (gx_thenG ?_))))))))
 obtain rfl := sj hE20
 try dsimp only at hO21
 refine gx_jmpG (hJ4 _ _ (gx_seq (fun K30 hK31 => gx_pass (gx_thenN (hK31 _ _ (gx_seq (fun K32 hK33 => gx_region ?_)))))))
 refine gx_k (nS) w27 (gx_k (i6 50) w27 (gx_nil (gx_thenN (hK33 _ _ (gx_ret (gx_jmpR ?_))))))
 have hS34 : St _ _ w27 [poolE ([]) w0, eR g0 g0s A0 p0 c0, eS g0s b11, rowG 121 3 (.slice none (([] : List (Int × Int × List Int)).length) 0) (([] : List (Int × Int × List Int)).length) ([])] := hS28.nilrowN 121 3
 have hf35 : (fEach enccoverSubtable [] []).rd w0 ([]) := each_nil
 have hS36 : St _ _ w27 [poolE ([]) w27, eR g0 g0s A0 p0 c0, eS g0s b11, rowG 121 3 (.slice none (([] : List (Int × Int × List Int)).length) 0) (([] : List (Int × Int × List Int)).length) ([])] := hS34.renew 0 rfl
 obtain rfl := sj hO21
 exact gxF (.tuple #[.slice none (([] : List (Int × Int × List Int)).length) 0, i6 50]) ⟨_, rfl, none, 0, ([]), ([]), rfl, (hS36.pick [1, 2, 3, 0] rfl rfl), (hS34.now 0 rfl hf35)⟩
 rintro _ w16 ⟨hq149, rfl, hS17⟩
 obtain ⟨u18, rfl⟩ := selfA_u hq149
 try dsimp only at hO21
 obtain ⟨c57, hE58, hO59⟩ := bind_in hO21
 refine gx_cut (fun a w => ∃ (b51 : Bool) (l56 : List (Int × Int × List Int)) (ft48 : List Nat) (W49 : World) (A52 : Option Addr) (c53 : Nat) (vs54 : List Value), selfA (fun u47 => ⟨((vP g0) :: (i6 p1) :: undef :: undef :: (nS) :: (i6 0) :: (.slice A52 l56.length c53) :: (i6 (iw x12)) :: dd u47 8 3 ((vP g0) :: (i6 p1) :: (u6 x12) :: (i6 (iw x12)) :: dd u18 15 6 (dd u47 21 26 (undef :: [])))).toArray, []⟩) a ∧ Ctl.go (b51, l56) = c57 ∧ St (foots [eR g0 g0s A0 p0 c0, eS g0s p0s_0]) w0 w [poolE ft48 W49, eR g0 g0s A0 p0 c0, eS g0s b51, rowG 121 3 (.slice A52 l56.length c53) l56.length vs54] ∧ Turn (foots [eR g0 g0s A0 p0 c0, eS g0s p0s_0]) w0 w0 ([]) W49 ft48 ∧ (fEach enccoverSubtable vs54 l56).rd W49 ft48) ?_ ?_
 refine gx_seq (fun K60 hK61 => gx_region (gx_k (i6 (iw x12)) w16 (gx_k (i6 0) w16 (gx_nil (gx_thenN (hK61 _ _ (gx_block ?_)))))))
 have hS62 : St _ _ w16 [poolE ([]) w0, eR g0 g0s A0 p0 c0, eS g0s b11, rowG 121 3 (.slice none (([] : List (Int × Int × List Int)).length) 0) (([] : List (Int × Int × List Int)).length) ([])] := hS17.nilrowN 121 3
 have hf63 : (fEach enccoverSubtable [] []).rd w0 ([]) := each_nil
 refine gx_loop (fun k a w => ∃ (b70 : Bool) (l75 : List (Int × Int × List Int)) (x76 : Int) (ft67 : List Nat) (W68 : World) (A71 : Option Addr) (c72 : Nat) (vs73 : List Value), selfA (fun u66 => ⟨((vP g0) :: (i6 p1) :: undef :: undef :: (nS) :: (i6 0) :: (.slice A71 l75.length c72) :: (i6 (iw x12)) :: dd u66 8 3 ((vP g0) :: (i6 p1) :: (u6 x12) :: (i6 (iw x12)) :: dd u18 15 6 ((i6 (iw x12)) :: (i6 x76) :: dd u66 23 24 (undef :: [])))).toArray, []⟩) a ∧ qLookups_L1 N p0 p1 x12 k b70 l75 x76 = some c57 ∧ St (foots [eR g0 g0s A0 p0 c0, eS g0s p0s_0]) w0 w [poolE ft67 W68, eR g0 g0s A0 p0 c0, eS g0s b70, rowG 121 3 (.slice A71 l75.length c72) l75.length vs73] ∧ Turn (foots [eR g0 g0s A0 p0 c0, eS g0s p0s_0]) w0 w0 ([]) W68 ft67 ∧ (fEach enccoverSubtable vs73 l75).rd W68 ft67) N ?_ ?_
 exact ⟨b11, ([] : List (Int × Int × List Int)), 0, ([]), w0, none, 0, ([]), selfA_i (by kernel_rfl), hE58, hS62, (Turn.refl _ _ _ _), hf63⟩
 rintro k77 _ w64 ⟨b70, l75, x76, ft67, W68, A71, c72, vs73, hq142, hL78, hS65, hT69, hf74⟩
 obtain ⟨u66, rfl⟩ := selfA_u hq142
 rcases k77 with _ | k77
 cases hL78
 first | rw [qLookups_L1] at hL78 | unfold qLookups_L1 at hL78
 refine gx_seq (fun K79 hK80 => gx_region ?_)
 rcases if_in hL78 with ⟨h81, hL78⟩ | ⟨h81, hL78⟩
 refine gx_v (.bool true) w64 (rbE (decide_eq_true h81)) (gx_nil (gx_thenN (hK80 _ _ (gx_seq (fun K82 hK83 => gx_yes (by kernel_rfl) (gx_pass (gx_thenN ?_)))))))
 refine hK83 _ _ (gx_seq (fun K84 hK85 => gx_block (gx_seq (fun K86 hK87 => gx_region (gx_k (i6 x76) w64 (gx_k (i6 x76) w64 (gx_nil (gx_thenN ?_))))))))
 refine hK87 _ _ (gx_seq (fun K88 hK89 => gx_region (gx_k (vP g0) w64 (gx_k (i6 p1) w64 (gx_k (vP g0) w64 (gx_k (i6 p1) w64 (gx_k (i6 (iw (p1 + 2))) w64 (gx_k (i6 x76) w64 (gx_k (i6 (iw ((2 : Int) * x76))) w64 (gx_k (i6 (iw ((iw (p1 + 2)) + (iw ((2 : Int) * x76))))) w64 ?_))))))))))
 have hP90 : St _ _ w64 ([eR g0 g0s A0 p0 c0, eS g0s b70] ++ [poolE ft67 W68, rowG 121 3 (.slice A71 l75.length c72) l75.length vs73]) := hS65.pick [1, 2, 0, 3] rfl rfl
 obtain ⟨⟨x93, b92⟩, hc91, hL78⟩ := bind_in hL78
 try dsimp only at hL78
 refine gx_c _ (qWord_ok N p0 b70 (iw ((iw (p1 + 2)) + (iw ((2 : Int) * x76)))) g0 A0 c0 g0s _ hc91 w64 (hP90.vwA hv0) hP90.part) ?_
 rintro _ w94 ⟨rfl, hT96⟩
 have hS95 : St _ _ w94 [poolE ft67 W68, rowG 121 3 (.slice A71 l75.length c72) l75.length vs73, eR g0 g0s A0 p0 c0, eS g0s b92] := hP90.lendN _ hT96
 refine gx_k (i6 (iw x93)) w94 (gx_k (i6 (iw (p1 + (iw x93)))) w94 ?_)
 have hP97 : St _ _ w94 ([eR g0 g0s A0 p0 c0, eS g0s b92] ++ [poolE ft67 W68, rowG 121 3 (.slice A71 l75.length c72) l75.length vs73]) := hS95.pick [2, 3, 0, 1] rfl rfl
 obtain ⟨⟨x100, x101, l102, b105, b99⟩, hc98, hL78⟩ := bind_in hL78
 try dsimp only at hL78
 refine gx_c _ (qLookupAt_ok N p0 b92 (iw (p1 + (iw x93))) g0 A0 c0 g0s _ hc98 w94 (hP97.vwA hv0) hP97.part) ?_
 rintro _ w106 ⟨A103, c104, rfl, hT108⟩
 have hS107 : St _ _ w106 [poolE ft67 W68, rowG 121 3 (.slice A71 l75.length c72) l75.length vs73, eR g0 g0s A0 p0 c0, eS g0s b99, rowE .i64 3 A103 c104 l102] := hP97.lendN _ hT108
 refine gx_k (.tuple #[.agg #[u6 x100, u6 x101, .slice A103 l102.length c104], .bool b105]) w106 (gx_k (.agg #[u6 x100, u6 x101, .slice A103 l102.length c104]) w106 (gx_k (.bool b105) w106 (gx_r (st_boxed [u6 0, u6 0, nS] 121 hS107 (by kernel_rfl)) ?_)))
 rintro _ w109 ⟨rfl, hS110⟩
 have hS110 : St _ _ w109 [poolE ft67 W68, rowG 121 3 (.slice A71 l75.length c72) l75.length vs73, eR g0 g0s A0 p0 c0, eS g0s b99, rowE .i64 3 A103 c104 l102, boxE w106.heap.size [u6 0, u6 0, nS] 121] := hS110
 refine gx_s (st_storeG (cs := [u6 0, u6 0, nS]) (ds := [u6 x100, u6 x101, .slice A103 l102.length c104]) rfl (by kernel_rfl) (by kernel_rfl) (by kernel_rfl) rfl rfl hS110 5 rfl) ?_
 rintro w111 hS112
 have hS112 : St _ _ w111 [poolE ft67 W68, rowG 121 3 (.slice A71 l75.length c72) l75.length vs73, eR g0 g0s A0 p0 c0, eS g0s b99, rowE .i64 3 A103 c104 l102, boxE w106.heap.size [u6 x100, u6 x101, .slice A103 l102.length c104] 121] := hS112
 refine gx_k (.bool b105) w111 (gx_nil (gx_thenN (hK89 _ _ (gx_seq (fun K113 hK114 => gx_seq (fun K115 hK116 => gx_region (gx_k (.bool b105) w111 ?_)))))))
 rcases b105 with _ | _
 try dsimp only at hL78
 refine gx_k (.bool true) w111 (gx_nil (gx_thenN (hK116 _ _ (gx_yes (by kernel_rfl) (gx_goto (gx_thenG (gx_blkG ?_)))))))
 refine gx_thenG (gx_thenG (gx_blkG (gx_thenG ?_)))
 obtain rfl := sj hL78
 try dsimp only at hO59
 refine gx_jmpG (hJ4 _ _ (gx_seq (fun K133 hK134 => gx_pass (gx_thenN (hK134 _ _ (gx_seq (fun K135 hK136 => gx_region ?_)))))))
 refine gx_k (nS) w111 (gx_k (i6 50) w111 (gx_nil (gx_thenN (hK136 _ _ (gx_ret (gx_jmpR ?_))))))
 have hS137 : St _ _ w111 [poolE ft67 W68, rowG 121 3 (.slice A71 l75.length c72) l75.length vs73, eR g0 g0s A0 p0 c0, eS g0s b99, rowE .i64 3 A103 c104 l102, boxE w106.heap.size [u6 x100, u6 x101, .slice A103 l102.length c104] 121, rowG 121 3 (.slice none (([] : List (Int × Int × List Int)).length) 0) (([] : List (Int × Int × List Int)).length) ([])] := hS112.nilrowN 121 3
 have hf138 : (fEach enccoverSubtable [] []).rd W68 ft67 := each_nil
 have hS139 : St _ _ w111 [poolE ft67 w111, rowG 121 3 (.slice A71 l75.length c72) l75.length vs73, eR g0 g0s A0 p0 c0, eS g0s b99, rowE .i64 3 A103 c104 l102, boxE w106.heap.size [u6 x100, u6 x101, .slice A103 l102.length c104] 121, rowG 121 3 (.slice none (([] : List (Int × Int × List Int)).length) 0) (([] : List (Int × Int × List Int)).length) ([])] := hS137.renew 0 rfl
 obtain rfl := sj hO59
 exact gxF (.tuple #[.slice none (([] : List (Int × Int × List Int)).length) 0, i6 50]) ⟨_, rfl, none, 0, ([]), ft67, rfl, (hS139.pick [2, 3, 6, 0] rfl rfl), (hS137.now 0 rfl hf138)⟩
 try dsimp only at hL78
 refine gx_k (.bool false) w111 (gx_nil (gx_thenN (hK116 _ _ (gx_no (by kernel_rfl) (gx_pass (gx_thenN (hK114 _ _ ?_)))))))
 refine gx_region (gx_k (.slice A71 l75.length c72) w111 (gx_v (.agg #[u6 x100, u6 x101, .slice A103 l102.length c104]) w111 (run_loadG (d := _) rfl (by kernel_rfl) (hS112.get 5 rfl) rfl rfl (by kernel_rfl)) ?_))
 obtain ⟨ft117, W118, hS119, hT120, hf121⟩ := hS112.freezeE 4 0 rfl rfl (by decide)
 have hS119 : St _ _ w111 [poolE ft117 W118, rowG 121 3 (.slice A71 l75.length c72) l75.length vs73, eR g0 g0s A0 p0 c0, eS g0s b99, boxE w106.heap.size [u6 x100, u6 x101, .slice A103 l102.length c104] 121] := hS119
 have hT120 : Turn (foots [eR g0 g0s A0 p0 c0, eS g0s p0s_0]) w0 W68 ft67 W118 ft117 := hT120
 have hf121 : (fSl (intE .i64) A103 c104 (List.map (Value.int .i64) l102) l102).rd W118 ft117 := hf121
 have hf122 : (fEach enccoverSubtable [u6 x100, u6 x101, .slice A103 l102.length c104] [(x100, x101, l102)]).rd W118 ft117 := (each_cons (rd_pair (rd_intg .u16 x100) (rd_pair (rd_intg .u16 x101) (rd_row rfl hf121))) each_nil)
 refine gx_r (st_madeP (e := enccoverSubtable) 121 1 [u6 x100, u6 x101, .slice A103 l102.length c104] [(x100, x101, l102)] hS119 rfl hf122 (by decide) (by kernel_rfl)) ?_
 rintro _ w123 ⟨rfl, hS124⟩
 have hS124 : St _ _ w123 [poolE ft117 W118, rowG 121 3 (.slice A71 l75.length c72) l75.length vs73, eR g0 g0s A0 p0 c0, eS g0s b99, boxE w106.heap.size [u6 x100, u6 x101, .slice A103 l102.length c104] 121, rowG 121 3 (.slice (some ⟨w111.heap.size, 0, none⟩) 1 1) 1 ([u6 x100, u6 x101, .slice A103 l102.length c104])] := hS124
 obtain ⟨l125, ha126, hL78⟩ := bind_in hL78
 refine gx_r (st_appendP (e := enccoverSubtable) rfl (by kernel_rfl) (by kernel_rfl) hS124 1 rfl rfl (show 1 = ([(x100, x101, l102)] : List (Int × Int × List Int)).length from rfl) (hT120.pool hf74) hf122 (rowG_lies (e := enccoverSubtable) (show 1 = ([(x100, x101, l102)] : List (Int × Int × List Int)).length from rfl) (hS124.get 5 rfl)) (rowG_spec (e := enccoverSubtable) (show 1 = ([(x100, x101, l102)] : List (Int × Int × List Int)).length from rfl) (hS124.get 5 rfl)).2.2.1 ha126 (by kernel_rfl) (by kernel_rfl) (by decide)) ?_
 rintro _ w131 ⟨A127, c128, vs129, rfl, hf130, hS132⟩
 have hS132 : St _ _ w131 [poolE ft117 W118, rowG 121 3 (.slice A127 l125.length c128) l125.length vs129, eR g0 g0s A0 p0 c0, eS g0s b99, boxE w106.heap.size [u6 x100, u6 x101, .slice A103 l102.length c104] 121, rowG 121 3 (.slice (some ⟨w111.heap.size, 0, none⟩) 1 1) 1 ([u6 x100, u6 x101, .slice A103 l102.length c104])] := hS132
 refine gx_k (.slice A127 l125.length c128) w131 (gx_nil (gx_blkN (gx_thenN (hK85 _ _ (gx_region (gx_k (i6 (iw (x76 + 1))) w131 (gx_k (i6 (iw (x76 + 1))) w131 (gx_nil ?_))))))))
 refine gx_thenN ?_
 exact ⟨k77, Nat.lt_succ_self k77, b99, l125, (iw (x76 + 1)), ft117, W118, A127, c128, vs129, selfA_i (by kernel_rfl), hL78, (hS132.pick [0, 2, 3, 1] rfl rfl), (Turn.trans hT69 hT120), hf130⟩
 refine gx_v (.bool false) w64 (rbE (decide_eq_false h81)) (gx_nil (gx_thenN (hK80 _ _ (gx_seq (fun K140 hK141 => gx_no (by kernel_rfl) (gx_exit (gx_thenE ?_)))))))
 refine gx_thenE (gx_blkE (gx_thenN ?_))
 exact ⟨b70, l75, ft67, W68, A71, c72, vs73, selfA_i (by kernel_rfl), (sj hL78), hS65, hT69, hf74⟩
 rintro _ w45 ⟨b51, l56, ft48, W49, A52, c53, vs54, hq148, rfl, hS46, hT50, hf55⟩
 obtain ⟨u47, rfl⟩ := selfA_u hq148
 try dsimp only at hO59
 refine gx_seq (fun K143 hK144 => gx_seq (fun K145 hK146 => gx_region (gx_k (.slice A52 l56.length c53) w45 (gx_k (.slice A52 l56.length c53) w45 (gx_k (i6 0) w45 (gx_nil (gx_thenN (hK146 _ _ (gx_ret ?_)))))))))
 refine gx_thenR (gx_jmpR ?_)
 have hS147 : St _ _ w45 [poolE ft48 w45, eR g0 g0s A0 p0 c0, eS g0s b51, rowG 121 3 (.slice A52 l56.length c53) l56.length vs54] := hS46.renew 0 rfl
 obtain rfl := sj hO59
 exact gxF (.tuple #[.slice A52 l56.length c53, i6 0]) ⟨_, rfl, A52, c53, vs54, ft48, rfl, (hS147.pick [1, 2, 3, 0] rfl rfl), (hS46.now 0 rfl hf55)⟩
def gParsed_L1 (N : Nat) (p0 : List Int) (p1 : Int) (l79 : List (Int × Int × List Int)) : Nat → Bool → (List (Int × Int × (List ((List (Int × Int)) × (List (Int × List Int)) × (List (List Int × Int)) × List (List Int) × List (List Int) × List (List Int) × List (Int × Int))) × List ((List (Int × Int × Int)) × (List (Int × Int × Int × Int)) × List (Int × List (Bool × Int × Int))))) → Int → Option (Ctl (Bool × List (Int × Int × (List ((List (Int × Int)) × (List (Int × List Int)) × (List (List Int × Int)) × List (List Int) × List (List Int) × List (List Int) × List (Int × Int))) × List ((List (Int × Int × Int)) × (List (Int × Int × Int × Int)) × List (Int × List (Bool × Int × Int))))) (Pan (List (Int × Int × (List ((List (Int × Int)) × (List (Int × List Int)) × (List (List Int × Int)) × List (List Int) × List (List Int) × List (List Int) × List (Int × Int))) × List ((List (Int × Int × Int)) × (List (Int × Int × Int × Int)) × List (Int × List (Bool × Int × Int)))) × List ((Int × Int × Int × Int) × List Int) × Bool) (Int × Bool)))
 | 0, _, _, _ => none
 | k175+1, b168, l173, x174 => (if x174 < ((l79.length : Nat) : Int) then ((ixg l79 x174).bind fun x186 => ((gLookup N p1 ((l79.length : Nat) : Int) (0 : Int) p0 b168 x186.1 x186.2.1 x186.2.2).bind fun | Pan.ok (x221, x222, l223, l228, _x219, b220) => ((apg l173 ([(x221, x222, l223, l228)] : List (Int × Int × (List ((List (Int × Int)) × (List (Int × List Int)) × (List (List Int × Int)) × List (List Int) × List (List Int) × List (List Int) × List (Int × Int))) × List ((List (Int × Int × Int)) × (List (Int × Int × Int × Int)) × List (Int × List (Bool × Int × Int)))))).bind fun l259 => gParsed_L1 N p0 p1 l79 k175 b220 l259 (IntKind.i64.wrap (x174 + 1))) | Pan.gone (x267, _x268, b269) => some (Ctl.ret (Pan.gone (x267, b269))))) else some (Ctl.go (b168, l173)))
def gParsed (N : Nat) (p0 : List Int) (p0s_0 : Bool) (p1 : Int) : Option (Pan (List (Int × Int × (List ((List (Int × Int)) × (List (Int × List Int)) × (List (List Int × Int)) × List (List Int) × List (List Int) × List (List Int) × List (Int × Int))) × List ((List (Int × Int × Int)) × (List (Int × Int × Int × Int)) × List (Int × List (Bool × Int × Int)))) × List ((Int × Int × Int × Int) × List Int) × Bool) (Int × Bool)) :=
 ((((qBad N p0 p0s_0).bind fun b12 => (match b12 with | true => ((gRequire N false).bind fun | Pan.ok _ => some (Ctl.go p0s_0) | Pan.gone x21 => some (Ctl.ret (Pan.gone (x21, p0s_0)))) | false => ((qWord N p0 p0s_0 (0 : Int)).bind fun (x31, b30) => (if x31 = 1 then ((qWord N p0 b30 (2 : Int)).bind fun (x39, b38) => ((gRequire N (decide (x39 = 0))).bind fun | Pan.ok _ => some (Ctl.go b38) | Pan.gone x48 => some (Ctl.ret (Pan.gone (x48, b38))))) else ((gRequire N false).bind fun | Pan.ok _ => some (Ctl.go b30) | Pan.gone x60 => some (Ctl.ret (Pan.gone (x60, b30)))))))) : Option (Ctl (Bool) (Pan (List (Int × Int × (List ((List (Int × Int)) × (List (Int × List Int)) × (List (List Int × Int)) × List (List Int) × List (List Int) × List (List Int) × List (Int × Int))) × List ((List (Int × Int × Int)) × (List (Int × Int × Int × Int)) × List (Int × List (Bool × Int × Int)))) × List ((Int × Int × Int × Int) × List Int) × Bool) (Int × Bool)))).bind fun | Ctl.go b6 => ((qWord N p0 b6 (8 : Int)).bind fun (x72, b71) => ((qLookups N p0 b71 (IntKind.i64.wrap x72)).bind fun (l79, x84, b78) => ((gRequire N (decide (x84 = 0))).bind fun | Pan.ok _ => ((qWord N p0 b78 (6 : Int)).bind fun (x109, b108) => ((qFeats N p0 b108 (IntKind.i64.wrap x109) ((l79.length : Nat) : Int)).bind fun (l116, x121, b115) => ((gRequire N (decide (x121 = 0))).bind fun | Pan.ok _ => ((gParsed_L1 N p0 p1 l79 N b115 ([] : List (Int × Int × (List ((List (Int × Int)) × (List (Int × List Int)) × (List (List Int × Int)) × List (List Int) × List (List Int) × List (List Int) × List (Int × Int))) × List ((List (Int × Int × Int)) × (List (Int × Int × Int × Int)) × List (Int × List (Bool × Int × Int))))) 0 : Option (Ctl (Bool × List (Int × Int × (List ((List (Int × Int)) × (List (Int × List Int)) × (List (List Int × Int)) × List (List Int) × List (List Int) × List (List Int) × List (Int × Int))) × List ((List (Int × Int × Int)) × (List (Int × Int × Int × Int)) × List (Int × List (Bool × Int × Int))))) (Pan (List (Int × Int × (List ((List (Int × Int)) × (List (Int × List Int)) × (List (List Int × Int)) × List (List Int) × List (List Int) × List (List Int) × List (Int × Int))) × List ((List (Int × Int × Int)) × (List (Int × Int × Int × Int)) × List (Int × List (Bool × Int × Int)))) × List ((Int × Int × Int × Int) × List Int) × Bool) (Int × Bool)))).bind fun | Ctl.go (b149, l154) => some (Pan.ok (l154, l116, b149)) | Ctl.ret r => some r) | Pan.gone x283 => some (Pan.gone (x283, b115))))) | Pan.gone x290 => some (Pan.gone (x290, b78))))) | Ctl.ret r => some r)
def gParsed_R (p0 : List Int) (p0s_0 : Bool) (p1 : Int) (g0 : Nat) (A0 : Option Addr) (c0 : Nat) (g0s : Nat) (r : List (Int × Int × (List ((List (Int × Int)) × (List (Int × List Int)) × (List (List Int × Int)) × List (List Int) × List (List Int) × List (List Int) × List (Int × Int))) × List ((List (Int × Int × Int)) × (List (Int × Int × Int × Int)) × List (Int × List (Bool × Int × Int)))) × List ((Int × Int × Int × Int) × List Int) × Bool) (w0 : World) (v : Value) (w : World) : Prop := ∃ (A0' : Option Addr) (c0' : Nat) (vs0' : List Value) (A1' : Option Addr) (c1' : Nat) (vs1' : List Value) (ft' : List Nat), v = .tuple #[.slice A0' r.1.length c0', .slice A1' r.2.1.length c1'] ∧ St (foots [eR g0 g0s A0 p0 c0, eS g0s p0s_0]) w0 w [eR g0 g0s A0 p0 c0, eS g0s r.2.2, rowG 35 4 (.slice A0' r.1.length c0') r.1.length vs0', rowG 52 5 (.slice A1' r.2.1.length c1') r.2.1.length vs1', poolE ft' w] ∧ (fEach encapiLookup vs0' r.1).rd w ft' ∧ (fEach (pairE encapiTag (rowOf (intE .i64))) vs1' r.2.1).rd w ft'
def gParsed_X (p0 : List Int) (p0s_0 : Bool) (p1 : Int) (g0 : Nat) (A0 : Option Addr) (c0 : Nat) (g0s : Nat) (g : Int × Bool) (w0 : World) (c : List PanicEntry) (w : World) : Prop := c = goneB 113 g.1 ∧ St (foots [eR g0 g0s A0 p0 c0, eS g0s p0s_0]) w0 w [eR g0 g0s A0 p0 c0, eS g0s g.2]
theorem gParsed_ok (N : Nat) (p0 : List Int) (p0s_0 : Bool) (p1 : Int) (g0 : Nat) (A0 : Option Addr) (c0 : Nat) (g0s : Nat) (r : Pan (List (Int × Int × (List ((List (Int × Int)) × (List (Int × List Int)) × (List (List Int × Int)) × List (List Int) × List (List Int) × List (List Int) × List (Int × Int))) × List ((List (Int × Int × Int)) × (List (Int × Int × Int × Int)) × List (Int × List (Bool × Int × Int)))) × List ((Int × Int × Int × Int) × List Int) × Bool) (Int × Bool)) (hF : gParsed N p0 p0s_0 p1 = some r) (w0 : World) (hv0 : Vw (foots [eR g0 g0s A0 p0 c0, eS g0s p0s_0]) .u8 w0 A0 c0 p0) (hl : St (foots [eR g0 g0s A0 p0 c0, eS g0s p0s_0]) w0 w0 [eR g0 g0s A0 p0 c0, eS g0s p0s_0]) :
  Calls Try.prog 26 #[.pointer (some ⟨g0, 0, none⟩), .int .i64 p1] w0 fun e w => (∃ r', r = .ok r' ∧ ∃ v, e = .returned v ∧ gParsed_R p0 p0s_0 p1 g0 A0 c0 g0s r' w0 v w) ∨ (∃ g, r = .gone g ∧ ∃ c, e = .panicked c ∧ gParsed_X p0 p0s_0 p1 g0 A0 c0 g0s g w0 c w) := by
 have hS0 := (hl).pool0
 unfold gParsed at hF
 refine calls_of Try.func26 rfl ⟨((vP g0) :: (i6 p1) :: un 68 ([])).toArray, []⟩ (by kernel_rfl) (gx_seq (fun K1 hK2 => gx_region (gx_k (nS) w0 (gx_k (nS) w0 (gx_nil (gx_thenN (hK2 _ _ ?_)))))))
 obtain ⟨c7, hE8, hO9⟩ := bind_in hF
 refine gx_cut (fun a w => ∃ (b6 : Bool), selfA (fun u5 => ⟨((vP g0) :: (i6 p1) :: undef :: undef :: (nS) :: (nS) :: un 7 (dd u5 13 14 (un 43 ([])))).toArray, []⟩) a ∧ Ctl.go b6 = c7 ∧ St (foots [eR g0 g0s A0 p0 c0, eS g0s p0s_0]) w0 w [poolE ([]) w0, eR g0 g0s A0 p0 c0, eS g0s b6]) ?_ ?_
 refine gx_region (gx_k (vP g0) w0 ?_)
 have hP10 : St _ _ w0 ([eR g0 g0s A0 p0 c0, eS g0s p0s_0] ++ [poolE ([]) w0]) := hS0
 obtain ⟨b12, hc11, hE8⟩ := bind_in hE8
 try dsimp only at hE8
 refine gx_c _ (qBad_ok N p0 p0s_0 g0 A0 c0 g0s _ hc11 w0 (hP10.vwA hv0) hP10.part) ?_
 rintro _ w13 ⟨rfl, hT15⟩
 have hS14 : St _ _ w13 [poolE ([]) w0, eR g0 g0s A0 p0 c0, eS g0s p0s_0] := hP10.lendN _ hT15
 rcases b12 with _ | _
 try dsimp only at hE8
 refine gx_k (.bool true) w13 (gx_k (.bool true) w13 (gx_k (vP g0) w13 ?_))
 have hP28 : St _ _ w13 ([eR g0 g0s A0 p0 c0, eS g0s p0s_0] ++ [poolE ([]) w0]) := hS14.pick [1, 2, 0] rfl rfl
 obtain ⟨⟨x31, b30⟩, hc29, hE8⟩ := bind_in hE8
 try dsimp only at hE8
 refine gx_c _ (qWord_ok N p0 p0s_0 (0 : Int) g0 A0 c0 g0s _ hc29 w13 (hP28.vwA hv0) hP28.part) ?_
 rintro _ w32 ⟨rfl, hT34⟩
 have hS33 : St _ _ w32 [poolE ([]) w0, eR g0 g0s A0 p0 c0, eS g0s b30] := hP28.lendN _ hT34
 rcases if_in hE8 with ⟨h35, hE8⟩ | ⟨h35, hE8⟩
 refine gx_v (.bool true) w32 (rbE (decide_eq_true h35)) (gx_k (.bool true) w32 (gx_k (.bool true) w32 (gx_k (vP g0) w32 ?_)))
 have hP36 : St _ _ w32 ([eR g0 g0s A0 p0 c0, eS g0s b30] ++ [poolE ([]) w0]) := hS33.pick [1, 2, 0] rfl rfl
 obtain ⟨⟨x39, b38⟩, hc37, hE8⟩ := bind_in hE8
 try dsimp only at hE8
 refine gx_c _ (qWord_ok N p0 b30 (2 : Int) g0 A0 c0 g0s _ hc37 w32 (hP36.vwA hv0) hP36.part) ?_
 rintro _ w40 ⟨rfl, hT42⟩
 have hS41 : St _ _ w40 [poolE ([]) w0, eR g0 g0s A0 p0 c0, eS g0s b38] := hP36.lendN _ hT42
 refine gx_k (.bool (decide (x39 = 0))) w40 (gx_k (.bool (decide (x39 = 0))) w40 ?_)
 have hP43 : St _ _ w40 ([] ++ [poolE ([]) w0, eR g0 g0s A0 p0 c0, eS g0s b38]) := hS41
 obtain ⟨rq54, hc44, hE8⟩ := bind_in hE8
 rcases rq54 with q0 | x48
 try dsimp only at hE8
 refine gx_c _ (pan_ok (gRequire_ok N (decide (x39 = 0)) _ hc44 w40 ) :) ?_
 rintro _ w45 ⟨rfl, hT47⟩
 have hS46 : St _ _ w45 [poolE ([]) w0, eR g0 g0s A0 p0 c0, eS g0s b38] := hS41.take _ hT47
 refine gx_nil (gx_thenN ?_)
 exact ⟨b38, selfA_i (by kernel_rfl), (sj hE8), hS46⟩
 try dsimp only at hE8
 refine gx_callX _ (by kernel_rfl) (by kernel_rfl) (pan_gone (gRequire_ok N (decide (x39 = 0)) _ hc44 w40 ) :) ?_
 rintro c52 w49 ⟨hx53, hT51⟩
 have hS50 : St _ _ w49 [poolE ([]) w0, eR g0 g0s A0 p0 c0, eS g0s b38] := hS41.take _ hT51
 refine gx_thenP ?_
 obtain rfl := sj hE8
 try dsimp only at hO9
 obtain rfl := sj hO9
 exact gx_finP (by kernel_rfl) (.inr ⟨_, rfl, _, rfl, hx53, (hS50.pick [1, 2] rfl rfl)⟩)
 refine gx_v (.bool false) w32 (rbE (decide_eq_false h35)) (gx_k (.bool false) w32 (gx_k (.bool false) w32 (gx_o (gx_o (gx_o (gx_k (.bool false) w32 ?_))))))
 have hP55 : St _ _ w32 ([] ++ [poolE ([]) w0, eR g0 g0s A0 p0 c0, eS g0s b30]) := hS33
 obtain ⟨rq66, hc56, hE8⟩ := bind_in hE8
 rcases rq66 with q0 | x60
 try dsimp only at hE8
 refine gx_c _ (pan_ok (gRequire_ok N false _ hc56 w32 ) :) ?_
 rintro _ w57 ⟨rfl, hT59⟩
 have hS58 : St _ _ w57 [poolE ([]) w0, eR g0 g0s A0 p0 c0, eS g0s b30] := hS33.take _ hT59
 refine gx_nil (gx_thenN ?_)
 exact ⟨b30, selfA_i (by kernel_rfl), (sj hE8), hS58⟩
 try dsimp only at hE8
 refine gx_callX _ (by kernel_rfl) (by kernel_rfl) (pan_gone (gRequire_ok N false _ hc56 w32 ) :) ?_
 rintro c64 w61 ⟨hx65, hT63⟩
 have hS62 : St _ _ w61 [poolE ([]) w0, eR g0 g0s A0 p0 c0, eS g0s b30] := hS33.take _ hT63
 refine gx_thenP ?_
 obtain rfl := sj hE8
 try dsimp only at hO9
 obtain rfl := sj hO9
 exact gx_finP (by kernel_rfl) (.inr ⟨_, rfl, _, rfl, hx65, (hS62.pick [1, 2] rfl rfl)⟩)
 try dsimp only at hE8
 refine gx_k (.bool false) w13 (gx_k (.bool false) w13 (gx_o (gx_o (gx_o (gx_k (.bool false) w13 (gx_k (.bool false) w13 (gx_o (gx_o (gx_o (gx_k (.bool false) w13 ?_))))))))))
 have hP16 : St _ _ w13 ([] ++ [poolE ([]) w0, eR g0 g0s A0 p0 c0, eS g0s p0s_0]) := hS14
 obtain ⟨rq27, hc17, hE8⟩ := bind_in hE8
 rcases rq27 with q0 | x21
 try dsimp only at hE8
 refine gx_c _ (pan_ok (gRequire_ok N false _ hc17 w13 ) :) ?_
 rintro _ w18 ⟨rfl, hT20⟩
 have hS19 : St _ _ w18 [poolE ([]) w0, eR g0 g0s A0 p0 c0, eS g0s p0s_0] := hS14.take _ hT20
 refine gx_nil (gx_thenN ?_)
 exact ⟨p0s_0, selfA_i (by kernel_rfl), (sj hE8), hS19⟩
 try dsimp only at hE8
 refine gx_callX _ (by kernel_rfl) (by kernel_rfl) (pan_gone (gRequire_ok N false _ hc17 w13 ) :) ?_
 rintro c25 w22 ⟨hx26, hT24⟩
 have hS23 : St _ _ w22 [poolE ([]) w0, eR g0 g0s A0 p0 c0, eS g0s p0s_0] := hS14.take _ hT24
 refine gx_thenP ?_
 obtain rfl := sj hE8
 try dsimp only at hO9
 obtain rfl := sj hO9
 exact gx_finP (by kernel_rfl) (.inr ⟨_, rfl, _, rfl, hx26, (hS23.pick [1, 2] rfl rfl)⟩)
 rintro _ w3 ⟨b6, hq297, rfl, hS4⟩
 obtain ⟨u5, rfl⟩ := selfA_u hq297
 try dsimp only at hO9
 refine gx_seq (fun K67 hK68 => gx_region (gx_k (vP g0) w3 (gx_k (vP g0) w3 ?_)))
 have hP69 : St _ _ w3 ([eR g0 g0s A0 p0 c0, eS g0s b6] ++ [poolE ([]) w0]) := hS4.pick [1, 2, 0] rfl rfl
 obtain ⟨⟨x72, b71⟩, hc70, hO9⟩ := bind_in hO9
 try dsimp only at hO9
 refine gx_c _ (qWord_ok N p0 b6 (8 : Int) g0 A0 c0 g0s _ hc70 w3 (hP69.vwA hv0) hP69.part) ?_
 rintro _ w73 ⟨rfl, hT75⟩
 have hS74 : St _ _ w73 [poolE ([]) w0, eR g0 g0s A0 p0 c0, eS g0s b71] := hP69.lendN _ hT75
 refine gx_k (i6 (iw x72)) w73 ?_
 have hP76 : St _ _ w73 ([eR g0 g0s A0 p0 c0, eS g0s b71] ++ [poolE ([]) w0]) := hS74.pick [1, 2, 0] rfl rfl
 obtain ⟨⟨l79, x84, b78⟩, hc77, hO9⟩ := bind_in hO9
 try dsimp only at hO9
 refine gx_c _ (qLookups_ok N p0 b71 (iw x72) g0 A0 c0 g0s _ hc77 w73 (hP76.vwA hv0) hP76.part) ?_
 rintro _ w86 ⟨A80, c81, vs82, ft85, rfl, hT88, hf83⟩
 have hS87 : St _ _ w86 [poolE ([]) w0, eR g0 g0s A0 p0 c0, eS g0s b78, rowG 121 3 (.slice A80 l79.length c81) l79.length vs82, poolE ft85 w86] := hP76.lendN _ hT88
 obtain ⟨ft89, W90, hS91, hT92, hU93⟩ := hS87.merge 4 0 rfl rfl (by decide)
 have hS91 : St _ _ w86 [poolE ft89 W90, eR g0 g0s A0 p0 c0, eS g0s b78, rowG 121 3 (.slice A80 l79.length c81) l79.length vs82] := hS91
 have hT92 : Turn (foots [eR g0 g0s A0 p0 c0, eS g0s p0s_0]) w0 w0 ([]) W90 ft89 := hT92
 have hf96 : (fEach enccoverSubtable vs82 l79).rd W90 ft89 := hU93 _ hf83
 refine gx_k (.tuple #[.slice A80 l79.length c81, i6 x84]) w86 (gx_k (.slice A80 l79.length c81) w86 (gx_k (i6 x84) w86 (gx_k (.slice A80 l79.length c81) w86 (gx_k (i6 x84) w86 (gx_nil (gx_thenN (hK68 _ _ (gx_seq (fun K97 hK98 => gx_region (gx_k (i6 x84) w86 (gx_k (.bool (decide (x84 = 0))) w86 ?_)))))))))))
 have hP99 : St _ _ w86 ([] ++ [poolE ft89 W90, eR g0 g0s A0 p0 c0, eS g0s b78, rowG 121 3 (.slice A80 l79.length c81) l79.length vs82]) := hS91
 obtain ⟨rq296, hc100, hO9⟩ := bind_in hO9
 rcases rq296 with q0 | x290
 try dsimp only at hO9
 refine gx_c _ (pan_ok (gRequire_ok N (decide (x84 = 0)) _ hc100 w86 ) :) ?_
 rintro _ w101 ⟨rfl, hT103⟩
 have hS102 : St _ _ w101 [poolE ft89 W90, eR g0 g0s A0 p0 c0, eS g0s b78, rowG 121 3 (.slice A80 l79.length c81) l79.length vs82] := hS91.take _ hT103
 refine gx_nil (gx_thenN (hK98 _ _ (gx_seq (fun K104 hK105 => gx_region (gx_k (vP g0) w101 (gx_k (vP g0) w101 ?_))))))
 have hP106 : St _ _ w101 ([eR g0 g0s A0 p0 c0, eS g0s b78] ++ [poolE ft89 W90, rowG 121 3 (.slice A80 l79.length c81) l79.length vs82]) := hS102.pick [1, 2, 0, 3] rfl rfl
 obtain ⟨⟨x109, b108⟩, hc107, hO9⟩ := bind_in hO9
 try dsimp only at hO9
 refine gx_c _ (qWord_ok N p0 b78 (6 : Int) g0 A0 c0 g0s _ hc107 w101 (hP106.vwA hv0) hP106.part) ?_
 rintro _ w110 ⟨rfl, hT112⟩
 have hS111 : St _ _ w110 [poolE ft89 W90, rowG 121 3 (.slice A80 l79.length c81) l79.length vs82, eR g0 g0s A0 p0 c0, eS g0s b108] := hP106.lendN _ hT112
 refine gx_k (i6 (iw x109)) w110 (gx_k (.slice A80 l79.length c81) w110 (gx_k (i6 ((l79.length : Nat) : Int)) w110 ?_))
 have hP113 : St _ _ w110 ([eR g0 g0s A0 p0 c0, eS g0s b108] ++ [poolE ft89 W90, rowG 121 3 (.slice A80 l79.length c81) l79.length vs82]) := hS111.pick [2, 3, 0, 1] rfl rfl
 obtain ⟨⟨l116, x121, b115⟩, hc114, hO9⟩ := bind_in hO9
 try dsimp only at hO9
 refine gx_c _ (qFeats_ok N p0 b108 (iw x109) ((l79.length : Nat) : Int) g0 A0 c0 g0s _ hc114 w110 (hP113.vwA hv0) hP113.part) ?_
 rintro _ w123 ⟨A117, c118, vs119, ft122, rfl, hT125, hf120⟩
 have hS124 : St _ _ w123 [poolE ft89 W90, rowG 121 3 (.slice A80 l79.length c81) l79.length vs82, eR g0 g0s A0 p0 c0, eS g0s b115, rowG 52 5 (.slice A117 l116.length c118) l116.length vs119, poolE ft122 w123] := hP113.lendN _ hT125
 obtain ⟨ft126, W127, hS128, hT129, hU130⟩ := hS124.merge 5 0 rfl rfl (by decide)
 have hS128 : St _ _ w123 [poolE ft126 W127, rowG 121 3 (.slice A80 l79.length c81) l79.length vs82, eR g0 g0s A0 p0 c0, eS g0s b115, rowG 52 5 (.slice A117 l116.length c118) l116.length vs119] := hS128
 have hT129 : Turn (foots [eR g0 g0s A0 p0 c0, eS g0s p0s_0]) w0 W90 ft89 W127 ft126 := hT129
 have hf133 : (fEach (pairE encapiTag (rowOf (intE .i64))) vs119 l116).rd W127 ft126 := hU130 _ hf120
 refine gx_k (.tuple #[.slice A117 l116.length c118, i6 x121]) w123 (gx_k (.slice A117 l116.length c118) w123 (gx_k (i6 x121) w123 (gx_k (.slice A117 l116.length c118) w123 (gx_k (i6 x121) w123 (gx_nil (gx_thenN (hK105 _ _ (gx_seq (fun K134 hK135 => gx_region (gx_k (i6 x121) w123 (gx_k (.bool (decide (x121 = 0))) w123 ?_)))))))))))
 have hP136 : St _ _ w123 ([] ++ [poolE ft126 W127, rowG 121 3 (.slice A80 l79.length c81) l79.length vs82, eR g0 g0s A0 p0 c0, eS g0s b115, rowG 52 5 (.slice A117 l116.length c118) l116.length vs119]) := hS128
 obtain ⟨rq289, hc137, hO9⟩ := bind_in hO9
 rcases rq289 with q0 | x283
 try dsimp only at hO9
 refine gx_c _ (pan_ok (gRequire_ok N (decide (x121 = 0)) _ hc137 w123 ) :) ?_
 rintro _ w138 ⟨rfl, hT140⟩
 have hS139 : St _ _ w138 [poolE ft126 W127, rowG 121 3 (.slice A80 l79.length c81) l79.length vs82, eR g0 g0s A0 p0 c0, eS g0s b115, rowG 52 5 (.slice A117 l116.length c118) l116.length vs119] := hS128.take _ hT140
 refine gx_nil (gx_thenN (hK135 _ _ (gx_seq (fun K141 hK142 => gx_region (gx_k (nS) w138 (gx_nil (gx_thenN ?_)))))))
 refine hK142 _ _ ?_
 obtain ⟨c155, hE156, hO157⟩ := bind_in hO9
 refine gx_cut (fun a w => ∃ (b149 : Bool) (l154 : List (Int × Int × (List ((List (Int × Int)) × (List (Int × List Int)) × (List (List Int × Int)) × List (List Int) × List (List Int) × List (List Int) × List (Int × Int))) × List ((List (Int × Int × Int)) × (List (Int × Int × Int × Int)) × List (Int × List (Bool × Int × Int))))) (ft146 : List Nat) (W147 : World) (A150 : Option Addr) (c151 : Nat) (vs152 : List Value), selfA (fun u145 => ⟨((vP g0) :: (i6 p1) :: undef :: undef :: (nS) :: (nS) :: (u145 6) :: (i6 x121) :: (.slice A117 l116.length c118) :: (.slice A150 l154.length c151) :: undef :: dd u145 11 2 (dd u5 13 14 ((u145 27) :: (vP g0) :: (vP g0) :: (u6 x72) :: (i6 (iw x72)) :: dd u145 32 2 ((i6 x84) :: (i6 x84) :: (.bool (decide (x84 = 0))) :: dd u145 37 2 ((vP g0) :: (vP g0) :: (u6 x109) :: (i6 (iw x109)) :: (u145 43) :: (i6 ((l79.length : Nat) : Int)) :: dd u145 45 2 ((i6 x121) :: (i6 x121) :: (.bool (decide (x121 = 0))) :: dd u145 50 18 (undef :: undef :: []))))))).toArray, []⟩) a ∧ Ctl.go (b149, l154) = c155 ∧ St (foots [eR g0 g0s A0 p0 c0, eS g0s p0s_0]) w0 w [poolE ft146 W147, eR g0 g0s A0 p0 c0, eS g0s b149, rowG 52 5 (.slice A117 l116.length c118) l116.length vs119, rowG 35 4 (.slice A150 l154.length c151) l154.length vs152] ∧ Turn (foots [eR g0 g0s A0 p0 c0, eS g0s p0s_0]) w0 W127 ft126 W147 ft146 ∧ (fEach encapiLookup vs152 l154).rd W147 ft146) ?_ ?_
 refine gx_seq (fun K158 hK159 => gx_region (gx_k (.slice A80 l79.length c81) w138 (gx_k (i6 ((l79.length : Nat) : Int)) w138 (gx_k (i6 0) w138 (gx_nil (gx_thenN (hK159 _ _ (gx_block ?_))))))))
 have hS160 : St _ _ w138 [poolE ft126 W127, rowG 121 3 (.slice A80 l79.length c81) l79.length vs82, eR g0 g0s A0 p0 c0, eS g0s b115, rowG 52 5 (.slice A117 l116.length c118) l116.length vs119, rowG 35 4 (.slice none (([] : List (Int × Int × (List ((List (Int × Int)) × (List (Int × List Int)) × (List (List Int × Int)) × List (List Int) × List (List Int) × List (List Int) × List (Int × Int))) × List ((List (Int × Int × Int)) × (List (Int × Int × Int × Int)) × List (Int × List (Bool × Int × Int))))).length) 0) (([] : List (Int × Int × (List ((List (Int × Int)) × (List (Int × List Int)) × (List (List Int × Int)) × List (List Int) × List (List Int) × List (List Int) × List (Int × Int))) × List ((List (Int × Int × Int)) × (List (Int × Int × Int × Int)) × List (Int × List (Bool × Int × Int))))).length) ([])] := hS139.nilrowN 35 4
 have hf161 : (fEach encapiLookup [] []).rd W127 ft126 := each_nil
 refine gx_loop (fun k a w => ∃ (b168 : Bool) (l173 : List (Int × Int × (List ((List (Int × Int)) × (List (Int × List Int)) × (List (List Int × Int)) × List (List Int) × List (List Int) × List (List Int) × List (Int × Int))) × List ((List (Int × Int × Int)) × (List (Int × Int × Int × Int)) × List (Int × List (Bool × Int × Int))))) (x174 : Int) (ft165 : List Nat) (W166 : World) (A169 : Option Addr) (c170 : Nat) (vs171 : List Value), selfA (fun u164 => ⟨((vP g0) :: (i6 p1) :: undef :: undef :: (nS) :: (nS) :: (.slice A80 l79.length c81) :: (i6 x121) :: (.slice A117 l116.length c118) :: (.slice A169 l173.length c170) :: undef :: dd u164 11 2 (dd u5 13 14 ((u164 27) :: (vP g0) :: (vP g0) :: (u6 x72) :: (i6 (iw x72)) :: dd u164 32 2 ((i6 x84) :: (i6 x84) :: (.bool (decide (x84 = 0))) :: dd u164 37 2 ((vP g0) :: (vP g0) :: (u6 x109) :: (i6 (iw x109)) :: (u164 43) :: (i6 ((l79.length : Nat) : Int)) :: dd u164 45 2 ((i6 x121) :: (i6 x121) :: (.bool (decide (x121 = 0))) :: (u164 50) :: (.slice A80 l79.length c81) :: (i6 ((l79.length : Nat) : Int)) :: (i6 x174) :: dd u164 54 14 (undef :: undef :: []))))))).toArray, []⟩) a ∧ gParsed_L1 N p0 p1 l79 k b168 l173 x174 = some c155 ∧ St (foots [eR g0 g0s A0 p0 c0, eS g0s p0s_0]) w0 w [poolE ft165 W166, eR g0 g0s A0 p0 c0, eS g0s b168, rowG 121 3 (.slice A80 l79.length c81) l79.length vs82, rowG 52 5 (.slice A117 l116.length c118) l116.length vs119, rowG 35 4 (.slice A169 l173.length c170) l173.length vs171] ∧ Turn (foots [eR g0 g0s A0 p0 c0, eS g0s p0s_0]) w0 W127 ft126 W166 ft165 ∧ (fEach encapiLookup vs171 l173).rd W166 ft165) N ?_ ?_
 exact ⟨b115, ([] : List (Int × Int × (List ((List (Int × Int)) × (List (Int × List Int)) × (List (List Int × Int)) × List (List Int) × List (List Int) × List (List Int) × List (Int × Int))) × List ((List (Int × Int × Int)) × (List (Int × Int × Int × Int)) × List (Int × List (Bool × Int × Int))))), 0, ft126, W127, none, 0, ([]), selfA_i (by kernel_rfl), hE156, (hS160.pick [0, 2, 3, 1, 4, 5] rfl rfl), (Turn.refl _ _ _ _), hf161⟩
 rintro k175 _ w162 ⟨b168, l173, x174, ft165, W166, A169, c170, vs171, hq278, hL176, hS163, hT167, hf172⟩
 obtain ⟨u164, rfl⟩ := selfA_u hq278
 rcases k175 with _ | k175
 cases hL176
 first | rw [gParsed_L1] at hL176 | unfold gParsed_L1 at hL176
 refine gx_seq (fun K177 hK178 => gx_region ?_)
 rcases if_in hL176 with ⟨h179, hL176⟩ | ⟨h179, hL176⟩
 refine gx_v (.bool true) w162 (rbE (decide_eq_true h179)) (gx_nil (gx_thenN (hK178 _ _ (gx_seq (fun K180 hK181 => gx_yes (by kernel_rfl) (gx_pass (gx_thenN ?_)))))))
 refine hK181 _ _ (gx_seq (fun K182 hK183 => gx_block (gx_seq (fun K184 hK185 => gx_region ?_))))
 obtain ⟨x186, hx187, hL176⟩ := bind_in hL176
 obtain ⟨g188, o189, e190, hA191, he192, h193, ha194⟩ := elem_at (e := enccoverSubtable) (rowG_lies (e := enccoverSubtable) rfl (hS163.get 3 rfl)) (hT167.pool (hT129.pool hf96)) hx187 (by decide)
 obtain ⟨e195, e196, rfl, h197, h198⟩ := h193
 obtain rfl := h197
 obtain ⟨e199, e200, rfl, h201, h202⟩ := h198
 obtain rfl := h201
 obtain ⟨A203, c204, vs205, rfl, hf206⟩ := h202
 have ha194 : ∀ w', Lies w' A80 vs82 → w'.rangeAt g188 o189 [u6 x186.1, u6 x186.2.1, .slice A203 ((x186.2.2).length) c204] := ha194
 refine gx_v (.pointer (some ⟨g188, o189, none⟩)) w162 (run_ixaddrN (E := 121) (s := 3) (k := .i64) (c := c81) rfl (by kernel_rfl) (by kernel_rfl) (by kernel_rfl) (fun _ => by kernel_rfl) (ixg_in hx187).1 (ixg_in hx187).2.1 hA191) (gx_v (.agg #[u6 x186.1, u6 x186.2.1, .slice A203 ((x186.2.2).length) c204]) w162 (run_loadNG (d := _) (ec := [u6 x186.1, u6 x186.2.1, .slice A203 ((x186.2.2).length) c204]) rfl (by kernel_rfl) (ha194 _ (rowG_lies (e := enccoverSubtable) rfl (hS163.get 3 rfl))) rfl rfl (by kernel_rfl)) (gx_r (st_boxed [u6 0, u6 0, nS] 121 hS163 (by kernel_rfl)) ?_))
 rintro _ w207 ⟨rfl, hS208⟩
 have hS208 : St _ _ w207 [poolE ft165 W166, eR g0 g0s A0 p0 c0, eS g0s b168, rowG 121 3 (.slice A80 l79.length c81) l79.length vs82, rowG 52 5 (.slice A117 l116.length c118) l116.length vs119, rowG 35 4 (.slice A169 l173.length c170) l173.length vs171, boxE w162.heap.size [u6 0, u6 0, nS] 121] := hS208
 refine gx_s (st_storeG (cs := [u6 0, u6 0, nS]) (ds := [u6 x186.1, u6 x186.2.1, .slice A203 ((x186.2.2).length) c204]) rfl (by kernel_rfl) (by kernel_rfl) (by kernel_rfl) rfl rfl hS208 6 rfl) ?_
 rintro w209 hS210
 have hS210 : St _ _ w209 [poolE ft165 W166, eR g0 g0s A0 p0 c0, eS g0s b168, rowG 121 3 (.slice A80 l79.length c81) l79.length vs82, rowG 52 5 (.slice A117 l116.length c118) l116.length vs119, rowG 35 4 (.slice A169 l173.length c170) l173.length vs171, boxE w162.heap.size [u6 x186.1, u6 x186.2.1, .slice A203 ((x186.2.2).length) c204] 121] := hS210
 refine gx_nil (gx_thenN (hK185 _ _ (gx_seq (fun K211 hK212 => gx_region (gx_k (vP g0) w209 (gx_k (i6 p1) w209 (gx_k (.slice A80 l79.length c81) w209 (gx_k (i6 ((l79.length : Nat) : Int)) w209 (gx_k (.agg #[vP g0, i6 p1, i6 ((l79.length : Nat) : Int), i6 0]) w209 (gx_r (st_boxed [.pointer none, i6 0, i6 0, i6 0] 123 hS210 (by kernel_rfl)) ?_))))))))))
 rintro _ w213 ⟨rfl, hS214⟩
 have hS214 : St _ _ w213 [poolE ft165 W166, eR g0 g0s A0 p0 c0, eS g0s b168, rowG 121 3 (.slice A80 l79.length c81) l79.length vs82, rowG 52 5 (.slice A117 l116.length c118) l116.length vs119, rowG 35 4 (.slice A169 l173.length c170) l173.length vs171, boxE w162.heap.size [u6 x186.1, u6 x186.2.1, .slice A203 ((x186.2.2).length) c204] 121, boxE w209.heap.size [.pointer none, i6 0, i6 0, i6 0] 123] := hS214
 refine gx_s (st_storeG (cs := [.pointer none, i6 0, i6 0, i6 0]) (ds := [vP g0, i6 p1, i6 ((l79.length : Nat) : Int), i6 0]) rfl (by kernel_rfl) (by kernel_rfl) (by kernel_rfl) rfl rfl hS214 7 rfl) ?_
 rintro w215 hS216
 have hS216 : St _ _ w215 [poolE ft165 W166, eR g0 g0s A0 p0 c0, eS g0s b168, rowG 121 3 (.slice A80 l79.length c81) l79.length vs82, rowG 52 5 (.slice A117 l116.length c118) l116.length vs119, rowG 35 4 (.slice A169 l173.length c170) l173.length vs171, boxE w162.heap.size [u6 x186.1, u6 x186.2.1, .slice A203 ((x186.2.2).length) c204] 121, boxE w209.heap.size [vP g0, i6 p1, i6 ((l79.length : Nat) : Int), i6 0] 123] := hS216
 refine gx_nil (gx_thenN (hK212 _ _ (gx_region (gx_k (.slice A169 l173.length c170) w215 (gx_v (.agg #[u6 x186.1, u6 x186.2.1, .slice A203 ((x186.2.2).length) c204]) w215 (run_loadG (d := _) rfl (by kernel_rfl) (hS216.get 6 rfl) rfl rfl (by kernel_rfl)) ?_)))))
 have hP217 : St _ _ w215 ([boxE w209.heap.size [vP g0, i6 p1, i6 ((l79.length : Nat) : Int), i6 0] 123, eR g0 g0s A0 p0 c0, eS g0s b168] ++ [poolE ft165 W166, rowG 121 3 (.slice A80 l79.length c81) l79.length vs82, rowG 52 5 (.slice A117 l116.length c118) l116.length vs119, rowG 35 4 (.slice A169 l173.length c170) l173.length vs171, boxE w162.heap.size [u6 x186.1, u6 x186.2.1, .slice A203 ((x186.2.2).length) c204] 121]) := hS216.pick [7, 1, 2, 0, 3, 4, 5, 6] rfl rfl
 obtain ⟨rq275, hc218, hL176⟩ := bind_in hL176
 rcases rq275 with q0 | q0
 obtain ⟨x221, x222, l223, l228, x219, b220⟩ := q0
 try dsimp only at hL176
 refine gx_c _ (pan_ok (gLookup_ok N p1 ((l79.length : Nat) : Int) (0 : Int) p0 b168 x186.1 x186.2.1 x186.2.2 w209.heap.size g0 A0 c0 g0s A203 c204 _ hc218 w215 (hP217.vwA hv0) (St.vwF (hP217.offPA 0 rfl) (hS216.now 0 rfl hf206)) hP217.part) :) ?_
 rintro _ w234 ⟨A224, c225, vs226, A229, c230, vs231, ft233, rfl, hT236, hf227, hf232⟩
 have hS235 : St _ _ w234 [poolE ft165 W166, rowG 121 3 (.slice A80 l79.length c81) l79.length vs82, rowG 52 5 (.slice A117 l116.length c118) l116.length vs119, rowG 35 4 (.slice A169 l173.length c170) l173.length vs171, boxE w162.heap.size [u6 x186.1, u6 x186.2.1, .slice A203 ((x186.2.2).length) c204] 121, boxE w209.heap.size [vP g0, i6 p1, i6 ((l79.length : Nat) : Int), i6 x219] 123, eR g0 g0s A0 p0 c0, eS g0s b220, rowG 43 7 (.slice A224 l223.length c225) l223.length vs226, rowG 86 3 (.slice A229 l228.length c230) l228.length vs231, poolE ft233 w234] := hP217.lendN _ hT236
 obtain ⟨ft237, W238, hS239, hT240, hU241⟩ := hS235.merge 10 0 rfl rfl (by decide)
 have hS239 : St _ _ w234 [poolE ft237 W238, rowG 121 3 (.slice A80 l79.length c81) l79.length vs82, rowG 52 5 (.slice A117 l116.length c118) l116.length vs119, rowG 35 4 (.slice A169 l173.length c170) l173.length vs171, boxE w162.heap.size [u6 x186.1, u6 x186.2.1, .slice A203 ((x186.2.2).length) c204] 121, boxE w209.heap.size [vP g0, i6 p1, i6 ((l79.length : Nat) : Int), i6 x219] 123, eR g0 g0s A0 p0 c0, eS g0s b220, rowG 43 7 (.slice A224 l223.length c225) l223.length vs226, rowG 86 3 (.slice A229 l228.length c230) l228.length vs231] := hS239
 have hT240 : Turn (foots [eR g0 g0s A0 p0 c0, eS g0s p0s_0]) w0 W166 ft165 W238 ft237 := hT240
 have hf244 : (fEach encapiSub vs226 l223).rd W238 ft237 := hU241 _ hf227
 have hf245 : (fEach encapiPos vs231 l228).rd W238 ft237 := hU241 _ hf232
 obtain ⟨ft246, W247, hS248, hT249, hf250⟩ := hS239.freezeN (e := encapiSub) 8 0 rfl rfl (by decide) rfl hf244
 have hS248 : St _ _ w234 [poolE ft246 W247, rowG 121 3 (.slice A80 l79.length c81) l79.length vs82, rowG 52 5 (.slice A117 l116.length c118) l116.length vs119, rowG 35 4 (.slice A169 l173.length c170) l173.length vs171, boxE w162.heap.size [u6 x186.1, u6 x186.2.1, .slice A203 ((x186.2.2).length) c204] 121, boxE w209.heap.size [vP g0, i6 p1, i6 ((l79.length : Nat) : Int), i6 x219] 123, eR g0 g0s A0 p0 c0, eS g0s b220, rowG 86 3 (.slice A229 l228.length c230) l228.length vs231] := hS248
 have hT249 : Turn (foots [eR g0 g0s A0 p0 c0, eS g0s p0s_0]) w0 W238 ft237 W247 ft246 := hT249
 have hf250 : (fSl encapiSub A224 c225 vs226 l223).rd W247 ft246 := hf250
 obtain ⟨ft251, W252, hS253, hT254, hf255⟩ := hS248.freezeN (e := encapiPos) 8 0 rfl rfl (by decide) rfl (hT249.pool hf245)
 have hS253 : St _ _ w234 [poolE ft251 W252, rowG 121 3 (.slice A80 l79.length c81) l79.length vs82, rowG 52 5 (.slice A117 l116.length c118) l116.length vs119, rowG 35 4 (.slice A169 l173.length c170) l173.length vs171, boxE w162.heap.size [u6 x186.1, u6 x186.2.1, .slice A203 ((x186.2.2).length) c204] 121, boxE w209.heap.size [vP g0, i6 p1, i6 ((l79.length : Nat) : Int), i6 x219] 123, eR g0 g0s A0 p0 c0, eS g0s b220] := hS253
 have hT254 : Turn (foots [eR g0 g0s A0 p0 c0, eS g0s p0s_0]) w0 W247 ft246 W252 ft251 := hT254
 have hf255 : (fSl encapiPos A229 c230 vs231 l228).rd W252 ft251 := hf255
 have hf256 : (fEach encapiLookup [u6 x221, u6 x222, .slice A224 l223.length c225, .slice A229 l228.length c230] [(x221, x222, l223, l228)]).rd W252 ft251 := (each_cons (rd_pair (rd_intg .u16 x221) (rd_pair (rd_intg .u16 x222) (rd_pair (rd_row rfl (hT254.pool hf250)) (rd_row rfl hf255)))) each_nil)
 refine gx_r (st_madeP (e := encapiLookup) 35 1 [u6 x221, u6 x222, .slice A224 l223.length c225, .slice A229 l228.length c230] [(x221, x222, l223, l228)] hS253 rfl hf256 (by decide) (by kernel_rfl)) ?_
 rintro _ w257 ⟨rfl, hS258⟩
 have hS258 : St _ _ w257 [poolE ft251 W252, rowG 121 3 (.slice A80 l79.length c81) l79.length vs82, rowG 52 5 (.slice A117 l116.length c118) l116.length vs119, rowG 35 4 (.slice A169 l173.length c170) l173.length vs171, boxE w162.heap.size [u6 x186.1, u6 x186.2.1, .slice A203 ((x186.2.2).length) c204] 121, boxE w209.heap.size [vP g0, i6 p1, i6 ((l79.length : Nat) : Int), i6 x219] 123, eR g0 g0s A0 p0 c0, eS g0s b220, rowG 35 4 (.slice (some ⟨w234.heap.size, 0, none⟩) 1 1) 1 ([u6 x221, u6 x222, .slice A224 l223.length c225, .slice A229 l228.length c230])] := hS258
 obtain ⟨l259, ha260, hL176⟩ := bind_in hL176
 refine gx_r (st_appendP (e := encapiLookup) rfl (by kernel_rfl) (by kernel_rfl) hS258 3 rfl rfl (show 1 = ([(x221, x222, l223, l228)] : List (Int × Int × (List ((List (Int × Int)) × (List (Int × List Int)) × (List (List Int × Int)) × List (List Int) × List (List Int) × List (List Int) × List (Int × Int))) × List ((List (Int × Int × Int)) × (List (Int × Int × Int × Int)) × List (Int × List (Bool × Int × Int))))).length from rfl) (hT254.pool (hT249.pool (hT240.pool hf172))) hf256 (rowG_lies (e := encapiLookup) (show 1 = ([(x221, x222, l223, l228)] : List (Int × Int × (List ((List (Int × Int)) × (List (Int × List Int)) × (List (List Int × Int)) × List (List Int) × List (List Int) × List (List Int) × List (Int × Int))) × List ((List (Int × Int × Int)) × (List (Int × Int × Int × Int)) × List (Int × List (Bool × Int × Int))))).length from rfl) (hS258.get 8 rfl)) (rowG_spec (e := encapiLookup) (show 1 = ([(x221, x222, l223, l228)] : List (Int × Int × (List ((List (Int × Int)) × (List (Int × List Int)) × (List (List Int × Int)) × List (List Int) × List (List Int) × List (List Int) × List (Int × Int))) × List ((List (Int × Int × Int)) × (List (Int × Int × Int × Int)) × List (Int × List (Bool × Int × Int))))).length from rfl) (hS258.get 8 rfl)).2.2.1 ha260 (by kernel_rfl) (by kernel_rfl) (by decide)) ?_
 rintro _ w265 ⟨A261, c262, vs263, rfl, hf264, hS266⟩
 have hS266 : St _ _ w265 [poolE ft251 W252, rowG 121 3 (.slice A80 l79.length c81) l79.length vs82, rowG 52 5 (.slice A117 l116.length c118) l116.length vs119, rowG 35 4 (.slice A261 l259.length c262) l259.length vs263, boxE w162.heap.size [u6 x186.1, u6 x186.2.1, .slice A203 ((x186.2.2).length) c204] 121, boxE w209.heap.size [vP g0, i6 p1, i6 ((l79.length : Nat) : Int), i6 x219] 123, eR g0 g0s A0 p0 c0, eS g0s b220, rowG 35 4 (.slice (some ⟨w234.heap.size, 0, none⟩) 1 1) 1 ([u6 x221, u6 x222, .slice A224 l223.length c225, .slice A229 l228.length c230])] := hS266
 refine gx_k (.slice A261 l259.length c262) w265 (gx_nil (gx_blkN (gx_thenN (hK183 _ _ (gx_region (gx_k (i6 (iw (x174 + 1))) w265 (gx_k (i6 (iw (x174 + 1))) w265 (gx_nil ?_))))))))
 refine gx_thenN ?_
 exact ⟨k175, Nat.lt_succ_self k175, b220, l259, (iw (x174 + 1)), ft251, W252, A261, c262, vs263, selfA_i (by kernel_rfl), hL176, (hS266.pick [0, 6, 7, 1, 2, 3] rfl rfl), (Turn.trans (Turn.trans (Turn.trans hT167 hT240) hT249) hT254), hf264⟩
 obtain ⟨x267, x268, b269⟩ := q0
 try dsimp only at hL176
 refine gx_callX _ (by kernel_rfl) (by kernel_rfl) (pan_gone (gLookup_ok N p1 ((l79.length : Nat) : Int) (0 : Int) p0 b168 x186.1 x186.2.1 x186.2.2 w209.heap.size g0 A0 c0 g0s A203 c204 _ hc218 w215 (hP217.vwA hv0) (St.vwF (hP217.offPA 0 rfl) (hS216.now 0 rfl hf206)) hP217.part) :) ?_
 rintro c273 w270 ⟨hx274, hT272⟩
 have hS271 : St _ _ w270 [poolE ft165 W166, rowG 121 3 (.slice A80 l79.length c81) l79.length vs82, rowG 52 5 (.slice A117 l116.length c118) l116.length vs119, rowG 35 4 (.slice A169 l173.length c170) l173.length vs171, boxE w162.heap.size [u6 x186.1, u6 x186.2.1, .slice A203 ((x186.2.2).length) c204] 121, boxE w209.heap.size [vP g0, i6 p1, i6 ((l79.length : Nat) : Int), i6 x268] 123, eR g0 g0s A0 p0 c0, eS g0s b269] := hP217.lendN _ hT272
 refine gx_blkP (gx_thenP (gx_thenP (gx_blkP (gx_thenP ?_))))
 obtain rfl := sj hL176
 try dsimp only at hO157
 obtain rfl := sj hO157
 exact gx_finP (by kernel_rfl) (.inr ⟨_, rfl, _, rfl, hx274, (hS271.pick [6, 7] rfl rfl)⟩)
 refine gx_v (.bool false) w162 (rbE (decide_eq_false h179)) (gx_nil (gx_thenN (hK178 _ _ (gx_seq (fun K276 hK277 => gx_no (by kernel_rfl) (gx_exit (gx_thenE ?_)))))))
 refine gx_thenE (gx_blkE (gx_thenN ?_))
 exact ⟨b168, l173, ft165, W166, A169, c170, vs171, selfA_i (by kernel_rfl), (sj hL176), (hS163.pick [0, 1, 2, 4, 5] rfl rfl), hT167, hf172⟩
 rintro _ w143 ⟨b149, l154, ft146, W147, A150, c151, vs152, hq282, rfl, hS144, hT148, hf153⟩
 obtain ⟨u145, rfl⟩ := selfA_u hq282
 try dsimp only at hO157
 refine gx_seq (fun K279 hK280 => gx_region (gx_k (.slice A150 l154.length c151) w143 (gx_k (.slice A117 l116.length c118) w143 (gx_k (.slice A150 l154.length c151) w143 (gx_k (.slice A117 l116.length c118) w143 (gx_nil (gx_thenN (hK280 _ _ (gx_ret ?_)))))))))
 have hS281 : St _ _ w143 [poolE ft146 w143, eR g0 g0s A0 p0 c0, eS g0s b149, rowG 52 5 (.slice A117 l116.length c118) l116.length vs119, rowG 35 4 (.slice A150 l154.length c151) l154.length vs152] := hS144.renew 0 rfl
 obtain rfl := sj hO157
 exact gxF (.tuple #[.slice A150 l154.length c151, .slice A117 l116.length c118]) (.inl ⟨_, rfl, _, rfl, A150, c151, vs152, A117, c118, vs119, ft146, rfl, (hS281.pick [1, 2, 4, 3, 0] rfl rfl), (hS144.now 0 rfl hf153), (hS144.now 0 rfl (hT148.pool hf133))⟩)
 try dsimp only at hO9
 refine gx_callX _ (by kernel_rfl) (by kernel_rfl) (pan_gone (gRequire_ok N (decide (x121 = 0)) _ hc137 w123 ) :) ?_
 rintro c287 w284 ⟨hx288, hT286⟩
 have hS285 : St _ _ w284 [poolE ft126 W127, rowG 121 3 (.slice A80 l79.length c81) l79.length vs82, eR g0 g0s A0 p0 c0, eS g0s b115, rowG 52 5 (.slice A117 l116.length c118) l116.length vs119] := hS128.take _ hT286
 refine gx_thenP ?_
 obtain rfl := sj hO9
 exact gx_finP (by kernel_rfl) (.inr ⟨_, rfl, _, rfl, hx288, (hS285.pick [2, 3] rfl rfl)⟩)
 try dsimp only at hO9
 refine gx_callX _ (by kernel_rfl) (by kernel_rfl) (pan_gone (gRequire_ok N (decide (x84 = 0)) _ hc100 w86 ) :) ?_
 rintro c294 w291 ⟨hx295, hT293⟩
 have hS292 : St _ _ w291 [poolE ft89 W90, eR g0 g0s A0 p0 c0, eS g0s b78, rowG 121 3 (.slice A80 l79.length c81) l79.length vs82] := hS91.take _ hT293
 refine gx_thenP ?_
 obtain rfl := sj hO9
 exact gx_finP (by kernel_rfl) (.inr ⟨_, rfl, _, rfl, hx295, (hS292.pick [1, 2] rfl rfl)⟩)
end Go.Proofs.Ytgjlpiljacecpaa
