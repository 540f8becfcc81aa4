/-
  UcdBack: characters' bytes are decoded as the characters, what is decoded has just the bytes, and what is wrong is at the first place at which no character begins. (The walk, given what works answers.)
-/
import Derived.Test.YtjpdhfolfmamcaaDoorDecodes
import Derived.Test.YtjpdhfolfmamcaaDoorOne
namespace Go.Proofs.YtjpdhfolfmamcaaDoor
open Go Go.RowKit

theorem infoU8 : (Tryd.prog.info? 5).map (fun i => (i.zero, i.size, i.bytes)) = some (some (.int .u8 0), 1, 1) := by kernel_rfl

/-- a row of the call's own that holds these bytes -/
def OwnB (B : Nat) (w : World) (v : Value) (bs : List Nat) : Prop := w.ownsRow B 5 1 v bs.length (bs.map fun d : Nat => Value.int .u8 (d : Int))

theorem OwnB.nil (B : Nat) (w : World) : OwnB B w (.slice none 0 0) [] := World.ownsRow_nil _ _ _ _

/-- numbers as bytes -/
def bytesOf (bs : List Nat) : ByteArray := ⟨(bs.map UInt8.ofNat).toArray⟩

theorem bytesOf_size (bs : List Nat) : (bytesOf bs).size = bs.length := by simp [bytesOf, ByteArray.size]

theorem bytesOf_byteL (bs : List Nat) (h : ∀ d ∈ bs, d < 256) : byteL (bytesOf bs) = bs := by
  unfold byteL bytesOf
  simp only [List.map_map]
  have : ∀ l : List Nat, (∀ d ∈ l, d < 256) → l.map (UInt8.toNat ∘ UInt8.ofNat) = l := by
    intro l
    induction l with
    | nil => intro _; rfl
    | cons d t ih =>
      intro h
      rw [List.map_cons, ih (fun x hx => h x (by simp [hx]))]
      have := h d (by simp)
      simp [Nat.mod_eq_of_lt this]
  exact this bs h

theorem byteL_inj {s t : ByteArray} (h : byteL s = byteL t) : s = t := by
  have hl : s.data.toList = t.data.toList := by
    unfold byteL at h
    exact (List.map_inj_right (fun a b e => UInt8.toNat_inj.1 e)).1 h
  apply ByteArray.ext
  exact Array.ext' hl

theorem OwnB.bytes {B : Nat} {w : World} {v : Value} {bs : List Nat} (h : OwnB B w v bs) (hd : ∀ d ∈ bs, d < 256) : BytesR w v (bytesOf bs) := by
  have h1 : w.ownsRow B 5 1 v bs.length (bs.map fun d : Nat => Value.int .u8 (d : Int)) := h
  have hsz := bytesOf_size bs
  rcases h1.2 with ⟨rfl, h0⟩ | ⟨g, cap, cur, rfl, hb, hg, hc, hm, hs, ht⟩
  · exact ⟨none, 0, by rw [hsz, h0], by omega, by omega, fun hne => by omega⟩
  · refine ⟨some ⟨g, 0, none⟩, cap, by rw [hsz], by omega, by unfold maxLen at hm; omega, fun _ => ⟨g, 0, rfl, ?_, ⟨fun j hj => ?_⟩⟩⟩
    · rcases Nat.lt_or_ge g w.heap.size with h' | h'
      · exact h'
      · simp [Array.getElem?_eq_none h'] at hg
    · rw [hsz] at hj
      have := h1.cells (g := g) rfl j (.int .u8 ((bs[j] : Nat) : Int)) (by simp [hj])
      rw [add_flat] at this
      rw [this, byN_getD, bytesOf_byteL bs hd]
      simp [hj]

theorem OwnB.len {B : Nat} {w : World} {v : Value} {bs : List Nat} (h : OwnB B w v bs) : ∃ A c, v = .slice A bs.length c := by
  have h1 : w.ownsRow B 5 1 v bs.length (bs.map fun d : Nat => Value.int .u8 (d : Int)) := h
  rcases h1.2 with ⟨rfl, h0⟩ | ⟨g, cap, cur, rfl, hb, hg, hc, hm, hs, ht⟩
  · exact ⟨none, 0, by rw [h0]⟩
  · exact ⟨_, _, rfl⟩

theorem enc_lt (r : Nat) (hr : r ≤ 1114111) : ∀ d ∈ encN r, d < 256 := by
  unfold encN
  repeat' split
  all_goals
    intro d hd
    simp at hd
    omega

theorem flat_lt (l : List Nat) (hl : ∀ r ∈ l, r ≤ 1114111) : ∀ d ∈ l.flatMap encN, d < 256 := by
  intro d hd
  obtain ⟨r, hr, hd⟩ := List.mem_flatMap.1 hd
  exact enc_lt r (hl r hr) d hd

theorem flat_len (l : List Nat) : (l.flatMap encN).length ≤ 4 * l.length := by
  induction l with
  | nil => simp
  | cons r t ih =>
    have := (enc_len r).2
    rw [List.flatMap_cons, List.length_append, List.length_cons]
    omega

/-- what UcdBack takes for a rune -/
def goodR (x : Int) : Nat := if x < 0 ∨ 1114111 < x ∨ 55296 ≤ x ∧ x ≤ 57343 then 65533 else x.toNat

theorem goodR_scalar (x : Int) : scalar (goodR x) := by
  unfold goodR scalar
  split <;> omega

/-- a value that reads as these runes, whatever they are -/
def RunesZ (w : World) (v : Value) (l : List Int) : Prop :=
  ∃ A c, v = .slice A l.length c ∧ l.length ≤ c ∧ (l ≠ [] → ∃ g off, A = some ⟨g, off, none⟩ ∧ g < w.heap.size ∧ ∀ (j : Nat) (h : j < l.length), w.cell? ⟨g, off + j, none⟩ = some (.int .i32 l[j]))

/-- the append of a new slice's cells -/
theorem many_new {w : World} {l : List Value} {t : TypeId} : ∀ j u, l[j]? = some u → (w.alloc (.cells l.toArray t)).cell? ((⟨w.heap.size, 0, none⟩ : Addr).add j) = some u := by
  intro j u hj
  rw [add_flat, Nat.zero_add, cell_of_row _ w.heap.size j _ _ _ (heap_alloc_new w _)]
  simpa using hj

/-- at the head of each round of the first loop -/
def BackRel (w : World) (xs : List Int) (N k : Nat) (vin vi : Value) (wr : World) : Prop :=
  ∃ i bs, i + k = N ∧ vi = .int .i64 ((i : Nat) : Int) ∧ OwnB w.heap.size wr vin bs ∧ bs = ((xs.take i).map goodR).flatMap encN ∧ Below w.heap.size w wr

/-- at the head of each round of the second loop -/
def OutRel (w : World) (ys : List Nat) (N k : Nat) (vin vi : Value) (wr : World) : Prop :=
  ∃ i bs, i + k = N ∧ vi = .int .i64 ((i : Nat) : Int) ∧ OwnB w.heap.size wr vin bs ∧ bs = (ys.take i).flatMap encN ∧ Below w.heap.size w wr

theorem goodR_next (xs : List Int) (i : Nat) (h : i < xs.length) : ((xs.take (i + 1)).map goodR).flatMap encN = ((xs.take i).map goodR).flatMap encN ++ encN (goodR xs[i]) := by
  rw [List.take_succ_eq_append_getElem h, List.map_append, List.flatMap_append]
  simp

theorem out_next (ys : List Nat) (i : Nat) (h : i < ys.length) : (ys.take (i + 1)).flatMap encN = (ys.take i).flatMap encN ++ encN ys[i] := by
  rw [List.take_succ_eq_append_getElem h, List.flatMap_append]
  simp

set_option maxHeartbeats 4000000 in
set_option maxRecDepth 20000 in
theorem back_walk (xs : List Int) (vl : Value) (s : ByteArray) (v : Value) (w : World) (hl : RunesZ w vl xs) (hv : BytesR w v s) (hT : U8T w)
    (hW : ∀ w', Below w.heap.size w w' → Calls Tryd.prog 11 #[] w' fun e w'' => e = .returned (.bool true) ∧ Below w'.heap.size w' w'') :
    Calls Tryd.prog 6 #[vl, v] w fun e w' => e = .returned (.bool true) ∧ Below w.heap.size w w' := by
  obtain ⟨i0, hi0, hz0, hz1, hz2⟩ := info_parts infoU8
  have HW := Lib.hid hW
  have HBR := Lib.hid hv
  have HT := Lib.hid hT
  obtain ⟨A, cap, rfl, hcap, hcap2, hx⟩ := hv
  obtain ⟨Al, capl, rfl, hcapl, hxlc⟩ := hl
  obtain ⟨N, hN⟩ : ∃ N, N = s.size := ⟨_, rfl⟩
  obtain ⟨M, hM⟩ : ∃ M, M = xs.length := ⟨_, rfl⟩
  have HN := Lib.hid hN
  have HM := Lib.hid hM
  have HX := Lib.hid hx
  have HXL := Lib.hid hxlc
  rw [← hN] at HBR hcap ⊢
  rw [← hM] at hcapl ⊢
  have hcI : (N : Int) ≤ (cap : Int) := by omega
  clear hx hxlc hcap2 hW hT hN hM hcap
  by_cases hbig : 10000 < M
  · have hbI : (10000 : Int) < (M : Int) := by omega
    clear hbig
    go_enter Tryd.func6, Tryd.ntmps6
    go_wp2_with fail
    refine (HW.out w (Below.refl _ _)).mono ?_
    rintro e w1 ⟨rfl, hb⟩
    go_wp2_with fail
    go_ret
    exact ⟨rfl, hb⟩
  · by_cases hbig2 : 10000 < N
    · have hbI : ((10000 : Int) < (M : Int)) = False := by simp; omega
      have hbJ : ((10000 : Int) < (N : Int)) = True := by simp; omega
      clear hbig hbig2
      go_enter Tryd.func6, Tryd.ntmps6
      go_wp2_with fail
      refine (HW.out w (Below.refl _ _)).mono ?_
      rintro e w1 ⟨rfl, hb⟩
      go_wp2_with fail
      go_ret
      exact ⟨rfl, hb⟩
    · have hbI : ((10000 : Int) < (M : Int)) = False := by simp; omega
      have hbJ : ((10000 : Int) < (N : Int)) = False := by simp; omega
      have hM10 : M ≤ 10000 := by omega
      have hN10 : N ≤ 10000 := by omega
      clear hbig hbig2
      go_enter Tryd.func6, Tryd.ntmps6
      go_wp2_with fail
      go_loopg [5, 6, 7] M (fun k vin vi v7 wr => BackRel w xs M k vin vi wr)
      case atStart => exact ⟨0, [], by omega, rfl, OwnB.nil _ _, by simp, Below.refl _ _⟩
      case round =>
        obtain ⟨i, bs, hik, rfl, ho, hbs, hb⟩ := hrel
        obtain ⟨A2, cap2, rfl⟩ := ho.len
        have hbl : bs.length ≤ 40000 := by
          rw [hbs]
          have h1 := flat_len ((xs.take i).map goodR)
          have h2 := List.length_take_le i xs
          rw [List.length_map] at h1
          omega
        obtain ⟨L, hL⟩ : ∃ L, L = bs.length := ⟨_, rfl⟩
        have HO := Lib.hid ho
        have HL := Lib.hid hL
        have HBS := Lib.hid hbs
        have HB := Lib.hid hb
        have hz := hb.size
        rw [← hL] at hbl ⊢
        clear ho hbs hb hL
        rcases Nat.eq_zero_or_pos gk with h0 | h0
        · obtain rfl := h0
          obtain rfl : i = M := by omega
          have hall : bs = (xs.map goodR).flatMap encN := by rw [HBS.out, List.take_of_length_le (by have := HM.out; omega)]
          have hscal : ∀ r ∈ xs.map goodR, scalar r := by
            intro r hr
            obtain ⟨x, _, rfl⟩ := List.mem_map.1 hr
            exact goodR_scalar x
          have hlt256 : ∀ d ∈ bs, d < 256 := by rw [hall]; exact flat_lt _ (fun r hr => (hscal r hr).1)
          obtain ⟨P, hP⟩ : ∃ P, P = bytesOf bs := ⟨_, rfl⟩
          have hby : byteL P = (xs.map goodR).flatMap encN := by rw [hP, bytesOf_byteL bs hlt256, hall]
          have hfin := fin_enc P _ hscal hby
          have hPs : P.size = L := by rw [hP, bytesOf_size]; exact HL.out.symm
          have hin := OwnB.bytes (B := w.heap.size) HO.out
          have HFIN := Lib.hid hfin
          have HPS := Lib.hid hPs
          have HIN : Hid (BytesR wr (.slice A2 L cap2) P) := Lib.hid (by
            have h1 := HO.out
            rw [← HL.out] at h1
            rw [hP]
            exact (HO.out.bytes hlt256 : BytesR wr _ _) |> (fun h => by have e := HL.out; first | exact h | (rw [e]; exact h)))
          clear hall hscal hlt256 hby hfin hPs hin hP
          go_wp2_with fail
          refine (decode_any P _ _ (by rw [HPS.out]; omega) HIN.out (u8_below HT.out HB.out)).mono ?_
          rintro e w4 ⟨hb4, hend⟩
          have HB4 := Lib.hid (HB.out.trans (hb4.mono HB.out.size))
          clear hb4
          rcases hend with ⟨hlt, _⟩ | ⟨_, v4, rfl, hr4⟩
          · exfalso
            rw [HFIN.out] at hlt
            exact Nat.lt_irrefl _ hlt
          · obtain ⟨A4, cap4, rfl, _⟩ := hr4
            have hlen4 : (fin P 0 []).1.length = i := by rw [HFIN.out]; simp; exact HM.out.symm
            rw [hlen4]
            clear hlen4
            go_wp2_with fail
            refine (decode_any s _ _ (by have := HN.out; omega) (HBR.out.below HB4.out) (u8_below HT.out HB4.out)).mono ?_
            rintro e w5 ⟨hb5, hend⟩
            have HB5 := Lib.hid (HB4.out.trans (hb5.mono HB4.out.size))
            clear hb5
            rcases hend with ⟨hlt, rfl⟩ | ⟨heq, v5, rfl, hr5⟩
            · have hbad := (fin_bound s).2.2.2 hlt
              obtain ⟨at0, hat0⟩ : ∃ at0, at0 = (fin s 0 []).2 := ⟨_, rfl⟩
              have hatN : at0 < N := by rw [hat0]; have := HN.out; omega
              obtain ⟨g, off, rfl, hg, hat⟩ := HX.out (by have := HN.out; omega)
              obtain ⟨p, hp⟩ : ∃ p, p = s.extract 0 at0 := ⟨_, rfl⟩
              have hps : p.size = at0 := by rw [hp]; simp; have := HN.out; omega
              have hpl : byteL p = (byteL s).take at0 := by
                rw [hp]; unfold byteL; simp [List.map_take]
              have hfp := fin_ahead s p (by rw [hpl, hat0])
              have hpat : BytesAt w g off p := ⟨fun j hj => by
                rw [hat.cell j (by rw [hps] at hj; have := HN.out; omega), byN_getD, byN_getD, hpl]
                rw [hps] at hj
                simp [hj]⟩
              have hpr : BytesR w5 (.slice (some ⟨g, off, none⟩) at0 cap) p := by
                have h0 : BytesR w (.slice (some ⟨g, off, none⟩) p.size cap) p := ⟨_, _, rfl, by omega, by obtain ⟨_, _, e, _, h2, _⟩ := HBR.out; injection e with _ _ e3; omega, fun _ => ⟨g, off, rfl, hg, hpat⟩⟩
                rw [hps] at h0
                exact h0.below HB5.out
              have hcut : cutG (behindB s at0) = (0, 0) := by rw [behind_cut, if_pos (by rw [hat0]; exact hbad)]
              have hba : BytesAt w g (off + at0) (behindB s at0) := BytesAt.behind hat at0
              have HPR := Lib.hid hpr
              have HFP := Lib.hid hfp
              have HPSZ := Lib.hid hps
              have HCUT := Lib.hid hcut
              have HBA := Lib.hid hba
              have hbsz : (behindB s at0).size = N - at0 := by rw [behind_size, ← HN.out]
              have HBSZ := Lib.hid hbsz
              rw [← hat0]
              have hatI : (at0 : Int) < (N : Int) := by omega
              have hat0I : (0 : Int) ≤ (at0 : Int) := Int.natCast_nonneg _
              have b1 : ((at0 : Int) < 0) = False := by simp
              have b2 : ((N : Int) ≤ (at0 : Int)) = False := by simp; omega
              have hcapI : (at0 : Int) ≤ (cap : Int) := by omega
              clear hlt hbad hat0 hat hp hps hpl hfp hpat hpr hcut hba hbsz
              go_wp2_with fail
              refine (decode_any p _ _ (by rw [HPSZ.out]; omega) HPR.out (u8_below HT.out HB5.out)).mono ?_
              rintro e w6 ⟨hb6, hend⟩
              have HB6 := Lib.hid (HB5.out.trans (hb6.mono HB5.out.size))
              clear hb6
              rcases hend with ⟨hlt, _⟩ | ⟨_, v6, rfl, hr6⟩
              · exfalso
                rw [HFP.out] at hlt
                exact Nat.lt_irrefl _ hlt
              · have hcall := refCut_any (behindB s at0) g (off + at0) (cap - at0) w6 (by rw [HBSZ.out]; omega) (by rw [HBSZ.out]; omega) ⟨fun j hj => by rw [HB6.out.cell (show g < _ from hg)]; exact HBA.out.cell j hj⟩
                rw [HCUT.out, HBSZ.out] at hcall
                have HCALL := Lib.hid hcall
                clear hcall
                go_wp2_with fail
                refine (HCALL.out).mono ?_
                rintro e w7 ⟨rfl, hb7⟩
                have HB7 := Lib.hid (HB6.out.trans (hb7.mono HB6.out.size))
                clear hb7
                go_wp2_with fail
                refine (HW.out _ HB7.out).mono ?_
                rintro e w8 ⟨rfl, hb8⟩
                go_wp2_with fail
                go_ret
                exact ⟨rfl, HB7.out.trans (hb8.mono HB7.out.size)⟩
            · have hbnd := fin_bound s
              have hflat := fin_bytes s
              obtain ⟨ys, hys⟩ : ∃ ys, ys = (fin s 0 []).1 := ⟨_, rfl⟩
              rw [← hys] at hr5 hbnd hflat
              obtain ⟨K, hK⟩ : ∃ K, K = ys.length := ⟨_, rfl⟩
              have hKN : K ≤ N := by rw [hK]; have := HN.out; omega
              have hys2 : ∀ r ∈ ys, r ≤ 1114111 := fun r hr => (hbnd.2.2.1 r hr).1
              have hfl : ys.flatMap encN = byteL s := by rw [hflat, heq, List.take_of_length_le (by rw [byteL_len]; omega)]
              have HR5 := Lib.hid hr5
              obtain ⟨A5, cap5, rfl, _, _, hx5⟩ := hr5
              have HX5 := Lib.hid hx5
              have HK := Lib.hid hK
              have HYS := Lib.hid hys2
              have HFL := Lib.hid hfl
              rw [← hK]
              have hz5 := HB5.out.size
              clear hbnd hflat hys hK hys2 hfl hx5 heq
              go_wp2_with fail
              go_loopg [14, 15] K (fun k vin vi wr => OutRel w5 ys K k vin vi wr)
              case atStart => exact ⟨0, [], by omega, rfl, OwnB.nil _ _, by simp, Below.refl _ _⟩
              case round =>
                obtain ⟨j, bs2, hjk, rfl, ho2, hbs2, hb6⟩ := hrel
                obtain ⟨A6, cap6, rfl⟩ := ho2.len
                have hbl2 : bs2.length ≤ 40000 := by
                  rw [hbs2]
                  have h1 := flat_len (ys.take j)
                  have h2 := List.length_take_le j ys
                  omega
                obtain ⟨L2, hL2⟩ : ∃ L2, L2 = bs2.length := ⟨_, rfl⟩
                have HO2 := Lib.hid ho2
                have HL2 := Lib.hid hL2
                have HBS2 := Lib.hid hbs2
                have HB6 := Lib.hid hb6
                have hz6 := hb6.size
                rw [← hL2] at hbl2 ⊢
                clear ho2 hbs2 hb6 hL2
                rcases Nat.eq_zero_or_pos gk with h1 | h1
                · obtain rfl := h1
                  obtain rfl : j = K := by omega
                  have hall : bs2 = byteL s := by rw [HBS2.out, List.take_of_length_le (by have := HK.out; omega)]; exact HFL.out
                  have h256 : ∀ d ∈ bs2, d < 256 := by
                    rw [hall]
                    intro d hd
                    obtain ⟨c, _, rfl⟩ := List.mem_map.1 hd
                    exact c.toNat_lt
                  have hsame : bytesOf bs2 = s := byteL_inj (by rw [bytesOf_byteL bs2 h256, hall])
                  have HW6 := Lib.hid (HB5.out.trans (HB6.out.mono HB5.out.size))
                  have hc1 := conv_bytes wr _ _ (HO2.out.bytes h256)
                  have hc2 := conv_bytes wr _ s (HBR.out.below HW6.out)
                  rw [hsame] at hc1
                  have hA : (Value.slice A6 bs2.length cap6) = Value.slice A6 L2 cap6 := by rw [HL2.out]
                  rw [hA] at hc1
                  clear hall h256 hsame hA
                  go_wp2_with fail
                  refine (HW.out _ HW6.out).mono ?_
                  rintro e w8 ⟨rfl, hb8⟩
                  go_wp2_with fail
                  go_ret
                  exact ⟨rfl, HW6.out.trans (hb8.mono HW6.out.size)⟩
                · have hjK : j < K := by omega
                  have hjy : j < ys.length := by have := HK.out; omega
                  obtain ⟨g, rfl, hg, hcell⟩ := HX5.out (by intro e; rw [e] at hjy; simp at hjy)
                  obtain ⟨r, hr⟩ : ∃ r, r = ys[j] := ⟨_, rfl⟩
                  have hcx : wr.cell? ⟨g, j, none⟩ = some (.int .i32 (r : Int)) := by rw [HB6.out.cell (show g < _ from hg), hr]; exact hcell j hjy
                  have hjI : (j : Int) < (K : Int) := by omega
                  have hj0I : (0 : Int) ≤ (j : Int) := Int.natCast_nonneg _
                  obtain ⟨e, he⟩ : ∃ e, e = encN r := ⟨_, rfl⟩
                  obtain ⟨m, hm⟩ : ∃ m, m = e.length := ⟨_, rfl⟩
                  have hm4 : m ≤ 4 := by rw [hm, he]; exact (enc_len r).2
                  have hsc : r ≤ 1114111 := by rw [hr]; exact HYS.out _ (List.getElem_mem _)
                  have HNX : Hid (bs2 ++ e = (ys.take (j + 1)).flatMap encN) := Lib.hid (by
                    rw [out_next ys j hjy, HBS2.out, he, hr])
                  have hone := one_any r hsc wr
                  rw [← he] at hone
                  have HONE := Lib.hid hone
                  have hown : wr.ownsRow w5.heap.size 5 1 (.slice A6 L2 cap6) L2 (bs2.map fun d : Nat => Value.int .u8 (d : Int)) := by have := HO2.out; unfold OwnB at this; rw [← HL2.out] at this; exact this
                  have HOW := Lib.hid hown
                  have HE := Lib.hid hm
                  clear hcell hr he hone hown hm hsc
                  go_wp2_with fail
                  refine (HONE.out).mono ?_
                  rintro e2 w2 ⟨v2, rfl, rfl, rfl⟩
                  have hnew := many_new (w := wr) (l := e.map fun d : Nat => Value.int .u8 (d : Int)) (t := 5)
                  rw [← HE.out]
                  go_wp2_with (at_builtin; refine wpList_append_own _ rfl _ _ 33 rfl w5.heap.size 5 i0 (.int .u8 0) 1 1 Tryd.underlying33 hi0 hz0 hz1 hz2 rfl (by decide) _ _ _ rfl (HOW.out.alloc _) ⟨wr.heap.size, 0, none⟩ m m (e.map fun d : Nat => Value.int .u8 (d : Int)) rfl (by simp [← HE.out]) hnew (fun u hu => by obtain ⟨d, _, rfl⟩ := List.mem_map.1 hu; rfl) (by unfold maxLen; omega) (by omega) (by simp; omega) ?_)
                  intro v' w3 hown' hgrow _
                  have hb3 : Below w5.heap.size w5 w3 := (HB6.out.alloc (by omega) _).grown hgrow (by simp; omega) (fun k hk => (HOW.out.lt k hk).1)
                  have HP : Hid (OwnB w5.heap.size w3 v' (bs2 ++ e)) := Lib.hid (by
                    unfold OwnB
                    rw [List.length_append, List.map_append, ← HL2.out, ← HE.out]
                    exact hown')
                  clear hown' hgrow hnew
                  go_wp2
                  go_roundg (gk - 1)
                  case measure => omega
                  case rel => exact ⟨j + 1, bs2 ++ e, by omega, by first | rfl | exact congrArg _ (by omega), HP.out, HNX.out, hb3⟩
        · have hiM : i < M := by omega
          have hix : i < xs.length := by have := HM.out; omega
          obtain ⟨g, off, rfl, hg, hcell⟩ := HXL.out (by intro e; rw [e] at hix; simp at hix)
          obtain ⟨x, hx⟩ : ∃ x, x = xs[i] := ⟨_, rfl⟩
          have hcx : wr.cell? ⟨g, off + i, none⟩ = some (.int .i32 x) := by rw [HB.out.cell (show g < _ from hg), hx]; exact hcell i hix
          have hiI : (i : Int) < (M : Int) := by omega
          have hi0I : (0 : Int) ≤ (i : Int) := Int.natCast_nonneg _
          obtain ⟨r, hr⟩ : ∃ r, r = goodR x := ⟨_, rfl⟩
          obtain ⟨e, he⟩ : ∃ e, e = encN r := ⟨_, rfl⟩
          obtain ⟨m, hm⟩ : ∃ m, m = e.length := ⟨_, rfl⟩
          have hm4 : m ≤ 4 := by rw [hm, he]; exact (enc_len r).2
          have hsc : r ≤ 1114111 := by rw [hr]; exact (goodR_scalar x).1
          have HNX : Hid (bs ++ e = ((xs.take (i + 1)).map goodR).flatMap encN) := Lib.hid (by
            rw [goodR_next xs i hix, HBS.out, he, hr, hx])
          have hone := one_any r hsc wr
          rw [← he] at hone
          have HONE := Lib.hid hone
          have hown : wr.ownsRow w.heap.size 5 1 (.slice A2 L cap2) L (bs.map fun d : Nat => Value.int .u8 (d : Int)) := by have := HO.out; unfold OwnB at this; rw [← HL.out] at this; exact this
          have HOW := Lib.hid hown
          have HE := Lib.hid hm
          have HR := Lib.hid hr
          clear hcell hx he hone hown hm hr hsc
          rcases (show x < 0 ∨ (0 ≤ x ∧ 1114111 < x) ∨ (0 ≤ x ∧ 55296 ≤ x ∧ x ≤ 57343) ∨ (0 ≤ x ∧ x < 55296) ∨ (57343 < x ∧ x ≤ 1114111) by omega) with hc | hc | hc | hc | hc
          · have b1 : (x < 0) = True := by simp; omega
            obtain rfl : r = 65533 := by rw [HR.out]; unfold goodR; rw [if_pos (by omega)]
            clear hc HR
            go_wp2_with fail
            refine (HONE.out).mono ?_
            rintro e2 w2 ⟨v2, rfl, rfl, rfl⟩
            have hnew := many_new (w := wr) (l := e.map fun d : Nat => Value.int .u8 (d : Int)) (t := 5)
            rw [← HE.out]
            go_wp2_with (at_builtin; refine wpList_append_own _ rfl _ _ 33 rfl w.heap.size 5 i0 (.int .u8 0) 1 1 Tryd.underlying33 hi0 hz0 hz1 hz2 rfl (by decide) _ _ _ rfl (HOW.out.alloc _) ⟨wr.heap.size, 0, none⟩ m m (e.map fun d : Nat => Value.int .u8 (d : Int)) rfl (by simp [← HE.out]) hnew (fun u hu => by obtain ⟨d, _, rfl⟩ := List.mem_map.1 hu; rfl) (by unfold maxLen; omega) (by omega) (by simp; omega) ?_)
            intro v' w3 hown' hgrow _
            have hb3 : Below w.heap.size w w3 := (HB.out.alloc (by omega) _).grown hgrow (by simp; omega) (fun k hk => (HOW.out.lt k hk).1)
            have HP : Hid (OwnB w.heap.size w3 v' (bs ++ e)) := Lib.hid (by
              unfold OwnB
              rw [List.length_append, List.map_append, ← HL.out, ← HE.out]
              exact hown')
            clear hown' hgrow hnew
            go_wp2
            go_roundg (gk - 1)
            case measure => omega
            case rel => exact ⟨i + 1, bs ++ e, by omega, by first | rfl | exact congrArg _ (by omega), HP.out, HNX.out, hb3⟩
          · have b1 : (x < 0) = False := by simp; omega
            have b2 : ((1114111 : Int) < x) = True := by simp; omega
            obtain rfl : r = 65533 := by rw [HR.out]; unfold goodR; rw [if_pos (by omega)]
            clear hc HR
            go_wp2_with fail
            refine (HONE.out).mono ?_
            rintro e2 w2 ⟨v2, rfl, rfl, rfl⟩
            have hnew := many_new (w := wr) (l := e.map fun d : Nat => Value.int .u8 (d : Int)) (t := 5)
            rw [← HE.out]
            go_wp2_with (at_builtin; refine wpList_append_own _ rfl _ _ 33 rfl w.heap.size 5 i0 (.int .u8 0) 1 1 Tryd.underlying33 hi0 hz0 hz1 hz2 rfl (by decide) _ _ _ rfl (HOW.out.alloc _) ⟨wr.heap.size, 0, none⟩ m m (e.map fun d : Nat => Value.int .u8 (d : Int)) rfl (by simp [← HE.out]) hnew (fun u hu => by obtain ⟨d, _, rfl⟩ := List.mem_map.1 hu; rfl) (by unfold maxLen; omega) (by omega) (by simp; omega) ?_)
            intro v' w3 hown' hgrow _
            have hb3 : Below w.heap.size w w3 := (HB.out.alloc (by omega) _).grown hgrow (by simp; omega) (fun k hk => (HOW.out.lt k hk).1)
            have HP : Hid (OwnB w.heap.size w3 v' (bs ++ e)) := Lib.hid (by
              unfold OwnB
              rw [List.length_append, List.map_append, ← HL.out, ← HE.out]
              exact hown')
            clear hown' hgrow hnew
            go_wp2
            go_roundg (gk - 1)
            case measure => omega
            case rel => exact ⟨i + 1, bs ++ e, by omega, by first | rfl | exact congrArg _ (by omega), HP.out, HNX.out, hb3⟩
          · have b1 : (x < 0) = False := by simp; omega
            have b2 : ((1114111 : Int) < x) = False := by simp; omega
            have b3 : ((55296 : Int) ≤ x) = True := by simp; omega
            have b4 : (x ≤ 57343) = True := by simp; omega
            obtain rfl : r = 65533 := by rw [HR.out]; unfold goodR; rw [if_pos (by omega)]
            clear hc HR
            go_wp2_with fail
            refine (HONE.out).mono ?_
            rintro e2 w2 ⟨v2, rfl, rfl, rfl⟩
            have hnew := many_new (w := wr) (l := e.map fun d : Nat => Value.int .u8 (d : Int)) (t := 5)
            rw [← HE.out]
            go_wp2_with (at_builtin; refine wpList_append_own _ rfl _ _ 33 rfl w.heap.size 5 i0 (.int .u8 0) 1 1 Tryd.underlying33 hi0 hz0 hz1 hz2 rfl (by decide) _ _ _ rfl (HOW.out.alloc _) ⟨wr.heap.size, 0, none⟩ m m (e.map fun d : Nat => Value.int .u8 (d : Int)) rfl (by simp [← HE.out]) hnew (fun u hu => by obtain ⟨d, _, rfl⟩ := List.mem_map.1 hu; rfl) (by unfold maxLen; omega) (by omega) (by simp; omega) ?_)
            intro v' w3 hown' hgrow _
            have hb3 : Below w.heap.size w w3 := (HB.out.alloc (by omega) _).grown hgrow (by simp; omega) (fun k hk => (HOW.out.lt k hk).1)
            have HP : Hid (OwnB w.heap.size w3 v' (bs ++ e)) := Lib.hid (by
              unfold OwnB
              rw [List.length_append, List.map_append, ← HL.out, ← HE.out]
              exact hown')
            clear hown' hgrow hnew
            go_wp2
            go_roundg (gk - 1)
            case measure => omega
            case rel => exact ⟨i + 1, bs ++ e, by omega, by first | rfl | exact congrArg _ (by omega), HP.out, HNX.out, hb3⟩
          · have b1 : (x < 0) = False := by simp; omega
            have b2 : ((1114111 : Int) < x) = False := by simp; omega
            have b3 : ((55296 : Int) ≤ x) = False := by simp; omega
            obtain rfl : x = (r : Int) := by rw [HR.out]; unfold goodR; rw [if_neg (by omega)]; omega
            clear hc HR
            go_wp2_with fail
            refine (HONE.out).mono ?_
            rintro e2 w2 ⟨v2, rfl, rfl, rfl⟩
            have hnew := many_new (w := wr) (l := e.map fun d : Nat => Value.int .u8 (d : Int)) (t := 5)
            rw [← HE.out]
            go_wp2_with (at_builtin; refine wpList_append_own _ rfl _ _ 33 rfl w.heap.size 5 i0 (.int .u8 0) 1 1 Tryd.underlying33 hi0 hz0 hz1 hz2 rfl (by decide) _ _ _ rfl (HOW.out.alloc _) ⟨wr.heap.size, 0, none⟩ m m (e.map fun d : Nat => Value.int .u8 (d : Int)) rfl (by simp [← HE.out]) hnew (fun u hu => by obtain ⟨d, _, rfl⟩ := List.mem_map.1 hu; rfl) (by unfold maxLen; omega) (by omega) (by simp; omega) ?_)
            intro v' w3 hown' hgrow _
            have hb3 : Below w.heap.size w w3 := (HB.out.alloc (by omega) _).grown hgrow (by simp; omega) (fun k hk => (HOW.out.lt k hk).1)
            have HP : Hid (OwnB w.heap.size w3 v' (bs ++ e)) := Lib.hid (by
              unfold OwnB
              rw [List.length_append, List.map_append, ← HL.out, ← HE.out]
              exact hown')
            clear hown' hgrow hnew
            go_wp2
            go_roundg (gk - 1)
            case measure => omega
            case rel => exact ⟨i + 1, bs ++ e, by omega, by first | rfl | exact congrArg _ (by omega), HP.out, HNX.out, hb3⟩
          · have b1 : (x < 0) = False := by simp; omega
            have b2 : ((1114111 : Int) < x) = False := by simp; omega
            have b3 : ((55296 : Int) ≤ x) = True := by simp; omega
            have b4 : (x ≤ 57343) = False := by simp; omega
            obtain rfl : x = (r : Int) := by rw [HR.out]; unfold goodR; rw [if_neg (by omega)]; omega
            clear hc HR
            go_wp2_with fail
            refine (HONE.out).mono ?_
            rintro e2 w2 ⟨v2, rfl, rfl, rfl⟩
            have hnew := many_new (w := wr) (l := e.map fun d : Nat => Value.int .u8 (d : Int)) (t := 5)
            rw [← HE.out]
            go_wp2_with (at_builtin; refine wpList_append_own _ rfl _ _ 33 rfl w.heap.size 5 i0 (.int .u8 0) 1 1 Tryd.underlying33 hi0 hz0 hz1 hz2 rfl (by decide) _ _ _ rfl (HOW.out.alloc _) ⟨wr.heap.size, 0, none⟩ m m (e.map fun d : Nat => Value.int .u8 (d : Int)) rfl (by simp [← HE.out]) hnew (fun u hu => by obtain ⟨d, _, rfl⟩ := List.mem_map.1 hu; rfl) (by unfold maxLen; omega) (by omega) (by simp; omega) ?_)
            intro v' w3 hown' hgrow _
            have hb3 : Below w.heap.size w w3 := (HB.out.alloc (by omega) _).grown hgrow (by simp; omega) (fun k hk => (HOW.out.lt k hk).1)
            have HP : Hid (OwnB w.heap.size w3 v' (bs ++ e)) := Lib.hid (by
              unfold OwnB
              rw [List.length_append, List.map_append, ← HL.out, ← HE.out]
              exact hown')
            clear hown' hgrow hnew
            go_wp2
            go_roundg (gk - 1)
            case measure => omega
            case rel => exact ⟨i + 1, bs ++ e, by omega, by first | rfl | exact congrArg _ (by omega), HP.out, HNX.out, hb3⟩
end Go.Proofs.YtjpdhfolfmamcaaDoor
