/-
  ClusterBounds.
-/
import Derived.Test.YtjlencmoobanoaaCopy
namespace Go.Proofs.Ytjlencmoobanoaa
open Go Go.RowKit

theorem RunesZ.cells {w : World} {A : Option Addr} {n c : Nat} {l : List Int} (h : RunesZ w (.slice A n c) l) (hne : l ≠ []) : ∃ g off, A = some ⟨g, off, none⟩ ∧ g < w.heap.size ∧ ∀ (j : Nat) (h : j < l.length), w.cell? ⟨g, off + j, none⟩ = some (.int .i32 l[j]) := by
  obtain ⟨A', c', e, _, _, hx⟩ := h
  injection e with e1 e2 e3
  subst e1
  exact hx hne

def CBRel (w2 : World) (k : Nat) (vi : Value) (wr : World) : Prop := ∃ t : Nat, t + k = 2 ∧ vi = .int .i64 (t : Int) ∧ Below w2.heap.size w2 wr

def LastRel (w2 : World) (N k : Nat) (vi : Value) (wr : World) : Prop := ∃ i : Nat, i + k = N ∧ vi = .int .i64 (i : Int) ∧ Below w2.heap.size w2 wr

def InnRel (w2 : World) (A : Option Addr) (M k : Nat) (vi : Value) (wr : World) : Prop := ∃ i : Nat, i + k = M ∧ vi = .int .i64 (i : Int) ∧ Below w2.heap.size w2 wr ∧ (1 ≤ M → ∃ g, A = some ⟨g, 0, none⟩ ∧ w2.heap.size ≤ g ∧ ∀ j < M, (∃ z, wr.cell? ⟨g, j, none⟩ = some (.int .i64 z)) ∧ wr.frozen? ⟨g, j, none⟩ = false)

set_option maxRecDepth 20000 in
theorem clusterBounds_any (l : List Int) (hl : AllR l) (v : Value) (w : World) (hv : RunesZ w v l) (hnn : ∀ n c, v = .slice none n c → n = 0 ∧ c = 0) :
    Calls Try.prog 3 #[v] w fun e w' => e = .returned (.bool true) ∧ Below w.heap.size w w' := by
  obtain ⟨T, hT⟩ := tabC
  have HW := Lib.hid (fun w => works3_any w)
  by_cases hlen : l.length ≤ 600
  · obtain ⟨D, hD⟩ : ∃ D, D = docBounds (clsL T l) := ⟨_, rfl⟩
    have hC14 : ∀ c ∈ clsL T l, c < 14 := by
      intro c hc
      obtain ⟨x, _, rfl⟩ := List.mem_map.1 hc
      exact cls_lt hT.ok x
    have hDl : D.length ≤ 1000000 := by
      rw [hD]
      have := List.length_filter_le (fun i => decide (i = 0) || docPre ((clsL T l).take i).reverse ((clsL T l).getD i 0)) (List.range (clsL T l).length)
      have e : (List.range (clsL T l).length).length = l.length := by simp [clsL]
      unfold docBounds
      omega
    have HB : Hid (∀ (u : Value) w, RunesZ w u l → Calls Try.prog 10 #[u] w fun e w' => Below w.heap.size w w' ∧ ∃ r, e = .returned r ∧ OwnI w.heap.size w' r D) := Lib.hid (fun u w hu => by
      have := bounds_any T hT l u w hu (by omega)
      rw [bounds_doc (l.map (clsN T)) hC14] at this
      rw [hD]
      exact this)
    have HR : Hid (∀ (u : Value) w, RunesZ w u l → Calls Try.prog 9 #[u] w fun e w' => Below w.heap.size w w' ∧ ∃ r, e = .returned r ∧ OwnI w.heap.size w' r D) := Lib.hid (fun u w hu => by rw [hD]; exact refBounds_any T hT l hl u w hu (by omega))
    have HS : Hid (∀ (a b : Value) w, IntsR w a D → IntsR w b D → Calls Try.prog 11 #[a, b] w fun e w' => e = .returned (.bool true) ∧ Below w.heap.size w w') := Lib.hid (fun a b w ha hb => sameI_any D a b w ha hb hDl)
    have HV := Lib.hid hv
    have HNN := Lib.hid hnn
    have HDL := Lib.hid hDl
    have HLEN := Lib.hid hlen
    clear hD hC14 hT hl hDl
    obtain ⟨A, cap, rfl, hcap, hcap2, hx⟩ := hv
    obtain ⟨N, hN⟩ : ∃ N, N = l.length := ⟨_, rfl⟩
    have HN := Lib.hid hN
    rw [← hN] at hlen HV HNN ⊢
    have b0 : (600 < (N : Int)) = False := eq_false (by omega)
    clear hN hnn hcap hcap2 hx hlen
    go_enter Try.func3, Try.ntmps3
    go_wp2_with (at_builtin; refine wp_append_runes rfl _ _ rfl rfl _ l rfl HV.out HNN.out (by have := HLEN.out; omega) ?_)
    intro vin w1 hvin hb1
    have HB1 := Lib.hid hb1
    have HVI := Lib.hid hvin
    clear hb1 hvin
    go_wp2_with fail
    refine (HR.out _ _ (HV.out.below HB1.out)).mono ?_
    rintro e w2 ⟨hb2, want, rfl, how⟩
    have HWA := Lib.hid how.read
    have HVI2 := Lib.hid (HVI.out.below hb2)
    have HB2 := Lib.hid (HB1.out.trans (hb2.mono HB1.out.size))
    have HV2 := Lib.hid (HV.out.below HB2.out)
    clear hb2 how
    obtain ⟨A1, c1, rfl, _, _, _⟩ := HVI2.out
    rename_i g1 g2 g3
    clear g1 g2 g3
    rw [← HN.out] at HVI HVI2 ⊢
    go_wp2_with fail
    go_loopg [5] 2 (fun k vi wr => CBRel w2 k vi wr)
    case atStart => exact ⟨0, rfl, rfl, Below.refl _ _⟩
    case round =>
      obtain ⟨t, htk, rfl, hb⟩ := hrel
      have HBW := Lib.hid hb
      clear hb
      obtain ⟨kk, hkk⟩ : ∃ kk, kk = gk := ⟨_, rfl⟩
      have HKK := Lib.hid hkk
      rw [← hkk] at htk
      clear hkk
      by_cases ht : t = 2
      · have bt : ((t : Int) < 2) = False := eq_false (by omega)
        clear ht htk
        go_wp2_with fail
        go_loopg [8] N (fun k vi wr => LastRel w2 N k vi wr)
        case atStart => exact ⟨0, by omega, rfl, HBW.out⟩
        case round =>
          obtain ⟨i, hik, rfl, hb5⟩ := hrel
          have HB5 := Lib.hid hb5
          clear hb5
          by_cases hi : i = N
          · have bi : ((i : Int) < (N : Int)) = False := eq_false (by omega)
            clear hi hik
            go_wp2_with fail
            refine (HW.out _).mono ?_
            rintro e w6 ⟨rfl, hb6⟩
            have HB6 := Lib.hid (HB2.out.trans ((HB5.out.trans (hb6.mono HB5.out.size)).mono HB2.out.size))
            clear hb6
            go_wp2_with fail
            go_ret
            exact ⟨rfl, HB6.out⟩
          · have bi : ((i : Int) < (N : Int)) = True := eq_true (by omega)
            have hiN : (i : Int) < (N : Int) := by omega
            have hi0 : (0 : Int) ≤ (i : Int) := Int.natCast_nonneg _
            have hil : i < l.length := by have := HN.out; omega
            have hne : l ≠ [] := by rintro rfl; simp at hil
            obtain ⟨ga, oa, rfl, _, hca⟩ := (HVI2.out.below HB5.out).cells hne
            obtain ⟨gb, ob, rfl, _, hcb⟩ := (HV2.out.below HB5.out).cells hne
            have ca := hca i hil
            have cb := hcb i hil
            have q1 : IntKind.i64.wrap ((i : Int) + 1) = ((i + 1 : Nat) : Int) := by rw [IntKind.wrap_i64]; have := HLEN.out; omega
            have HIK := Lib.hid hik
            have HI := Lib.hid hi
            obtain ⟨x, hx⟩ : ∃ x, x = l[i] := ⟨_, rfl⟩
            rw [← hx] at ca cb
            have bx : (x != x) = false := by simp
            clear hx hca hcb hil hne hi hik
            go_wp2_with fail
            go_region_held3 (fun w' => w'.cell? ⟨ga, oa + i, none⟩ = some (.int .i32 x) ∧ w'.cell? ⟨gb, ob + i, none⟩ = some (.int .i32 x)) (first | assumption | (go_split_ands; exact ⟨ca, cb⟩) | (go_split_ands; exact ⟨by assumption, by assumption⟩)) (fail)
            all_goals go_wp2_with fail
            go_roundg (gk - 1)
            case measure => have := HIK.out; have := HI.out; omega
            case rel => exact ⟨i + 1, by have := HIK.out; have := HI.out; omega, by first | rfl | exact congrArg _ (by omega), HB5.out.drew⟩
      · have bt : ((t : Int) < 2) = True := eq_true (by omega)
        have qt : IntKind.i64.wrap ((t : Int) + 1) = ((t + 1 : Nat) : Int) := by rw [IntKind.wrap_i64]; omega
        have HTK := Lib.hid htk
        have HTT := Lib.hid ht
        clear ht htk
        go_wp2_with fail
        refine (HB.out _ _ (HVI2.out.below HBW.out)).mono ?_
        rintro e w3 ⟨hb3, r, rfl, how3⟩
        have hge := (own_cases how3).2
        have hrd := how3.read
        have HB3 := Lib.hid (HBW.out.trans (hb3.mono HBW.out.size))
        clear hb3
        have HOW3 := Lib.hid how3
        clear how3
        go_wp2_with fail
        refine (HS.out _ _ _ hrd (HWA.out.below HB3.out)).mono ?_
        rintro e w4 ⟨rfl, hb4⟩
        have HB4 := Lib.hid (HB3.out.trans (hb4.mono HB3.out.size))
        obtain ⟨A6, c6, rfl, _, _, hx6⟩ := hrd.below hb4
        rename_i g1 g2
        obtain ⟨M, hM⟩ : ∃ M, M = D.length := ⟨_, rfl⟩
        rw [← hM] at hge ⊢
        have HI0 : Hid (InnRel w2 A6 M M (.int .i64 0) w4) := Lib.hid ⟨0, by omega, rfl, HB4.out, fun h1 => by
          obtain ⟨g, rfl, _, hc⟩ := hx6 (by rintro rfl; rw [hM] at h1; simp at h1)
          have how3 : w3.ownsRow wr.heap.size 3 1 (.slice (some ⟨g, 0, none⟩) D.length c6) D.length (D.map fun d : Nat => Value.int .i64 (d : Int)) := HOW3.out
          have hlt := own_lt HOW3.out (sb := g) rfl
          refine ⟨g, rfl, Nat.le_trans HBW.out.size (hge g rfl), fun j hj => ⟨⟨_, hc j (by omega)⟩, ?_⟩⟩
          rw [hb4.frozen (p := ⟨g, j, none⟩) hlt]
          exact how3.frozenAt j⟩
        have hMM : M ≤ 1000000 := by rw [hM]; exact HDL.out
        clear hge hrd hb4 hx6 g1 g2 hM HOW3
        go_wp2_with fail
        go_loopg [7] M (fun k vi wr => InnRel w2 A6 M k vi wr)
        case atStart => exact HI0.out
        case round =>
          obtain ⟨i, hik, rfl, hb5, hcs⟩ := hrel
          have HB5 := Lib.hid hb5
          clear hb5
          by_cases hi : i = M
          · have bi : ((i : Int) < (M : Int)) = False := eq_false (by omega)
            clear hi hik hcs
            go_wp2_with fail
            go_roundg (kk - 1)
            case measure => have := HTK.out; have := HTT.out; have := HKK.out; omega
            case rel => exact ⟨t + 1, by have := HTK.out; have := HTT.out; omega, by first | rfl | exact congrArg _ (by omega), HB5.out⟩
          · have bi : ((i : Int) < (M : Int)) = True := eq_true (by omega)
            have hiM : (i : Int) < (M : Int) := by omega
            have hi0 : (0 : Int) ≤ (i : Int) := Int.natCast_nonneg _
            obtain ⟨g, rfl, hg, hc⟩ := hcs (by omega)
            obtain ⟨⟨z, hz⟩, hf⟩ := hc i (by omega)
            have q1 : IntKind.i64.wrap ((i : Int) + 1) = ((i + 1 : Nat) : Int) := by rw [IntKind.wrap_i64]; omega
            have HIK := Lib.hid hik
            have HI := Lib.hid hi
            have HC := Lib.hid hc
            have HG := Lib.hid hg
            clear hi hik hc hg
            go_wp2_with fail
            have HNXT : Hid (InnRel w2 (some ⟨g, 0, none⟩) M (gk - 1) (.int .i64 ((i + 1 : Nat) : Int)) (wr.setCell ⟨g, i, none⟩ (.int .i64 (-1)))) := Lib.hid ⟨i + 1, by have := HIK.out; have := HI.out; omega, rfl, HB5.out.setCell (p := ⟨g, i, none⟩) HG.out _, fun _ => ⟨g, rfl, HG.out, fun j hj => ⟨by
              by_cases hji : j = i
              · subst hji; exact ⟨-1, World.cell?_setCell_same _ _ _ hz⟩
              · obtain ⟨⟨z', hz'⟩, _⟩ := HC.out j hj
                refine ⟨z', ?_⟩
                rw [World.cell?_setCell_other _ _ _ _ (fun e => hji (by injection e with _ e _; exact e.symm))]
                exact hz', by rw [World.frozen?_setCell]; exact (HC.out j hj).2⟩⟩⟩
            go_roundg (gk - 1)
            case measure => have := HIK.out; have := HI.out; omega
            case rel => exact HNXT.out
  · obtain ⟨A, cap, rfl, _, _, _⟩ := hv
    have b0 : (600 < (l.length : Int)) = True := eq_true (by omega)
    go_enter Try.func3, Try.ntmps3
    go_wp2_with fail
    refine (HW.out _).mono ?_
    rintro e w1 ⟨rfl, hb1⟩
    go_wp2_with fail
    go_ret
    exact ⟨rfl, hb1⟩
end Go.Proofs.Ytjlencmoobanoaa
