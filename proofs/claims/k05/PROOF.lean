import PyProof.Rows.All
import Wide.All
import OpenK.AllK
import Wide.FinOn
import HandS.ForMost
import HandS.Wide
import HandS.Codes
import HandS.Walk
import HandS.Zip
import HandS.IsInst
import HandS.TupSets
import HandS.SortOrd
import HandS.Set
import KE.GoesMore
import KE.GoesEnum
import PyProof.ListStr
import HandS.SetKeys
import HandS.Conv
import PyProof.DictMoreH
import HandS.Defaults
import HandS.MakeKwOnly
import HandS.Exc
import HandS.TryOnly
import HandS.TryMany
import HandS.ExcField
import HandS.ExcInit
import HandS.WordsExc
import HandS.Lambda
import HandS.EndTab
import HandS.ExcOwn
import HandS.DictComp
import HandS.Deep
import HandS.EndOwn
import KE.KNestM
import HandS.Star
import HandS.TupLe
import HandS.Dict
import HandS.WordsDict
import HandS.OwnEq
import PyProof.InstNe
import HandS.MapJoin
import HandS.Text
import PyProof.StrLawsTight
import PyProof.Rows.StrItems
import HandS.TupAny
import HandS.Iter
import HandS.Style
import HandS.WideBits
import HandS.Comp
import OpenK.KOps
import KE.KCallOwn
import HandS.FStr
import PyProof.FString5
import KE.GoesEnumKw
import HandS.SortKw
import PyProof.StrLawsIn
import PySem.Challenge.RW_wardweb_k05_texts_of_no_web
set_option Elab.async false
set_option linter.all false
set_option maxRecDepth 100000
namespace Wb
open PySem PySem.Spec PyProof.Rows L2
def topS (i : Nat) : Stmt := PySem.Challenge.pw_wardweb_k05_texts_of_no_web.main.body.getD i (.Pass ⟨0, 0, 0, 0⟩)
abbrev sBox : Stmt := topS 24
abbrev sTake : Stmt := topS 25
abbrev sOne : Stmt := topS 26
def bxO (q : Addr) (i r k : Int) : HO := .lst [.ref q, .int i, .int r, .int k]
def Bx (H : Hp) (b q : Addr) : Prop := ∃ (ns : List Int) (i r k : Int), H b = some (bxO q i r k) ∧ H q = some (.lst (ns.map V.int)) ∧ 0 ≤ i ∧ 0 ≤ r ∧ 0 ≤ k ∧ k < 2147483563
def Kp (b : Addr) (H H' : Hp) : Prop := ∀ c, c ≠ b → H' c = H c
theorem box_ne {H : Hp} {b q : Addr} {ns : List Int} {i r k : Int} (hb : H b = some (bxO q i r k)) (hq : H q = some (.lst (ns.map V.int))) : q ≠ b := fun e => by
  subst e
  rw [hb] at hq
  injection hq with hq
  injection hq with hq
  cases ns with
  | nil => cases hq
  | cons n r => cases hq
section
variable {P : Program} {w : World} {K : PySem.W.Frag} {mg : Str → Option Value} {base : Heap}
def spTake : Sp := fun vs H Q _ => ∃ (b q : Addr) (many : Int), vs = [.ref b, .int many] ∧ Bx H b q ∧ 0 < many ∧ many < 2 ^ 100 ∧ ∀ v H', 0 ≤ v → v < many → Bx H' b q → Kp b H H' → Q (.int v) H'
theorem scT : FnScope ["_law_box_here", "_law_many", "_law_cell", "_law_got", "_law_seed"] ["_law_box_here", "_law_many"] (defScope sTake) := ⟨rfl, rfl, rfl, by decide +kernel, rfl, by decide +kernel, by decide +kernel⟩
theorem ok_take {f : Addr} {fd : FuncData} (F : Fun K "_law_take" "_law_take" sTake f fd) (ml : mg "len" = none) : FnOk P w K mg base CX0 1 f fd ["_law_box_here", "_law_many"] spTake := by
  refine F.ok scT (fun vs H Q E h => ?_) (fun cdv A outer s H vs Q E hr h => ?_)
  · obtain ⟨b, q, many, rfl, _⟩ := h
    rfl
  · obtain ⟨b, q, many, rfl, ⟨ns, i, r, k, hb, hq, hi, hr0, hk, hk2⟩, hm, hm2, K1⟩ := h
    refine ⟨_, C8.pss_cut (ps_if (PW.pt (pw_and (pt_cmpR op_eq (pe_ix ix_list (pv 0) pe_int (fun _ _ => rfl)) pe_int (nomark _)) (pw_and1 (pt_cmpR op_lt (pe_ix ix_list (pv 0) pe_int (fun _ _ => rfl)) (pe_callB call_len_seq (by rfl) ml PySem.boot_len (pa_cons (pe_ix ix_list (pv 0) pe_int (fun _ _ => rfl)) pa_nil)) (nomark _)))))
        (pss_cons (ps_set (i := 2) scT.nd rfl (.inl rfl) (pe_ix ix_list (pe_ix ix_list (pv 0) pe_int (fun _ _ => rfl)) (pe_ix ix_list (pv 0) pe_int (fun _ _ => rfl)) (fun _ _ => rfl)))
        (pss_cons (ps_asg (pe_op op_add (pe_ix ix_list (pv 0) pe_int (fun _ _ => rfl)) pe_int) (pg_sub (pv 0) pe_int set_list))
        (pss_one (ps_if (pt_cmpR op_ge (pv 2) (pe_op op_pow pe_int pe_int) (nomark _))
          (pss_one (ps_asg (pv 2) (pg_sub (pv 0) pe_int set_list)))
          (pss_one (ps_asg (pe_op op_mod (pe_op op_add (pe_op op_add (pe_op op_mul (pe_ix ix_list (pv 0) pe_int (fun _ _ => rfl)) pe_int) (pe_op op_mul (pe_op op_mod (pv 2) pe_int) pe_int)) (pe_ix ix_list (pv 0) pe_int (fun _ _ => rfl))) pe_int) (pg_sub (pv 0) pe_int set_list))))))) pss_nil)
      (pss_cons (ps_if (pt_cmpR op_gt (pe_ix ix_list (pv 0) pe_int (fun _ _ => rfl)) pe_int (nomark _))
        (pss_cons (ps_set (i := 3) scT.nd rfl (.inl rfl) (pe_op op_mod (pe_ix ix_list (pv 0) pe_int (fun _ _ => rfl)) (pv 1)))
        (pss_cons (ps_asg (pe_op op_fdivW (pe_ix ix_list (pv 0) pe_int (fun _ _ => rfl)) (pv 1)) (pg_sub (pv 0) pe_int set_list))
        (pss_one (ps_ret (pv 3))))) pss_nil)
      (pss_cons (ps_set (i := 4) scT.nd rfl (.inl rfl) (pe_ix ix_list (pv 0) pe_int (fun _ _ => rfl)))
      (pss_cons (ps_asg (pe_op op_mod (pe_op op_add (pe_op op_add (pe_op op_mul (pv 4) (pv 4)) (pe_op op_mul (pv 4) pe_int)) pe_int) pe_int) (pg_sub (pv 0) pe_int set_list))
      (pss_one (ps_ret (pe_op op_mod (pe_op op_add (pe_op op_fdiv (pe_ix ix_list (pv 0) pe_int (fun _ _ => rfl)) pe_int) (pe_op op_mul (pe_op op_mod (pe_ix ix_list (pv 0) pe_int (fun _ _ => rfl)) pe_int) pe_int)) (pv 1))))))), ?_⟩
    refine ⟨fun σ' H' => ∃ y2 y3 y4 i' r' k', σ' = [some (.ref b), some (.int many), y2, y3, y4] ∧ H' = upd H b (bxO q i' r' k') ∧ 0 ≤ i' ∧ 0 ≤ r' ∧ 0 ≤ k' ∧ k' < 2147483563, ?_, ?_⟩
    · have own : H = upd H b (bxO q i r k) := by
        funext c
        by_cases e : c = b
        · rw [e, upd_same, hb]
        · rw [upd_ne e]
      refine ⟨_, rfl, b, _, 2, .int r, rfl, rfl, SqL.of hb, atI_nat (j := 2) rfl, rfl, _, rfl, ?_⟩
      refine ite2 (fun e1 => ?_) (fun e1 => ?_)
      · refine ⟨_, rfl, b, _, 1, .int i, rfl, rfl, SqL.of hb, atI_nat (j := 1) rfl, _, rfl, b, _, 0, .ref q, rfl, rfl, SqL.of hb, atI_nat (j := 0) rfl, q, _, rfl, .inl (SqL.of hq), _, _, rfl, rfl, _, rfl, ?_⟩
        refine ite2 (fun e2 => ?_) (fun e2 => ?_)
        · have hlt : i < ((ns.map V.int).length : Int) := of_decide_eq_true e2
          have hj : i.toNat < ns.length := by
            rw [List.length_map] at hlt
            omega
          have gi : atI (ns.map V.int) i = some (.int ns[i.toNat]) := at_of (j := i.toNat) (by omega) (by
            rw [List.getElem?_map, List.getElem?_eq_getElem hj]
            rfl)
          have nqb : q ≠ b := box_ne hb hq
          -- cell = box[0][box[1]]
          refine ⟨_, rfl, b, _, 0, .ref q, rfl, rfl, SqL.of hb, atI_nat (j := 0) rfl, _, rfl, b, _, 1, .int i, rfl, rfl, SqL.of hb, atI_nat (j := 1) rfl, q, _, i, _, rfl, rfl, SqL.of hq, gi, ?_⟩
          -- box[1] = box[1] + 1
          refine ⟨_, rfl, b, _, 1, .int i, rfl, rfl, SqL.of hb, atI_nat (j := 1) rfl, _, _, rfl, rfl, _, rfl, b, _, 1, 1, rfl, rfl, hb, rfl, ?_⟩
          refine ⟨_, rfl, 10, 18, rfl, rfl, ⟨by decide, by decide, by decide⟩, _, _, rfl, rfl, _, rfl, ?_⟩
          refine ite2 (fun e3 => ?_) (fun e3 => ?_)
          · have h3 : (10 : Int) ^ (18 : Int).toNat ≤ ns[i.toNat] := of_decide_eq_true e3
            refine ⟨_, rfl, _, rfl, b, _, 2, 2, rfl, rfl, upd_same, rfl, ?_⟩
            refine ⟨_, _, _, i + 1, ns[i.toNat], k, rfl, ?_, by omega, ?_, hk, hk2⟩
            · rw [upd_upd]
              rfl
            · have : (0 : Int) ≤ (10 : Int) ^ (18 : Int).toNat := by decide
              omega
          · refine ⟨_, rfl, b, _, 3, .int k, rfl, rfl, SqL.of upd_same, atI_nat (j := 3) rfl, k, 40692, rfl, rfl, .inr ⟨by decide, by decide⟩, _, rfl, _, 2147483563, rfl, rfl, (by show (0 : Int) < 2147483563; decide), _, 53, rfl, rfl, .inr ⟨by decide, by decide⟩, _, _, rfl, rfl, _, rfl, b, _, 1, .int (i + 1), rfl, rfl, SqL.of upd_same, atI_nat (j := 1) rfl, _, _, rfl, rfl, _, 2147483563, rfl, rfl, (by show (0 : Int) < 2147483563; decide), ?_⟩
            refine ⟨_, rfl, b, _, 3, 3, rfl, rfl, upd_same, rfl, ?_⟩
            refine ⟨_, _, _, i + 1, r, _, rfl, by rw [upd_upd]; rfl, by omega, hr0, Int.emod_nonneg _ (by decide), Int.emod_lt_of_pos _ (by decide)⟩
        · exact ⟨_, _, _, i, r, k, rfl, own, hi, hr0, hk, hk2⟩
      · exact ⟨_, _, _, i, r, k, rfl, own, hi, hr0, hk, hk2⟩
    · rintro σ' H' ⟨y2, y3, y4, i', r', k', rfl, rfl, hi', hr', hk', hk2'⟩
      have nqb : q ≠ b := box_ne hb hq
      have hq' : ∀ o, (upd H b o) q = some (.lst (ns.map V.int)) := fun o => by
        rw [upd_ne nqb]
        exact hq
      have kp : ∀ o, Kp b H (upd H b o) := fun o c hc => upd_ne hc
      refine ⟨_, rfl, b, _, 2, .int r', rfl, rfl, SqL.of upd_same, atI_nat (j := 2) rfl, _, _, rfl, rfl, _, rfl, ?_⟩
      refine ite2 (fun e1 => ?_) (fun e1 => ?_)
      · refine ⟨_, rfl, b, _, 2, .int r', rfl, rfl, SqL.of upd_same, atI_nat (j := 2) rfl, _, rfl, _, _, rfl, rfl, hm, ?_⟩
        refine ⟨_, rfl, b, _, 2, .int r', rfl, rfl, SqL.of upd_same, atI_nat (j := 2) rfl, _, rfl, _, _, rfl, rfl, wide_div (b := 100) hm (by omega) (by decide) (by decide), ?_⟩
        refine ⟨_, rfl, b, _, 2, 2, rfl, rfl, upd_same, rfl, _, rfl, ?_⟩
        rw [upd_upd]
        exact K1 _ _ (Int.emod_nonneg _ (by omega)) (Int.emod_lt_of_pos _ hm) ⟨ns, i', r' / many, k', upd_same, hq' _, hi', Int.ediv_nonneg hr' (by omega), hk', hk2'⟩ (kp _)
      · refine ⟨_, rfl, b, _, 3, .int k', rfl, rfl, SqL.of upd_same, atI_nat (j := 3) rfl, ?_⟩
        have hb1 : (-(2 ^ 64) < k' ∧ k' < 2 ^ 64) := ⟨by omega, by omega⟩
        refine ⟨_, rfl, _, rfl, _, _, rfl, rfl, .inl hb1, _, rfl, _, 39373, rfl, rfl, .inl hb1, _, _, rfl, rfl, _, 90001, rfl, rfl, _, 2147483563, rfl, rfl, (by show (0 : Int) < 2147483563; decide), ?_⟩
        refine ⟨_, rfl, b, _, 3, 3, rfl, rfl, upd_same, rfl, ?_⟩
        have z1 := Int.emod_nonneg (k' * k' + k' * 39373 + 90001) (show (2147483563 : Int) ≠ 0 by decide)
        have z2 := Int.emod_lt_of_pos (k' * k' + k' * 39373 + 90001) (show (0 : Int) < 2147483563 by decide)
        refine ⟨_, rfl, b, _, 3, _, rfl, rfl, SqL.of upd_same, atI_nat (j := 3) rfl, _, 59, rfl, rfl, ⟨by decide, by decide⟩, _, rfl, b, _, 3, _, rfl, rfl, SqL.of upd_same, atI_nat (j := 3) rfl, _, 8117, rfl, rfl, (by show (0 : Int) < 8117; decide), _, 211, rfl, rfl, .inr ⟨by decide, by decide⟩, _, _, rfl, rfl, _, rfl, _, _, rfl, rfl, hm, ?_⟩
        rw [upd_upd]
        exact K1 _ _ (Int.emod_nonneg _ (by omega)) (Int.emod_lt_of_pos _ hm) ⟨ns, i', r', _, upd_same, hq' _, hi', hr', z1, z2⟩ (kp _)
end
end Wb
namespace Wb
open PySem PySem.Spec PyProof.Rows L2
abbrev sHue : Stmt := topS 30
abbrev sArrow : Stmt := topS 32
theorem same_upd {H : Hp} {p : Addr} {o : HO} (h : H p = none) : Same H (upd H p o) := fun b x e => by
  rw [upd_ne (ne_of_none e h)]
  exact e
def Xt (b : Addr) (H H' : Hp) : Prop := ∀ c o, c ≠ b → H c = some o → H' c = some o
theorem Xt.refl (b : Addr) (H : Hp) : Xt b H H := fun _ _ _ h => h
theorem Xt.trans {b : Addr} {H H1 H2 : Hp} (x : Xt b H H1) (y : Xt b H1 H2) : Xt b H H2 := fun c o hc h => y c o hc (x c o hc h)
theorem Xt.new {b : Addr} {H H1 : Hp} {p : Addr} {o : HO} (x : Xt b H H1) (h : H1 p = none) : Xt b H (upd H1 p o) := fun c u hc e => by
  have q := x c u hc e
  rw [upd_ne (ne_of_none q h)]
  exact q
theorem Kp.xt {b : Addr} {H H' : Hp} (x : Kp b H H') : Xt b H H' := fun c o hc h => by
  rw [x c hc]
  exact h
theorem Same.xt {b : Addr} {H H' : Hp} (x : Same H H') : Xt b H H' := fun c o _ h => x c o h
theorem Bx.some {H : Hp} {b q : Addr} (x : Bx H b q) : ∃ o, H b = some o := by
  obtain ⟨ns, i, r, k, hb, _⟩ := x
  exact ⟨_, hb⟩
theorem Bx.new {H : Hp} {b q p : Addr} {o : HO} (x : Bx H b q) (h : H p = none) : Bx (upd H p o) b q := by
  obtain ⟨ns, i, r, k, hb, hq, z⟩ := x
  exact ⟨ns, i, r, k, by rw [upd_ne (ne_of_none hb h)]; exact hb, by rw [upd_ne (ne_of_none hq h)]; exact hq, z⟩
theorem Xt.free {b : Addr} {H H' : Hp} (x : Xt b H H') {p : Addr} (hb : p ≠ b) (h : H' p = none) : H p = none := by
  cases e : H p with
  | none => rfl
  | some o =>
    rw [x p o hb e] at h
    cases h
theorem Bx.ne {H : Hp} {b q p : Addr} (x : Bx H b q) (h : H p = none) : p ≠ b := fun e => by
  obtain ⟨o, ho⟩ := x.some
  rw [e, ho] at h
  cases h
theorem Bx.neq {H : Hp} {b q p : Addr} (x : Bx H b q) (h : H p = none) : p ≠ q := fun e => by
  obtain ⟨ns, i, r, k, hb, hq, _⟩ := x
  rw [e, hq] at h
  cases h
theorem Bx.upd {H : Hp} {b q p : Addr} {o : HO} (x : Bx H b q) (h1 : p ≠ b) (h2 : p ≠ q) : Bx (upd H p o) b q := by
  obtain ⟨ns, i, r, k, hb, hq, z⟩ := x
  exact ⟨ns, i, r, k, by rw [upd_ne h1.symm]; exact hb, by rw [upd_ne h2.symm]; exact hq, z⟩
theorem Xt.sql {K : PySem.W.Frag} {b : Addr} {H H' : Hp} (x : Xt b H H') {p : Addr} (hb : p ≠ b) {xs : List V} (h : SqL K H p xs) : SqL K H' p xs := by
  rcases h with (h | ⟨o, h⟩) | h
  · exact .inl (.inl (x _ _ hb h))
  · exact .inl (.inr ⟨o, x _ _ hb h⟩)
  · exact .inr h
theorem cut63 {xs : List V} (h : xs.length ≤ 63) : cutV xs none (some 63) = xs := by
  unfold cutV
  rw [HT.sIx_none, show HT.sIx xs.length xs.length (some 63) = min 63 xs.length from HT.sIx_nat xs.length xs.length 63, List.drop_zero, Nat.sub_zero, show min 63 xs.length = xs.length by omega, List.take_length]
section
variable {P : Program} {w : World} {K : PySem.W.Frag} {mg : Str → Option Value} {base : Heap}
def spBox (K : PySem.W.Frag) : Sp := fun vs H Q _ => ∃ (a : Addr) (ns : List Int), vs = [.ref a] ∧ SqL K H a (ns.map V.int) ∧ ns.length ≤ 63 ∧ ∀ p q H', H p = none → Bx H' p q → Same H H' → Q (.ref p) H'
theorem scB : FnScope ["_law_script", "_law_knot", "_law_cell"] ["_law_script"] (defScope sBox) := ⟨rfl, rfl, rfl, by decide +kernel, rfl, by decide +kernel, by decide +kernel⟩
theorem ok_box {f : Addr} {fd : FuncData} (F : Fun K "_law_box" "_law_box" sBox f fd) (ml : mg "len" = none) (mli : mg "list" = none) : FnOk P w K mg base CX0 1 f fd ["_law_script"] (spBox K) := by
  refine F.ok scB (fun vs H Q E h => ?_) (fun cdv A outer s H vs Q E hr h => ?_)
  · obtain ⟨a, ns, rfl, _⟩ := h
    rfl
  · obtain ⟨a, ns, rfl, hS, hlen, K1⟩ := h
    refine ⟨_, pss_cons (ps_set (i := 1) scB.nd rfl (.inl rfl) (pe_op op_add pe_int (pe_op op_mul pe_int (pe_callB call_len_seq (by rfl) ml PySem.boot_len (pa_cons (pe_slice sl_list (pv 0) po_none (po_some pe_int)) pa_nil)))))
      (pss_cons (ps_for PassesOwn.never rfl (pi_list (pe_slice sl_list (pv 0) po_none (po_some pe_int))) (pg_name (i := 2) scB.nd rfl (.inl rfl))
        (pss_one (ps_set (i := 1) scB.nd rfl (.inl rfl) (pe_op op_mod (pe_op op_add (pe_op op_add (pe_op op_mul (pv 1) pe_int) (pe_op op_mod (pv 2) pe_int)) pe_int) pe_int))))
      (pss_one (ps_ret (pe_lst (pa_cons (pe_callTy call_list_of (by rfl) mli boot_list (pa_cons (pe_slice sl_list (pv 0) po_none (po_some pe_int)) pa_nil)) (pa_cons pe_int (pa_cons pe_int (pa_cons (pv 1) pa_nil)))))))), ?_⟩
    have hL : (ns.map V.int).length ≤ 63 := by
      rw [List.length_map]
      exact hlen
    -- the first slice, its length
    refine ⟨_, rfl, 63, rfl, a, _, rfl, hS, fun p1 n1 => ?_⟩
    have s1 : Same H (upd H p1 (.lst (cutV (ns.map V.int) none (some 63)))) := same_upd n1
    refine ⟨p1, _, rfl, .inl (SqL.of upd_same), 61, _, rfl, rfl, .inl ⟨by decide, by decide⟩, 9147, _, rfl, rfl, ?_⟩
    generalize hH1 : upd H p1 (.lst (cutV (ns.map V.int) none (some 63))) = H1 at s1 ⊢
    -- the second slice, the loop
    refine ⟨_, rfl, 63, rfl, a, _, rfl, s1.seq hS, fun p2 n2 => ?_⟩
    have s2 : Same H1 (upd H1 p2 (.lst (cutV (ns.map V.int) none (some 63)))) := same_upd n2
    rw [cut63 hL] at s2 ⊢
    have e2 : (upd H1 p2 (.lst (ns.map V.int))) p2 = some (.lst (ns.map V.int)) := upd_same
    generalize upd H1 p2 (.lst (ns.map V.int)) = H2 at s2 e2 ⊢
    refine ⟨p2, rfl, ⟨_, SqL.of e2⟩, for_list (xs := ns.map V.int) (fun i σ H' => ∃ k y, σ = [some (.ref a), some (.int k), y] ∧ H' = H2 ∧ 0 ≤ k ∧ k < 2147483563) ?_ ?_ ?_ ?_⟩
    · refine ⟨_, _, rfl, rfl, ?_, ?_⟩
      · omega
      · omega
    · rintro i σ H' _ ⟨k, y, _, rfl, _⟩
      exact SqL.of e2
    · rintro i x σ H' hx ⟨k, y, rfl, rfl, hk0, hk1⟩
      obtain ⟨z, rfl⟩ : ∃ z, x = V.int z := by
        rw [List.getElem?_map] at hx
        cases e : ns[i]? with
        | none =>
          rw [e] at hx
          cases hx
        | some z =>
          rw [e] at hx
          exact ⟨z, (Option.some.inj hx).symm⟩
      refine ⟨_, rfl, k, 40014, rfl, rfl, .inr ⟨by decide, by decide⟩, _, rfl, z, 2147483563, rfl, rfl, (by show (0 : Int) < 2147483563; decide), _, _, rfl, rfl, _, 7, rfl, rfl, _, 2147483563, rfl, rfl, (by show (0 : Int) < 2147483563; decide), ?_⟩
      exact ⟨_, _, rfl, rfl, Int.emod_nonneg _ (by decide), Int.emod_lt_of_pos _ (by decide)⟩
    · rintro σ H' ⟨k, y, rfl, rfl, hk0, hk1⟩
      -- the end
      refine ⟨_, rfl, 63, rfl, a, _, rfl, s2.seq (s1.seq hS), fun p3 n3 => ?_⟩
      have s3 : Same H' (upd H' p3 (.lst (cutV (ns.map V.int) none (some 63)))) := same_upd n3
      rw [cut63 hL] at s3 ⊢
      have e3 : (upd H' p3 (.lst (ns.map V.int))) p3 = some (.lst (ns.map V.int)) := upd_same
      generalize upd H' p3 (.lst (ns.map V.int)) = H3 at s3 e3 ⊢
      refine ⟨p3, _, rfl, .inl (SqL.of e3), fun p4 n4 => ?_⟩
      have s4 : Same H3 (upd H3 p4 (.lst (ns.map V.int))) := same_upd n4
      have e4 : (upd H3 p4 (.lst (ns.map V.int))) p4 = some (.lst (ns.map V.int)) := upd_same
      generalize upd H3 p4 (.lst (ns.map V.int)) = H4 at s4 e4 ⊢
      refine ⟨_, rfl, by show 4 ≤ sizeLine; decide, fun p5 n5 => ?_⟩
      have s5 := ((s1.trans s2).trans s3).trans s4
      exact K1 p5 p4 _ (s5.free n5) ⟨ns, 0, 0, k, upd_same, by rw [upd_ne (ne_of_none e4 n5)]; exact e4, by decide, by decide, hk0, hk1⟩ (s5.trans (same_upd n5))
def spOne (K : PySem.W.Frag) : Sp := fun vs H Q _ =>
  (∃ (b q p : Addr) (xs : List V), vs = [.ref b, .ref p] ∧ Bx H b q ∧ SqL K H p xs ∧ p ≠ b ∧ xs ≠ [] ∧ xs.length ≤ 1000 ∧ ∀ v H', v ∈ xs → Bx H' b q → Kp b H H' → Q v H') ∨
  (∃ (b q : Addr) (z : Str), vs = [.ref b, .str z] ∧ Bx H b q ∧ 0 < z.length ∧ z.length ≤ 1000 ∧ ∀ c H', c ∈ z.cps.toList → Bx H' b q → Kp b H H' → Q (.str ⟨#[c]⟩) H')
theorem scO : FnScope ["_law_box_here", "_law_some"] ["_law_box_here", "_law_some"] (defScope sOne) := ⟨rfl, rfl, rfl, by decide +kernel, rfl, by decide +kernel, by decide +kernel⟩
structure Df (P : Program) (w : World) (K : PySem.W.Frag) (mg : Str → Option Value) (base : Heap) (k : Nat) (x : Str) (ps : List Str) (sp : Sp) (f : Addr) (fd : FuncData) : Prop where
  ok : FnOk P w K mg base CX0 k f fd ps sp
  gl : mg x = some (.ref f)
  kp : PySem.W.keepIn K (.ref f) = true
  bd : Binds K fd ps []
theorem ok_one {f fT : Addr} {fd fdT : FuncData} (F : Fun K "_law_one" "_law_one" sOne f fd) (ml : mg "len" = none) (T : Df P w K mg base 1 "_law_take" ["_law_box_here", "_law_many"] spTake fT fdT) : FnOk P w K mg base CX0 2 f fd ["_law_box_here", "_law_some"] (spOne K) := by
  refine F.ok scO (fun vs H Q E h => ?_) (fun cdv A outer s H vs Q E hr h => ?_)
  · rcases h with ⟨b, q, p, xs, rfl, _⟩ | ⟨b, q, z, rfl, _⟩ <;> rfl
  · rcases h with ⟨b, q, p, xs, rfl, B, hS, hp, h0, hl, K1⟩ | ⟨b, q, z, rfl, B, h0, hl, K1⟩
    · refine ⟨_, pss_one (ps_ret (pe_ix ix_list (pv 1) (pe_call T.ok hr (by rfl) T.gl T.kp T.bd .nil pass0 (pa_cons (pv 0) (pa_cons (pe_callB call_len_seq (by rfl) ml PySem.boot_len (pa_cons (pv 1) pa_nil)) pa_nil))) (fun _ _ => rfl))), ?_⟩
      have h1 : 0 < xs.length := List.length_pos_iff.mpr h0
      refine ⟨_, rfl, _, rfl, _, rfl, p, _, rfl, .inl hS, b, q, (xs.length : Int), rfl, B, by omega, by omega, fun v H' v0 v1 B' kp => ?_⟩
      have hj : v.toNat < xs.length := by omega
      refine ⟨p, xs, v, xs[v.toNat], rfl, rfl, kp.xt.sql hp hS, at_of (j := v.toNat) (by omega) (List.getElem?_eq_getElem hj), ?_⟩
      exact K1 _ _ (List.getElem_mem hj) B' kp
    · refine ⟨_, pss_one (ps_ret (pe_ix ix_str (pv 1) (pe_call T.ok hr (by rfl) T.gl T.kp T.bd .nil pass0 (pa_cons (pv 0) (pa_cons (pe_callB call_len (by rfl) ml PySem.boot_len (pa_cons (pv 1) pa_nil)) pa_nil))) (fun _ _ => rfl))), ?_⟩
      have hz : z.length ≤ sizeLine := Nat.le_of_lt (small1000 hl)
      refine ⟨_, rfl, _, rfl, _, rfl, _, z.length, rfl, ⟨hz, rfl⟩, b, q, (z.length : Int), rfl, B, by omega, by omega, fun v H' v0 v1 B' kp => ?_⟩
      obtain ⟨j, rfl⟩ : ∃ j : Nat, v = (j : Int) := ⟨v.toNat, by omega⟩
      have hj : j < z.cps.toList.length := by
        rw [Array.length_toList]
        have : z.length = z.cps.size := rfl
        omega
      refine ⟨z, (j : Int), z.cps.toList[j], rfl, rfl, hz, atI_nat (List.getElem?_eq_getElem hj), ?_⟩
      exact K1 _ _ (List.getElem_mem hj) B' kp
def spHue : Sp := fun vs H Q _ => ∃ b q, vs = [.ref b] ∧ Bx H b q ∧ ∀ (c : Str) H', c ∈ (["a", "b", "c"] : List Str) → Bx H' b q → Xt b H H' → Q (.str c) H'
theorem scH : FnScope ["_law_box_here"] ["_law_box_here"] (defScope sHue) := ⟨rfl, rfl, rfl, by decide +kernel, rfl, by decide +kernel, by decide +kernel⟩
theorem ok_hue {f fO : Addr} {fd fdO : FuncData} (F : Fun K "_law_hue" "_law_hue" sHue f fd) (O : Df P w K mg base 2 "_law_one" ["_law_box_here", "_law_some"] (spOne K) fO fdO) : FnOk P w K mg base CX0 3 f fd ["_law_box_here"] spHue := by
  refine F.ok scH (fun vs H Q E h => ?_) (fun cdv A outer s H vs Q E hr h => ?_)
  · obtain ⟨b, q, rfl, _⟩ := h
    rfl
  · obtain ⟨b, q, rfl, B, K1⟩ := h
    refine ⟨_, pss_one (ps_ret (pe_call O.ok hr (by rfl) O.gl O.kp O.bd .nil pass0 (pa_cons (pv 0) (pa_cons (pe_lst (pa_cons pe_str (pa_cons pe_str (pa_cons pe_str (pa_cons pe_str (pa_cons pe_str (pa_cons pe_str pa_nil))))))) pa_nil)))), ?_⟩
    refine ⟨_, rfl, by show 6 ≤ sizeLine; decide, fun p np => ?_⟩
    refine .inl ⟨b, q, p, _, rfl, B.new np, SqL.of upd_same, B.ne np, by simp, by show 6 ≤ 1000; decide, fun v H' hv B' kp => ?_⟩
    obtain ⟨c, rfl, hc⟩ : ∃ c : Str, v = .str c ∧ c ∈ (["a", "b", "c"] : List Str) := by
      simp only [List.mem_cons, List.not_mem_nil, or_false] at hv
      rcases hv with rfl | rfl | rfl | rfl | rfl | rfl
      all_goals exact ⟨_, rfl, by simp⟩
    exact K1 c H' hc B' (((Xt.refl b H).new np).trans kp.xt)
def spArrow : Sp := fun vs H Q _ => ∃ (b q : Addr) (m : Int), vs = [.ref b, .int m] ∧ Bx H b q ∧ 0 < m ∧ m < 2 ^ 100 ∧
  ∀ (p : Addr) (c : Str) (x y : Int) H', H p = none → p ≠ b → H' p = some (.tup [.str c, .int x, .int y]) → c ∈ (["a", "b", "c"] : List Str) → 0 ≤ x → x < m → 0 ≤ y → y < m → Bx H' b q → Xt b H H' → Q (.ref p) H'
theorem scA : FnScope ["_law_box_here", "_law_many"] ["_law_box_here", "_law_many"] (defScope sArrow) := ⟨rfl, rfl, rfl, by decide +kernel, rfl, by decide +kernel, by decide +kernel⟩
theorem ok_arrow {f fH fT : Addr} {fd fdH fdT : FuncData} (F : Fun K "_law_arrow" "_law_arrow" sArrow f fd) (G : Df P w K mg base 3 "_law_hue" ["_law_box_here"] spHue fH fdH) (T : Df P w K mg base 1 "_law_take" ["_law_box_here", "_law_many"] spTake fT fdT) : FnOk P w K mg base CX0 4 f fd ["_law_box_here", "_law_many"] spArrow := by
  refine F.ok scA (fun vs H Q E h => ?_) (fun cdv A outer s H vs Q E hr h => ?_)
  · obtain ⟨b, q, m, rfl, _⟩ := h
    rfl
  · obtain ⟨b, q, m, rfl, B, hm, hm2, K1⟩ := h
    refine ⟨_, pss_one (ps_ret (pe_tup (pa_cons (pe_call G.ok hr (by rfl) G.gl G.kp G.bd .nil pass0 (pa_cons (pv 0) pa_nil)) (pa_cons (pe_call T.ok (hr.mono (by decide)) (by rfl) T.gl T.kp T.bd .nil pass0 (pa_cons (pv 0) (pa_cons (pv 1) pa_nil))) (pa_cons (pe_call T.ok (hr.mono (by decide)) (by rfl) T.gl T.kp T.bd .nil pass0 (pa_cons (pv 0) (pa_cons (pv 1) pa_nil))) pa_nil))))), ?_⟩
    refine ⟨_, rfl, b, q, rfl, B, fun c H1 hc B1 x1 => ?_⟩
    refine ⟨_, rfl, _, rfl, b, q, m, rfl, B1, hm, hm2, fun x H2 a1 a2 B2 k2 => ?_⟩
    refine ⟨_, rfl, _, rfl, b, q, m, rfl, B2, hm, hm2, fun y H3 c1 c2 B3 k3 => ?_⟩
    refine ⟨by show 3 ≤ sizeLine; decide, fun p np => ?_⟩
    have xt := (x1.trans k2.xt).trans k3.xt
    exact K1 p c x y _ (xt.free (B3.ne np) np) (B3.ne np) upd_same hc a1 a2 c1 c2 (B3.new np) (xt.new np)
end
end Wb
namespace Wb
open PySem PySem.Spec PyProof.Rows L2 RZ
abbrev sSame : Stmt := topS 27
def scV : V → Bool
  | .non => true
  | .bl _ => true
  | .int _ => true
  | .str _ => true
  | _ => false
def Sv (K : PySem.W.Frag) (H : Hp) : Nat → V → V → Prop
  | 0, x, y => scV x = true ∧ x = y
  | n + 1, x, y => (scV x = true ∧ x = y) ∨ ∃ (p q : Addr) (xs ys : List V), x = .ref p ∧ y = .ref q ∧ ((SqL K H p xs ∧ SqL K H q ys) ∨ (SqT K H p xs ∧ SqT K H q ys)) ∧ xs.length ≤ 100000 ∧ Paired (Sv K H n) xs ys
theorem Sv.same {K : PySem.W.Frag} {H H' : Hp} (s : Same H H') : ∀ (n : Nat) (x y : V), Sv K H n x y → Sv K H' n x y
  | 0, _, _, h => h
  | n + 1, x, y, h => by
    rcases h with h | ⟨p, q, xs, ys, e1, e2, h, hl, r⟩
    · exact .inl h
    · refine .inr ⟨p, q, xs, ys, e1, e2, ?_, hl, Paired.mapP r fun a b => Sv.same s n a b⟩
      rcases h with ⟨h1, h2⟩ | ⟨h1, h2⟩
      · exact .inl ⟨s.seq h1, s.seq h2⟩
      · refine .inr ⟨?_, ?_⟩
        · rcases h1 with (h | ⟨o, h⟩) | h
          · exact .inl (.inl (s _ _ h))
          · exact .inl (.inr ⟨o, s _ _ h⟩)
          · exact .inr h
        · rcases h2 with (h | ⟨o, h⟩) | h
          · exact .inl (.inl (s _ _ h))
          · exact .inl (.inr ⟨o, s _ _ h⟩)
          · exact .inr h
theorem same_tup {K : PySem.W.Frag} {H H' : Hp} {a : Addr} {xs : List V} (e : Same H H') (h : SqT K H a xs) : SqT K H' a xs := by
  rcases h with (h | ⟨o, h⟩) | h
  · exact .inl (.inl (e _ _ h))
  · exact .inl (.inr ⟨o, e _ _ h⟩)
  · exact .inr h
theorem ty_list {K : PySem.W.Frag} {H : Hp} {p : Addr} {xs : List V} (h : SqL K H p xs) : TyX K H (.ref p) (.type "list") := by
  rcases h with (h | ⟨o, h⟩) | ⟨o, its, n, h, hc, _⟩
  · exact .base (.lst h)
  · exact .base (.frz h)
  · exact .kList h hc
theorem ty_tup {K : PySem.W.Frag} {H : Hp} {p : Addr} {xs : List V} (h : SqT K H p xs) : TyX K H (.ref p) (.type "tuple") := by
  rcases h with (h | ⟨o, h⟩) | ⟨o, its, n, h, hc, _⟩
  · exact .base (.tup h)
  · exact .fTuple h
  · exact .kTuple h hc
theorem walk_zipT {K : PySem.W.Frag} {a b : Addr} {xs ys : List V} {n : Nat} (hn : n = min xs.length ys.length) : Walk (ItzT K a b) n (fun H => SqT K H a xs ∧ SqT K H b ys) (YPair (fun i => xs[i]?) (fun i => ys[i]?)) where
  goes := fun i H hi g => ⟨xs, ys, xs[i]'(by omega), ys[i]'(by omega), g.1, g.2, List.getElem?_eq_getElem _, List.getElem?_eq_getElem _⟩
  stops := fun H g => ⟨xs, ys, g.1, g.2, by omega⟩
  yields := fun i H v H' hi g y => by
    obtain ⟨T, x, z, e, nT, eH, h1, h2⟩ := y
    exact ⟨T, x, z, e, nT, eH, h1 _ g.1, h2 _ g.2⟩
theorem paired_at {α β : Type} {F : α → β → Prop} : ∀ {l : List α} {m : List β}, Paired F l m → ∀ (i : Nat) (x : α) (y : β), l[i]? = some x → m[i]? = some y → F x y
  | _, _, .nil, i, _, _, h, _ => by simp at h
  | _, _, .cons r _, 0, x, y, h1, h2 => by
    cases h1
    cases h2
    exact r
  | _, _, .cons _ t, i + 1, x, y, h1, h2 => paired_at t i x y h1 h2
section
variable {P : Program} {w : World} {K : PySem.W.Frag} {mg : Str → Option Value} {base : Heap}
def spSame (K : PySem.W.Frag) (n : Nat) : Sp := fun vs H Q _ => ∃ x y, vs = [x, y] ∧ Sv K H n x y ∧ ∀ H', Same H H' → Q (.bl true) H'
theorem scS : FnScope ["_law_found", "_law_due", "_law_one_here", "_law_other"] ["_law_found", "_law_due"] (defScope sSame) := ⟨rfl, rfl, rfl, by decide +kernel, rfl, by decide +kernel, by decide +kernel⟩
structure SmT (mg : Str → Option Value) : Prop where
  isi : mg "isinstance" = none
  lst : mg "list" = none
  tup : mg "tuple" = none
  bool : mg "bool" = none
  int : mg "int" = none
  str : mg "str" = none
  len : mg "len" = none
  all : mg "all" = none
  zip : mg "zip" = none
theorem same_plain {n k : Nat} {f : Addr} {fd : FuncData} {cdv : Value} {A : Around} {outer : List Env} {s : Shared} {H : Hp} {Q : VK} {E : XK} (M : SmT mg) {v : V} {t : String} {b1 b2 b3 : Bool} (nn : v ≠ .non) (ty : TyX K H v (.type t)) (sc : scal v v = true)
    (k1 : kitB t "list" = some false) (k2 : kitB t "tuple" = some false) (k3 : kitB t "bool" = some b1) (k4 : kitB t "int" = some b2) (k5 : kitB t "str" = some b3) (q : Q (.bl true) H) :
    ∃ tt, PSs (cxOf CX0 P w K mg base ["_law_found", "_law_due", "_law_one_here", "_law_other"] "_law_same" (defScope sSame) f cdv A outer s H E).nox (defBody sSame) tt ∧ tt { nx := fun _ H' => Q .non H', rt := Q } (start ["_law_found", "_law_due", "_law_one_here", "_law_other"] [v, v]) H := by
  refine ⟨_, pss_cons (ps_if (pt_cmpR op_isN (pv 1) pe_non (nomark _)) (pss_one ps_never) pss_nil)
    (pss_cons (ps_if (PW.pt (pw_or (pt_val (pe_callB call_isi (by rfl) M.isi boot_isinstance (pa_cons (pv 1) (pa_cons (pe_bltn (v := .ty "list") (by rfl) M.lst (by decide +kernel) rfl) pa_nil)))) (pw_or1 (pt_val (pe_callB call_isi (by rfl) M.isi boot_isinstance (pa_cons (pv 1) (pa_cons (pe_bltn (v := .ty "tuple") (by rfl) M.tup (by decide +kernel) rfl) pa_nil))))))) (pss_cons ps_never (pss_one ps_never)) pss_nil)
    (pss_cons (ps_if (PW.pt (pw_or (pt_cmpR op_ne (pe_callB call_isi (by rfl) M.isi boot_isinstance (pa_cons (pv 1) (pa_cons (pe_bltn (v := .ty "bool") (by rfl) M.bool (by decide +kernel) rfl) pa_nil))) (pe_callB call_isi (by rfl) M.isi boot_isinstance (pa_cons (pv 0) (pa_cons (pe_bltn (v := .ty "bool") (by rfl) M.bool (by decide +kernel) rfl) pa_nil))) (nomark _)) (pw_or1 (pt_cmpR op_ne (pe_callB call_isi (by rfl) M.isi boot_isinstance (pa_cons (pv 1) (pa_cons (pe_bltn (v := .ty "int") (by rfl) M.int (by decide +kernel) rfl) pa_nil))) (pe_callB call_isi (by rfl) M.isi boot_isinstance (pa_cons (pv 0) (pa_cons (pe_bltn (v := .ty "int") (by rfl) M.int (by decide +kernel) rfl) pa_nil))) (nomark _))))) (pss_one ps_never) pss_nil)
    (pss_one (ps_ret (pe_and (pe_cmpR op_eq (pe_callB call_isi (by rfl) M.isi boot_isinstance (pa_cons (pv 0) (pa_cons (pe_bltn (v := .ty "str") (by rfl) M.str (by decide +kernel) rfl) pa_nil))) (pe_callB call_isi (by rfl) M.isi boot_isinstance (pa_cons (pv 1) (pa_cons (pe_bltn (v := .ty "str") (by rfl) M.str (by decide +kernel) rfl) pa_nil))) (nomark _)) (pe_one (pe_cmpR op_eq (pv 0) (pv 1) (nomark _)))))))), ?_⟩
  refine ⟨_, rfl, rfl, _, rfl, ite2 (fun e => absurd (of_decide_eq_true e) nn) fun _ => ?_⟩
  refine ⟨_, rfl, v, _, _, _, _, rfl, .ty "list", ty, kit_ty k1, _, rfl, iteF ?_⟩
  refine ⟨_, rfl, v, _, _, _, _, rfl, .ty "tuple", ty, kit_ty k2, _, rfl, iteF ?_⟩
  refine ⟨_, rfl, v, _, _, _, _, rfl, .ty "bool", ty, kit_ty k3, _, rfl, v, _, _, _, _, rfl, .ty "bool", ty, kit_ty k3, rfl, _, rfl, ?_⟩
  refine iteNS rfl ?_
  refine ⟨_, rfl, v, _, _, _, _, rfl, .ty "int", ty, kit_ty k4, _, rfl, v, _, _, _, _, rfl, .ty "int", ty, kit_ty k4, rfl, _, rfl, ?_⟩
  refine iteNS rfl ?_
  refine ⟨_, rfl, v, _, _, _, _, rfl, .ty "str", ty, kit_ty k5, _, rfl, v, _, _, _, _, rfl, .ty "str", ty, kit_ty k5, rfl, true, ?_, ?_⟩
  · rw [decide_eq_true rfl]
  · refine iteT ⟨_, rfl, _, rfl, sc, ?_⟩
    rw [decide_eq_true rfl]
    exact q
theorem same_any {f : Addr} {fd : FuncData} {cdv : Value} {A : Around} {outer : List Env} {s : Shared} {H : Hp} {Q : VK} {E : XK} (M : SmT mg) {v : V} (hs : scV v = true) (q : Q (.bl true) H) :
    ∃ tt, PSs (cxOf CX0 P w K mg base ["_law_found", "_law_due", "_law_one_here", "_law_other"] "_law_same" (defScope sSame) f cdv A outer s H E).nox (defBody sSame) tt ∧ tt { nx := fun _ H' => Q .non H', rt := Q } (start ["_law_found", "_law_due", "_law_one_here", "_law_other"] [v, v]) H := by
  cases v with
  | non =>
    refine ⟨_, pss_cons (ps_if (pt_cmpR op_isN (pv 1) pe_non (nomark _)) (pss_one (ps_ret (pe_cmpR op_isN (pv 0) pe_non (nomark _)))) pss_nil) (pss_cons ps_never (pss_cons ps_never (pss_one ps_never))), ?_⟩
    exact ⟨_, rfl, rfl, _, rfl, iteT ⟨_, rfl, rfl, q⟩⟩
  | bl b => exact same_plain (n := 0) (k := 0) (fd := fd) (b1 := true) (b2 := true) (b3 := false) M (fun z => nomatch z) (.base (.bl b)) rfl (by decide +kernel) (by decide +kernel) (by decide +kernel) (by decide +kernel) (by decide +kernel) q
  | int i => exact same_plain (n := 0) (k := 0) (fd := fd) (b1 := false) (b2 := true) (b3 := false) M (fun z => nomatch z) (.base (.int i)) rfl (by decide +kernel) (by decide +kernel) (by decide +kernel) (by decide +kernel) (by decide +kernel) q
  | str z => exact same_plain (n := 0) (k := 0) (fd := fd) (b1 := false) (b2 := false) (b3 := true) M (fun z => nomatch z) (.base (.str z)) rfl (by decide +kernel) (by decide +kernel) (by decide +kernel) (by decide +kernel) (by decide +kernel) q
  | byt _ => cases hs
  | flt _ => cases hs
  | ref _ => cases hs
  | ty _ => cases hs
theorem ok_same {f : Addr} {fd : FuncData} (F : Fun K "_law_same" "_law_same" sSame f fd) (gl : mg "_law_same" = some (.ref f)) (bd : Binds K fd ["_law_found", "_law_due"] []) (M : SmT mg) : ∀ n, FnOk P w K mg base CX0 (n + 1) f fd ["_law_found", "_law_due"] (spSame K n) := by
  intro n
  induction n with
  | zero =>
    refine F.ok scS (fun vs H Q E h => ?_) (fun cdv A outer s H vs Q E hr h => ?_)
    · obtain ⟨x, y, rfl, _⟩ := h
      rfl
    · obtain ⟨x, y, rfl, ⟨hs, rfl⟩, q⟩ := h
      exact same_any (fd := fd) M hs (q _ (Same.refl _))
  | succ n ih =>
    refine F.ok scS (fun vs H Q E h => ?_) (fun cdv A outer s H vs Q E hr h => ?_)
    · obtain ⟨x, y, rfl, _⟩ := h
      rfl
    · obtain ⟨x, y, rfl, hs, q⟩ := h
      rcases hs with ⟨hs, rfl⟩ | ⟨p1, p2, xs, ys, rfl, rfl, hS, hl, pr⟩
      · exact same_any (fd := fd) M hs (q _ (Same.refl _))
      · -- two lists, or two tuples
        have hlen : xs.length = ys.length := Paired.length pr
        refine ⟨_, pss_cons (ps_if (pt_cmpR op_isN (pv 1) pe_non (nomark _)) (pss_one ps_never) pss_nil)
          (pss_cons (ps_if (PW.pt (pw_or (pt_val (pe_callB call_isi (by rfl) M.isi boot_isinstance (pa_cons (pv 1) (pa_cons (pe_bltn (v := .ty "list") (by rfl) M.lst (by decide +kernel) rfl) pa_nil)))) (pw_or1 (pt_val (pe_callB call_isi (by rfl) M.isi boot_isinstance (pa_cons (pv 1) (pa_cons (pe_bltn (v := .ty "tuple") (by rfl) M.tup (by decide +kernel) rfl) pa_nil)))))))
            (pss_cons (ps_if (PW.pt (pw_or (pt_cmpR op_ne (pe_callB call_isi (by rfl) M.isi boot_isinstance (pa_cons (pv 0) (pa_cons (pe_bltn (v := .ty "list") (by rfl) M.lst (by decide +kernel) rfl) pa_nil))) (pe_callB call_isi (by rfl) M.isi boot_isinstance (pa_cons (pv 1) (pa_cons (pe_bltn (v := .ty "list") (by rfl) M.lst (by decide +kernel) rfl) pa_nil))) (nomark _)) (pw_or1 (pt_cmpR op_ne (pe_callB call_isi (by rfl) M.isi boot_isinstance (pa_cons (pv 0) (pa_cons (pe_bltn (v := .ty "tuple") (by rfl) M.tup (by decide +kernel) rfl) pa_nil))) (pe_callB call_isi (by rfl) M.isi boot_isinstance (pa_cons (pv 1) (pa_cons (pe_bltn (v := .ty "tuple") (by rfl) M.tup (by decide +kernel) rfl) pa_nil))) (nomark _))))) (pss_one ps_never) pss_nil)
            (pss_one (ps_ret (pe_and (pe_cmpR op_eq (pe_callB call_len_seq (by rfl) M.len PySem.boot_len (pa_cons (pv 0) pa_nil)) (pe_callB call_len_seq (by rfl) M.len PySem.boot_len (pa_cons (pv 1) pa_nil)) (nomark _))
              (pe_one (pe_callB (cr_all rfl) (by rfl) M.all (by decide +kernel) (pa_cons
                (pe_lc (own := [("_law_one_here", 2), ("_law_other", 3)]) (g := gTup K 2 (gCons (gName 2) (gCons (gName 3) gNil))) (tt := tYes) rfl scS.nd (pi_zipA (by rfl) M.zip (pa_cons (pv 0) (pa_cons (pv 1) pa_nil)))
                  (blkOk_by (N := ["_law_found", "_law_due", "_law_one_here", "_law_other"]) (sc := defScope sSame) (by decide +kernel))
                  (fun _ _ _ _ _ => pg_tup rfl (pgs_cons (pg_name (i := 2) scS.nd rfl (.inl rfl)) (pgs_cons (pg_name (i := 3) scS.nd rfl (.inl rfl)) pgs_nil))) (fun _ _ _ _ _ => pts_nil)
                  (fun _ _ _ _ _ => pe_call ih hr (by rfl) gl F.kp bd .nil pass0 (pa_cons (pv 2) (pa_cons (pv 3) pa_nil)))) pa_nil)))))))
            pss_nil)
          (pss_cons ps_never (pss_one ps_never))), ?_⟩
        refine ⟨_, rfl, rfl, _, rfl, ite2 (fun e => (nomatch (of_decide_eq_true e))) fun _ => ?_⟩
        have fin : ∀ H' D, Same H H' → H' D = some (.lst ((List.replicate xs.length true).map V.bl)) → Q (.bl true) H' := fun H' D s' _ => q H' s'
        rcases hS with ⟨h1, h2⟩ | ⟨h1, h2⟩
        · refine ⟨_, rfl, _, _, _, _, _, rfl, .ty "list", ty_list h2, kit_ty (r := true) (by decide +kernel), _, rfl, iteT ?_⟩
          refine iteT ?_
          refine ⟨_, rfl, _, _, _, _, _, rfl, .ty "list", ty_list h1, kit_ty (r := true) (by decide +kernel), _, rfl, _, _, _, _, _, rfl, .ty "list", ty_list h2, kit_ty (r := true) (by decide +kernel), rfl, _, rfl, iteNS rfl ?_⟩
          refine ⟨_, rfl, _, _, _, _, _, rfl, .ty "tuple", ty_list h1, kit_ty (r := false) (by decide +kernel), _, rfl, _, _, _, _, _, rfl, .ty "tuple", ty_list h2, kit_ty (r := false) (by decide +kernel), rfl, _, rfl, iteNS rfl ?_⟩
          refine ⟨_, rfl, p1, xs, rfl, .inl h1, _, rfl, p2, ys, rfl, .inl h2, rfl, true, by rw [hlen, decide_eq_true rfl], iteT ?_⟩
          refine ⟨_, rfl, _, rfl, p1, p2, xs, ys, rfl, .inl ⟨h1, h2, fun D nD => ?_⟩⟩
          refine lc_it (walk_zip (K := K) (a := p1) (b := p2) (xs := xs) (ys := ys) (n := xs.length) (by omega)) (fun i H' => H' D = some (.lst ((List.replicate i true).map V.bl)) ∧ Same H H' ∧ i ≤ xs.length) ⟨upd_same, same_upd nD, Nat.zero_le _⟩ (fun i H' _ hp => ⟨hp.2.1.seq h1, hp.2.1.seq h2⟩) ?_ ?_
          · rintro i v H1 H2 hi ⟨hD, sm, _⟩ ⟨T, x, y, rfl, nT, rfl, gx, gy⟩
            have sT : Same H1 (upd H1 T (.tup [x, y])) := same_upd nT
            refine ⟨T, [x, y], rfl, SqT.of upd_same, rfl, x, [y], rfl, y, [], rfl, rfl, rfl, ?_⟩
            dsimp only [tYes]
            refine iteT ⟨_, rfl, _, rfl, x, y, rfl, Sv.same (sm.trans sT) n x y (paired_at pr i x y gx gy), fun H3 s3 => ?_⟩
            refine ⟨_, s3 _ _ (sT _ _ hD), by rw [List.length_map, List.length_replicate]; exact Nat.lt_of_lt_of_le hi (Nat.le_trans hl (by decide)), ?_, ?_, hi⟩
            · rw [upd_same, List.replicate_succ', List.map_append]
              rfl
            · intro c o e
              rw [upd_ne (ne_of_none e nD)]
              exact s3 _ _ (sT _ _ (sm _ _ e))
          · rintro H' ⟨hD, sm, _⟩
            refine ⟨D, List.replicate xs.length true, rfl, SqL.of hD, ?_⟩
            rw [show (List.replicate xs.length true).all id = true by simp]
            exact q H' sm
        · refine ⟨_, rfl, _, _, _, _, _, rfl, .ty "list", ty_tup h2, kit_ty (r := false) (by decide +kernel), _, rfl, iteF ?_⟩
          refine ⟨_, rfl, _, _, _, _, _, rfl, .ty "tuple", ty_tup h2, kit_ty (r := true) (by decide +kernel), _, rfl, iteT ?_⟩
          refine ⟨_, rfl, _, _, _, _, _, rfl, .ty "list", ty_tup h1, kit_ty (r := false) (by decide +kernel), _, rfl, _, _, _, _, _, rfl, .ty "list", ty_tup h2, kit_ty (r := false) (by decide +kernel), rfl, _, rfl, iteNS rfl ?_⟩
          refine ⟨_, rfl, _, _, _, _, _, rfl, .ty "tuple", ty_tup h1, kit_ty (r := true) (by decide +kernel), _, rfl, _, _, _, _, _, rfl, .ty "tuple", ty_tup h2, kit_ty (r := true) (by decide +kernel), rfl, _, rfl, iteNS rfl ?_⟩
          refine ⟨_, rfl, p1, xs, rfl, .inr h1, _, rfl, p2, ys, rfl, .inr h2, rfl, true, by rw [hlen, decide_eq_true rfl], iteT ?_⟩
          refine ⟨_, rfl, _, rfl, p1, p2, xs, ys, rfl, .inr ⟨h1, h2, fun D nD => ?_⟩⟩
          refine lc_it (walk_zipT (K := K) (a := p1) (b := p2) (xs := xs) (ys := ys) (n := xs.length) (by omega)) (fun i H' => H' D = some (.lst ((List.replicate i true).map V.bl)) ∧ Same H H' ∧ i ≤ xs.length) ⟨upd_same, same_upd nD, Nat.zero_le _⟩ (fun i H' _ hp => ⟨same_tup hp.2.1 h1, same_tup hp.2.1 h2⟩) ?_ ?_
          · rintro i v H1 H2 hi ⟨hD, sm, _⟩ ⟨T, x, y, rfl, nT, rfl, gx, gy⟩
            have sT : Same H1 (upd H1 T (.tup [x, y])) := same_upd nT
            refine ⟨T, [x, y], rfl, SqT.of upd_same, rfl, x, [y], rfl, y, [], rfl, rfl, rfl, ?_⟩
            dsimp only [tYes]
            refine iteT ⟨_, rfl, _, rfl, x, y, rfl, Sv.same (sm.trans sT) n x y (paired_at pr i x y gx gy), fun H3 s3 => ?_⟩
            refine ⟨_, s3 _ _ (sT _ _ hD), by rw [List.length_map, List.length_replicate]; exact Nat.lt_of_lt_of_le hi (Nat.le_trans hl (by decide)), ?_, ?_, hi⟩
            · rw [upd_same, List.replicate_succ', List.map_append]
              rfl
            · intro c o e
              rw [upd_ne (ne_of_none e nD)]
              exact s3 _ _ (sT _ _ (sm _ _ e))
          · rintro H' ⟨hD, sm, _⟩
            refine ⟨D, List.replicate xs.length true, rfl, SqL.of hD, ?_⟩
            rw [show (List.replicate xs.length true).all id = true by simp]
            exact q H' sm
end
end Wb
namespace Bt
open PySem PySem.Spec PyProof.Rows L2
def gq : Nat → Nat
  | 0 => 0
  | n + 1 => gq n * 5 + 1
theorem gq_add (a : Nat) : ∀ b, gq (a + b) = gq a * 5 ^ b + gq b
  | 0 => by show gq a = gq a * 1 + 0; omega
  | b + 1 => by
    show gq (a + b) * 5 + 1 = gq a * 5 ^ (b + 1) + (gq b * 5 + 1)
    rw [gq_add a b, Nat.add_mul, Nat.pow_succ, Nat.mul_assoc]
    omega
theorem five_four : ∀ n, 5 ^ n % 4 = 1
  | 0 => rfl
  | n + 1 => by rw [Nat.pow_succ, Nat.mul_mod, five_four n]
theorem gq_two : ∀ k, ∃ q, gq (2 ^ k) = 2 ^ k * (2 * q + 1)
  | 0 => ⟨0, rfl⟩
  | k + 1 => by
    obtain ⟨q, hq⟩ := gq_two k
    have h4 := five_four (2 ^ k)
    obtain ⟨z, hz⟩ : ∃ z, 5 ^ 2 ^ k = 4 * z + 1 := ⟨5 ^ 2 ^ k / 4, by omega⟩
    refine ⟨(2 * q + 1) * z + q, ?_⟩
    have e : (2 : Nat) ^ (k + 1) = 2 ^ k + 2 ^ k := by rw [Nat.pow_succ]; omega
    rw [e, gq_add, hq, hz]
    generalize 2 ^ k = M
    have e1 : M * (2 * q + 1) * (4 * z + 1) + M * (2 * q + 1) = M * ((2 * q + 1) * (4 * z + 1) + (2 * q + 1)) := by
      rw [Nat.mul_assoc, ← Nat.mul_add M]
    have e2 : (M + M) * (2 * ((2 * q + 1) * z + q) + 1) = M * (2 * (2 * ((2 * q + 1) * z + q) + 1)) := by
      rw [← Nat.mul_assoc M 2, Nat.mul_comm M 2, Nat.two_mul M]
    rw [e1, e2]
    congr 1
    generalize hA : 2 * q + 1 = A
    have e3 : A * (4 * z + 1) = 4 * (A * z) + A := by
      rw [Nat.mul_add, Nat.mul_one, Nat.mul_left_comm]
    rw [e3]
    omega
theorem five_odd (n : Nat) : ∃ z, 5 ^ n = 2 * z + 1 := ⟨5 ^ n / 2, by have := five_four n; omega⟩
theorem odd_odd (a b : Nat) : ∃ c, (2 * a + 1) * (2 * b + 1) = 2 * c + 1 := ⟨(2 * a + 1) * b + a, by
  rw [Nat.mul_add, Nat.mul_one, Nat.mul_left_comm]; omega⟩
theorem gq_onto : ∀ k j, ∃ n, n < 2 ^ k ∧ gq n % 2 ^ k = j % 2 ^ k
  | 0, j => ⟨0, by decide, by rw [Nat.pow_zero, Nat.mod_one, Nat.mod_one]⟩
  | k + 1, j => by
    obtain ⟨n, hn, e⟩ := gq_onto k j
    have ep : (2 : Nat) ^ (k + 1) = 2 * 2 ^ k := by rw [Nat.pow_succ, Nat.mul_comm]
    by_cases c : gq n % 2 ^ (k + 1) = j % 2 ^ (k + 1)
    · exact ⟨n, by omega, c⟩
    · refine ⟨2 ^ k + n, by omega, ?_⟩
      obtain ⟨q, hq⟩ := gq_two k
      obtain ⟨z, hz⟩ := five_odd n
      obtain ⟨u, hu⟩ := odd_odd q z
      rw [gq_add, hq, hz, Nat.mul_assoc, hu]
      rw [ep] at c ⊢
      have hp : 0 < 2 ^ k := Nat.pow_pos (by decide)
      generalize 2 ^ k = M at *
      -- g = M a + r, j = M b + r
      have d1 := Nat.div_add_mod (gq n) M
      have d2 := Nat.div_add_mod j M
      have hr := Nat.mod_lt (gq n) hp
      generalize gq n / M = a at d1
      generalize hx : j / M = b at d2
      rw [← e] at d2
      generalize gq n % M = r at *
      have red : ∀ x, (M * x + r) % (2 * M) = M * (x % 2) + r := fun x => by
        have h2 := Nat.div_add_mod x 2
        have e4 : M * x + r = 2 * M * (x / 2) + (M * (x % 2) + r) := by
          have : M * x = M * (2 * (x / 2) + x % 2) := by rw [h2]
          rw [this, Nat.mul_add, Nat.mul_comm 2 M, Nat.mul_assoc]
          omega
        have lt : M * (x % 2) + r < 2 * M := by
          rcases Nat.mod_two_eq_zero_or_one x with h | h <;> rw [h] <;> omega
        rw [e4, Nat.mul_add_mod, Nat.mod_eq_of_lt lt]
      rw [← d1, ← d2, red, red] at c
      have e5 : M * (2 * u + 1) + gq n = M * (2 * u + 1 + a) + r := by rw [← d1, Nat.mul_add M (2 * u + 1) a]; omega
      rw [e5, ← d2, red, red]
      have q1 := Nat.mod_two_eq_zero_or_one a
      have q2 := Nat.mod_two_eq_zero_or_one b
      have q3 : (2 * u + 1 + a) % 2 = 1 - a % 2 := by omega
      rw [q3]
      rcases q1 with q1 | q1 <;> rcases q2 with q2 | q2 <;> rw [q1, q2] at c ⊢
      · exact absurd rfl c
      · exact absurd rfl c
theorem gq_period (k b : Nat) : gq (2 ^ k + b) % 2 ^ k = gq b % 2 ^ k := by
  obtain ⟨q, hq⟩ := gq_two k
  rw [gq_add, hq, Nat.mul_assoc, Nat.mul_add_mod]
def Mk (m : Nat) : Prop := ∃ k, 3 ≤ k ∧ m + 1 = 2 ^ k
theorem Mk.odd {m : Nat} (h : Mk m) : m % 2 = 1 := by
  obtain ⟨k, hk, e⟩ := h
  obtain ⟨j, rfl⟩ : ∃ j, k = j + 1 := ⟨k - 1, by omega⟩
  rw [Nat.pow_succ] at e
  omega
theorem lcg_gq (m a : Nat) : ∀ k, lcgI m (gq a % (m + 1)) k = gq (a + k) % (m + 1)
  | 0 => rfl
  | k + 1 => by
    show (lcgI m (gq a % (m + 1)) k * 5 + 1) % (m + 1) = (gq (a + k) * 5 + 1) % (m + 1)
    rw [lcg_gq m a k, Nat.add_mod, Nat.mul_mod, Nat.mod_mod, ← Nat.mul_mod, ← Nat.add_mod]
theorem go_all {m : Nat} (hm : Mk m) {i j : Nat} (hi : i ≤ m) (hj : j ≤ m) : ∃ k, k ≤ m ∧ lcgI m i k = j := by
  obtain ⟨e, _, he⟩ := hm
  obtain ⟨a, ha, ea⟩ := gq_onto e i
  obtain ⟨b, hb, eb⟩ := gq_onto e j
  rw [← he, Nat.mod_eq_of_lt (Nat.lt_succ_of_le hi)] at ea
  rw [← he, Nat.mod_eq_of_lt (Nat.lt_succ_of_le hj)] at eb
  rw [← he] at ha hb
  rw [← ea]
  by_cases c : a ≤ b
  · refine ⟨b - a, by omega, ?_⟩
    rw [lcg_gq, show a + (b - a) = b by omega]
    exact eb
  · refine ⟨m + 1 + b - a, by omega, ?_⟩
    rw [lcg_gq, show a + (m + 1 + b - a) = m + 1 + b by omega, he, gq_period, ← he]
    exact eb
theorem begins {m : Nat} (hm : Mk m) (h : Int) {j : Nat} (hj : j ≤ m) : ∃ n, n ≤ m + 12 ∧ runI m (SetTable.bits h) n = j := by
  obtain ⟨k, hk, e⟩ := go_all hm (runI_le m (SetTable.bits h) 12) hj
  refine ⟨12 + k, by omega, ?_⟩
  rw [runI_tail (bits_lt h)]
  exact e
theorem meets {m : Nat} (hm : Mk m) (h : Int) {j : Nat} (hj : j ≤ m) : ∃ k, k < 10 * SetTable.turns m ∧ way m h k = j := by
  obtain ⟨n, hn, e⟩ := begins hm h hj
  obtain ⟨k, hk, e2⟩ := run_nth m (SetTable.bits h) n
  have ht : SetTable.turns m = m + 15 := rfl
  exact ⟨k, by omega, (congrArg SetTable.Probe.j e2).trans e⟩
theorem way_in (m : Nat) (h : Int) (k : Nat) : way m h k ≤ m := by
  have hb : SetTable.bits h % (m + 1) ≤ m := Nat.le_of_lt_succ (Nat.mod_lt _ (Nat.succ_pos m))
  have r := (runEnd_bd hb).1
  have g := (runEnd_bd hb).2.1
  have q := nth_in (m := m) k (runAt m (SetTable.bits h % (m + 1)) (SetTable.bits h)) (show SetTable.bits h % (m + 1) + (SetTable.runEnd m (SetTable.bits h % (m + 1)) - SetTable.bits h % (m + 1)) ≤ m by omega)
  exact Nat.le_trans (Nat.le_add_right _ _) q
structure Tb (t : SetTable) (hs : List Int) : Prop where
  ris : Ris t.place.toList
  dm : t.dummies = #[]
  sz : t.place.size = hs.length
  msk : Mk t.mask
  bd : ∀ x ∈ t.place.toList, x ≤ t.mask
  back : ∀ (i : Nat) (h : Int) (j : Nat), hs[i]? = some h → t.place.toList[i]? = some j → ∃ k, way t.mask h k = j ∧ ∀ c, c < k → way t.mask h c ∈ t.place.toList
variable {t : SetTable} {hs : List Int}
theorem Tb.free (T : Tb t hs) (hl : hs.length ≤ t.mask) (h : Int) : ∃ N, N < 10 * SetTable.turns t.mask ∧ way t.mask h N ∉ t.place.toList ∧ ∀ c, c < N → way t.mask h c ∈ t.place.toList := by
  have len : t.place.toList.length < t.mask + 1 := by
    have := T.sz
    rw [Array.length_toList]
    omega
  obtain ⟨j, hj, out⟩ := st_missing t.place.toList _ len
  obtain ⟨k, hk, e⟩ := meets T.msk h (Nat.le_of_lt_succ hj)
  obtain ⟨N, hN, free, first⟩ := st_least (p := fun c => way t.mask h c ∉ t.place.toList) k (fun z => out (e ▸ z))
  exact ⟨N, Nat.lt_of_le_of_lt hN hk, free, fun c hc => Classical.byContradiction fun z => first c hc z⟩
theorem Tb.ahead (T : Tb t hs) {h : Int} {N i j : Nat} (free : way t.mask h N ∉ t.place.toList) (hi : hs[i]? = some h) (hj : t.place.toList[i]? = some j) : ∃ k, k < N ∧ way t.mask h k = j := by
  obtain ⟨k, e, up⟩ := T.back i h j hi hj
  refine ⟨k, Nat.lt_of_not_le fun z => ?_, e⟩
  rcases Nat.lt_or_eq_of_le z with y | y
  · exact free (up N y)
  · subst y
    exact free (e ▸ List.mem_of_getElem? hj)
theorem Tb.mark (T : Tb t hs) (b : Bool) : Tb { t with plain := b } hs := ⟨T.ris, T.dm, T.sz, T.msk, T.bd, T.back⟩
theorem Tb.put (T : Tb t hs) {h : Int} {N : Nat} (free : way t.mask h N ∉ t.place.toList) (up : ∀ c, c < N → way t.mask h c ∈ t.place.toList) : ∃ p, (t.put (way t.mask h N)).2 = p ∧ p ≤ hs.length ∧
    Tb (t.put (way t.mask h N)).1 (hs.take p ++ h :: hs.drop p) ∧ (t.put (way t.mask h N)).1.mask = t.mask ∧ (t.put (way t.mask h N)).1.led = t.led ∧ (t.put (way t.mask h N)).1.fill = hs.length + 1 := by
  have jm := way_in t.mask h N
  generalize hj : way t.mask h N = j at free jm ⊢
  obtain ⟨c1, _, _⟩ := below_cut T.ris j
  have pl : SetTable.below t.place j ≤ t.place.toList.length := by rw [Array.length_toList]; exact c1
  have ph : SetTable.below t.place j ≤ hs.length := by rw [← T.sz]; exact c1
  have np : t.place[SetTable.below t.place j]? ≠ some j := fun e => free (List.mem_of_getElem? (by rw [Array.getElem?_toList]; exact e))
  have pp := put_place t j
  have lz : t.place.toList.length = hs.length := (Array.length_toList ..).trans T.sz
  have ls : (t.put j).1.place.size = hs.length + 1 := by rw [← Array.length_toList, pp, len_ins _ pl, lz]
  have more : ∀ x, x ∈ t.place.toList → x ∈ (t.put j).1.place.toList := fun x hx => by rw [pp]; exact mem_ins.mpr (.inr hx)
  have dm := put_dm T.dm j
  refine ⟨SetTable.below t.place j, rfl, ph, ⟨ris_insert T.ris np, dm, by rw [len_ins _ ph]; exact ls, T.msk, fun x hx => ?_, fun i h' j' e1 e2 => ?_⟩, rfl, rfl, ?_⟩
  · rw [pp] at hx
    rcases mem_ins.mp hx with z | z
    · subst z; exact jm
    · exact T.bd x z
  · rw [tins_get hs ph] at e1
    rw [pp, tins_get _ pl] at e2
    have old : ∀ i0, hs[i0]? = some h' → t.place.toList[i0]? = some j' → ∃ k, way t.mask h' k = j' ∧ ∀ c, c < k → way t.mask h' c ∈ (t.put j).1.place.toList := fun i0 a b => by
      obtain ⟨k, e, u⟩ := T.back i0 h' j' a b
      exact ⟨k, e, fun c hc => more _ (u c hc)⟩
    by_cases q : i < SetTable.below t.place j
    · rw [if_pos q] at e1 e2; exact old i e1 e2
    · rw [if_neg q] at e1 e2
      by_cases r : i = SetTable.below t.place j
      · rw [if_pos r] at e1 e2
        cases e1
        cases e2
        exact ⟨N, hj, fun c hc => more _ (up c hc)⟩
      · rw [if_neg r] at e1 e2; exact old _ e1 e2
  · show (t.put j).1.place.size + (t.put j).1.dummies.size = _
    rw [ls, dm]
    rfl
theorem found {m : Nat} (hm : Mk m) (own : Array (Option Nat)) (h : Int) {j : Nat} (hj : j ≤ m) (hf : oAt own j = none) :
    ∃ N, SetTable.layClean.free m own (SetTable.turns m) (SetTable.bits h % (m + 1)) (SetTable.bits h) = some (way m h N) ∧ oAt own (way m h N) = none ∧ ∀ c, c < N → oAt own (way m h c) ≠ none := by
  obtain ⟨n, hn, e⟩ := begins hm h hj
  have e2 : way m h (off m (SetTable.bits h % (m + 1)) (SetTable.bits h) n) = j := by
    unfold way
    rw [nth_off, itL_run]
    exact e
  obtain ⟨N, l, z, first⟩ := st_least (p := fun c => oAt own (way m h c) = none) _ (show oAt own (way m h (off m _ _ n)) = none by rw [e2]; exact hf)
  have ht : SetTable.turns m = m + 15 := rfl
  refine ⟨N, free_spec m own (SetTable.turns m) n _ _ N (by omega) l (fun c hc => ?_) ?_, z, first⟩
  · have y := first c hc
    unfold way at y
    generalize oAt own _ = o at y ⊢
    cases o with
    | none => exact absurd rfl y
    | some _ => rfl
  · have y := z
    unfold way at y
    rw [y]
    rfl
theorem own_step {m : Nat} (hm : Mk m) {done : List Int} {own : Array (Option Nat)} (W : Own m done own) (hl : done.length ≤ m) (h : Int) :
    ∃ j, SetTable.layClean.free m own (SetTable.turns m) (SetTable.bits h % (m + 1)) (SetTable.bits h) = some j ∧ Own m (done ++ [h]) (own.setIfInBounds j (some done.length)) := by
  obtain ⟨ps, lp, inp⟩ := W.ps
  obtain ⟨j0, l0, n0⟩ := st_missing ps (m + 1) (by omega)
  have f0 : oAt own j0 = none := by
    cases z : oAt own j0 with
    | none => rfl
    | some k => exact absurd (inp j0 (Nat.le_of_lt_succ l0) fun y => by rw [z] at y; cases y) n0
  obtain ⟨N, e1, e2, e3⟩ := found hm own h (Nat.le_of_lt_succ l0) f0
  have jm := way_in m h N
  have self := oAt_set_self (some done.length) (show way m h N < own.size by rw [W.sz]; omega)
  generalize hj : way m h N = j at e1 e2 jm self
  have keep : ∀ i, oAt own i ≠ none → oAt (own.setIfInBounds j (some done.length)) i ≠ none := fun i hi => by
    by_cases c : i = j
    · rw [c, self]; exact nofun
    · rw [oAt_set_ne _ c]; exact hi
  refine ⟨j, e1, ⟨(Array.size_setIfInBounds ..).trans W.sz, fun i k hi e => ?_, fun k hk => ?_, j :: ps, ?_, fun i hi e => ?_⟩⟩
  · by_cases c : i = j
    · subst c
      rw [self] at e
      cases e
      exact ⟨h, N, by rw [List.getElem?_append_right (Nat.le_refl _), Nat.sub_self]; rfl, hj, fun c hc => keep _ (e3 c hc)⟩
    · rw [oAt_set_ne _ c] at e
      obtain ⟨h', N', a1, a2, a3⟩ := W.at_ i k hi e
      exact ⟨h', N', by rw [List.getElem?_append_left (List.getElem?_eq_some_iff.mp a1).1]; exact a1, a2, fun c hc => keep _ (a3 c hc)⟩
  · by_cases c : k < done.length
    · obtain ⟨i, hi, e⟩ := W.all k c
      refine ⟨i, hi, ?_⟩
      rw [oAt_set_ne _ fun z => ?_]
      · exact e
      · subst z
        rw [e2] at e
        cases e
    · have ek : k = done.length := by
        rw [List.length_append, List.length_singleton] at hk
        omega
      subst ek
      exact ⟨j, jm, self⟩
  · rw [List.length_cons, List.length_append, lp]
    rfl
  · by_cases c : i = j
    · subst c; exact List.mem_cons_self ..
    · rw [oAt_set_ne _ c] at e; exact List.mem_cons_of_mem _ (inp i hi e)
theorem folds {m : Nat} (hm : Mk m) : ∀ (l done : List Int) (own : Array (Option Nat)), Own m done own → done.length + l.length ≤ m →
    ∃ own', l.foldl (stepF m) (some (own, done.length)) = some (own', (done ++ l).length) ∧ Own m (done ++ l) own'
  | [], done, own, W, _ => ⟨own, by simp, by simpa using W⟩
  | h :: l, done, own, W, hl => by
    have hl2 : done.length + (l.length + 1) ≤ m := hl
    obtain ⟨j, e, W2⟩ := own_step hm W (by omega) h
    obtain ⟨own', f, W3⟩ := folds hm l (done ++ [h]) _ W2 (by rw [List.length_append, List.length_singleton]; omega)
    refine ⟨own', ?_, by simpa using W3⟩
    rw [List.foldl_cons, stepF_some e]
    rw [List.length_append, List.length_singleton] at f
    rw [f]
    simp
theorem laid_clean {m : Nat} (hm : Mk m) {a : Array Int} (hn : a.size ≤ m) : ∃ own, SetTable.layClean m a = some own ∧ Own m a.toList own := by
  obtain ⟨own, f, W⟩ := folds hm a.toList [] _ (Own.init m) (by rw [Array.length_toList]; simpa using hn)
  refine ⟨own, ?_, by simpa using W⟩
  rw [layClean_eq, show (0 : Nat) = ([] : List Int).length from rfl, f]
  rfl
theorem anew (t : SetTable) {a : Array Int} {wanted M : Nat} (hw : SetTable.sizeAbove wanted - 1 = M) (hM : Mk M) (hn : a.size ≤ M) :
    ∃ t' ord, t.relaid a wanted = some (t', ord) ∧ ord.toList.Perm (List.range a.size) ∧ Tb t' (ord.toList.map fun i => a.getD i 0) ∧ t'.mask = M ∧ t'.led = t.led := by
  obtain ⟨own, e, W⟩ := laid_clean hM hn
  obtain ⟨r1, r2⟩ := ris_live (fun j => own.getD j none) (List.range (M + 1)) (by
    unfold Ris
    first | exact List.pairwise_lt_range | exact List.pairwise_lt_range _)
  have r1 : Ris ((liveOf M own).map (·.1)) := r1
  have r2 : ∀ x ∈ (liveOf M own).map (·.1), x ∈ List.range (M + 1) := r2
  have al : a.toList.length = a.size := Array.length_toList ..
  have has : ∀ k, k < a.size → k ∈ (liveOf M own).map (·.2) := fun k hk => by
    obtain ⟨j, b1, b2⟩ := W.all k (by rw [al]; exact hk)
    exact List.mem_map.mpr ⟨(j, k), (mem_live W.sz).mpr ⟨b1, b2⟩, rfl⟩
  have len : (liveOf M own).length = a.size := by
    obtain ⟨ps, p1, p2⟩ := W.ps
    have ndl : ((liveOf M own).map (·.1)).Nodup := List.Pairwise.imp (fun h => Nat.ne_of_lt h) r1
    have x1 := nat_nodup_len ((liveOf M own).map (·.1)) ps ndl fun x hx => by
      obtain ⟨⟨y, k⟩, hq, rfl⟩ := List.mem_map.mp hx
      obtain ⟨b1, b2⟩ := (mem_live W.sz).mp hq
      exact p2 y b1 fun z => by rw [b2] at z; cases z
    have x2 := nat_nodup_len (List.range a.size) ((liveOf M own).map (·.2)) List.nodup_range fun k hk => has k (List.mem_range.mp hk)
    rw [List.length_map] at x1 x2
    rw [List.length_range] at x2
    omega
  refine ⟨tabOf t M own, ((liveOf M own).map (·.2)).toArray, by rw [relaid_eq, hw, e]; rfl, perm_range a.size _ (by rw [List.length_map]; exact len) has, ⟨r1, rfl, ?_, hM, fun x hx => ?_, fun i h j e1 e2 => ?_⟩, rfl, rfl⟩
  · show ((liveOf M own).map (·.1)).toArray.size = _
    simp
  · exact Nat.le_of_lt_succ (List.mem_range.mp (r2 x hx))
  · have e1 : (((liveOf M own).map (·.2)).map fun i => a.getD i 0)[i]? = some h := e1
    have e2 : ((liveOf M own).map (·.1))[i]? = some j := e2
    rw [List.getElem?_map, List.getElem?_map] at e1
    rw [List.getElem?_map] at e2
    cases hq : (liveOf M own)[i]? with
    | none => rw [hq] at e2; cases e2
    | some q =>
      obtain ⟨y, k⟩ := q
      rw [hq] at e1 e2
      cases e2
      obtain ⟨b1, b2⟩ := (mem_live W.sz).mp (List.mem_of_getElem? hq)
      obtain ⟨h0, N, a1, a2, a3⟩ := W.at_ y k b1 b2
      have eh : h0 = h := by
        have : a.getD k 0 = h := Option.some.inj e1
        rw [← this, Array.getD_eq_getD_getElem?, ← Array.getElem?_toList, a1]
        rfl
      subst eh
      refine ⟨N, a2, fun c hc => ?_⟩
      show way M h0 c ∈ (liveOf M own).map (·.1)
      cases z : oAt own (way M h0 c) with
      | none => exact absurd z (a3 c hc)
      | some k2 => exact List.mem_map.mpr ⟨(way M h0 c, k2), (mem_live W.sz).mpr ⟨way_in M h0 c, z⟩, rfl⟩
def MkB (m : Nat) : Prop := m = 7 ∨ m = 31 ∨ m = 127 ∨ m = 511 ∨ m = 2047 ∨ m = 8191 ∨ m = 32767
theorem grows {m n : Nat} (h : MkB m) (h1 : n * 5 < m * 3) (h2 : (n + 1) * 5 ≥ m * 3) (h3 : n + 1 < 19600) : ∃ M, SetTable.sizeAbove (SetTable.grown (n + 1)) - 1 = M ∧ MkB M ∧ SetTable.sizeAbove (SetTable.grown (n + 1)) ≤ 32768 ∧ (n + 1) * 5 < M * 3 ∧ Mk M ∧ n + 1 ≤ m := by
  have two : (m = 7 ∧ n = 4) ∨ (m = 31 ∧ n = 18) ∨ (m = 127 ∧ n = 76) ∨ (m = 511 ∧ n = 306) ∨ (m = 2047 ∧ n = 1228) ∨ (m = 8191 ∧ n = 4914) := by
    rcases h with e | e | e | e | e | e | e <;> subst e <;> omega
  rcases two with ⟨rfl, rfl⟩ | ⟨rfl, rfl⟩ | ⟨rfl, rfl⟩ | ⟨rfl, rfl⟩ | ⟨rfl, rfl⟩ | ⟨rfl, rfl⟩
  · exact ⟨31, by decide +kernel, by unfold MkB; omega, by decide +kernel, by omega, ⟨5, by omega, by decide⟩, by omega⟩
  · exact ⟨127, by decide +kernel, by unfold MkB; omega, by decide +kernel, by omega, ⟨7, by omega, by decide⟩, by omega⟩
  · exact ⟨511, by decide +kernel, by unfold MkB; omega, by decide +kernel, by omega, ⟨9, by omega, by decide⟩, by omega⟩
  · exact ⟨2047, by decide +kernel, by unfold MkB; omega, by decide +kernel, by omega, ⟨11, by omega, by decide⟩, by omega⟩
  · exact ⟨8191, by decide +kernel, by unfold MkB; omega, by decide +kernel, by omega, ⟨13, by omega, by decide⟩, by omega⟩
  · exact ⟨32767, by decide +kernel, by unfold MkB; omega, by decide +kernel, by omega, ⟨15, by omega, by decide⟩, by omega⟩
def winB (i : Nat) : Nat := if i + 9 ≤ 32767 then 1023 <<< i else 1 <<< i
def covT : Nat → Nat → Nat
  | 0, n => winB (((5 ^ n - 1) / 4) % 32768)
  | k + 1, n => covT k n ||| covT k (n + 2 ^ k)
def popc : Nat → Nat → Nat
  | 0, x => x % 2
  | k + 1, x => popc k (x % 2 ^ 2 ^ k) + popc k (x / 2 ^ 2 ^ k)
theorem cov_chk : ((List.range 8).all fun a => decide (19661 ≤ popc 15 (covT 12 (4096 * a)))) = true := by decide +kernel
theorem gq_pow : ∀ n, 4 * gq n + 1 = 5 ^ n
  | 0 => rfl
  | n + 1 => by
    have := gq_pow n
    show 4 * (gq n * 5 + 1) + 1 = 5 ^ (n + 1)
    rw [Nat.pow_succ]
    omega
theorem gq_eq (n : Nat) : (5 ^ n - 1) / 4 = gq n := by
  have := gq_pow n
  omega
theorem win_bit {i j : Nat} (h : (winB i).testBit j = true) : i ≤ j ∧ j ≤ SetTable.runEnd 32767 i := by
  unfold winB at h
  unfold SetTable.runEnd
  split at h
  · rename_i c
    rw [if_pos c]
    rw [Nat.testBit_shiftLeft, Bool.and_eq_true, decide_eq_true_eq] at h
    refine ⟨h.1, ?_⟩
    apply Classical.byContradiction
    intro n
    have := Nat.testBit_lt_two_pow (x := 1023) (i := j - i) (Nat.lt_of_lt_of_le (show 1023 < 2 ^ 10 by decide) (Nat.pow_le_pow_right (by decide) (by omega)))
    rw [this] at h
    exact absurd h.2 (by decide)
  · rename_i c
    rw [if_neg c]
    rw [Nat.testBit_shiftLeft, Bool.and_eq_true, decide_eq_true_eq] at h
    refine ⟨h.1, ?_⟩
    apply Classical.byContradiction
    intro n
    have := Nat.testBit_lt_two_pow (x := 1) (i := j - i) (Nat.lt_of_lt_of_le (show 1 < 2 ^ 1 by decide) (Nat.pow_le_pow_right (by decide) (by omega)))
    rw [this] at h
    exact absurd h.2 (by decide)
theorem cov_bit {j : Nat} : ∀ {k n : Nat}, (covT k n).testBit j = true → ∃ d, d < 2 ^ k ∧ (winB (gq (n + d) % 32768)).testBit j = true
  | 0, n, h => ⟨0, by decide, by rw [← gq_eq]; exact h⟩
  | k + 1, n, h => by
    have h : (covT k n ||| covT k (n + 2 ^ k)).testBit j = true := h
    rw [Nat.testBit_or, Bool.or_eq_true] at h
    rcases h with h | h
    · obtain ⟨d, hd, e⟩ := cov_bit h
      exact ⟨d, by rw [Nat.pow_succ]; omega, e⟩
    · obtain ⟨d, hd, e⟩ := cov_bit h
      exact ⟨2 ^ k + d, by rw [Nat.pow_succ]; omega, by rw [← Nat.add_assoc]; exact e⟩
theorem popc_eq : ∀ (k x : Nat), popc k x = ((List.range (2 ^ k)).filter fun j => x.testBit j).length
  | 0, x => by
    show x % 2 = ((List.range 1).filter fun j => x.testBit j).length
    rw [show List.range 1 = [0] from rfl, List.filter_cons, Nat.testBit_zero]
    rcases Nat.mod_two_eq_zero_or_one x with e | e <;> rw [e] <;> rfl
  | k + 1, x => by
    show popc k (x % 2 ^ 2 ^ k) + popc k (x / 2 ^ 2 ^ k) = _
    have e : List.range (2 ^ (k + 1)) = List.range (2 ^ k) ++ (List.range (2 ^ k)).map (2 ^ k + ·) := by
      rw [Nat.pow_succ, Nat.mul_two, List.range_add]
    rw [popc_eq k, popc_eq k, e, List.filter_append, List.length_append, List.filter_map, List.length_map]
    congr 1
    · congr 1
      refine List.filter_congr fun j hj => ?_
      rw [Nat.testBit_mod_two_pow, decide_eq_true (List.mem_range.mp hj), Bool.true_and]
    · congr 1
      refine List.filter_congr fun j hj => ?_
      show (x / 2 ^ 2 ^ k).testBit j = x.testBit (2 ^ k + j)
      rw [Nat.testBit_div_two_pow, Nat.add_comm]
theorem popc_le {k x : Nat} {l : List Nat} (h : ∀ j, x.testBit j = true → j ∈ l) : popc k x ≤ l.length := by
  rw [popc_eq]
  refine List.Nodup.length_le_of_subset (List.Pairwise.filter _ List.nodup_range) fun j hj => h j ?_
  exact (List.mem_filter.mp hj).2
theorem early {l : List Nat} (few : l.length ≤ 19660) (h : Int) : ∃ N, N < 90000 ∧ way 32767 h N ∉ l := by
  apply Classical.byContradiction
  intro all
  have all : ∀ N, N < 90000 → way 32767 h N ∈ l := fun N hN => Classical.byContradiction fun z => all ⟨N, hN, z⟩
  obtain ⟨a, ha, ea⟩ := gq_onto 15 (runI 32767 (SetTable.bits h) 12)
  rw [Nat.mod_eq_of_lt (Nat.lt_of_le_of_lt (runI_le ..) (by decide))] at ea
  -- each run that begins behind the twelfth
  have run : ∀ k, k ≤ 8191 → ∀ j, gq (a + k) % 32768 ≤ j → j ≤ SetTable.runEnd 32767 (gq (a + k) % 32768) → j ∈ l := fun k hk j h1 h2 => by
    obtain ⟨K, hK, e⟩ := run_nth 32767 (SetTable.bits h) (12 + k)
    rw [runI_tail (bits_lt h), ← ea, show (2 : Nat) ^ 15 = 32767 + 1 from rfl, lcg_gq, show 32767 + 1 = 32768 from rfl] at e
    have r := runEnd_bd (m := 32767) (i := gq (a + k) % 32768) (by omega)
    have w := nth_run 32767 (gq (a + k) % 32768) (SetTable.bits h / 32 ^ (12 + k)) (j - gq (a + k) % 32768) (by omega)
    rw [← e, ← nth_add] at w
    have q := all (K + (j - gq (a + k) % 32768)) (by omega)
    have ej : way 32767 h (K + (j - gq (a + k) % 32768)) = j := by
      have := congrArg SetTable.Probe.j w
      have : way 32767 h (K + (j - gq (a + k) % 32768)) = gq (a + k) % 32768 + (j - gq (a + k) % 32768) := this
      omega
    rwa [ej] at q
  have ha : a < 32768 := ha
  obtain ⟨c, hc⟩ : ∃ c, c = (a + 4095) / 4096 := ⟨_, rfl⟩
  have c8 : c % 8 < 8 := Nat.mod_lt _ (by decide)
  have chk := of_decide_eq_true (List.all_eq_true.mp cov_chk (c % 8) (List.mem_range.mpr c8))
  have le : popc 15 (covT 12 (4096 * (c % 8))) ≤ l.length := popc_le fun j hj => by
    obtain ⟨d, hd, e⟩ := cov_bit hj
    have hd : d < 4096 := hd
    obtain ⟨k, hk, e2⟩ : ∃ k, k ≤ 8191 ∧ gq (4096 * (c % 8) + d) % 32768 = gq (a + k) % 32768 := by
      refine ⟨4096 * c + d - a, by omega, ?_⟩
      rw [show a + (4096 * c + d - a) = 4096 * c + d by omega]
      by_cases c9 : c < 8
      · rw [Nat.mod_eq_of_lt c9]
      · obtain rfl : c = 8 := by omega
        have := gq_period 15 d
        rw [show 4096 * (8 % 8) + d = d by omega, show 4096 * 8 + d = 2 ^ 15 + d from rfl]
        exact this.symm
    rw [e2] at e
    obtain ⟨w1, w2⟩ := win_bit e
    exact run k hk j w1 w2
  omega
theorem Tb.soon {t : SetTable} {hs : List Int} (T : Tb t hs) (hb : MkB t.mask) (hl : hs.length ≤ t.mask) (few : hs.length ≤ 19660) (h : Int) : ∃ N, N < 10 * SetTable.turns t.mask ∧ N < 90000 ∧ way t.mask h N ∉ t.place.toList ∧ ∀ c, c < N → way t.mask h c ∈ t.place.toList := by
  obtain ⟨N, h1, h2, h3⟩ := T.free hl h
  refine ⟨N, h1, ?_, h2, h3⟩
  have ht : SetTable.turns t.mask = t.mask + 15 := rfl
  rcases hb with e | e | e | e | e | e | e <;> try omega
  obtain ⟨N', h4, h5⟩ := early (l := t.place.toList) (by rw [Array.length_toList, T.sz]; exact few) h
  rw [← e] at h5
  exact Classical.byContradiction fun z => h5 (h3 N' (by omega))
end Bt
namespace Sg
open PySem PySem.Spec PyProof.Rows L2
theorem cls_item (n : Nat) {v : Value} (h : carriedByValue v = true) : ofAClassStatement n v = pure false := by
  cases v <;> first | (cases h; done) | (cases n <;> rfl)
theorem hash_item (n : Nat) {v : Value} (h : carriedByValue v = true) : ∃ b, hashByValue n v = pure b := by
  cases v <;> first | (cases h; done) | (cases n <;> exact ⟨_, rfl⟩)
section
variable {P : Program} {w : World} {κ : Type} [DecidableEq κ] {knd : KeyKind P w κ} {A : Around} {E : Value → Shared → Prop} {s : Shared}
theorem cls_tup {k : List κ} {b : Addr} {Q : Bool → Shared → Prop} (hk : IsTupleKey knd s.heap k b) (h : Q false s) : wpAny (model P w) A (ofAClassStatement 8 (.ref b)) Q E s := by
  have ty := hk.typeIs
  obtain ⟨o, its, n, ho, _, hd, hi⟩ := hk
  have bv := hi.byValue
  unfold ofAClassStatement
  refine wpAny_bind (wpAny_typeOf ty ?_)
  have e : (("tuple" : String) == "tuple") = true := by decide
  dsimp only
  simp only [e, if_true, Bool.not_true, Bool.false_eq_true, if_false]
  try refine wpAny_bind (wpAny_pure ?_)
  try simp only [Bool.not_true, Bool.false_eq_true, if_false]
  show wpAny _ _ (seqItems? (.ref b) >>= _) _ _ s
  refine wpAny_bind (wpAny_seqItems ho hd ?_)
  dsimp only
  refine wpAny_bind ?_
  show wpAny _ _ (forIn its _ _) _ _ s
  rw [← Array.forIn_toList]
  refine wpAny_forIn_list _ (fun left acc s' => acc.1 = none ∧ s' = s ∧ ∀ v ∈ left, carriedByValue v = true) _ ?_ ?_ _ _ ⟨rfl, rfl, bv⟩
  · rintro v left acc s' ⟨ha, rfl, hv⟩
    rw [cls_item 7 (hv v List.mem_cons_self)]
    refine wpAny_bind (wpAny_pure ?_)
    simp only [Bool.false_eq_true, if_false]
    exact wpAny_pure ⟨rfl, rfl, fun u hu => hv u (List.mem_cons_of_mem _ hu)⟩
  · rintro ⟨a1, a2⟩ s' ⟨ha, rfl, _⟩
    simp only at ha
    subst ha
    exact wpAny_pure h
theorem hash_tup {k : List κ} {b : Addr} {Q : Bool → Shared → Prop} (hk : IsTupleKey knd s.heap k b) (h : ∀ y, Q y s) : wpAny (model P w) A (hashByValue 8 (.ref b)) Q E s := by
  have ty := hk.typeIs
  obtain ⟨o, its, n, ho, _, hd, hi⟩ := hk
  have bv := hi.byValue
  unfold hashByValue
  refine wpAny_bind (wpAny_specialOf ty F.slot_tuple_hash.lookup ?_)
  show wpAny _ _ (seqItems? (.ref b) >>= _) _ _ s
  refine wpAny_bind (wpAny_seqItems ho hd ?_)
  refine wpAny_bind ?_
  show wpAny _ _ (forIn its _ _) _ _ s
  rw [← Array.forIn_toList]
  refine wpAny_forIn_list _ (fun left acc s' => (acc.1 = none ∨ acc.1 = some false) ∧ s' = s ∧ ∀ v ∈ left, carriedByValue v = true) _ ?_ ?_ _ _ ⟨.inl rfl, rfl, bv⟩
  · rintro v left acc s' ⟨ha, rfl, hv⟩
    obtain ⟨y, ey⟩ := hash_item 7 (hv v List.mem_cons_self)
    rw [ey]
    refine wpAny_bind (wpAny_pure ?_)
    cases y with
    | true =>
      simp only [Bool.not_true, Bool.false_eq_true, if_false]
      exact wpAny_pure ⟨.inl rfl, rfl, fun u hu => hv u (List.mem_cons_of_mem _ hu)⟩
    | false =>
      simp only [Bool.not_false, if_true]
      exact wpAny_pure (wpAny_pure (h _))
  · rintro ⟨a1, a2⟩ s' ⟨ha, rfl, _⟩
    simp only at ha
    rcases ha with rfl | rfl
    · exact wpAny_pure (h _)
    · exact wpAny_pure (h _)
theorem look_tup {k : List κ} {b : Addr} {Q : Bool → Shared → Prop} (hk : IsTupleKey knd s.heap k b) {ys : List Value} (hy : ∀ y ∈ ys, ∃ k' c, y = Value.ref c ∧ IsTupleKey knd s.heap k' c) (h : Q false s) : wpAny (model P w) A (searchCouldBeSeen (.ref b) ys) Q E s := by
  unfold searchCouldBeSeen
  refine wpAny_bind ?_
  refine wpAny_forIn_list _ (fun left acc s' => acc.1 = none ∧ s' = s ∧ ∀ y ∈ left, ∃ k' c, y = Value.ref c ∧ IsTupleKey knd s.heap k' c) _ ?_ ?_ _ _ ⟨rfl, rfl, hy⟩
  · rintro v left acc s' ⟨ha, rfl, hv⟩
    obtain ⟨k', c, rfl, hc⟩ := hv v List.mem_cons_self
    have more := fun u hu => hv u (List.mem_cons_of_mem (a := u) _ hu)
    dsimp only
    by_cases z : (b == c || (carriedByValue (.ref b) && carriedByValue (.ref c))) = true
    · exact wp_if_pos z (wpAny_pure ⟨rfl, rfl, more⟩)
    · refine wp_if_neg z (wpAny_bind (wpAny_eqIsQuiet_tuple hk ?_))
      simp only [Bool.not_true, Bool.false_eq_true, if_false]
      refine wpAny_bind (wpAny_eqIsQuiet_tuple hc ?_)
      simp only [Bool.not_true, Bool.false_eq_true, if_false]
      refine wpAny_bind (cls_tup hk ?_)
      simp only [Bool.false_eq_true, if_false]
      refine wpAny_bind (cls_tup hc ?_)
      simp only [Bool.false_eq_true, if_false]
      exact wpAny_pure ⟨rfl, rfl, more⟩
  · rintro ⟨a1, a2⟩ s' ⟨ha, rfl, _⟩
    simp only at ha
    subst ha
    exact wpAny_pure h
end
end Sg
namespace Sg
open PySem PySem.Spec PyProof.Rows L2
section
variable {P : Program} {w : World} {κ : Type} [DecidableEq κ] (knd : KeyKind P w κ)
def ents (L : List (Addr × List κ)) : List (Int × Value) := L.map fun p => (tupleKeyHash knd p.2, Value.ref p.1)
def hashes (L : List (Addr × List κ)) : List Int := L.map fun p => tupleKeyHash knd p.2
structure Hs (h : Heap) (a : Addr) (L : List (Addr × List κ)) (es : Array (Int × Value)) (ep : Nat) (t : SetTable) : Prop where
  ob : ∃ o, h.get? a = some o ∧ o.ExactSet ∧ o.data = .set es ep t
  en : es.toList = ents knd L
  tab : Bt.Tb t (hashes knd L)
  mb : Bt.MkB t.mask
  nd : (L.map (·.2)).Nodup
  tup : ∀ p ∈ L, IsTupleKey knd h p.2 p.1
  led : w.params.followText "set-order" = true ∨ t.led = true
  room : L.length * 5 < t.mask * 3
  few : L.length < 19600
end
section
variable {P : Program} {w : World} {κ : Type} [DecidableEq κ] {knd : KeyKind P w κ} {A : Around} {E : Value → Shared → Prop} {s : Shared} {a : Addr} {L : List (Addr × List κ)} {es : Array (Int × Value)} {ep : Nat} {t : SetTable}
theorem hashes_len : (hashes knd L).length = L.length := List.length_map _
theorem size_of (h : es.toList = ents knd L) : es.size = L.length := by
  have z := congrArg List.length h
  rwa [Array.length_toList, show (ents knd L).length = L.length from List.length_map _] at z
theorem fits_of (T : Bt.Tb t (hashes knd L)) (h : es.toList = ents knd L) (hr : L.length ≤ t.mask) : t.fits es.size = true := by
  have h1 := T.sz
  rw [hashes_len] at h1
  have h2 := size_of h
  unfold SetTable.fits SetTable.fill
  rw [T.dm, Bool.and_eq_true, beq_iff_eq, decide_eq_true_eq]
  show t.place.size = es.size ∧ t.place.size + 0 ≤ t.mask
  omega
theorem Hs.fits {h : Heap} (R : Hs knd h a L es ep t) : t.fits es.size = true := fits_of R.tab R.en (by have := R.room; omega)
theorem Hs.at {h : Heap} (R : Hs knd h a L es ep t) {i : Nat} {p : Addr × List κ} (e : L[i]? = some p) : es[i]? = some (tupleKeyHash knd p.2, Value.ref p.1) := by
  rw [← Array.getElem?_toList, R.en]
  unfold ents
  rw [List.getElem?_map, e]
  rfl
theorem Hs.ix {h : Heap} (R : Hs knd h a L es ep t) {i j : Nat} (e : t.place.toList[i]? = some j) : ∃ p, L[i]? = some p := by
  have h1 : i < t.place.toList.length := (List.getElem?_eq_some_iff.mp e).1
  have h2 := R.tab.sz
  rw [hashes_len] at h2
  rw [Array.length_toList] at h1
  exact ⟨L[i]'(by omega), List.getElem?_eq_getElem _⟩
theorem seek (R : Hs knd s.heap a L es ep t) {x : Addr} {k : List κ} (hx : IsTupleKey knd s.heap k x) (hu : A.units < cLine) {N : Nat} (hN : N < 10 * SetTable.turns t.mask) (hv : Int) (ehv : hv = tupleKeyHash knd k)
    (free : way t.mask hv N ∉ t.place.toList) (busy : ∀ c, c < N → way t.mask hv c ∈ t.place.toList) {Q : SetFound → Shared → Prop} (yes : k ∈ L.map (·.2) → Q (.there none) s) (no : k ∉ L.map (·.2) → Q (.free (way t.mask hv N) false) s) :
    ∀ (f c : Nat) (st : Option SetTable.Probe), st.getD (t.probeStart hv) = nth t.mask (runAt t.mask (SetTable.bits hv % (t.mask + 1)) (SetTable.bits hv)) c → c ≤ N → N - c < f →
      (∀ (i : Nat) p, L[i]? = some p → p.2 = k → ∃ c', c ≤ c' ∧ c' < N ∧ t.place.toList[i]? = some (way t.mask hv c')) → wpAny (model P w) A (setSearchFrom a (.ref x) hv true f st) Q E s
  | 0, _, _, _, _, z, _ => absurd z (Nat.not_lt_zero _)
  | f + 1, c, st, est, hc, hf, ahead => by
    obtain ⟨o, ho, hex, hd⟩ := R.ob
    rw [setSearchFrom_succ]
    refine wpAny_bind (wpAny_setState_of ho hd R.fits ?_)
    dsimp only
    refine wp_if_neg (by
      unfold SetTable.gaveWay
      rw [R.tab.msk.odd]
      decide) ?_
    try refine wpAny_bind (wpAny_pure ?_)
    generalize hr0 : runAt t.mask (SetTable.bits hv % (t.mask + 1)) (SetTable.bits hv) = r0 at est
    have dum : ∀ (n : Nat) (p : SetTable.Probe), p.dummy = none → (nth t.mask p n).dummy = none := by
      intro n
      induction n with
      | zero => exact fun p h => h
      | succ n ih =>
        intro p h
        refine ih (adv t.mask p) ?_
        unfold adv
        split <;> exact h
    have wy : ∀ m, way t.mask hv m = (nth t.mask r0 m).j := fun m => by rw [← hr0]
    have sh : ∀ m, nth t.mask (nth t.mask r0 c) m = nth t.mask r0 (c + m) := fun m => (nth_add t.mask c r0 m).symm
    have hj : ∀ m, (nth t.mask (nth t.mask r0 c) m).j = way t.mask hv (c + m) := fun m => by rw [sh, wy]
    have spec := go_spec t R.tab.ris R.tab.dm (fun i => (es[i]?.map (·.1)).getD 0) hv (10 * SetTable.turns t.mask) (N - c) (nth t.mask r0 c) (dum c r0 (by rw [← hr0]; rfl)) (by omega)
      (fun m hm => by rw [hj]; exact busy (c + m) (by omega)) (by rw [hj, show c + (N - c) = N by omega]; exact free)
    have ha : ∀ (i : Nat) p, L[i]? = some p → (fun i => (es[i]?.map (·.1)).getD 0) i = tupleKeyHash knd p.2 := fun i p e => by
      show (es[i]?.map (·.1)).getD 0 = _
      rw [R.at e]
      rfl
    rcases spec with ⟨m, i, hm, hi, hh, none', pr⟩ | ⟨none', pr⟩
    · have pr' : t.probe (fun i => (es[i]?.map (·.1)).getD 0) hv (st.getD (t.probeStart hv)) = some (.candidate (way t.mask hv (c + m)) i (nth t.mask r0 (c + (m + 1)))) := by
        rw [est, ← hj, ← sh]
        exact pr
      rw [pr']
      dsimp only
      rw [hj] at hi
      obtain ⟨p, hp⟩ := R.ix hi
      have hmem := List.mem_of_getElem? hp
      have go : wpAny (model P w) A (searchRest a (.ref x) hv true f es t (way t.mask hv (c + m)) i (nth t.mask r0 (c + (m + 1)))) Q E s := by
        unfold searchRest
        rw [R.at hp]
        dsimp only
        refine wpAny_bind (wpAny_holding (wpAny_eqBool_tuple hu (R.tup p hmem) hx ?_))
        refine wpAny_bind (wpAny_setState_of ho hd R.fits ?_)
        dsimp only
        by_cases hk : p.2 = k
        · exact wp_if_pos (by simp [hk]) (wpAny_pure (yes (List.mem_map.mpr ⟨p, hmem, hk⟩)))
        · refine wp_if_neg (by simp [hk]) ?_
          try refine wpAny_bind (wpAny_pure ?_)
          rw [sameMem]
          dsimp only
          have live : t.slot (way t.mask hv (c + m)) = .live i := slot_live R.tab.ris hi
          simp only [if_true, live, R.at hp]
          refine wpAny_bind (wpAny_isSame_ref_self (wpAny_bind (wpAny_pure ?_)))
          simp only [if_true]
          refine wp_if_neg (by simp [hk]) ?_
          refine seek R hx hu hN hv ehv free busy yes no f (c + (m + 1)) _ (by rw [hr0]; rfl) (by omega) (by omega) fun i0 p0 h0 hk0 => ?_
          obtain ⟨c', b1, b2, b3⟩ := ahead i0 p0 h0 hk0
          refine ⟨c', ?_, b2, b3⟩
          by_cases lt : c' < c + m
          · exact absurd ((ha i0 p0 h0).trans (by rw [hk0, ehv])) (none' (c' - c) i0 (by omega) (by rw [hj, show c + (c' - c) = c' by omega]; exact b3))
          · by_cases eq : c' = c + m
            · subst eq
              have s0 := slot_live R.tab.ris b3
              rw [live] at s0
              injection s0 with s0
              rw [← s0, hp] at h0
              exact absurd ((congrArg Prod.snd (Option.some.inj h0)).trans hk0) hk
            · omega
      by_cases hl : t.led = true
      · refine wp_if_neg (by simp [hl]) ?_
        try refine wpAny_bind (wpAny_pure ?_)
        exact go
      · refine wp_if_pos (by simp [hl]) (wpAny_bind (look_tup hx (fun y hy => ?_) ?_))
        · obtain ⟨e, he, ee⟩ := List.mem_map.mp hy
          have he1 : e ∈ es ∧ e.1 = hv := by simpa using he
          have he2 : e ∈ es.toList := by simpa using he1.1
          rw [R.en] at he2
          obtain ⟨p2, hp2, e2⟩ := List.mem_map.mp he2
          exact ⟨p2.2, p2.1, by rw [← ee, ← e2], R.tup p2 hp2⟩
        · refine wp_if_neg (by decide) ?_
          try refine wpAny_bind (wpAny_pure ?_)
          exact go
    · have pr' : t.probe (fun i => (es[i]?.map (·.1)).getD 0) hv (st.getD (t.probeStart hv)) = some (.empty (way t.mask hv N) none) := by
        rw [est, show way t.mask hv N = (nth t.mask (nth t.mask r0 c) (N - c)).j by rw [hj, show c + (N - c) = N by omega]]
        exact pr
      rw [pr']
      dsimp only
      refine wpAny_pure (no fun hin => ?_)
      obtain ⟨p0, h0, hk0⟩ := List.mem_map.mp hin
      obtain ⟨i0, hi0, e0⟩ := List.getElem_of_mem h0
      have h00 : L[i0]? = some p0 := by rw [List.getElem?_eq_getElem hi0, e0]
      obtain ⟨c', b1, b2, b3⟩ := ahead i0 p0 h00 hk0
      exact absurd ((ha i0 p0 h00).trans (by rw [hk0, ehv])) (none' (c' - c) i0 (by omega) (by rw [hj, show c + (c' - c) = c' by omega]; exact b3))
theorem seek0 (R : Hs knd s.heap a L es ep t) {x : Addr} {k : List κ} (hx : IsTupleKey knd s.heap k x) (hu : A.units < cLine) {Q : SetFound → Shared → Prop} (yes : k ∈ L.map (·.2) → Q (.there none) s)
    (no : ∀ N, k ∉ L.map (·.2) → way t.mask (tupleKeyHash knd k) N ∉ t.place.toList → (∀ c, c < N → way t.mask (tupleKeyHash knd k) c ∈ t.place.toList) → Q (.free (way t.mask (tupleKeyHash knd k) N) false) s) :
    wpAny (model P w) A (setSearch a (.ref x) (tupleKeyHash knd k) true) Q E s := by
  have hroom := R.room
  have hfew := R.few
  obtain ⟨N, hN, big, free, busy⟩ := R.tab.soon R.mb (by rw [hashes_len]; omega) (by rw [hashes_len]; omega) (tupleKeyHash knd k)
  unfold setSearch
  refine seek R hx hu hN _ rfl free busy yes (fun hn => no N hn free busy) 100000 0 none rfl (Nat.zero_le _) (by omega) fun i p hp hk => ?_
  have hsz := R.tab.sz
  rw [hashes_len] at hsz
  have hil : i < t.place.toList.length := by
    have := (List.getElem?_eq_some_iff.mp hp).1
    rw [Array.length_toList]
    omega
  obtain ⟨c, hc, e⟩ := R.tab.ahead free (i := i) (by unfold hashes; rw [List.getElem?_map, hp, ← hk]; rfl) (List.getElem?_eq_getElem hil)
  exact ⟨c, Nat.zero_le _, hc, by rw [List.getElem?_eq_getElem hil, e]⟩
end
end Sg
namespace Sg
open PySem PySem.Spec PyProof.Rows L2
section
variable {P : Program} {w : World} {κ : Type} [DecidableEq κ] {knd : KeyKind P w κ} {A : Around} {E : Value → Shared → Prop} {s : Shared} {a : Addr} {L : List (Addr × List κ)} {es : Array (Int × Value)} {ep : Nat} {t : SetTable}
theorem tup_but {h h' : Heap} {k : List κ} {b : Addr} {o : Obj} (hb : IsTupleKey knd h k b) (ho : h.get? a = some o) (hd : o.data = .set es ep t) (hs : Heap.SameBut a h h') : IsTupleKey knd h' k b := by
  obtain ⟨u, its, n, hu, hc, hdu, hi⟩ := hb
  refine ⟨u, its, n, (hs.2 b fun z => ?_).trans hu, hc, hdu, hi⟩
  subst z
  cases Option.some.inj (hu.symm.trans ho)
  rw [hd] at hdu
  cases hdu
theorem tup_stay {h h' : Heap} {k : List κ} {b : Addr} (x : IsTupleKey knd h k b) (hk : ∀ c o, h.get? c = some o → h'.get? c = some o) : IsTupleKey knd h' k b := by
  obtain ⟨o, its, n, ho, r⟩ := x
  exact ⟨o, its, n, hk b o ho, r⟩
theorem put_in {α : Type} (l : List α) (p : Nat) (x : α) : (l.take p ++ x :: l.drop p).Perm (x :: l) := by
  have z : (l.take p ++ x :: l.drop p).Perm (x :: (l.take p ++ l.drop p)) := List.perm_middle
  rwa [List.take_append_drop] at z
theorem picked {α : Type} (l : List α) : ∀ ord : List Nat, ord.Perm (List.range l.length) → (ord.filterMap fun i => l[i]?).Perm l := by
  intro ord hp
  refine (hp.filterMap fun i => l[i]?).trans ?_
  have all : ∀ n, n ≤ l.length → (List.range n).filterMap (fun i => l[i]?) = l.take n := by
    intro n
    induction n with
    | zero => exact fun _ => rfl
    | succ n ih =>
      intro hn
      rw [List.range_succ, List.filterMap_append, ih (Nat.le_of_succ_le hn), List.take_add_one]
      simp [List.getElem?_eq_getElem hn]
  rw [all _ (Nat.le_refl _), List.take_length]
theorem ents_pick (h : es.toList = ents knd L) (ord : Array Nat) (hp : ord.toList.Perm (List.range L.length)) :
    (ord.filterMap (es[·]?)).toList = ents knd (ord.toList.filterMap fun i => L[i]?) ∧ hashes knd (ord.toList.filterMap fun i => L[i]?) = ord.toList.map fun i => (es.map (·.1)).getD i 0 := by
  have key : ∀ l : List Nat, (∀ i ∈ l, i < L.length) → l.filterMap (fun i => es[i]?) = ents knd (l.filterMap fun i => L[i]?) ∧ hashes knd (l.filterMap fun i => L[i]?) = l.map fun i => (es.map (·.1)).getD i 0 := by
    intro l
    induction l with
    | nil => exact fun _ => ⟨rfl, rfl⟩
    | cons i l ih =>
      intro hl
      have hi := hl i List.mem_cons_self
      obtain ⟨e1, e2⟩ := ih fun j hj => hl j (List.mem_cons_of_mem _ hj)
      have ee : es[i]? = some (tupleKeyHash knd (L[i]).2, Value.ref (L[i]).1) := by
        rw [← Array.getElem?_toList, h]
        unfold ents
        rw [List.getElem?_map, List.getElem?_eq_getElem hi]
        rfl
      have eL : L[i]? = some L[i] := List.getElem?_eq_getElem hi
      rw [List.filterMap_cons_some ee, List.filterMap_cons_some eL]
      refine ⟨?_, ?_⟩
      · rw [e1]
        rfl
      · show tupleKeyHash knd (L[i]).2 :: hashes knd _ = _ :: _
        rw [e2]
        congr 1
        have e5 : (es.map (·.1))[i]? = some (tupleKeyHash knd (L[i]).2) := by
          rw [Array.getElem?_map, ee]
          rfl
        simp [Array.getD_eq_getD_getElem?, e5]
  obtain ⟨e1, e2⟩ := key ord.toList fun i hi => List.mem_range.mp (hp.mem_iff.mp hi)
  exact ⟨by first | (rw [Array.toList_filterMap]; exact e1) | simpa using e1, e2⟩
theorem relay {o : Obj} (ho : s.heap.get? a = some o) (hex : o.ExactSet) (hd : o.data = .set es ep t) (en : es.toList = ents knd L) (T0 : Bt.Tb t (hashes knd L)) (hr : L.length ≤ t.mask) (nd : (L.map (·.2)).Nodup) (tup : ∀ p ∈ L, IsTupleKey knd s.heap p.2 p.1)
    (ld : w.params.followText "set-order" = true ∨ t.led = true) (few : L.length < 19600) {wanted M : Nat} (hw : SetTable.sizeAbove wanted - 1 = M) (hM : Bt.Mk M) (hb : Bt.MkB M) (hw2 : SetTable.sizeAbove wanted ≤ 32768) (hn : L.length * 5 < M * 3) {Q : Unit → Shared → Prop}
    (hQ : ∀ h' L' es' ep' t', Heap.SameBut a s.heap h' → Hs knd h' a L' es' ep' t' → L'.Perm L → Q () { s with heap := h' }) : wpAny (model P w) A (setRelay a wanted) Q E s := by
  have hsl := size_of en
  obtain ⟨t', ord, e, hp, T, em, el⟩ := Bt.anew t (a := es.map (·.1)) (wanted := wanted) hw hM (by rw [Array.size_map, hsl]; omega)
  rw [Array.size_map, hsl] at hp
  obtain ⟨r1, r2⟩ := ents_pick en ord hp
  have pm := picked L ord.toList hp
  rw [← r2] at T
  have hs2 : (ord.filterMap (es[·]?)).size = es.size := by
    rw [size_of r1, pm.length_eq, hsl]
  rw [setRelay_eq]
  refine wpAny_bind (wpAny_setState_of ho hd (fits_of T0 en hr) ?_)
  dsimp only
  refine wp_if_neg (by rw [sizeLine_eq]; omega) ?_
  try refine wpAny_bind (wpAny_pure ?_)
  rw [e]
  dsimp only
  refine wpAny_bind (wp_if_neg (by rw [hs2]; simp) ?_)
  try refine wpAny_bind (wpAny_pure ?_)
  refine wpAny_pure ?_
  dsimp only
  refine wpAny_storeSet_of ho hd ?_ (by rw [hs2, hsl, sizeLine_eq]; omega)
  have sb : Heap.SameBut a s.heap (s.heap.update a (Obj.putSet (ord.filterMap (es[·]?)) t')) := Heap.SameBut.update ..
  exact hQ _ _ _ (ep + 1) t' sb ⟨⟨_, store_at ho hd, ⟨hex.1, hex.2.1, hex.2.2⟩, rfl⟩, r1, T, by rw [em]; exact hb, (pm.map (·.2)).nodup_iff.mpr nd, fun p hpm => tup_but (tup p (pm.mem_iff.mp hpm)) ho hd sb, by rw [el]; exact ld, by rw [pm.length_eq, em]; exact hn, by rw [pm.length_eq]; exact few⟩ pm
theorem put (R : Hs knd s.heap a L es ep t) {x : Addr} {k : List κ} (hx : IsTupleKey knd s.heap k x) (hu : A.units < cLine) (hfew : L.length + 1 < 19600) {Q : Bool → Shared → Prop}
    (hQ : ∀ b h' L' es' ep' t', Heap.SameBut a s.heap h' → Hs knd h' a L' es' ep' t' → (k ∈ L.map (·.2) → L' = L) → (k ∉ L.map (·.2) → L'.Perm ((x, k) :: L)) → Q b { s with heap := h' }) : wpAny (model P w) A (setAddHashed a (.ref x) (tupleKeyHash knd k)) Q E s := by
  obtain ⟨o, ho, hex, hd⟩ := R.ob
  have hsl := size_of R.en
  have hroom := R.room
  unfold setAddHashed
  refine wpAny_holding ?_
  rw [show (100000 : Nat) = 99999 + 1 from rfl, setAddHashedIn_succ]
  refine wpAny_bind (wpAny_setState_of ho hd R.fits ?_)
  dsimp only
  refine wp_if_neg (by simp [byScan, Value.scannable]) ?_
  try refine wpAny_bind (wpAny_pure ?_)
  refine wpAny_bind (seek0 R hx hu (fun hm => ?_) fun N hm free busy => ?_)
  · exact wpAny_pure (hQ false s.heap L es ep t (Heap.SameBut.refl a s.heap) R (fun _ => rfl) fun z => absurd hm z)
  · dsimp only
    refine wpAny_bind (wpAny_setState_of ho hd R.fits ?_)
    dsimp only
    obtain ⟨p0, q1, q2, q3, q4, q5, q9⟩ := R.tab.put free busy
    generalize hpt : t.put (way t.mask (tupleKeyHash knd k) N) = pt at q1 q3 q4 q5 q9 ⊢
    obtain ⟨t1, p⟩ := pt
    dsimp only at q1 q3 q4 q5 q9 ⊢
    subst q1
    have hin : (SetTable.insertAt es p (tupleKeyHash knd k, Value.ref x)).toList = ents knd (L.take p ++ (x, k) :: L.drop p) := by
      rw [SetTable.toList_insertAt, R.en]
      unfold ents
      rw [List.map_append, List.map_cons, List.map_take, List.map_drop]
    have pm := put_in L p (x, k)
    have hh : (hashes knd L).take p ++ tupleKeyHash knd k :: (hashes knd L).drop p = hashes knd (L.take p ++ (x, k) :: L.drop p) := by
      unfold hashes
      rw [List.map_append, List.map_cons, List.map_take, List.map_drop]
    rw [hh] at q3
    have nd1 : ((L.take p ++ (x, k) :: L.drop p).map (·.2)).Nodup := by
      refine (pm.map (·.2)).nodup_iff.mpr ?_
      rw [List.map_cons]
      exact List.nodup_cons.mpr ⟨hm, R.nd⟩
    have hlen : (L.take p ++ (x, k) :: L.drop p).length = L.length + 1 := pm.length_eq
    generalize L.take p ++ (x, k) :: L.drop p = L1 at pm hlen q3 nd1 hin
    generalize SetTable.insertAt es p (tupleKeyHash knd k, Value.ref x) = es1 at hin ⊢
    have hes := size_of hin
    -- behind the look at its hash: the table is t1, but for its mark
    have tail : ∀ t2 : SetTable, Bt.Tb t2 (hashes knd L1) → t2.mask = t.mask → t2.led = t.led → t2.fill = (hashes knd L).length + 1 →
        wpAny (model P w) A (do
          storeSet a es1 t2
          if !false && t2.tooFull then setRelay a (SetTable.grown (es.size + 1))
          return true) Q E s := fun t2 T2 m2 l2 f2 => by
      refine wpAny_bind (wpAny_storeSet_of ho hd ?_ (by rw [hes, hlen, sizeLine_eq]; omega))
      have sb : Heap.SameBut a s.heap (s.heap.update a (Obj.putSet es1 t2)) := Heap.SameBut.update ..
      have ho1 := store_at (es' := es1) (t' := t2) ho hd
      generalize s.heap.update a (Obj.putSet es1 t2) = h1 at sb ho1 ⊢
      have tup1 : ∀ p ∈ L1, IsTupleKey knd h1 p.2 p.1 := fun p hp => by
        rcases List.mem_cons.mp (pm.mem_iff.mp hp) with e | hp
        · rw [e]
          exact tup_but hx ho hd sb
        · exact tup_but (R.tup p hp) ho hd sb
      have ld1 : w.params.followText "set-order" = true ∨ t2.led = true := by
        rw [l2]
        exact R.led
      by_cases hf : t2.tooFull = true
      · first
          | (refine wpAny_bind ?_; refine wp_if_pos (by simp [hf]) ?_)
          | (refine wp_if_pos (by simp [hf]) ?_; refine wpAny_bind ?_)
        have full : (L.length + 1) * 5 ≥ t2.mask * 3 := by
          have z := hf
          unfold SetTable.tooFull at z
          rw [decide_eq_true_eq, f2, hashes_len] at z
          exact z
        rw [hsl]
        obtain ⟨M, g1, gb, g3, g4, gm, g5⟩ := Bt.grows R.mb hroom (by rw [← m2]; exact full) hfew
        exact relay (s := { s with heap := h1 }) ho1 ⟨hex.1, hex.2.1, hex.2.2⟩ rfl hin T2 (by rw [hlen, m2]; omega) nd1 tup1 ld1 (by rw [hlen]; exact hfew) g1 gm gb g3 (by rw [hlen]; exact g4)
            fun h2 L2 es2 ep2 t2 sb2 R2 pm2 => wpAny_pure (hQ true h2 L2 es2 ep2 t2 (sb.trans sb2) R2 (fun z => absurd z hm) fun _ => pm2.trans pm)
      · first
          | refine wp_if_neg (by simp [hf]) ?_
          | (refine wpAny_bind ?_; refine wp_if_neg (by simp [hf]) ?_; refine wpAny_pure ?_)
        refine wpAny_pure (hQ true h1 L1 es1 (ep + 1) t2 sb ⟨⟨_, ho1, ⟨hex.1, hex.2.1, hex.2.2⟩, rfl⟩, hin, T2, by rw [m2]; exact R.mb, nd1, tup1, ld1, ?_, by rw [hlen]; exact hfew⟩ (fun z => absurd z hm) fun _ => pm)
        have z := hf
        unfold SetTable.tooFull at z
        rw [decide_eq_true_eq, f2, hashes_len] at z
        rw [hlen]
        omega
    have both : ∀ y : Bool, wpAny (model P w) A (do
        storeSet a es1 (if y = true then t1 else { t1 with plain := false })
        if !false && (if y = true then t1 else { t1 with plain := false }).tooFull then setRelay a (SetTable.grown (es.size + 1))
        return true) Q E s := fun y => by
      cases y with
      | true => exact tail t1 q3 q4 q5 q9
      | false => exact tail { t1 with plain := false } (q3.mark false) q4 q5 q9
    by_cases hp1 : t1.plain = true
    · first
        | (refine wpAny_bind ?_; refine wp_if_pos hp1 ?_; refine hash_tup hx ?_)
        | refine wp_if_pos hp1 (wpAny_bind (hash_tup hx ?_))
      exact fun y => both y
    · first
        | (refine wpAny_bind ?_; refine wp_if_neg hp1 ?_; refine wpAny_pure ?_)
        | refine wp_if_neg hp1 (wpAny_bind (wpAny_pure ?_))
      exact both true
end
end Sg
namespace Sg
open PySem PySem.Spec PyProof.Rows L2
structure Brought {κ : Type} (ks : List (Addr × List κ)) (i : Nat) (L : List (Addr × List κ)) : Prop where
  of : ∀ p ∈ L, p ∈ ks.take i
  all : ∀ p ∈ ks.take i, p.2 ∈ L.map (·.2)
  len : L.length ≤ i
theorem Brought.again {κ : Type} {ks L : List (Addr × List κ)} {i : Nat} {x : Addr × List κ} (g : Brought ks i L) (e : ks[i]? = some x) (hm : x.2 ∈ L.map (·.2)) : Brought ks (i + 1) L := by
  have ht : ks.take (i + 1) = ks.take i ++ [x] := by
    rw [List.take_add_one, e]
    rfl
  refine ⟨fun p hp => by rw [ht]; exact List.mem_append_left _ (g.of p hp), fun p hp => ?_, Nat.le_succ_of_le g.len⟩
  rw [ht] at hp
  rcases List.mem_append.mp hp with z | z
  · exact g.all p z
  · rw [List.mem_singleton.mp z]
    exact hm
theorem Brought.more {κ : Type} {ks L L' : List (Addr × List κ)} {i : Nat} {x : Addr × List κ} (g : Brought ks i L) (e : ks[i]? = some x) (pm : L'.Perm (x :: L)) : Brought ks (i + 1) L' := by
  have ht : ks.take (i + 1) = ks.take i ++ [x] := by
    rw [List.take_add_one, e]
    rfl
  refine ⟨fun p hp => ?_, fun p hp => ?_, by rw [pm.length_eq, List.length_cons]; exact Nat.succ_le_succ g.len⟩
  · rw [ht]
    rcases List.mem_cons.mp (pm.mem_iff.mp hp) with z | z
    · rw [z]
      exact List.mem_append_right _ (List.mem_singleton.mpr rfl)
    · exact List.mem_append_left _ (g.of p z)
  · rw [(pm.map (·.2)).mem_iff, List.map_cons]
    rw [ht] at hp
    rcases List.mem_append.mp hp with z | z
    · exact List.mem_cons_of_mem _ (g.all p z)
    · rw [List.mem_singleton.mp z]
      exact List.mem_cons_self
section
variable {P : Program} {w : World} {κ : Type} [DecidableEq κ] {knd : KeyKind P w κ} {A : Around} {E : Value → Shared → Prop} {s : Shared}
abbrev nset (w : World) : Obj := { cls := .type "set", dict := none, data := .set #[] 0 (.fresh 0 0 (!w.params.followText "set-order")) }
theorem hs_new {h : Heap} {a : Addr} (ho : h.get? a = some (nset w)) : Hs knd h a [] #[] 0 (.fresh 0 0 (!w.params.followText "set-order")) where
  ob := ⟨_, ho, ⟨rfl, rfl, rfl⟩, rfl⟩
  en := rfl
  tab := ⟨List.Pairwise.nil, rfl, rfl, ⟨3, Nat.le_refl _, rfl⟩, fun x hx => (by cases hx), fun i h j hi => (by simp [hashes] at hi)⟩
  mb := .inl rfl
  nd := List.nodup_nil
  tup := fun p hp => (by cases hp)
  led := by
    show _ ∨ (!w.params.followText "set-order") = true
    cases w.params.followText "set-order"
    · exact .inr rfl
    · exact .inl rfl
  room := show 0 * 5 < 7 * 3 by decide
  few := show 0 < 19600 by decide
theorem Hs.stay {h h' : Heap} {a : Addr} {L : List (Addr × List κ)} {es : Array (Int × Value)} {ep : Nat} {t : SetTable} (R : Hs knd h a L es ep t) (ha : ∀ o, h.get? a = some o → h'.get? a = some o) (ht : ∀ p ∈ L, IsTupleKey knd h' p.2 p.1) : Hs knd h' a L es ep t := by
  obtain ⟨o, ho, r⟩ := R.ob
  exact ⟨⟨o, ha o ho, r⟩, R.en, R.tab, R.mb, R.nd, ht, R.led, R.room, R.few⟩
theorem fill {I : Addr} {fp wr : List Addr} {G : Array GenState → Array GenState → Prop} {n : Nat} {Pv : Nat → Value → Prop} {St : Nat → Shared → Prop} {R : Result → Shared → Prop} (W : WalksS P w A.in1 I fp wr G n Pv St) (S : Addr) (hSf : S ∉ fp) (ks : List (Addr × List κ))
    (hn : n = ks.length) (hfew : ks.length < 19600) (hval : ∀ i v, Pv i v → ∃ p, ks[i]? = some p ∧ v = .ref p.1) (h0 : Heap) (hk : ∀ p ∈ ks, IsTupleKey knd h0 p.2 p.1) (hS0 : h0.get? S = none) (hw0 : ∀ b ∈ wr, h0.get? b = none) (hu : A.in1.units < cLine) :
    ∀ (left i : Nat) (s : Shared), n - i = left → i ≤ n → St i s → (∀ b o, h0.get? b = some o → s.heap.get? b = some o) → (∃ L es ep t, Hs knd s.heap S L es ep t ∧ Brought ks i L) →
      (∀ s' L es ep t, Moved (S :: wr) G s s' → Hs knd s'.heap S L es ep t → Brought ks n L → (∀ b o, h0.get? b = some o → s'.heap.get? b = some o) → R (.ok (.ret .none)) s') → codeAny (model P w) A (.builtin "set.update.loop" ⟨[.ref S, .ref I], []⟩) R s := by
  have hSw : S ∉ wr := fun z => hSf (W.sub _ z)
  have wide : ∀ b ∈ wr, b ∈ S :: wr := fun b hb => List.mem_cons_of_mem _ hb
  have kept : ∀ {s s' : Shared}, Moved wr G s s' → (∀ b o, h0.get? b = some o → s.heap.get? b = some o) → ∀ b o, h0.get? b = some o → s'.heap.get? b = some o := fun hm kp b o e => hm.heap b o (fun hb => by rw [hw0 b hb] at e; cases e) (kp b o e)
  intro left
  induction left with
  | zero =>
    intro i s hl hi hst kp ⟨L, es, ep, t, hS, g⟩ hR
    obtain rfl : i = n := by omega
    refine codeAny_builtin F.entry_set_update_loop ?_
    rw [Around.under_plainId F.plain_set_update_loop _]
    show wpAny _ A.in1 (pyNext (.ref I) >>= _) _ _ s
    refine wpAny_bind (W.done s _ _ hst fun s' hm => ?_)
    show wpAny _ A.in1 (ret Value.none) _ _ s'
    have kp' := kept hm kp
    exact wpAny_pure (hR s' L es ep t (hm.mono wide) (hS.stay (fun o e => hm.heap S o hSw e) fun p hp => tup_stay (hk p (List.mem_of_mem_take (g.of p hp))) kp') g kp')
  | succ left ih =>
    intro i s hl hi hst kp ⟨L, es, ep, t, hS, g⟩ hR
    have lt : i < n := by omega
    refine codeAny_builtin F.entry_set_update_loop ?_
    rw [Around.under_plainId F.plain_set_update_loop _]
    show wpAny _ A.in1 (pyNext (.ref I) >>= _) _ _ s
    refine wpAny_bind (W.item i s _ _ lt hst fun v s' hP hst' hm => ?_)
    obtain ⟨p, hp, rfl⟩ := hval i v hP
    have kp' := kept hm kp
    have hS' : Hs knd s'.heap S L es ep t := hS.stay (fun o e => hm.heap S o hSw e) fun q hq => tup_stay (hk q (List.mem_of_mem_take (g.of q hq))) kp'
    have hx := tup_stay (hk p (List.mem_of_getElem? hp)) kp'
    show wpAny _ A.in1 (holding [Value.ref p.1] (setAdd S (.ref p.1)) >>= _) _ _ s'
    refine wpAny_bind (wpAny_holding ?_)
    unfold setAdd
    refine wpAny_holding (wpAny_bind (wpAny_pyHash_tuple hu hx ?_))
    refine put (s := { s' with toks := s'.toks + (p.2.length + 1) }) hS' hx hu (by have := g.len; omega) fun b h' L' es' ep' t' hsb hS2 c1 c2 => ?_
    have g' : Brought ks (i + 1) L' := by
      by_cases c : p.2 ∈ L.map (·.2)
      · rw [c1 c]
        exact g.again hp c
      · exact g.more hp (c2 c)
    have kp2 : ∀ b o, h0.get? b = some o → h'.get? b = some o := fun b o e => (hsb.2 b (fun z => by rw [z, hS0] at e; cases e)).trans (kp' b o e)
    refine wpAny_pure ⟨plainId_quiet F.plain_set_update_loop _, ih (i + 1) _ (by omega) lt (W.frame _ s' _ _ hst' (Nat.le_add_right _ _) fun b hb o e => ?_) kp2 ⟨L', es', ep', t', hS2, g'⟩ fun s2 L2 es2 ep2 t2 hm2 hS3 g3 kp3 => ?_⟩
    · rw [hsb.2 b (fun z : b = S => hSf (by rw [← z]; exact hb))]
      exact e
    · refine hR s2 L2 es2 ep2 t2 (Moved.trans W.gtrans ((hm.mono wide).then_heap (Nat.le_add_right _ _) fun b o hb e => ?_) hm2) hS3 g3 kp3
      rw [hsb.2 b (fun z : b = S => hb (by rw [z]; exact List.mem_cons_self))]
      exact e
set_option maxHeartbeats 3200000 in
theorem set_of_list {l : Addr} {items : Array Value} (ks : List (Addr × List κ)) {Q : Value → Shared → Prop} (hh : A.handled = none) (hl : s.heap.IsList l items) (hit : items.toList = ks.map fun p => Value.ref p.1) (hk : ∀ p ∈ ks, IsTupleKey knd s.heap p.2 p.1) (hfew : ks.length < 19600) (hu : A.units + 3 < cLine)
    (h : ∀ (h' : Heap) (tk : Nat) L es ep t, Hs knd h' s.heap.objs.size L es ep t → Brought ks ks.length L → (∀ b o, s.heap.get? b = some o → h'.get? b = some o) → Q (.ref s.heap.objs.size) { s with heap := h', toks := tk }) : wpAny (model P w) A (call (.type "set") [.ref l]) Q E s := by
  have isz : items.size = ks.length := by
    have z := congrArg List.length hit
    rwa [Array.length_toList, List.length_map] at z
  obtain ⟨c, tl, hmro⟩ := F.called_set.mro
  have m1 := F.called_set.made
  have m2 := F.called_set.sub
  refine wpAny_call (codeAny_of_tree ?_)
  show wpAny _ _ (callAny (.type "set") _) _ _ _
  refine wpAny_pure ⟨Code.quiet_builtin _ (by decide +kernel), codeAny_builtin F.entry_type_call ?_⟩
  rw [Around.under_plain (weight_type_call_type "set" [.ref l] []) rfl]
  have m3 := F.called_set.notType
  have m4 := F.called_set.canCreate
  have m5 := F.typeCall_set_1 (.ref l)
  repeat (any_goals (first
    | assumption
    | wp_step))
  refine codeAny_mono (code_set_led1 (.ref l) (E := E) (Q₁ := fun ob s₁ => ob = .ref s.heap.objs.size ∧ s₁ = { s with heap := s.heap.push (nset w) }) ⟨rfl, rfl⟩) fun r s₁ hr => ?_
  cases r with
  | error e => exact hr
  | ok fl =>
    cases fl with
    | ret ob =>
      obtain ⟨rfl, rfl⟩ := hr
      have hS : (s.heap.push (nset w)).get? s.heap.objs.size = some (nset w) := Heap.get?_push_size _ rfl
      have hT : Shared.TypeIs { s with heap := s.heap.push (nset w) } (.ref s.heap.objs.size) "set" := ⟨_, hS, rfl⟩
      have i1 := F.called_set.init.lookup
      have i2 := F.called_set.init.bind (.ref s.heap.objs.size)
      repeat (any_goals (first
        | assumption
        | wp_step))
      refine codeAny_mono (codeAny_call_builtin (R := wants (fun r s₂ => r = .none ∧ ∃ h' tk L es ep t, s₂ = { s with heap := h', toks := tk } ∧ Hs knd h' s.heap.objs.size L es ep t ∧ Brought ks ks.length L ∧ ∀ b o, s.heap.get? b = some o → h'.get? b = some o) E) F.called_set.init.plain F.entry_set_init (check_set_init_1 hT ?_)) fun r₂ s₂ hr₂ => ?_
      · obtain ⟨⟨oc, od, oda, osl⟩, hol, hcl, nl, hdl⟩ := hl
        simp only at hcl hdl
        subst hcl hdl
        have hol1 := Heap.get?_push_of_some (nset w) hol
        have b1 := F.sub_list_set
        have b2 := F.sub_list_frozenset
        have b3 : (Value.type "list" == Value.type "dict") = false := by decide
        have hl1 : (s.heap.push (nset w)).IsList l items := ⟨_, hol1, rfl, nl, rfl⟩
        unfold Builtin.«set.__init__» noKeywords Builtin.Frozenset.updateFrom
        generalize hPI : pyIter = PI
        wp_walk
        subst hPI
        refine wpAny_pyIter_list hl1 (wpAny_bind (wpAny_runValue ?_))
        have ls : l < s.heap.objs.size := Heap.lt_size hol
        have h3 : A.in1.in1.in1.handled = none := by simp [hh]
        have sz : (s.heap.push (nset w)).objs.size = s.heap.objs.size + 1 := Heap.size_push ..
        have ne : l ≠ (s.heap.push (nset w)).objs.size := by
          rw [sz]
          exact Nat.ne_of_lt (Nat.lt_succ_of_lt ls)
        have out : ∀ b, s.heap.objs.size ≤ b → s.heap.get? b = none := fun b hb => by
          cases q : s.heap.get? b with
          | none => rfl
          | some o => exact absurd (Nat.lt_of_lt_of_le (Heap.lt_size q) hb) (Nat.lt_irrefl _)
        refine fill ((Walks.list h3 _ l ne items).toS) s.heap.objs.size ?_ ks isz hfew (fun i v hv => ?_) s.heap hk (out _ (Nat.le_refl _)) (fun b hb => out b (by rw [List.mem_singleton.mp hb, sz]; exact Nat.le_succ _)) hu (items.size - 0) 0 _ (by omega) (Nat.zero_le _)
          ⟨⟨_, Heap.get?_push_size _ rfl, rfl, rfl⟩, hl1.push _⟩ (fun b o e => Heap.get?_push_of_some _ (Heap.get?_push_of_some _ e)) ⟨[], #[], 0, _, hs_new (Heap.get?_push_of_some _ hS), ⟨(fun p z => nomatch z), (fun p z => (by simp at z)), Nat.le_refl _⟩⟩ ?_
        · rw [sz]
          simp only [List.mem_cons, List.not_mem_nil, or_false, not_or]
          exact ⟨Nat.ne_of_lt (Nat.lt_succ_self _), Nat.ne_of_gt ls⟩
        · have q : items.toList[i]? = some v := by
            rw [Array.getElem?_toList]
            exact hv
          rw [hit, List.getElem?_map] at q
          cases hq : ks[i]? with
          | none =>
            rw [hq] at q
            cases q
          | some p =>
            rw [hq] at q
            exact ⟨p, rfl, (Option.some.inj q).symm⟩
        · intro s' L es ep t hm hS' g' kp
          obtain ⟨h', g2, d', tk', os'⟩ := s'
          obtain rfl : g2 = s.gens := hm.gens
          obtain rfl : d' = s.drawn := hm.drawn
          obtain rfl : os' = s.os := hm.os
          show wpAny _ _ _ _ _ _
          refine wpAny_pure ?_
          show wpAny _ _ (ret Value.none) _ _ _
          rw [isz] at g'
          exact wpAny_pure ⟨rfl, h', tk', L, es, ep, t, rfl, hS', g', kp⟩
      · cases r₂ with
        | error e => exact hr₂
        | ok fl₂ =>
          cases fl₂ with
          | ret r =>
            obtain ⟨rfl, h', tk, L, es, ep, t, rfl, hS', g', kp⟩ := hr₂
            repeat (any_goals (first
              | assumption
              | wp_step))
            exact h _ _ _ _ _ _ hS' g' kp
          | _ => exact hr₂.elim
    | _ => exact hr.elim
set_option maxHeartbeats 3200000 in
theorem set_of_tuple {l : Addr} {items : Array Value} (ks : List (Addr × List κ)) {Q : Value → Shared → Prop} (hh : A.handled = none) (hl : s.heap.IsTuple l items) (hit : items.toList = ks.map fun p => Value.ref p.1) (hk : ∀ p ∈ ks, IsTupleKey knd s.heap p.2 p.1) (hfew : ks.length < 19600) (hu : A.units + 3 < cLine)
    (h : ∀ (h' : Heap) (tk : Nat) L es ep t, Hs knd h' s.heap.objs.size L es ep t → Brought ks ks.length L → (∀ b o, s.heap.get? b = some o → h'.get? b = some o) → Q (.ref s.heap.objs.size) { s with heap := h', toks := tk }) : wpAny (model P w) A (call (.type "set") [.ref l]) Q E s := by
  have isz : items.size = ks.length := by
    have z := congrArg List.length hit
    rwa [Array.length_toList, List.length_map] at z
  obtain ⟨c, tl, hmro⟩ := F.called_set.mro
  have m1 := F.called_set.made
  have m2 := F.called_set.sub
  refine wpAny_call (codeAny_of_tree ?_)
  show wpAny _ _ (callAny (.type "set") _) _ _ _
  refine wpAny_pure ⟨Code.quiet_builtin _ (by decide +kernel), codeAny_builtin F.entry_type_call ?_⟩
  rw [Around.under_plain (weight_type_call_type "set" [.ref l] []) rfl]
  have m3 := F.called_set.notType
  have m4 := F.called_set.canCreate
  have m5 := F.typeCall_set_1 (.ref l)
  repeat (any_goals (first
    | assumption
    | wp_step))
  refine codeAny_mono (code_set_led1 (.ref l) (E := E) (Q₁ := fun ob s₁ => ob = .ref s.heap.objs.size ∧ s₁ = { s with heap := s.heap.push (nset w) }) ⟨rfl, rfl⟩) fun r s₁ hr => ?_
  cases r with
  | error e => exact hr
  | ok fl =>
    cases fl with
    | ret ob =>
      obtain ⟨rfl, rfl⟩ := hr
      have hS : (s.heap.push (nset w)).get? s.heap.objs.size = some (nset w) := Heap.get?_push_size _ rfl
      have hT : Shared.TypeIs { s with heap := s.heap.push (nset w) } (.ref s.heap.objs.size) "set" := ⟨_, hS, rfl⟩
      have i1 := F.called_set.init.lookup
      have i2 := F.called_set.init.bind (.ref s.heap.objs.size)
      repeat (any_goals (first
        | assumption
        | wp_step))
      refine codeAny_mono (codeAny_call_builtin (R := wants (fun r s₂ => r = .none ∧ ∃ h' tk L es ep t, s₂ = { s with heap := h', toks := tk } ∧ Hs knd h' s.heap.objs.size L es ep t ∧ Brought ks ks.length L ∧ ∀ b o, s.heap.get? b = some o → h'.get? b = some o) E) F.called_set.init.plain F.entry_set_init (check_set_init_1 hT ?_)) fun r₂ s₂ hr₂ => ?_
      · obtain ⟨⟨oc, od, oda, osl⟩, hol, hcl, nl, hdl⟩ := hl
        simp only at hcl hdl
        subst hcl hdl
        have hol1 := Heap.get?_push_of_some (nset w) hol
        have b1 := F.sub_tuple_set
        have b2 := F.sub_tuple_frozenset
        have b3 : (Value.type "tuple" == Value.type "dict") = false := by decide
        have hl1 : (s.heap.push (nset w)).IsTuple l items := ⟨_, hol1, rfl, nl, rfl⟩
        unfold Builtin.«set.__init__» noKeywords Builtin.Frozenset.updateFrom
        generalize hPI : pyIter = PI
        wp_walk
        subst hPI
        refine wpAny_pyIter_tuple hl1 (wpAny_bind (wpAny_runValue ?_))
        have ls : l < s.heap.objs.size := Heap.lt_size hol
        have h3 : A.in1.in1.in1.handled = none := by simp [hh]
        have sz : (s.heap.push (nset w)).objs.size = s.heap.objs.size + 1 := Heap.size_push ..
        have ne : l ≠ (s.heap.push (nset w)).objs.size := by
          rw [sz]
          exact Nat.ne_of_lt (Nat.lt_succ_of_lt ls)
        have out : ∀ b, s.heap.objs.size ≤ b → s.heap.get? b = none := fun b hb => by
          cases q : s.heap.get? b with
          | none => rfl
          | some o => exact absurd (Nat.lt_of_lt_of_le (Heap.lt_size q) hb) (Nat.lt_irrefl _)
        refine fill ((Walks.tuple h3 _ l ne items).toS) s.heap.objs.size ?_ ks isz hfew (fun i v hv => ?_) s.heap hk (out _ (Nat.le_refl _)) (fun b hb => out b (by rw [List.mem_singleton.mp hb, sz]; exact Nat.le_succ _)) hu (items.size - 0) 0 _ (by omega) (Nat.zero_le _)
          ⟨⟨_, Heap.get?_push_size _ rfl, rfl, rfl⟩, hl1.push _⟩ (fun b o e => Heap.get?_push_of_some _ (Heap.get?_push_of_some _ e)) ⟨[], #[], 0, _, hs_new (Heap.get?_push_of_some _ hS), ⟨(fun p z => nomatch z), (fun p z => (by simp at z)), Nat.le_refl _⟩⟩ ?_
        · rw [sz]
          simp only [List.mem_cons, List.not_mem_nil, or_false, not_or]
          exact ⟨Nat.ne_of_lt (Nat.lt_succ_self _), Nat.ne_of_gt ls⟩
        · have q : items.toList[i]? = some v := by
            rw [Array.getElem?_toList]
            exact hv
          rw [hit, List.getElem?_map] at q
          cases hq : ks[i]? with
          | none =>
            rw [hq] at q
            cases q
          | some p =>
            rw [hq] at q
            exact ⟨p, rfl, (Option.some.inj q).symm⟩
        · intro s' L es ep t hm hS' g' kp
          obtain ⟨h', g2, d', tk', os'⟩ := s'
          obtain rfl : g2 = s.gens := hm.gens
          obtain rfl : d' = s.drawn := hm.drawn
          obtain rfl : os' = s.os := hm.os
          show wpAny _ _ _ _ _ _
          refine wpAny_pure ?_
          show wpAny _ _ (ret Value.none) _ _ _
          rw [isz] at g'
          exact wpAny_pure ⟨rfl, h', tk', L, es, ep, t, rfl, hS', g', kp⟩
      · cases r₂ with
        | error e => exact hr₂
        | ok fl₂ =>
          cases fl₂ with
          | ret r =>
            obtain ⟨rfl, h', tk, L, es, ep, t, rfl, hS', g', kp⟩ := hr₂
            repeat (any_goals (first
              | assumption
              | wp_step))
            exact h _ _ _ _ _ _ hS' g' kp
          | _ => exact hr₂.elim
    | _ => exact hr.elim
end
end Sg
namespace Sg
open PySem PySem.Spec PyProof.Rows L2
def numV : Value → Int
  | .int i _ => i
  | .str z _ => ((z.cps.toList.headD 0 : Nat) : Int)
  | _ => 0
def numK : Key → Int
  | .inl i => i
  | .inr z => ((z.cps.toList.headD 0 : Nat) : Int)
def numsOf (h : Heap) : Value → List Int
  | .ref a => match h.get? a with
    | some o => match o.data with
      | .seq xs _ => xs.toList.map numV
      | _ => []
    | none => []
  | _ => []
def TieK (B : Int) (d : Nat) (k : List Key) : Prop := ∃ (c : Nat) (ns : List Int), k = .inr ⟨#[c]⟩ :: ns.map Sum.inl ∧ ns.length + 1 = d ∧ TS.Bd B ((c : Int) :: ns)
theorem TieK.len {B : Int} {d : Nat} {k : List Key} (t : TieK B d k) : k.length = d := by
  obtain ⟨c, ns, rfl, l, _⟩ := t
  rw [List.length_cons, List.length_map, l]
section
variable {P : Program} {w : World} {A : Around} {E : Value → Shared → Prop} {s : Shared}
theorem is_shape {k : Key} {v : Value} (h : (mixKind P w).is k v = true) : (∃ i t, k = Sum.inl i ∧ v = Value.int i t) ∨ (∃ x t, k = Sum.inr x ∧ v = Value.str x t) := keyIs_shape (k := k) (v := v) h
theorem nums_items {k : List Key} {vs : List Value} (h : ItemsAre (mixKind P w) k vs) : vs.map numV = k.map numK := by
  induction h with
  | nil => rfl
  | @cons k0 v ks vs h1 _ ih =>
    rw [List.map_cons, List.map_cons, ih]
    rcases is_shape h1 with ⟨i, t, rfl, rfl⟩ | ⟨x, t, rfl, rfl⟩ <;> rfl
theorem nums_at {h : Heap} {k : List Key} {a : Addr} (x : IsTupleKey (mixKind P w) h k a) : numsOf h (.ref a) = k.map numK := by
  obtain ⟨o, its, n, ho, hc, hd, hi⟩ := x
  simp only [numsOf, ho, hd]
  exact nums_items hi
theorem ints_items : ∀ {ns : List Int} {vs : List Value}, ItemsAre (mixKind P w) (ns.map Sum.inl) vs → IntsAre vs ns
  | [], _, .nil => .nil
  | n :: ns, _, .cons h1 t => by
    rcases is_shape h1 with ⟨i, tk, e, rfl⟩ | ⟨x, tk, e, rfl⟩
    · cases e
      exact .cons n tk (ints_items t)
    · cases e
theorem nums_inl (ns : List Int) : (ns.map (Sum.inl : Int → Key)).map numK = ns := by
  rw [List.map_map]
  exact List.map_id' ns
theorem lt_one (c e : Nat) : decide (([c] : List Nat) < [e]) = decide ((c : Int) < (e : Int)) := by
  refine decide_eq_decide.mpr ⟨fun h => ?_, fun h => ?_⟩
  · cases h with
    | rel h => exact Int.ofNat_lt.mpr h
    | cons h => cases h
  · exact List.Lex.rel (Int.ofNat_lt.mp h)
theorem lex_tie {B : Int} {d : Nat} {k k' : List Key} {xs ys : List Value} {Q : Bool → Shared → Prop} (hx : ItemsAre (mixKind P w) k xs) (hy : ItemsAre (mixKind P w) k' ys) (t1 : TieK B d k) (t2 : TieK B d k') (h : Q (decide (TS.code B (k.map numK) < TS.code B (k'.map numK))) s) :
    PySem.W.KatLex P w A true false Q (xs.zip ys) 0 s := by
  obtain ⟨c, ns, rfl, l1, b1⟩ := t1
  obtain ⟨e, ms, rfl, l2, b2⟩ := t2
  cases hx with
  | cons h1 hx =>
    cases hy with
    | cons h2 hy =>
      rcases is_shape h1 with ⟨i, tk, z, _⟩ | ⟨x, tk, z, rfl⟩
      · cases z
      · cases z
        rcases is_shape h2 with ⟨i, tk2, z, _⟩ | ⟨x, tk2, z, rfl⟩
        · cases z
        · cases z
          rw [List.map_cons, List.map_cons, nums_inl, nums_inl] at h
          have h' : Q (decide (TS.code B ((c : Int) :: ns) < TS.code B ((e : Int) :: ms))) s := h
          show PySem.W.KatLex P w A true false Q ((Value.str ⟨#[c]⟩ tk, Value.str ⟨#[e]⟩ tk2) :: _) 0 s
          refine PySem.W.kat_cons (wpAny_eqBool_str ?_)
          have hl : ns.length = ms.length := by omega
          by_cases q : c = e
          · subst q
            rw [decide_eq_true rfl]
            refine PySem.W.kat_yes (TS.lex_ints 1 (ints_items hx) (ints_items hy) hl b1.tail b2.tail ?_)
            rw [← decide_eq_decide.mpr (TS.code_same (B := B) (d := (c : Int)) hl)]
            exact h'
          · rw [decide_eq_false (show ¬ (⟨#[c]⟩ : Str) = ⟨#[e]⟩ from fun z => q (by injection z with z; injection z with z; injection z))]
            refine PySem.W.kat_no (oneLt_str ?_)
            have dd : decide (TS.code B ((c : Int) :: ns) < TS.code B ((e : Int) :: ms)) = decide ((c : Int) < (e : Int)) := by
              refine decide_eq_decide.mpr ⟨fun z => ?_, fun z => TS.code_lt hl b1.tail b2.tail z⟩
              rcases Int.lt_trichotomy (c : Int) (e : Int) with y | y | y
              · exact y
              · exact absurd (Int.ofNat.inj y) q
              · have := TS.code_lt hl.symm b2.tail b1.tail y
                omega
            rw [dd, ← lt_one] at h'
            exact h'
def Ties (P : Program) (w : World) (h : Heap) (B : Int) (d : Nat) (vs : List Value) : Prop := ∀ v ∈ vs, ∃ a k, v = Value.ref a ∧ IsTupleKey (mixKind P w) h k a ∧ TieK B d k
theorem ties_firsts {h : Heap} {B : Int} {d : Nat} : ∀ vs : List Value, Ties P w h B d vs → ∃ fs, PySem.W.KatTups h vs fs ∧ fs.length = vs.length ∧ ∀ f, f ∈ fs → ∃ z t, f = Value.str z t
  | [], _ => ⟨[], PySem.W.KatTups.nil, rfl, fun f hf => by simp at hf⟩
  | v :: vs, x => by
    obtain ⟨fs, k1, l1, i1⟩ := ties_firsts vs fun u hu => x u (List.mem_cons_of_mem _ hu)
    obtain ⟨a, k, rfl, ⟨o, its, n, ho, hc, hd, hi⟩, c, ns, rfl, _⟩ := x v List.mem_cons_self
    cases q : its.toList with
    | nil =>
      rw [q] at hi
      cases hi
    | cons y ys =>
      rw [q] at hi
      cases hi with
      | cons h1 _ =>
        rcases is_shape h1 with ⟨i, tk, z, _⟩ | ⟨z, tk, _, rfl⟩
        · cases z
        · refine ⟨_ :: fs, PySem.W.KatTups.cons ho hc hd (f := .str z tk) (by rw [← Array.getElem?_toList, q]; rfl) k1, by rw [List.length_cons, List.length_cons, l1], fun f hf => ?_⟩
          rcases List.mem_cons.mp hf with e | hf
          · exact ⟨z, tk, e⟩
          · exact i1 f hf
theorem Ties.keep {h h' : Heap} {B : Int} {d : Nat} {vs : List Value} (x : Ties P w h B d vs) (k : ∀ b o, h.get? b = some o → o.cls = .type "tuple" → h'.get? b = some o) : Ties P w h' B d vs := fun v hv => by
  obtain ⟨a, q, e, ⟨o, its, n, ho, hc, r⟩, t⟩ := x v hv
  exact ⟨a, q, e, ⟨o, its, n, k _ _ ho hc, hc, r⟩, t⟩
theorem swo_num (r : Value → Int) : SrtO.Swo (fun v u => decide (r v < r u)) := by
  refine ⟨fun x y h => ?_, fun x y z h1 h2 => ?_⟩
  · have := of_decide_eq_true h
    exact decide_eq_false (by omega)
  · have := of_decide_eq_false h1
    have := of_decide_eq_false h2
    exact decide_eq_false (by omega)
theorem sort_ties {a : Addr} {vs : List Value} {n d : Nat} {B : Int} {Q : PySem.Fin → Shared → Prop} (ho : s.heap.get? a = some (seqObj "list" vs.toArray n)) (hz : vs.length ≤ sizeLine) (x : Ties P w s.heap B d vs) (r : Value → Int) (hr : ∀ v ∈ vs, r v = TS.code B (numsOf s.heap v))
    (h : ∀ out : Array Value, out.toList.Perm vs → out.toList.Pairwise (fun u v => r u ≤ r v) → Q (.done (.ret .none)) { s with heap := sortedHeap s.heap a vs out }) : wpAny (model P w) A (Builtin.«list.sort» ⟨[.ref a], []⟩) Q E s := by
  refine SrtO.list_sort_ord (swo_num r) ho hz (fun h2 h3 keep => ?_) fun out hs hb => ?_
  · have hk : ∀ b o, s.heap.get? b = some o → o.cls = .type "tuple" → h3.get? b = some o := fun b o e c => keep b o (fun z => by
      subst z
      rw [ho] at e
      cases e
      have c' : Value.type "list" = Value.type "tuple" := c
      injection c' with c'
      exact absurd c' (by decide)) e
    have x3 := x.keep hk
    obtain ⟨fs, kt, hl, hi⟩ := ties_firsts vs x3
    refine ⟨tuples' true, fun Q' E' hq => ?_, fun p q hp hq => ?_⟩
    · refine PySem.W.kat_kind (T := Value.type "str") kt (by omega) (fun f hf => ?_) rfl ?_
      · obtain ⟨z, t, rfl⟩ := hi f hf
        exact PySem.W.Looks.of_pure rfl
      · have e : (Value.type "str" != Value.type "tuple") = true := by first | decide +kernel | rfl | decide
        rw [e]
        exact hq
    · have e1 := hr _ hp
      have e2 := hr _ hq
      have same : ∀ {v : Value}, v ∈ vs → numsOf h3 v = numsOf s.heap v := fun {v} hv => by
        obtain ⟨b, k, rfl, xb, _⟩ := x v hv
        rw [nums_at xb]
        obtain ⟨o, its, m, hb, hc, hd, hi⟩ := xb
        rw [nums_at (P := P) (w := w) (k := k) ⟨o, its, m, hk _ _ hb hc, hc, hd, hi⟩]
      rw [← same hp] at e1
      rw [← same hq] at e2
      obtain ⟨b1, k, ea, xa, ta⟩ := x3 _ hp
      obtain ⟨b2, k', eb, xb, tb⟩ := x3 _ hq
      show wpAny (model P w) A (keyLt' (tuples' true) p.1 q.1) (fun y s' => s' = _ ∧ y = decide (r p.1 < r q.1)) (fun _ _ => False) _
      rw [e1, e2, ea, eb, nums_at xa, nums_at xb]
      obtain ⟨o, its, n, ho, hc, hd, hia⟩ := xa
      obtain ⟨o', its', n', ho', hc', hd', hib⟩ := xb
      refine PySem.W.kat_lt ho hd ho' hd' ?_
      have sz : decide (its.size < its'.size) = false := by
        have l1 := hia.length
        have l2 := hib.length
        have z1 : its.toList.length = its.size := by simp
        have z2 : its'.toList.length = its'.size := by simp
        have q1 := ta.len
        have q2 := tb.len
        exact decide_eq_false (by omega)
      rw [sz]
      exact lex_tie (s := { s with heap := h3 }) hia hib ta tb ⟨rfl, rfl⟩
  · refine h out.toArray (by simpa using hb.perm) ?_
    have hs' : out.Pairwise fun u v => decide (r v < r u) = false := hs
    have z : out.Pairwise fun u v => r u ≤ r v := hs'.imp fun {u v} e => by
      have := of_decide_eq_false e
      omega
    simpa using z
end
end Sg
namespace Bt
open PySem PySem.Spec PyProof.Rows L2
section
variable {P : Program} {w : World} {A : Around} {E : Value → Shared → Prop} {s : Shared} {a : Addr} {es : Array (Int × Value)} {ep : Nat} {t : SetTable}
def siO (first : Value) (a : Addr) (n ep : Nat) : Obj := { cls := .type "set_iterator", data := .fields #[first, .int ((0 : Nat) : Int) 0, .ref a, .int (n : Int) 0, .int (ep : Int) 0] }
theorem si_laid {first : Value} {Q : Value → Shared → Prop} (st : SetAt s.heap a es ep t) (fits : t.fits es.size = true)
    (go : Q (.ref s.heap.objs.size) { s with heap := s.heap.push (siO first a es.size ep) }) :
    wpAny (model P w) A (do ret (← newFields "set_iterator" [first, rawInt 0, .ref a, rawInt es.size, rawInt (← setEpoch a)])) (fun f s' => ∃ v, f = PySem.Fin.done (.ret v) ∧ ∃ T r, s'.TypeIs v T ∧ typeLookup (.type T) (Str.ofString "__next__") = pure (some r) ∧ Q v s') E s := by
  obtain ⟨o, get, cls, dat⟩ := st
  refine wpAny_bind (wpAny_setEpoch_of get dat fits ?_)
  refine wpAny_bind (wpAny_newObj_type ?_)
  exact wpAny_pure ⟨_, rfl, "set_iterator", _, ⟨_, Heap.get?_push_size _ rfl, rfl⟩, slot_si_next.lookup, go⟩
theorem iter_any {Q : Value → Shared → Prop} (st : SetAt s.heap a es ep t) (fits : t.fits es.size = true) (fit : es.size ≤ sizeLine) (r : Ris t.place.toList)
    (led : w.params.followText "set-order" = true ∨ t.led = true) (go : ∀ s2 I, SetIt P w s a es s2 I → Q (.ref I) s2) : wpAny (model P w) A (pyIter (.ref a)) Q E s := by
  have before : a < s.heap.objs.size := by
    obtain ⟨o, get, _⟩ := st
    exact Heap.lt_size get
  have typ : s.TypeIs (.ref a) "set" := by
    obtain ⟨o, get, cls, _⟩ := st
    exact ⟨o, get, cls⟩
  refine wpAny_pyIter_slot typ F.slot_set_iter (wpAny_call_entry F.slot_set_iter typ entry_s_iter ?_ (F.args_set_iter_1 _))
  have old : ∀ {h : Heap} {u : Obj} (b : Addr) o, h.get? b = some o → (h.push u).get? b = some o := fun b o e => Heap.get?_push_of_some _ e
  unfold Builtin.«frozenset.__iter__»
  refine wpAny_bind (m := Builtin.Frozenset.slot0 "__iter__" _) (wpAny_of_eq (a := a) (by rfl) ?_)
  refine wpAny_bind (m := Builtin.Frozenset.sizeOf a) ?_
  obtain ⟨o, get, cls, dat⟩ := id st
  refine wpAny_bind (wpAny_setEntries_of get dat fits (wpAny_pure ?_))
  refine wpAny_bind (setDrawn_at st fits ?_)
  rcases Bool.eq_false_or_eq_true (w.params.followText "set-order") with txt | txt
  · rw [txt]
    refine wpAny_bind (wpAny_pure (si_laid st fits (go _ _ ?_)))
    have all := pick_perm (w.params.setOrder a ep) es
    refine SetIt.of (fun A' free => walks_text (P := P) (ep := ep) free (Nat.ne_of_lt before) fits txt) ((List.length_map _).trans Array.length_toList) old rfl rfl rfl (Nat.le_refl _) (fun b hb => ?_) (all.map _) (fun j v q => ?_) ⟨⟨_, Heap.get?_push_size _ rfl, rfl, rfl⟩, st.at (old a)⟩
    · simp only [List.mem_cons, List.not_mem_nil, or_false] at hb
      exact hb.elim (fun e => .inr (Nat.le_of_eq e.symm)) .inl
    · rw [List.getElem?_map, Array.getElem?_toList, q]
  · have ledt := led.resolve_left (by rw [txt]; decide)
    rw [txt]
    rcases Bool.eq_false_or_eq_true (!t.plain && decide (es.size > 1)) with drw | drw
    · rw [drw]
      refine wpAny_bind (drawOrder_at _ _ _ _ (Nat.le_of_eq List.length_range) fun ys d pm => ?_)
      have many : ys.length = es.size := pm.length_eq.trans List.length_range
      have room : (ys.map fun (k : Nat) => rawInt (k : Int)).length ≤ sizeLine := (List.length_map _).trans many ▸ fit
      refine wpAny_bind (wpAny_newTuple ?_ room)
      generalize hO : ({ cls := .type "tuple", data := .seq (ys.map fun (k : Nat) => rawInt (k : Int)).toArray } : Obj) = O
      refine si_laid (s := { s with heap := s.heap.push O, drawn := d }) (st.at (old a)) fits (go _ _ ?_)
      have one := size_push' s.heap O
      have inr : ∀ j ∈ ys, j < es.size := fun j hj => List.mem_range.mp (pm.mem_iff.mp hj)
      have ne1 : a ≠ (s.heap.push O).objs.size := by rw [one]; exact Nat.ne_of_lt (Nat.lt_succ_of_lt before)
      have ne2 : s.heap.objs.size ≠ (s.heap.push O).objs.size := by rw [one]; omega
      have out : (ys.map fun q => ((es[q]?).map (·.2)).getD Value.none).Perm (es.toList.map (·.2)) := range_map es ▸ pm.map _
      refine SetIt.of (fun A' free => walks_drawn (P := P) (w := w) (ep := ep) (t := t) free ne1 ne2 fits inr) (List.length_map _) (fun b u e => old b u (old b u e)) rfl rfl rfl (by show s.heap.objs.size ≤ (s.heap.push O).objs.size; omega) (fun b hb => ?_) out (fun j v q => ?_) ⟨⟨_, Heap.get?_push_size _ rfl, rfl, rfl⟩, st.at fun u e => old a u (old a u e), ?_⟩
      · simp only [List.mem_cons, List.not_mem_nil, or_false] at hb
        rcases hb with e | e | e
        · exact .inr (by rw [e]; show s.heap.objs.size ≤ (s.heap.push O).objs.size; omega)
        · exact .inl e
        · exact .inr (Nat.le_of_eq e.symm)
      · rw [List.getElem?_map]
        obtain ⟨k, hk, q⟩ := Option.bind_eq_some_iff.mp q
        rw [hk, Option.map_some, q]
        rfl
      · rw [hO]
        exact old _ _ (Heap.get?_push_size _ (hO ▸ rfl))
    · rw [drw]
      refine wpAny_bind (wpAny_pure (si_laid st fits (go _ _ ?_)))
      refine SetIt.of (fun A' free => walks_led (P := P) (ep := ep) free (Nat.ne_of_lt before) fits r txt drw ledt) ((List.length_map _).trans Array.length_toList) old rfl rfl rfl (Nat.le_refl _) (fun b hb => ?_) (List.Perm.refl _) (fun j v q => ?_) ⟨⟨_, Heap.get?_push_size _ rfl, rfl, rfl⟩, st.at (old a)⟩
      · simp only [List.mem_cons, List.not_mem_nil, or_false] at hb
        exact hb.elim (fun e => .inr (Nat.le_of_eq e.symm)) .inl
      · rw [List.getElem?_map, Array.getElem?_toList, q]
theorem gather_any {Q : List Value → Shared → Prop} (calm : A.handled = none) (st : SetAt s.heap a es ep t) (fits : t.fits es.size = true) (fit : es.size ≤ sizeLine) (r : Ris t.place.toList)
    (led : w.params.followText "set-order" = true ∨ t.led = true)
    (go : ∀ s' out, (∀ b o, s.heap.get? b = some o → s'.heap.get? b = some o) → s.heap.objs.size ≤ s'.heap.objs.size → s'.gens = s.gens → s'.os = s.os → out.Perm (es.toList.map (·.2)) → Q out s') : wpAny (model P w) A (collect (.ref a)) Q E s := by
  -- the list that is filled
  let mt : Obj := { cls := .type "list", data := .seq ([] : List Value).toArray }
  have before : a < s.heap.objs.size := by
    obtain ⟨o, get, _⟩ := st
    exact Heap.lt_size get
  have other : ¬ s.heap.objs.size = a := Nat.ne_of_gt before
  have kept1 : ∀ b o, s.heap.get? b = some o → (s.heap.push mt).get? b = some o := fun b o e => Heap.get?_push_of_some _ e
  have st1 : SetAt (s.heap.push mt) a es ep t := st.at (kept1 a)
  have mt1 : (s.heap.push mt).get? s.heap.objs.size = some mt := Heap.get?_push_size _ rfl
  have one : (s.heap.push mt).objs.size = s.heap.objs.size + 1 := size_push' _ _
  have typ : ∀ {s' : Shared}, SetAt s'.heap a es ep t → s'.TypeIs (.ref a) "set" := fun ⟨o, get, cls, _⟩ => ⟨o, get, cls⟩
  unfold collect
  refine wpAny_bind (wpAny_runValue (codeAny_builtin F.entry_proto_collect ?_))
  rw [Around.under_plainId F.plain_proto_collect]
  change wpAny _ A.in1 (newList [] >>= fun l => again _) _ _ s
  refine wpAny_bind (wpAny_newObj_type (wpAny_pure ⟨plainId_quiet F.plain_list_iadd _, codeAny_builtin F.entry_list_iadd ?_⟩))
  rw [Around.under_plainId F.plain_list_iadd]
  change wpAny _ A.in1 (Builtin.List.listExtendWith (.ref s.heap.objs.size) (.ref a) _) _ _ { s with heap := s.heap.push mt }
  unfold Builtin.List.listExtendWith
  refine wpAny_bind (wpAny_typeOf (typ st1) ?_)
  rw [show Builtin.List.listSameRef (.ref s.heap.objs.size) (.ref a) = false by simp [Builtin.List.listSameRef, other]]
  refine wp_if_neg (by decide) (wpAny_bind (iter_any (s := { s with heap := s.heap.push mt }) st1 fits fit r led ?_))
  rintro s2 I ⟨fp, St, out, Pv, kept2, gens2, os2, toks2, above, away, perm, walk, items, start⟩
  have away1 : s.heap.objs.size ∉ fp := fun m => (away _ m).elim other fun z => by
    have z : (s.heap.push mt).objs.size ≤ s.heap.objs.size := z
    omega
  have st2 : SetAt s2.heap a es ep t := st1.at (kept2 a)
  have mt2 := kept2 _ _ mt1
  refine wpAny_bind (wpAny_holding ?_)
  unfold Builtin.List.listLengthHint
  refine wpAny_bind (wpAny_specialOf (typ st2) F.slot_set_len.lookup ?_)
  have name : splitId "set.__len__" = some ("set", "__len__") := by decide +kernel
  simp only [name]
  refine wpAny_bind (wpAny_isInstance (b := true) (typ st2) sub_set_self ?_)
  refine wp_if_neg (by decide) ?_
  refine wp_if_pos (by rfl) (wpAny_bind (wpAny_typeOf (typ st2) (wpAny_pure ?_)))
  -- it makes room: nothing is changed by that
  refine wp_if_pos (by rfl) (wpAny_bind (wpAny_rule (wpAny_bind ?_)))
  change wpAny _ A.in1 (updateSeq _ (·.push Value.none) >>= fun _ => updateSeq _ (·.pop)) _ _ s2
  refine wpAny_bind (wpAny_updateSeq mt2 rfl ?_)
  have mt3 := Heap.get?_update_self (Obj.mapSeq (·.push Value.none)) mt2 rfl
  refine wpAny_updateSeq mt3 rfl ?_
  have mt4 := Heap.get?_update_self (Obj.mapSeq (·.pop)) mt3 rfl
  have kept4 : ∀ b o, b ≠ s.heap.objs.size → s2.heap.get? b = some o → ((s2.heap.update s.heap.objs.size (Obj.mapSeq (·.push Value.none))).update s.heap.objs.size (Obj.mapSeq (·.pop))).get? b = some o := fun b o ne e => by
    rw [Heap.get?_update_other _ _ ne.symm, Heap.get?_update_other _ _ ne.symm]
    exact e
  generalize (s2.heap.update s.heap.objs.size (Obj.mapSeq (·.push Value.none))).update s.heap.objs.size (Obj.mapSeq (·.pop)) = h4 at mt4 kept4 ⊢
  have walk1 := walk A.in1 calm
  have start4 : St 0 h4 := walk1.frame 0 _ _ start fun b m o e => kept4 b o (fun z => away1 (z ▸ m)) e
  have fit1 : out.length ≤ sizeLine := by
    rw [perm.length_eq, List.length_map, Array.length_toList]
    exact fit
  refine wpAny_pure ⟨plainId_quiet F.plain_extend_loop _, codeAny_extend_loopS walk1.toS fit1 _ away1 _ out.length 0 _ _ _ rfl (Nat.zero_le _) start4 mt4 (ItemsOf.nil Pv) fun s5 acc c moved mt5 got => ?_⟩
  change wpAny _ A (load s.heap.objs.size >>= _) _ _ s5
  refine wpAny_bind (wpAny_load mt5 (wpAny_pure ?_))
  change Q acc.toList s5
  rw [items_out got items]
  refine go s5 out (fun b o e => ?_) (Nat.le_of_lt (Heap.lt_size mt5)) (moved.gens.trans gens2) (moved.os.trans os2) perm
  have low : b < s.heap.objs.size := Heap.lt_size e
  refine moved.heap b o (fun m => ?_) (kept4 b o (Nat.ne_of_lt low) (kept2 b o (kept1 b o e)))
  have above1 : s.heap.objs.size + 1 ≤ I := one ▸ above
  simp only [List.mem_cons, List.not_mem_nil, or_false] at m
  rcases m with m | m
  · rw [m] at low
    first | exact Nat.lt_irrefl _ low | exact Nat.not_lt_of_le (Nat.le_of_succ_le above1) low
  · rw [m] at low
    first | exact Nat.lt_irrefl _ low | exact Nat.not_lt_of_le (Nat.le_of_succ_le above1) low
end
end Bt
namespace Sg
open PySem PySem.Spec PyProof.Rows L2
abbrev TK := Addr × List Key
abbrev ordOf (B : Int) (p : TK) : Int := TS.code B (p.2.map numK)
abbrev refs (ks : List TK) : List V := ks.map fun p => V.ref p.1
abbrev refsV (ks : List TK) : List Value := ks.map fun p => Value.ref p.1
section
variable {P : Program} {w : World} {A : Around} {E : Value → Shared → Prop} {s : Shared}
theorem pick_perm : ∀ {vs : List Value} {ks : List TK}, vs.Perm (refsV ks) → ∃ ks' : List TK, vs = refsV ks' ∧ ks'.Perm ks := by
  intro vs ks h
  generalize e : refsV ks = us at h
  induction h generalizing ks with
  | nil =>
    cases ks with
    | nil => exact ⟨[], rfl, .nil⟩
    | cons _ _ => cases e
  | @cons x l1 l2 h ih =>
    cases ks with
    | nil => cases e
    | cons p r =>
      obtain ⟨e1, e2⟩ := List.cons.inj e
      obtain ⟨k', e3, pm⟩ := ih e2
      exact ⟨p :: k', by rw [e3, ← e1]; rfl, .cons p pm⟩
  | swap x y l =>
    cases ks with
    | nil => cases e
    | cons p r =>
      cases r with
      | nil => cases (List.cons.inj e).2
      | cons q r =>
        obtain ⟨e1, e2⟩ := List.cons.inj e
        obtain ⟨e3, e4⟩ := List.cons.inj e2
        exact ⟨q :: p :: r, by rw [← e1, ← e3, ← e4]; rfl, .swap p q r⟩
  | trans h1 h2 ih1 ih2 =>
    obtain ⟨k2, e2, p2⟩ := ih2 e
    obtain ⟨k1, e1, p1⟩ := ih1 e2.symm
    exact ⟨k1, e1, p1.trans p2⟩
theorem ties_of {h : Heap} {B : Int} {d : Nat} {ks : List TK} (hk : ∀ p ∈ ks, IsTupleKey (mixKind P w) h p.2 p.1) (ht : ∀ p ∈ ks, TieK B d p.2) : Ties P w h B d (refsV ks) := fun v hv => by
  obtain ⟨p, hp, rfl⟩ := List.mem_map.mp hv
  exact ⟨p.1, p.2, rfl, hk p hp, ht p hp⟩
theorem sort_new {ks : List TK} {d : Nat} {B : Int} {a : Addr} {n : Nat} {Q : PySem.Fin → Shared → Prop} (ho : s.heap.get? a = some (seqObj "list" (refsV ks).toArray n)) (h64 : ks.length < 19600) (hk : ∀ p ∈ ks, IsTupleKey (mixKind P w) s.heap p.2 p.1) (ht : ∀ p ∈ ks, TieK B d p.2)
    (h : ∀ (out : Array Value) (ks' : List TK), out.toList = refsV ks' → ks'.Perm ks → ks'.Pairwise (fun p q => ordOf B p ≤ ordOf B q) → Q (.done (.ret .none)) { s with heap := sortedHeap s.heap a (refsV ks) out }) :
    wpAny (model P w) A (Builtin.«list.sort» ⟨[.ref a], []⟩) Q E s := by
  refine sort_ties ho (by rw [List.length_map, sizeLine_eq]; omega) (ties_of hk ht) (fun v => TS.code B (numsOf s.heap v)) (fun v _ => rfl) fun out pm pw => ?_
  obtain ⟨ks', e, pk⟩ := pick_perm pm
  refine h out ks' e pk ?_
  rw [e] at pw
  refine List.Pairwise.imp_of_mem (fun {p q} hp hq hle => ?_) (List.pairwise_map.mp pw)
  rw [nums_at (hk p (pk.mem_iff.mp hp)), nums_at (hk q (pk.mem_iff.mp hq))] at hle
  exact hle
theorem sorted_list {l : Addr} {ks : List TK} {d : Nat} {B : Int} {Q : Value → Shared → Prop} (hl : s.heap.IsList l (refsV ks).toArray) (h64 : ks.length < 19600) (hk : ∀ p ∈ ks, IsTupleKey (mixKind P w) s.heap p.2 p.1) (ht : ∀ p ∈ ks, TieK B d p.2)
    (h : ∀ (h' : Heap) (p : Addr) (c : Nat) (out : Array Value) (ks' : List TK), (∀ b o, s.heap.get? b = some o → h'.get? b = some o) → s.heap.objs.size ≤ p → h'.get? p = some (seqObj "list" out c) → out.toList = refsV ks' → ks'.Perm ks → ks'.Pairwise (fun p q => ordOf B p ≤ ordOf B q) → Q (.ref p) { s with heap := h' }) :
    wpAny (model P w) A (call (.builtin "sorted") [.ref l]) Q E s := by
  have hz : (refsV ks).length < 19600 := by
    rw [List.length_map]
    exact h64
  refine Calls.call_function_entry kind_sorted plain_sorted entry_sorted (args_sorted1 _) ?_
  unfold Builtin.«sorted»
  refine wpAny_bind (m := checkCount "sorted" 1 1 _) (wpAny_pure (wpAny_bind (collect_list hl ?_ (by rw [sizeLine_eq]; omega))))
  refine wpAny_bind (wpAny_newList ?_ (by rw [sizeLine_eq]; omega))
  have sz : ((s.heap.push (seqObj "list" #[] 0)).update s.heap.objs.size (Obj.mapSeq (· ++ (refsV ks).toArray))).objs.size = s.heap.objs.size + 1 := by
    rw [Heap.size_update, size_push']
  have k0 : ∀ b o, s.heap.get? b = some o → ((s.heap.push (seqObj "list" #[] 0)).update s.heap.objs.size (Obj.mapSeq (· ++ (refsV ks).toArray))).get? b = some o := fun b o e => by
    have lt := Heap.lt_size e
    rw [Heap.get?_update_ne _ _ _ _ (Nat.ne_of_lt lt)]
    exact Heap.get?_push_of_some _ e
  show wpAny _ _ _ _ _ { s with heap := ((s.heap.push (seqObj "list" #[] 0)).update s.heap.objs.size (Obj.mapSeq (· ++ (refsV ks).toArray))).push (seqObj "list" (refsV ks).toArray 0) }
  generalize (s.heap.push (seqObj "list" #[] 0)).update s.heap.objs.size (Obj.mapSeq (· ++ (refsV ks).toArray)) = h0 at sz k0 ⊢
  have hoL : (h0.push (seqObj "list" (refsV ks).toArray 0)).get? h0.objs.size = some (seqObj "list" (refsV ks).toArray 0) := Heap.get?_push_size _ rfl
  have k1 : ∀ b o, s.heap.get? b = some o → (h0.push (seqObj "list" (refsV ks).toArray 0)).get? b = some o := fun b o e => Heap.get?_push_of_some _ (k0 b o e)
  refine wpAny_bind (wpAny_holding (wpAny_call_entry slot_list_sort ⟨_, hoL, rfl⟩ entry_list_sort (sort_new (s := { s with heap := h0.push (seqObj "list" (refsV ks).toArray 0) }) hoL h64 (fun p hp => tup_stay (hk p hp) k1) ht fun out ks' eo pk pw => ⟨_, rfl, ?_⟩) (args_list_sort _)))
  obtain ⟨c, hc⟩ := sortedHeap_at (out := out) hoL
  refine wpAny_pure ⟨_, rfl, h _ h0.objs.size c out ks' (fun b o e => ?_) (by omega) hc eo pk pw⟩
  have lt : b < h0.objs.size := Heap.lt_size (k0 b o e)
  rw [sortedHeap_old (Nat.ne_of_lt lt) (by rw [size_push']; exact Nat.lt_succ_of_lt lt)]
  exact k1 b o e
theorem sorted_set {a : Addr} {L : List TK} {es : Array (Int × Value)} {ep : Nat} {t : SetTable} {Q : Value → Shared → Prop} (R : Hs (mixKind P w) s.heap a L es ep t) (hh : A.handled = none) {d : Nat} {B : Int} (ht : ∀ p ∈ L, TieK B d p.2)
    (h : ∀ (s' : Shared) (p : Addr) (c : Nat) (out : Array Value) (L' : List TK), (∀ b o, s.heap.get? b = some o → s'.heap.get? b = some o) → s'.gens = s.gens → s'.os = s.os → s.heap.objs.size ≤ p → s'.heap.get? p = some (seqObj "list" out c) → out.toList = refsV L' → L'.Perm L →
      L'.Pairwise (fun p q => ordOf B p ≤ ordOf B q) → Q (.ref p) s') : wpAny (model P w) A (call (.builtin "sorted") [.ref a]) Q E s := by
  obtain ⟨o, ho, hex, hd⟩ := R.ob
  have hsz := size_of R.en
  have hfew := R.few
  refine Calls.call_function_entry kind_sorted plain_sorted entry_sorted (args_sorted1 _) ?_
  unfold Builtin.«sorted»
  refine wpAny_bind (m := checkCount "sorted" 1 1 _) (wpAny_pure ?_)
  refine wpAny_bind (Bt.gather_any (A := A.in1) hh ⟨o, ho, hex.1, hd⟩ R.fits (by rw [sizeLine_eq]; omega) R.tab.ris R.led fun s1 vs k1 hz g1 o1 pm => ?_)
  have hes : es.toList.map (·.2) = refsV L := by
    rw [R.en]
    unfold ents
    rw [List.map_map]
    rfl
  rw [hes] at pm
  obtain ⟨L1, rfl, p1⟩ := pick_perm pm
  have hlen : L1.length < 19600 := by
    rw [p1.length_eq]
    exact hfew
  refine wpAny_bind (wpAny_newList ?_ (by rw [List.length_map, sizeLine_eq]; omega))
  have hoL : (s1.heap.push (seqObj "list" (refsV L1).toArray 0)).get? s1.heap.objs.size = some (seqObj "list" (refsV L1).toArray 0) := Heap.get?_push_size _ rfl
  have k2 : ∀ b o, s.heap.get? b = some o → (s1.heap.push (seqObj "list" (refsV L1).toArray 0)).get? b = some o := fun b o e => Heap.get?_push_of_some _ (k1 b o e)
  refine wpAny_bind (wpAny_holding (wpAny_call_entry slot_list_sort ⟨_, hoL, rfl⟩ entry_list_sort (sort_new (s := { s1 with heap := s1.heap.push (seqObj "list" (refsV L1).toArray 0) }) hoL hlen (fun p hp => tup_stay (R.tup p (p1.mem_iff.mp hp)) k2) (fun p hp => ht p (p1.mem_iff.mp hp)) fun out L' eo pk pw => ⟨_, rfl, ?_⟩) (args_list_sort _)))
  obtain ⟨c, hc⟩ := sortedHeap_at (out := out) hoL
  refine wpAny_pure ⟨_, rfl, h _ s1.heap.objs.size c out L' (fun b u e => ?_) g1 o1 hz hc eo (pk.trans p1) pw⟩
  have lt := Heap.lt_size (k1 b u e)
  show (sortedHeap (s1.heap.push (seqObj "list" (refsV L1).toArray 0)) s1.heap.objs.size (refsV L1) out).get? b = some u
  rw [sortedHeap_old (Nat.ne_of_lt lt) (by rw [size_push']; exact Nat.lt_succ_of_lt lt)]
  exact k2 b u e
end
def SetX (P : Program) (w : World) (a : Addr) (L : List TK) : HO := .ext fun h => ∃ (es : Array (Int × Value)) (ep : Nat) (t : SetTable), (∃ o, h.get? a = some o ∧ o.ExactSet ∧ o.data = .set es ep t) ∧ es.toList = ents (mixKind P w) L ∧ Bt.Tb t (hashes (mixKind P w) L) ∧ Bt.MkB t.mask ∧ (L.map (·.2)).Nodup ∧
  (w.params.followText "set-order" = true ∨ t.led = true) ∧ L.length * 5 < t.mask * 3 ∧ L.length < 19600
theorem setX_new {P : Program} {w : World} {H : Hp} {h : Heap} {a : Addr} {L : List TK} {es : Array (Int × Value)} {ep : Nat} {t : SetTable} (R : Hs (mixKind P w) h a L es ep t) : ObjOk P w H h a (SetX P w a L) := by
  obtain ⟨o, ho, r⟩ := R.ob
  refine ⟨⟨es, ep, t, ⟨o, ho, r⟩, R.en, R.tab, R.mb, R.nd, R.led, R.room, R.few⟩, ⟨o, ho⟩, fun h1 h2 z k => ?_⟩
  obtain ⟨e1, e2, e3, ⟨u, hu, r'⟩, q⟩ := z
  exact ⟨e1, e2, e3, ⟨u, k u hu, r'⟩, q⟩
theorem keys_items {P : Program} {w : World} : ∀ {k : List Key} {us : List Value}, Vals (k.map kV) us → ItemsAre (mixKind P w) k us
  | [], _, .nil => .nil
  | .inl i :: k, _, .cons r t => by
    obtain ⟨tk, rfl⟩ := r
    exact .cons (mixKind_int P w i tk) (keys_items t)
  | .inr z :: k, _, .cons r t => by
    obtain ⟨tk, rfl⟩ := r
    exact .cons (mixKind_str P w z tk) (keys_items t)
theorem refs_vals : ∀ {ks : List TK} {us : List Value}, Vals (refs ks) us → us = refsV ks
  | [], _, .nil => rfl
  | p :: ks, _, .cons r t => by
    cases r
    rw [refs_vals t]
    rfl
theorem vals_refs : ∀ ks : List TK, Vals (refs ks) (refsV ks)
  | [] => .nil
  | p :: ks => .cons rfl (vals_refs ks)
section
variable {X : Cx} {pins : List (Addr × Obj)} {σ : L2.St} {H : Hp} {s : Shared}
theorem key_at (I : L2.Inv X pins σ H s) {b : Addr} {k : List Key} (h : SqT X.K H b (k.map kV)) : IsTupleKey (mixKind X.prog X.w) s.heap k b := by
  obtain ⟨its, r, ⟨o, ho, hc, n, hd⟩, _⟩ := I.tuple h
  exact ⟨o, its.toArray, n, ho, hc, hd, by simpa using keys_items r⟩
def rSetX (K : PySem.W.Frag) (P : Program) (w : World) : List V → Hp → VK → Prop := fun xs H Q => ∃ l ks, xs = [V.ref l] ∧ (SqL K H l (refs ks) ∨ SqT K H l (refs ks)) ∧ (∀ p ∈ ks, SqT K H p.1 (p.2.map kV)) ∧ ks.length < 19600 ∧
  ∀ a L, H a = none → (∀ p ∈ L, p ∈ ks) → (∀ p ∈ ks, p.2 ∈ L.map (·.2)) → Q (.ref a) (upd H a (SetX P w a L))
theorem cr_setX (hc : X.calm = true) (hu : X.A.units + 64 < cLine) : CallR X (.type "set") (rSetX X.K X.prog X.w) := by
  rintro pins s σ H xs us Q I r ⟨l, ks, rfl, hl, hk, hf, q⟩
  rw [Vals.ref1 r]
  have hn : H s.heap.objs.size = none := I.hok.fresh (Nat.le_refl _)
  have fin : ∀ (h' : Heap) (tk : Nat) (L : List TK) es ep t, Hs (mixKind X.prog X.w) h' s.heap.objs.size L es ep t → Brought ks ks.length L → (∀ b o, s.heap.get? b = some o → h'.get? b = some o) → EP X pins σ Q (.ref s.heap.objs.size) { s with heap := h', toks := tk } := fun h' tk L es ep t R g k =>
    ⟨.ref s.heap.objs.size, upd H s.heap.objs.size (SetX X.prog X.w s.heap.objs.size L), I.laid (t' := tk) k (Nat.le_refl _) (setX_new R), rfl, q _ L hn (fun p hp => List.mem_of_mem_take (g.of p hp)) fun p hp => g.all p (by rw [List.take_length]; exact hp)⟩
  rcases hl with hl | hl
  · obtain ⟨its, rv, pl, hz⟩ := I.list hl
    exact set_of_list ks (I.ok.hd hc) pl.isList (by simpa using refs_vals rv) (fun p hp => key_at I (hk p hp)) hf (by omega) fin
  · obtain ⟨its, rv, pl, hz⟩ := I.tuple hl
    exact set_of_tuple ks (I.ok.hd hc) pl (by simpa using refs_vals rv) (fun p hp => key_at I (hk p hp)) hf (by omega) fin
def rSortX (K : PySem.W.Frag) (P : Program) (w : World) : List V → Hp → VK → Prop := fun vs H Q => ∃ a L d B, vs = [V.ref a] ∧ (H a = some (SetX P w a L) ∨ (SqL K H a (refs L) ∧ L.length < 19600)) ∧ (∀ p ∈ L, SqT K H p.1 (p.2.map kV)) ∧ (∀ p ∈ L, TieK B d p.2) ∧
  ∀ L' p, L'.Perm L → L'.Pairwise (fun p q => ordOf B p ≤ ordOf B q) → (H a = some (SetX P w a L) → (L'.map (·.2)).Nodup) → H p = none → Q (.ref p) (upd H p (.lst (refs L')))
theorem cr_sortX (hc : X.calm = true) : CallR X (.builtin "sorted") (rSortX X.K X.prog X.w) := by
  rintro pins s σ H vs us Q I r ⟨a, L, d, B, rfl, ha, hk, ht, q⟩
  rw [Vals.ref1 r]
  by_cases hset : H a = some (SetX X.prog X.w a L)
  · obtain ⟨⟨es, ep, t, ob, en, tab, mb, nd, led, room, few⟩, _, _⟩ := I.hok a _ hset
    refine sorted_set ⟨ob, en, tab, mb, nd, fun p hp => key_at I (hk p hp), led, room, few⟩ (I.ok.hd hc) ht fun s' p c out L' k g o hp hg ho pm pw => ?_
    have hlen : (refs L').length ≤ sizeLine := by
      rw [List.length_map, pm.length_eq, sizeLine_eq]
      omega
    have hn : H p = none := I.hok.fresh hp
    have hv : Vals (refs L') out.toList := by
      rw [ho]
      exact vals_refs L'
    have J := I.call (h' := s'.heap) (g' := s'.gens) (d' := s'.drawn) (t' := s'.toks) (ch := []) (Un.laid k hp hn) (I.hok.laid (o := .lst (refs L')) k hp ⟨hlen, out.toList, c, hv, hg⟩) (by rw [g]; exact I.bare) (fun _ z => nomatch z)
    have e : s' = { s with heap := s'.heap, gens := s'.gens, drawn := s'.drawn, toks := s'.toks } := by
      obtain ⟨a1, a2, a3, a4, a5⟩ := s'
      dsimp only at o
      subst o
      rfl
    rw [e]
    exact ⟨.ref p, _, J, rfl, q L' p pm pw (fun _ => (pm.map (·.2)).nodup_iff.mpr nd) hn⟩
  · rcases ha with ha | ⟨hl, h64⟩
    · exact absurd ha hset
    · obtain ⟨its, rv, pl, hz⟩ := I.list hl
      have ei := refs_vals rv
      subst ei
      refine sorted_list pl.isList h64 (fun p hp => key_at I (hk p hp)) ht fun h' p c out L' k hp hg ho pm pw => ?_
      have hlen : (refs L').length ≤ sizeLine := by
        rw [List.length_map, pm.length_eq, sizeLine_eq]
        omega
      have hv : Vals (refs L') out.toList := by
        rw [ho]
        exact vals_refs L'
      exact ⟨.ref p, _, I.laid (o := .lst (refs L')) (t' := s.toks) k hp ⟨hlen, out.toList, c, hv, hg⟩, rfl, q L' p pm pw (fun z => absurd z hset) (I.hok.fresh hp)⟩
end
end Sg
namespace PySem
open Sem (wp)
theorem enum_one {v : Value} {o : Obj} {H : Heap → Prop} (B : Begins v o H) :
    Meets (Builtin.«enumerate.__new__» ⟨[.type "enumerate", v], []⟩) (fun _ R s => H s.heap ∧ R (.ok (.ret (.ref (s.heap.push o).objs.size))) { s with heap := (s.heap.push o).push { cls := .type "enumerate", data := .fields #[.none, .bool false, .ref s.heap.objs.size, rawInt 0, .none, .none] } }) :=
  .of_wp fun prog w A R s h => by
    obtain ⟨hp, g, d, tk, os⟩ := s
    obtain ⟨h1, h⟩ := h
    have z0 := sub_enumerate
    have go : ∀ {A' : Around} {E : Value → Shared → Prop} {Q : Value → Shared → Prop}, Q (.ref hp.objs.size) ⟨hp.push o, g, d, tk, os⟩ → wpAny (model prog w) A' (pyIter v) Q E ⟨hp, g, d, tk, os⟩ := fun q => B.iter prog w _ _ ⟨hp, g, d, tk, os⟩ _ h1 q
    wp_walk using go
    refine wpAny_stack_any fun st => wpAny_pure ?_
    split
    · rename_i c _ _ _ _ _
      cases (c == Value.type "enumerate")
      · wp_walk using go
        exact ⟨_, rfl, h⟩
      · wp_walk using go
        exact ⟨_, rfl, h⟩
    · wp_walk using go
      exact ⟨_, rfl, h⟩
theorem enum_tuple {prog : Program} {w : World} {A : Around} {E : Value → Shared → Prop} {s : Shared} {l : Addr} {items : Array Value} {Q : Value → Shared → Prop} (ht : s.heap.IsTuple l items)
    (h : ∀ h', IsEnum h' (s.heap.objs.size + 1) s.heap.objs.size 0 .none → h'.IsTupleIter s.heap.objs.size l 0 → h'.IsTuple l items → (∀ b o, s.heap.get? b = some o → h'.get? b = some o) → Q (.ref (s.heap.objs.size + 1)) { s with heap := h' }) :
    wpAny (model prog w) A (call (.type "enumerate") [.ref l]) Q E s := by
  refine callType_new F.called_enumerate (by decide) (F.typeCall_enumerate_1 _) (F.newCall_enumerate_1 _) (fun ob => F.args_object_init_2 ob _) F.entry_enumerate_new (enum_one (begins_tuple l items)) ⟨ht, ?_⟩
  have hz : (s.heap.push { cls := .type "tuple_iterator", data := .fields #[.ref l, .int 0 0] }).objs.size = s.heap.objs.size + 1 := Heap.size_push ..
  have kk : ∀ b o, s.heap.get? b = some o → ((s.heap.push { cls := .type "tuple_iterator", data := .fields #[.ref l, .int 0 0] }).push { cls := .type "enumerate", data := .fields #[.none, .bool false, .ref s.heap.objs.size, rawInt 0, .none, .none] }).get? b = some o := fun b o e => Heap.get?_push_of_some _ (Heap.get?_push_of_some _ e)
  have he : IsEnum ((s.heap.push { cls := .type "tuple_iterator", data := .fields #[.ref l, .int 0 0] }).push { cls := .type "enumerate", data := .fields #[.none, .bool false, .ref s.heap.objs.size, rawInt 0, .none, .none] }) (s.heap.objs.size + 1) s.heap.objs.size 0 .none := by
    have q := Heap.get?_push_size (s.heap.push { cls := .type "tuple_iterator", data := .fields #[.ref l, .int 0 0] }) (o := { cls := .type "enumerate", data := .fields #[.none, .bool false, .ref s.heap.objs.size, rawInt 0, .none, .none] }) rfl
    rw [hz] at q
    exact q
  show _ ∧ _
  rw [hz]
  exact ⟨⟨_, he, rfl⟩, h _ he ⟨_, Heap.get?_push_of_some _ (Heap.get?_push_size _ rfl), rfl, rfl⟩ (ht.at fun o e => kk l o e) kk⟩
end PySem
namespace Sg
open PySem PySem.Spec PyProof.Rows L2
def signsV (z : Str) : List V := z.cps.toList.map fun c => V.str ⟨#[c]⟩
def rListS : List V → Hp → VK → Prop := fun xs H Q => ∃ z, xs = [.str z] ∧ z.length ≤ 1000 ∧ ∀ p, H p = none → Q (.ref p) (upd H p (.lst (signsV z)))
theorem cr_listS {X : Cx} (hc : X.calm = true) : CallR X (.type "list") rListS := by
  rintro pins s σ H xs us Q I r ⟨z, rfl, hz, q⟩
  obtain ⟨u, rfl, ⟨t, rfl⟩⟩ := vals1 r
  have hn : z.cps.size ≤ sizeLine := Nat.le_of_lt (small1000 hz)
  refine call_list_str (hn := hn) (I.ok.hd hc) z t fun h' tk acc c kk ho hi => ?_
  have hlen : (signsV z).length = z.cps.size := by
    unfold signsV
    rw [List.length_map, Array.length_toList]
  have hv : Vals (signsV z) acc.toList := by
    refine vals_of_at ?_ fun j x u hx hu => ?_
    · rw [hlen, Array.length_toList, hi.1]
    · unfold signsV at hx
      rw [List.getElem?_map] at hx
      rw [Array.getElem?_toList] at hu
      have sg := hi.2 j u hu
      obtain ⟨cc, tt, hcc, rfl⟩ := sg
      rw [Array.getElem?_toList, hcc] at hx
      cases hx
      exact ⟨_, rfl⟩
  exact ⟨.ref s.heap.objs.size, _, I.laid (o := .lst (signsV z)) (t' := tk) kk (Nat.le_refl _) ⟨by rw [hlen]; exact hn, acc.toList, c, hv, ho⟩, rfl, q _ (I.hok.fresh (Nat.le_refl _))⟩
section
variable {X : Cx} {pins : List (Addr × Obj)} {σ : L2.St} {H : Hp} {s : Shared} {a b : Addr} {r : Value} {y : V} {k : List Key} {A : Around} {E : Value → Shared → Prop}
theorem d_setT {kvs : List (List Key × V)} {Q : Value → Shared → Prop} (hu : A.units + 1 < cLine) (I : L2.Inv X pins σ H s) (e : H a = some (.dT kvs)) (eb : H b = some (.tup (k.map kV))) (rd : L2.RelV y r) (hl : kvs.length < sizeLine)
    (h1 : ∀ v, valV kvs k = some v → ∀ (u : Value) (s' : Shared), L2.Inv X pins σ H s' → L2.RelV v u → Q u s') (h2 : valV kvs k = none → ∀ (u : Value) (s' : Shared), L2.Inv X pins σ (upd H a (.dT (putK kvs k y))) s' → L2.RelV y u → Q u s') :
    wpAny (model X.prog X.w) A (call (.builtin "dict.setdefault") [.ref a, .ref b, r]) Q E s := by
  obtain ⟨z, hd, xs, rel, dd⟩ := dt_of I.hok e
  have hz : xs.length ≤ sizeLine := by
    rw [← Paired.length rel]
    exact z
  have q := rel.val k
  refine call_setdefault_heap (hsz := hz) (tupleKind_room_in1 hu) (key_of I.hok eb) hd dd (fun p hp => ?_) fun hn h' dd' hs => ?_
  · rw [hp] at q
    cases q0 : valV kvs k with
    | none =>
      rw [q0] at q
      exact (show False from q).elim
    | some v0 =>
      rw [q0] at q
      exact h1 v0 q0 _ _ (I.tok _) q
  · rw [hn] at q
    cases q0 : valV kvs k with
    | some v0 =>
      rw [q0] at q
      exact (show False from q).elim
    | none =>
      have hl2 : (putK kvs k y).length ≤ sizeLine := by
        have := length_putK kvs k y
        omega
      obtain ⟨ob, es, ep, hq, g2, g3, g4, _, g5⟩ := dd'
      refine h2 q0 _ _ (d_write I (by rw [e]; exact True.intro) hs ⟨ob, hq⟩ ⟨hl2, hd, _, (rel.put k eb rd).keeps fun c ys ec => ?_, ob, es, ep, hq, g2, g3, g4, g5⟩) rd
      rw [upd_ne (ne_of ec e (fun z => nomatch z))]
      exact ec
end
def tSetT (td ty tx : TE) : TE := fun σ H Q => td σ H fun x G => ∃ a kv0, x = .ref a ∧ G a = some (.dT kv0) ∧ ty σ G fun y J => tx σ J fun z L => ∃ b kvs k, y = .ref b ∧ L a = some (.dT kvs) ∧ L b = some (.tup (k.map kV)) ∧ kvs.length < sizeLine ∧
  (∀ v, valV kvs k = some v → Q v L) ∧ (valV kvs k = none → Q z (upd L a (.dT (putK kvs k z))))
theorem pe_setT {X : Cx} {o e f : Expr} {td ty tx : TE} {apos cpos : Pos} (hu : X.A.units + 1 < cLine) (ho : PE X o td) (he : PE X e ty) (hf : PE X f tx) (m : M2 X o "setdefault" apos e f cpos) : PE X (.Call (.Attribute o "setdefault" apos) [e, f] [] cpos) (tSetT td ty tx) := by
  refine ⟨fun pins s σ H Q I h => wpAny_Call_method m.base m.few m.line PySem.F.plainAttrs_dict PySem.F.slot_dict_setdefault PySem.F.type_dict_setdefault (thn (ho.run pins s σ H _ I h) fun u s1 ⟨x, G, I1, rx, a, kv0, ex, d, q1⟩ => ?_)⟩
  subst ex
  obtain rfl : u = Value.ref a := rx
  obtain ⟨t1, t2, _⟩ := isD_at I1 (a := a) (by first | exact .inr ⟨_, .inl d⟩ | exact ⟨_, .inr d⟩ | exact .inr ⟨_, d⟩ | (unfold IsD; simp [d]))
  refine ⟨t1, t2, ?_⟩
  rw [m.trees]
  refine Calls.callWith_builtin rfl (Calls.evalArgs_plain (Calls.spliced_cons (thn (he.run pins s1 σ G _ I1 q1) fun iv s2 ⟨y, J, I2, ry, q2⟩ =>
    Calls.spliced_cons (thn (hf.run pins s2 σ J _ I2 q2) fun fv s3 ⟨z, L, I3, rz, b, kvs, k, ey, ea, eb, hl, q3, q4⟩ => Calls.spliced_nil ?_))))
  subst ey
  cases (show iv = Value.ref b from ry)
  exact d_setT hu I3 ea eb rz hl (fun v hv u' s4 I4 r' => ⟨v, _, I4, r', q3 v hv⟩) fun hn u' s4 I4 r' => ⟨z, _, I4, r', q4 hn⟩
def IteT (K : PySem.W.Frag) (a : Addr) : It :=
  ⟨fun i H => ∃ xs x, SqT K H a xs ∧ xs[i]? = some x, fun i H v H' => ∃ T x, v = .ref T ∧ H T = none ∧ H' = upd H T (.tup [.int (i : Nat), x]) ∧ ∀ xs, SqT K H a xs → xs[i]? = some x, fun i H => ∃ xs, SqT K H a xs ∧ xs.length ≤ i⟩
theorem walk_enumT {K : PySem.W.Frag} {a : Addr} {xs : List V} : Walk (IteT K a) xs.length (fun H => SqT K H a xs) (YPair (fun i => some (.int (i : Nat))) (fun i => xs[i]?)) where
  goes := fun i H hi g => ⟨xs, xs[i], g, List.getElem?_eq_getElem hi⟩
  stops := fun H g => ⟨xs, g, Nat.le_refl _⟩
  yields := fun i H v H' hi g y => by
    obtain ⟨T, x, e, n, eH, h1⟩ := y
    exact ⟨T, _, x, e, n, eH, rfl, h1 _ g⟩
theorem turn_enumT {P : Program} {w : World} {K : PySem.W.Frag} {elts : List Expr} {kk : Nat} {tpos : Pos} {its : List Value} (a e it : Addr) (hne : e ≠ it) (hea : e ≠ a) (hia : a ≠ it) :
    Turn P w K (.Tuple elts kk tpos) (IteT K a) [e, it] e (fun i h => (∃ old, IsEnum h e it ((i : Nat) : Int) old) ∧ h.IsTupleIter it a i) where
  mem := by simp
  obj := fun i h st b hb => by
    obtain ⟨⟨old, he⟩, ⟨o, ho, hc, hd⟩⟩ := st
    have z : b = e ∨ b = it := by simpa using hb
    rcases z with rfl | rfl
    · exact ⟨_, he, fun v q => nomatch q⟩
    · exact ⟨o, ho, fun v q => by rw [hd] at q; cases q⟩
  keep := fun i h h' st k => let ⟨⟨old, he⟩, hi⟩ := st; ⟨⟨old, k e (by simp) _ he⟩, hi.at fun o q => k it (by simp) o q⟩
  item := by
    intro X hP hw hK hc i pins s σ H E I hf st hg
    subst hP hw hK
    obtain ⟨⟨old, he⟩, hit⟩ := st
    obtain ⟨xs, x, hq, hx⟩ := hg
    obtain ⟨us, rv, pl, hz⟩ := I.tuple hq
    obtain ⟨u, hu, ru⟩ := rv.get hx
    have hel : e < s.heap.objs.size := Heap.lt_size he
    have hil : it < s.heap.objs.size := by
      obtain ⟨_, q, _⟩ := hit
      exact Heap.lt_size q
    have hiu : i < us.toArray.size := by
      have := (List.getElem?_eq_some_iff.mp hu).1
      simpa using this
    refine wpAny_pyNext_enum_itemD (Draws.tuple (show X.A.in1.handled = none from by rw [show X.A.in1.handled = X.A.handled from rfl]; exact I.ok.hd hc) it a hia us.toArray) he ⟨hit, pl⟩ hiu hne (by simp [hne, hea]) fun v h' tk hPv ho hst' hT hsz hk => ?_
    have ev : v = u := by
      have q : us.toArray[i]? = some v := hPv
      have q2 : us.toArray[i]? = some u := by simpa using hu
      exact Option.some.inj (q.symm.trans q2)
    subst ev
    refine ⟨_, rfl, wpAny_letOwnedTupleGo_enum (s := { s with heap := h', toks := tk + 1 }) ho fun h2 he' sb => ?_⟩
    have hT2 : h2.get? s.heap.objs.size = some { cls := .type "tuple", data := .seq #[.int i tk, v] } := (sb.2 _ (Nat.ne_of_gt hel)).trans hT
    have new : ObjOk X.prog X.w (upd H s.heap.objs.size (.tup [.int (i : Nat), x])) h2 s.heap.objs.size (.tup [.int (i : Nat), x]) := ⟨by show 2 ≤ sizeLine; decide, [.int i tk, v], .cons ⟨_, rfl⟩ (.cons ru .nil), ⟨_, hT2, rfl, _, rfl⟩⟩
    have J := I.turnedNew (t' := tk + 1) (ch := [e, it]) (h' := h2) (fun b ob hb q => (sb.2 b (fun z => hb (by simp [z]))).trans (hk b ob (fun z => hb (by simp [z])) (fun z => hb (by simp [z])) q)) hf (Nat.le_refl _) new
    refine ⟨.ref s.heap.objs.size, _, J, rfl, ⟨_, x, rfl, I.hok.fresh (Nat.le_refl _), rfl, fun ys hy => by rw [I.tuple_inj hy hq]; exact hx⟩, ⟨⟨v, ?_⟩, hst'.1.at fun o q => (sb.2 it (Ne.symm hne)).trans q⟩, fun b hb => ?_⟩
    · rw [show ((i + 1 : Nat) : Int) = (i : Int) + 1 by omega]
      exact he'
    · have lt : b < s.heap.objs.size := by
        have z : b = e ∨ b = it := by simpa using hb
        rcases z with rfl | rfl
        · exact hel
        · exact hil
      rw [upd_ne (Nat.ne_of_lt lt)]
      exact (hf b hb).1
  done := by
    intro X hP hw hK hc i pins s σ H E I hf st hg
    subst hP hw hK
    obtain ⟨⟨old, he⟩, hit⟩ := st
    obtain ⟨xs, hq, hx⟩ := hg
    obtain ⟨us, rv, pl, hz⟩ := I.tuple hq
    obtain ⟨f0, f1, f2, f3, f4, f5⟩ := hf it (by simp)
    have hn : us.toArray[i]? = none := by
      have := rv.length
      simp
      omega
    have hh : X.A.in1.handled = none := by
      rw [show X.A.in1.handled = X.A.handled from rfl]
      exact I.ok.hd hc
    have D : Draws X.prog X.w X.A.in1 it [it, a] i (fun _ _ => False) (fun j h => j = i ∧ h.IsTupleIter it a i ∧ h.IsTuple a us.toArray) := {
      live := fun j h st => let ⟨o, ho, _⟩ := st.2.1; ⟨o, ho⟩
      frame := fun j h h' st k => ⟨st.1, st.2.1.at fun o q => k it (by simp) o q, st.2.2.at fun o q => k a (by simp) o q⟩
      item := fun j s Q E hj st _ => absurd (st.1 ▸ hj) (Nat.lt_irrefl _)
      done := fun s Q E st hE => wpAny_nextOf_tuple_end hh st.2.1 st.2.2 hn hE }
    exact wpAny_pyNext_enum_endD D he ⟨rfl, hit, pl⟩ fun h' eb => ⟨rfl, I.turned (t' := s.toks) (fun b o hb q => eb b o hb q) f0 f1 f3 f4 f5⟩
  self := fun A i s Q E st h => let ⟨⟨_, he⟩, _⟩ := st; wpAny_pyIter_enum he h
def iEnA (K : PySem.W.Frag) (ta : TA) : TI := fun σ H R => ta σ H fun vs G => ∃ a xs, vs = [.ref a] ∧ ((SqL K G a xs ∧ R (Ite K a) G) ∨ (SqT K G a xs ∧ R (IteT K a) G))
theorem pi_enA {X : Cx} {e : Expr} {ta : TA} {p pos tpos : Pos} {elts : List Expr} {kk : Nat} (hg : Gl X "enumerate") (hm : X.mg "enumerate" = none) (ha : PA X [e] ta) (hs : starEach [e] X.env = [(false, eval e X.env)] := by rfl) :
    PI X (.Tuple elts kk tpos) (.Call (.Name "enumerate" p) [e] [] pos) (iEnA X.K ta) := by
  refine ⟨fun pins s σ H R I h => Call_ (ld_blt I hg hm boot_enumerate (PyProof.Rows.callWith_type1 (thn (ha.run pos pins s σ H _ I h) fun us s1 ⟨vs, G, I1, r1, q1⟩ => ?_) hs rfl))⟩
  obtain ⟨a, xs, ex, q1⟩ := q1
  subst ex
  obtain ⟨u, rfl, ru⟩ := vals1 r1
  cases ru
  have fresh : ∀ b, b ∈ [s1.heap.objs.size + 1, s1.heap.objs.size] → FpOk X pins G b := fun b hb => by
    have z : b = s1.heap.objs.size + 1 ∨ b = s1.heap.objs.size := by simpa using hb
    have le : s1.heap.objs.size ≤ b := by
      rcases z with z | z
      · rw [z]
        exact Nat.le_succ _
      · rw [z]
        exact Nat.le_refl _
    exact I1.fpOk le (I1.hok.fresh le)
  rcases q1 with ⟨hq, q⟩ | ⟨hq, q⟩
  · obtain ⟨its, rv, pl, hz⟩ := I1.list hq
    refine call_enumerate_list pl.isList fun h' he hit hsz hk => wpAny_pyIter_enum he ?_
    exact ⟨s1.heap.objs.size + 1, [s1.heap.objs.size + 1, s1.heap.objs.size], _, _, G, rfl, I1.kept (t' := s1.toks) hk, turn_enum a (s1.heap.objs.size + 1) s1.heap.objs.size, ⟨⟨.none, he⟩, hit, Nat.succ_ne_self _⟩, fresh, q⟩
  · obtain ⟨its, rv, pl, hz⟩ := I1.tuple hq
    have lt : a < s1.heap.objs.size := by
      obtain ⟨o, ho, _⟩ := id pl
      exact Heap.lt_size ho
    refine enum_tuple pl fun h' he hit hT hk => wpAny_pyIter_enum he ?_
    exact ⟨s1.heap.objs.size + 1, [s1.heap.objs.size + 1, s1.heap.objs.size], _, _, G, rfl, I1.kept (t' := s1.toks) hk, turn_enumT (its := its) a (s1.heap.objs.size + 1) s1.heap.objs.size (Nat.succ_ne_self _) (Nat.ne_of_gt (Nat.lt_succ_of_lt lt)) (Nat.ne_of_lt lt), ⟨⟨.none, he⟩, hit⟩, fresh, q⟩
end Sg
namespace Wb
open PySem PySem.Spec PyProof.Rows L2 RZ Sg
abbrev sInit : Stmt := inClass (topS 15) 0
abbrev sPoints : Stmt := inClass (topS 15) 1
abbrev sArrows : Stmt := inClass (topS 15) 2
abbrev sMarks : Stmt := inClass (topS 15) 3
abbrev sRA : Stmt := topS 16
abbrev sRM : Stmt := topS 17
abbrev sGat : Stmt := topS 18
theorem seq_set {te : TE} {i : Nat} {rest : TS} {D : Ends} {σ : L2.St} {H : Hp} (h : te σ H fun v H' => rest D (σ.set i (some v)) H') : tSeq (tAsg te (gName i)) rest D σ H := h
theorem ret_of {te : TE} {D : Ends} {σ : L2.St} {H : Hp} (h : te σ H D.rt) : tRet te D σ H := h
def AK (n : Int) (k : List Key) : Prop := ∃ (c : Nat) (x y : Int), k = [.inr ⟨#[c]⟩, .inl x, .inl y] ∧ (c = 97 ∨ c = 98 ∨ c = 99) ∧ 0 ≤ x ∧ x < n ∧ 0 ≤ y ∧ y < n
def MK (n : Int) (k : List Key) : Prop := ∃ (c : Nat) (x : Int), k = [.inr ⟨#[c]⟩, .inl x] ∧ (c = 112 ∨ c = 113 ∨ c = 114) ∧ 0 ≤ x ∧ x < n
theorem AK.tie {n : Int} {k : List Key} (h : AK n k) (hn : n ≤ 128) : TieK 128 3 k := by
  obtain ⟨c, x, y, rfl, hc, h1, h2, h3, h4⟩ := h
  refine ⟨c, [x, y], rfl, rfl, fun m hm => ?_⟩
  simp only [List.mem_cons, List.not_mem_nil, or_false] at hm
  rcases hm with rfl | rfl | rfl <;> omega
theorem MK.tie {n : Int} {k : List Key} (h : MK n k) (hn : n ≤ 128) : TieK 128 2 k := by
  obtain ⟨c, x, rfl, hc, h1, h2⟩ := h
  refine ⟨c, [x], rfl, rfl, fun m hm => ?_⟩
  simp only [List.mem_cons, List.not_mem_nil, or_false] at hm
  rcases hm with rfl | rfl <;> omega
def TL (K : PySem.W.Frag) (H : Hp) (l : Addr) (ks : List TK) : Prop := (SqL K H l (refs ks) ∨ SqT K H l (refs ks)) ∧ ∀ p ∈ ks, SqT K H p.1 (p.2.map kV)
theorem TL.same {K : PySem.W.Frag} {H H' : Hp} {l : Addr} {ks : List TK} (s : Same H H') (h : TL K H l ks) : TL K H' l ks :=
  ⟨h.1.imp (fun z => s.seq z) fun z => same_tup s z, fun p hp => same_tup s (h.2 p hp)⟩
section
variable {P : Program} {w : World} {K : PySem.W.Frag} {mg : Str → Option Value} {base : Heap}
theorem in_abc {c : Nat} (h : c = 97 ∨ c = 98 ∨ c = 99) : inV (.str ⟨#[c]⟩) (signsV "abc") = true := by
  rcases h with rfl | rfl | rfl <;> decide +kernel
theorem in_pqr {c : Nat} (h : c = 112 ∨ c = 113 ∨ c = 114) : inV (.str ⟨#[c]⟩) (signsV "pqr") = true := by
  rcases h with rfl | rfl | rfl <;> decide +kernel
def spRA (K : PySem.W.Frag) : Sp := fun vs H Q _ => ∃ n l ks, vs = [.int n, .ref l] ∧ TL K H l ks ∧ (∀ p ∈ ks, AK n p.2) ∧ ∀ H', Same H H' → Q .non H'
theorem scRA : FnScope ["points", "arrows", "colours", "at", "colour", "start", "end"] ["points", "arrows"] (defScope sRA) := ⟨rfl, rfl, rfl, by decide +kernel, rfl, by decide +kernel, by decide +kernel⟩
set_option maxHeartbeats 2000000 in
theorem ok_ra {f : Addr} {fd : FuncData} {tk : Tok} (F : Fun K "refuse_bad_arrows" "refuse_bad_arrows" sRA f fd) (mli : mg "list" = none) (me : mg "enumerate" = none) (gC : mg "COLOURS" = some (.str "abc" tk)) : FnOk P w K mg base CX0 1 f fd ["points", "arrows"] (spRA K) := by
  refine F.ok scRA (fun vs H Q E h => ?_) (fun cdv A outer s H vs Q E hr h => ?_)
  · obtain ⟨n, l, ks, rfl, _⟩ := h
    rfl
  · obtain ⟨n, l, ks, rfl, hT, hA, KQ⟩ := h
    refine ⟨_, pss_cons (ps_set (i := 2) scRA.nd rfl (.inl rfl) (pe_callTy (cr_listS rfl) (by rfl) mli boot_list (pa_cons (pe_glob (v := .str "abc") (by rfl) gC ⟨_, rfl⟩) pa_nil)))
      (pss_one (ps_for PassesOwn.never rfl (pi_enA (by rfl) me (pa_cons (pv 1) pa_nil)) (pg_tup rfl (pgs_cons (pg_name (i := 3) scRA.nd rfl (.inl rfl)) (pgs_cons (pg_tup rfl (pgs_cons (pg_name (i := 4) scRA.nd rfl (.inl rfl)) (pgs_cons (pg_name (i := 5) scRA.nd rfl (.inl rfl)) (pgs_cons (pg_name (i := 6) scRA.nd rfl (.inl rfl)) pgs_nil)))) pgs_nil)))
        (pss_one (ps_if (PW.pt (pw_or (pt_cmpR op_notIn_seq (pv 4) (pv 2) (by rfl)) (pw_or (pt_not (pt_chain op_le op_lt pe_int (pv 5) (pv 0))) (pw_or1 (pt_not (pt_chain op_le op_lt pe_int (pv 6) (pv 0))))))) (pss_one ps_never) pss_nil)))), ?_⟩
    refine seq_set ⟨_, rfl, by decide, fun p np => ?_⟩
    have s0 : Same H (upd H p (.lst (signsV "abc"))) := same_upd np
    have e0 : (upd H p (.lst (signsV "abc"))) p = some (.lst (signsV "abc")) := upd_same
    generalize upd H p (.lst (signsV "abc")) = H0 at s0 e0 ⊢
    rcases hT.1 with hS | hS
    · refine ⟨_, rfl, l, refs ks, rfl, .inl ⟨s0.seq hS, for_it (walk_enum (K := K) (a := l) (xs := refs ks)) (fun i σ J => ∃ y3 y4 y5 y6, σ = [some (.int n), some (.ref l), some (.ref p), y3, y4, y5, y6] ∧ Same H0 J) ⟨_, _, _, _, rfl, Same.refl _⟩ ?_ ?_ ?_⟩⟩
      · rintro i σ J _ ⟨y3, y4, y5, y6, rfl, sm⟩
        exact sm.seq (s0.seq hS)
      · rintro i v σ J J' hi ⟨y3, y4, y5, y6, rfl, sm⟩ ⟨T, a1, a2, rfl, nT, rfl, e1, e2⟩
        cases e1
        have hik : i < ks.length := by
          rw [List.length_map] at hi
          exact hi
        have gi : (refs ks)[i]? = some (.ref ks[i].1) := by
          rw [List.getElem?_map, List.getElem?_eq_getElem hik]
          rfl
        cases e2.symm.trans gi
        have sT : Same J (upd J T (.tup [.int (i : Nat), .ref ks[i].1])) := same_upd nT
        have hm : ks[i] ∈ ks := List.getElem_mem hik
        have sq := same_tup (sm.trans sT) (same_tup s0 (hT.2 _ hm))
        obtain ⟨c, x, y, ek, hc, h1, h2, h3, h4⟩ := hA _ hm
        rw [ek] at sq
        refine ⟨T, [.int (i : Nat), .ref ks[i].1], rfl, SqT.of upd_same, rfl, .int (i : Nat), [.ref ks[i].1], rfl, .ref ks[i].1, [], rfl, ⟨ks[i].1, [.str ⟨#[c]⟩, .int x, .int y], rfl, sq, rfl, .str ⟨#[c]⟩, [.int x, .int y], rfl, .int x, [.int y], rfl, .int y, [], rfl, rfl, rfl, ?_⟩⟩
        refine ⟨_, rfl, _, rfl, p, signsV "abc", rfl, .inl (SqL.of (sT _ _ (sm _ _ e0))), rfl, by decide +kernel, _, rfl, ?_⟩
        rw [in_abc hc]
        refine iteF ?_
        refine ⟨_, rfl, _, _, rfl, rfl, _, rfl, ?_⟩
        rw [decide_eq_true (show (0 : Int) ≤ x from h1)]
        refine iteT ⟨_, rfl, _, _, rfl, rfl, _, rfl, ?_⟩
        rw [decide_eq_true (show x < n from h2)]
        refine iteF ?_
        refine ⟨_, rfl, _, _, rfl, rfl, _, rfl, ?_⟩
        rw [decide_eq_true (show (0 : Int) ≤ y from h3)]
        refine iteT ⟨_, rfl, _, _, rfl, rfl, _, rfl, ?_⟩
        rw [decide_eq_true (show y < n from h4)]
        refine iteF ?_
        exact ⟨_, _, _, _, rfl, sm.trans sT⟩
      · rintro σ J ⟨y3, y4, y5, y6, rfl, sm⟩
        exact KQ J (s0.trans sm)
    · refine ⟨_, rfl, l, refs ks, rfl, .inr ⟨same_tup s0 hS, for_it (walk_enumT (K := K) (a := l) (xs := refs ks)) (fun i σ J => ∃ y3 y4 y5 y6, σ = [some (.int n), some (.ref l), some (.ref p), y3, y4, y5, y6] ∧ Same H0 J) ⟨_, _, _, _, rfl, Same.refl _⟩ ?_ ?_ ?_⟩⟩
      · rintro i σ J _ ⟨y3, y4, y5, y6, rfl, sm⟩
        exact same_tup sm (same_tup s0 hS)
      · rintro i v σ J J' hi ⟨y3, y4, y5, y6, rfl, sm⟩ ⟨T, a1, a2, rfl, nT, rfl, e1, e2⟩
        cases e1
        have hik : i < ks.length := by
          rw [List.length_map] at hi
          exact hi
        have gi : (refs ks)[i]? = some (.ref ks[i].1) := by
          rw [List.getElem?_map, List.getElem?_eq_getElem hik]
          rfl
        cases e2.symm.trans gi
        have sT : Same J (upd J T (.tup [.int (i : Nat), .ref ks[i].1])) := same_upd nT
        have hm : ks[i] ∈ ks := List.getElem_mem hik
        have sq := same_tup (sm.trans sT) (same_tup s0 (hT.2 _ hm))
        obtain ⟨c, x, y, ek, hc, h1, h2, h3, h4⟩ := hA _ hm
        rw [ek] at sq
        refine ⟨T, [.int (i : Nat), .ref ks[i].1], rfl, SqT.of upd_same, rfl, .int (i : Nat), [.ref ks[i].1], rfl, .ref ks[i].1, [], rfl, ⟨ks[i].1, [.str ⟨#[c]⟩, .int x, .int y], rfl, sq, rfl, .str ⟨#[c]⟩, [.int x, .int y], rfl, .int x, [.int y], rfl, .int y, [], rfl, rfl, rfl, ?_⟩⟩
        refine ⟨_, rfl, _, rfl, p, signsV "abc", rfl, .inl (SqL.of (sT _ _ (sm _ _ e0))), rfl, by decide +kernel, _, rfl, ?_⟩
        rw [in_abc hc]
        refine iteF ?_
        refine ⟨_, rfl, _, _, rfl, rfl, _, rfl, ?_⟩
        rw [decide_eq_true (show (0 : Int) ≤ x from h1)]
        refine iteT ⟨_, rfl, _, _, rfl, rfl, _, rfl, ?_⟩
        rw [decide_eq_true (show x < n from h2)]
        refine iteF ?_
        refine ⟨_, rfl, _, _, rfl, rfl, _, rfl, ?_⟩
        rw [decide_eq_true (show (0 : Int) ≤ y from h3)]
        refine iteT ⟨_, rfl, _, _, rfl, rfl, _, rfl, ?_⟩
        rw [decide_eq_true (show y < n from h4)]
        refine iteF ?_
        exact ⟨_, _, _, _, rfl, sm.trans sT⟩
      · rintro σ J ⟨y3, y4, y5, y6, rfl, sm⟩
        exact KQ J (s0.trans sm)
def spRM (K : PySem.W.Frag) : Sp := fun vs H Q _ => ∃ n l ks, vs = [.int n, .ref l] ∧ TL K H l ks ∧ (∀ p ∈ ks, MK n p.2) ∧ ∀ H', Same H H' → Q .non H'
theorem scRM : FnScope ["points", "marks", "signs", "at", "mark", "point"] ["points", "marks"] (defScope sRM) := ⟨rfl, rfl, rfl, by decide +kernel, rfl, by decide +kernel, by decide +kernel⟩
set_option maxHeartbeats 2000000 in
theorem ok_rm {f : Addr} {fd : FuncData} {tk : Tok} (F : Fun K "refuse_bad_marks" "refuse_bad_marks" sRM f fd) (mli : mg "list" = none) (me : mg "enumerate" = none) (gC : mg "MARKS" = some (.str "pqr" tk)) : FnOk P w K mg base CX0 1 f fd ["points", "marks"] (spRM K) := by
  refine F.ok scRM (fun vs H Q E h => ?_) (fun cdv A outer s H vs Q E hr h => ?_)
  · obtain ⟨n, l, ks, rfl, _⟩ := h
    rfl
  · obtain ⟨n, l, ks, rfl, hT, hA, KQ⟩ := h
    refine ⟨_, pss_cons (ps_set (i := 2) scRM.nd rfl (.inl rfl) (pe_callTy (cr_listS rfl) (by rfl) mli boot_list (pa_cons (pe_glob (v := .str "pqr") (by rfl) gC ⟨_, rfl⟩) pa_nil)))
      (pss_one (ps_for PassesOwn.never rfl (pi_enA (by rfl) me (pa_cons (pv 1) pa_nil)) (pg_tup rfl (pgs_cons (pg_name (i := 3) scRM.nd rfl (.inl rfl)) (pgs_cons (pg_tup rfl (pgs_cons (pg_name (i := 4) scRM.nd rfl (.inl rfl)) (pgs_cons (pg_name (i := 5) scRM.nd rfl (.inl rfl)) pgs_nil))) pgs_nil)))
        (pss_one (ps_if (PW.pt (pw_or (pt_cmpR op_notIn_seq (pv 4) (pv 2) (by rfl)) (pw_or1 (pt_not (pt_chain op_le op_lt pe_int (pv 5) (pv 0)))))) (pss_one ps_never) pss_nil)))), ?_⟩
    refine seq_set ⟨_, rfl, by decide, fun p np => ?_⟩
    have s0 : Same H (upd H p (.lst (signsV "pqr"))) := same_upd np
    have e0 : (upd H p (.lst (signsV "pqr"))) p = some (.lst (signsV "pqr")) := upd_same
    generalize upd H p (.lst (signsV "pqr")) = H0 at s0 e0 ⊢
    rcases hT.1 with hS | hS
    · refine ⟨_, rfl, l, refs ks, rfl, .inl ⟨s0.seq hS, for_it (walk_enum (K := K) (a := l) (xs := refs ks)) (fun i σ J => ∃ y3 y4 y5, σ = [some (.int n), some (.ref l), some (.ref p), y3, y4, y5] ∧ Same H0 J) ⟨_, _, _, rfl, Same.refl _⟩ ?_ ?_ ?_⟩⟩
      · rintro i σ J _ ⟨y3, y4, y5, rfl, sm⟩
        exact sm.seq (s0.seq hS)
      · rintro i v σ J J' hi ⟨y3, y4, y5, rfl, sm⟩ ⟨T, a1, a2, rfl, nT, rfl, e1, e2⟩
        cases e1
        have hik : i < ks.length := by
          rw [List.length_map] at hi
          exact hi
        have gi : (refs ks)[i]? = some (.ref ks[i].1) := by
          rw [List.getElem?_map, List.getElem?_eq_getElem hik]
          rfl
        cases e2.symm.trans gi
        have sT : Same J (upd J T (.tup [.int (i : Nat), .ref ks[i].1])) := same_upd nT
        have hm : ks[i] ∈ ks := List.getElem_mem hik
        have sq := same_tup (sm.trans sT) (same_tup s0 (hT.2 _ hm))
        obtain ⟨c, x, ek, hc, h1, h2⟩ := hA _ hm
        rw [ek] at sq
        refine ⟨T, [.int (i : Nat), .ref ks[i].1], rfl, SqT.of upd_same, rfl, .int (i : Nat), [.ref ks[i].1], rfl, .ref ks[i].1, [], rfl, ⟨ks[i].1, [.str ⟨#[c]⟩, .int x], rfl, sq, rfl, .str ⟨#[c]⟩, [.int x], rfl, .int x, [], rfl, rfl, rfl, ?_⟩⟩
        refine ⟨_, rfl, _, rfl, p, signsV "pqr", rfl, .inl (SqL.of (sT _ _ (sm _ _ e0))), rfl, by decide +kernel, _, rfl, ?_⟩
        rw [in_pqr hc]
        refine iteF ?_
        refine ⟨_, rfl, _, _, rfl, rfl, _, rfl, ?_⟩
        rw [decide_eq_true (show (0 : Int) ≤ x from h1)]
        refine iteT ⟨_, rfl, _, _, rfl, rfl, _, rfl, ?_⟩
        rw [decide_eq_true (show x < n from h2)]
        refine iteF ?_
        exact ⟨_, _, _, rfl, sm.trans sT⟩
      · rintro σ J ⟨y3, y4, y5, rfl, sm⟩
        exact KQ J (s0.trans sm)
    · refine ⟨_, rfl, l, refs ks, rfl, .inr ⟨same_tup s0 hS, for_it (walk_enumT (K := K) (a := l) (xs := refs ks)) (fun i σ J => ∃ y3 y4 y5, σ = [some (.int n), some (.ref l), some (.ref p), y3, y4, y5] ∧ Same H0 J) ⟨_, _, _, rfl, Same.refl _⟩ ?_ ?_ ?_⟩⟩
      · rintro i σ J _ ⟨y3, y4, y5, rfl, sm⟩
        exact same_tup sm (same_tup s0 hS)
      · rintro i v σ J J' hi ⟨y3, y4, y5, rfl, sm⟩ ⟨T, a1, a2, rfl, nT, rfl, e1, e2⟩
        cases e1
        have hik : i < ks.length := by
          rw [List.length_map] at hi
          exact hi
        have gi : (refs ks)[i]? = some (.ref ks[i].1) := by
          rw [List.getElem?_map, List.getElem?_eq_getElem hik]
          rfl
        cases e2.symm.trans gi
        have sT : Same J (upd J T (.tup [.int (i : Nat), .ref ks[i].1])) := same_upd nT
        have hm : ks[i] ∈ ks := List.getElem_mem hik
        have sq := same_tup (sm.trans sT) (same_tup s0 (hT.2 _ hm))
        obtain ⟨c, x, ek, hc, h1, h2⟩ := hA _ hm
        rw [ek] at sq
        refine ⟨T, [.int (i : Nat), .ref ks[i].1], rfl, SqT.of upd_same, rfl, .int (i : Nat), [.ref ks[i].1], rfl, .ref ks[i].1, [], rfl, ⟨ks[i].1, [.str ⟨#[c]⟩, .int x], rfl, sq, rfl, .str ⟨#[c]⟩, [.int x], rfl, .int x, [], rfl, rfl, rfl, ?_⟩⟩
        refine ⟨_, rfl, _, rfl, p, signsV "pqr", rfl, .inl (SqL.of (sT _ _ (sm _ _ e0))), rfl, by decide +kernel, _, rfl, ?_⟩
        rw [in_pqr hc]
        refine iteF ?_
        refine ⟨_, rfl, _, _, rfl, rfl, _, rfl, ?_⟩
        rw [decide_eq_true (show (0 : Int) ≤ x from h1)]
        refine iteT ⟨_, rfl, _, _, rfl, rfl, _, rfl, ?_⟩
        rw [decide_eq_true (show x < n from h2)]
        refine iteF ?_
        exact ⟨_, _, _, rfl, sm.trans sT⟩
      · rintro σ J ⟨y3, y4, y5, rfl, sm⟩
        exact KQ J (s0.trans sm)
end
end Wb
namespace Wb
open PySem PySem.Spec PyProof.Rows L2 RZ Sg
def k2 (p : TK) : List Key := p.2.take 2
def lastV (p : TK) : V := kV (p.2.getD 2 (.inl 0))
def gat (rows : List TK) (k : List Key) : List V := (rows.filter fun p => decide (k2 p = k)).map lastV
theorem gat_add (rows : List TK) (p : TK) (k : List Key) : gat (rows ++ [p]) k = if k2 p = k then gat rows k ++ [lastV p] else gat rows k := by
  unfold gat
  rw [List.filter_append, List.map_append]
  by_cases h : k2 p = k
  · rw [if_pos h]
    simp [h]
  · rw [if_neg h]
    simp [h]
theorem gat_len (rows : List TK) (k : List Key) : (gat rows k).length ≤ rows.length := by
  unfold gat
  rw [List.length_map]
  exact List.length_filter_le ..
structure GD (H0 H : Hp) (d : Addr) (rows : List TK) : Prop where
  nd : H0 d = none
  ex : ∃ kvs, H d = some (.dT kvs) ∧ kvs.length ≤ rows.length ∧ (∀ k, valV kvs k = none → gat rows k = []) ∧ (∀ k v, valV kvs k = some v → ∃ q, v = .ref q ∧ H0 q = none ∧ H q = some (.lst (gat rows k))) ∧
    ∀ k j q, valV kvs k = some (.ref q) → valV kvs j = some (.ref q) → k = j
theorem GD.new {H0 H : Hp} {d p : Addr} {o : HO} {rows : List TK} (g : GD H0 H d rows) (h : H p = none) : GD H0 (upd H p o) d rows := by
  obtain ⟨kvs, e, l, h1, h2, h3⟩ := g.ex
  refine ⟨g.nd, kvs, by rw [upd_ne (ne_of_none e h)]; exact e, l, h1, fun k v hv => ?_, h3⟩
  obtain ⟨q, eq, nq, hq⟩ := h2 k v hv
  exact ⟨q, eq, nq, by rw [upd_ne (ne_of_none hq h)]; exact hq⟩
section
variable {P : Program} {w : World} {K : PySem.W.Frag} {mg : Str → Option Value} {base : Heap}
def R3 (k : List Key) : Prop := ∃ (z : Str) (x y : Int), k = [.inr z, .inl x, .inl y]
theorem small9k {n : Nat} (h : n ≤ 45000) : n < sizeLine := by
  rw [sizeLine_eq]
  omega
def spGat (K : PySem.W.Frag) : Sp := fun vs H Q _ => ∃ l ks, vs = [.ref l] ∧ SqL K H l (refs ks) ∧ (∀ p ∈ ks, SqT K H p.1 (p.2.map kV) ∧ R3 p.2) ∧ ks.length ≤ 45000 ∧ ∀ d H', Same H H' → GD H H' d ks → Q (.ref d) H'
theorem scG : FnScope ["rows", "lasts", "colour", "point", "last"] ["rows"] (defScope sGat) := ⟨rfl, rfl, rfl, by decide +kernel, rfl, by decide +kernel, by decide +kernel⟩
set_option maxHeartbeats 2000000 in
theorem ok_gat {f : Addr} {fd : FuncData} (F : Fun K "gathered" "gathered" sGat f fd) : FnOk P w K mg base CX0 1 f fd ["rows"] (spGat K) := by
  refine F.ok scG (fun vs H Q E h => ?_) (fun cdv A outer s H vs Q E hr h => ?_)
  · obtain ⟨l, ks, rfl, _⟩ := h
    rfl
  · obtain ⟨l, ks, rfl, hS, hK, hlen, KQ⟩ := h
    have hu := hu_of hr
    refine ⟨_, pss_cons (ps_set (i := 1) scG.nd rfl (.inl rfl) pe_dnewT)
      (pss_cons (ps_for PassesOwn.never rfl (pi_list (pv 0)) (pg_tup rfl (pgs_cons (pg_name (i := 2) scG.nd rfl (.inl rfl)) (pgs_cons (pg_name (i := 3) scG.nd rfl (.inl rfl)) (pgs_cons (pg_name (i := 4) scG.nd rfl (.inl rfl)) pgs_nil))))
        (pss_one (ps_expr (pe_bm PySem.F.plainAttrs_list PySem.F.slot_list_append PySem.F.type_list_append mt_append (pe_setT hu (pv 1) (pe_tup (pa_cons (pv 2) (pa_cons (pv 3) pa_nil))) (pe_lst pa_nil) ⟨rfl, rfl, rfl, rfl⟩) (pa_cons (pv 4) pa_nil)))))
      (pss_one (ps_ret (pv 1)))), ?_⟩
    refine seq_set fun d nd => ?_
    have s0 : Same H (upd H d (.dT [])) := same_upd nd
    have g0 : GD H (upd H d (.dT [])) d [] := ⟨nd, [], upd_same, Nat.le_refl _, (fun _ _ => rfl), (fun k v hv => by rw [valV_nil] at hv; cases hv), (fun k j q hv => by rw [valV_nil] at hv; cases hv)⟩
    generalize upd H d (.dT []) = H0 at s0 g0 ⊢
    refine ⟨_, rfl, l, rfl, ⟨_, s0.seq hS⟩, for_list (xs := refs ks) (fun i σ J => ∃ y2 y3 y4, σ = [some (.ref l), some (.ref d), y2, y3, y4] ∧ Same H J ∧ GD H J d (ks.take i)) ⟨_, _, _, rfl, s0, g0⟩ ?_ ?_ ?_⟩
    · rintro i σ J _ ⟨y2, y3, y4, _, sm, _⟩
      exact sm.seq hS
    · rintro i v σ J hv ⟨y2, y3, y4, rfl, sm, g⟩
      have hik : i < ks.length := by
        have := (List.getElem?_eq_some_iff.mp hv).1
        rwa [List.length_map] at this
      have gi : (refs ks)[i]? = some (.ref ks[i].1) := by
        rw [List.getElem?_map, List.getElem?_eq_getElem hik]
        rfl
      cases hv.symm.trans gi
      have hm : ks[i] ∈ ks := List.getElem_mem hik
      obtain ⟨hq, z, x, y, ek⟩ := hK _ hm
      have sq := same_tup sm hq
      rw [ek] at sq
      have ht : ks.take (i + 1) = ks.take i ++ [ks[i]] := by
        rw [List.take_add_one, List.getElem?_eq_getElem hik]
        rfl
      have e2 : k2 ks[i] = [.inr z, .inl x] := by
        unfold k2
        rw [ek]
        rfl
      have el : lastV ks[i] = .int y := by
        unfold lastV
        rw [ek]
        rfl
      refine ⟨ks[i].1, [.str z, .int x, .int y], rfl, sq, rfl, .str z, [.int x, .int y], rfl, .int x, [.int y], rfl, .int y, [], rfl, rfl, ?_⟩
      obtain ⟨kv0, e0, _⟩ := g.ex
      refine ⟨_, rfl, d, kv0, rfl, e0, _, rfl, _, rfl, by show 2 ≤ sizeLine; decide, fun T nT => ?_⟩
      have g1 := g.new (o := .tup [.str z, .int x]) nT
      have s1 : Same H (upd J T (.tup [.str z, .int x])) := sm.trans (same_upd nT)
      have eT : (upd J T (.tup [.str z, .int x])) T = some (.tup (([.inr z, .inl x] : List Key).map kV)) := upd_same
      generalize upd J T (.tup [.str z, .int x]) = J1 at g1 s1 eT ⊢
      refine ⟨Nat.zero_le _, fun q' nq => ?_⟩
      have g2 := g1.new (o := .lst []) nq
      have s2 : Same H (upd J1 q' (.lst [])) := s1.trans (same_upd nq)
      have eT2 := same_upd (o := .lst []) nq _ _ eT
      have eq' : (upd J1 q' (.lst [])) q' = some (.lst []) := upd_same
      have hq0 : H q' = none := s1.free nq
      have fr : ∀ k q, (∃ kvs, (upd J1 q' (.lst [])) d = some (.dT kvs) ∧ valV kvs k = some (.ref q)) → q ≠ q' := by
        rintro k q ⟨kvs, ekv, hv2⟩ rfl
        obtain ⟨kv1, e1, _, _, h2, _⟩ := g1.ex
        have e1' := same_upd (o := .lst []) nq _ _ e1
        rw [ekv] at e1'
        cases e1'
        obtain ⟨q1, z1, _, hq1⟩ := h2 k _ hv2
        cases z1
        rw [nq] at hq1
        cases hq1
      generalize upd J1 q' (.lst []) = J2 at g2 s2 eT2 eq' fr ⊢
      obtain ⟨kvs, e1, hl, h1, h2, h3⟩ := g2.ex
      have ltn : (ks.take i).length ≤ 45000 := by
        rw [List.length_take]
        omega
      refine ⟨T, kvs, [.inr z, .inl x], rfl, e1, eT2, small9k (by omega), fun v hv2 => ?_, fun hn => ?_⟩
      · obtain ⟨q, rfl, nq0, hq2⟩ := h2 _ _ hv2
        refine ⟨.inl ⟨rfl, _, SqL.of hq2⟩, _, rfl, q, _, _, rfl, rfl, hq2, Nat.lt_of_le_of_lt (gat_len _ _) (small9k ltn), ?_⟩
        have dq : d ≠ q := ne_of e1 hq2 (fun z => nomatch z)
        refine ⟨_, _, _, rfl, fun c o ec => ?_, ⟨nd, kvs, by rw [upd_ne dq]; exact e1, by rw [ht, List.length_append]; exact Nat.le_succ_of_le hl, fun k hk => ?_, fun k u hk => ?_, h3⟩⟩
        · rw [upd_ne (ne_of_none ec nq0)]
          exact s2 _ _ ec
        · rw [ht, gat_add, e2, if_neg (fun z => by rw [← z, hv2] at hk; cases hk)]
          exact h1 k hk
        · obtain ⟨q1, rfl, n1, hq1⟩ := h2 k u hk
          refine ⟨q1, rfl, n1, ?_⟩
          rw [ht, gat_add, e2, el]
          by_cases hkk : ([.inr z, .inl x] : List Key) = k
          · subst hkk
            rw [hv2] at hk
            cases hk
            rw [upd_same, if_pos rfl]
          · rw [if_neg hkk, upd_ne (fun z => hkk (h3 _ _ q hv2 (by rw [← z]; exact hk)))]
            exact hq1
      · have g00 := h1 _ hn
        have dq : d ≠ q' := ne_of e1 eq' (fun z => nomatch z)
        have ed : (upd J2 d (.dT (putK kvs [.inr z, .inl x] (.ref q')))) q' = some (.lst []) := by
          rw [upd_ne dq.symm]
          exact eq'
        refine ⟨.inl ⟨rfl, _, SqL.of ed⟩, _, rfl, q', _, _, rfl, rfl, ed, by decide, ?_⟩
        refine ⟨_, _, _, rfl, fun c o ec => ?_, ⟨nd, putK kvs [.inr z, .inl x] (.ref q'), by rw [upd_ne dq, upd_same], ?_, fun k hk => ?_, fun k u hk => ?_, fun k j q hk hj => ?_⟩⟩
        · rw [upd_ne (ne_of_none ec hq0), upd_ne (ne_of_none ec nd)]
          exact s2 _ _ ec
        · rw [putK_new _ hn, ht, List.length_append, List.length_append]
          exact Nat.succ_le_succ hl
        · rw [valV_put] at hk
          by_cases hkk : k = ([.inr z, .inl x] : List Key)
          · rw [if_pos hkk] at hk
            cases hk
          · rw [if_neg hkk] at hk
            rw [ht, gat_add, e2, if_neg (fun z => hkk z.symm)]
            exact h1 k hk
        · rw [valV_put] at hk
          by_cases hkk : k = ([.inr z, .inl x] : List Key)
          · rw [if_pos hkk] at hk
            cases hk
            refine ⟨q', rfl, hq0, ?_⟩
            rw [upd_same, ht, gat_add, e2, if_pos hkk.symm, hkk, g00, el]
          · rw [if_neg hkk] at hk
            obtain ⟨q1, rfl, n1, hq1⟩ := h2 k u hk
            refine ⟨q1, rfl, n1, ?_⟩
            rw [upd_ne (fr k q1 ⟨kvs, e1, hk⟩), upd_ne (ne_of hq1 e1 (fun z => nomatch z)), ht, gat_add, e2, if_neg (fun z => hkk z.symm)]
            exact hq1
        · rw [valV_put] at hk hj
          by_cases hkk : k = ([.inr z, .inl x] : List Key)
          · rw [if_pos hkk] at hk
            cases hk
            by_cases hjj : j = ([.inr z, .inl x] : List Key)
            · rw [hkk, hjj]
            · rw [if_neg hjj] at hj
              exact absurd rfl (fr j _ ⟨kvs, e1, hj⟩)
          · rw [if_neg hkk] at hk
            by_cases hjj : j = ([.inr z, .inl x] : List Key)
            · rw [if_pos hjj] at hj
              cases hj
              exact absurd rfl (fr k _ ⟨kvs, e1, hk⟩)
            · rw [if_neg hjj] at hj
              exact h3 k j q hk hj
    · rintro σ J ⟨y2, y3, y4, rfl, sm, g⟩
      rw [List.length_map, List.take_length] at g
      exact ⟨_, rfl, KQ d J sm g⟩
end
end Wb
namespace Wb
open PySem PySem.Spec PyProof.Rows L2 RZ Sg
def flds (pl ar mr ow bw : Addr) : List (Str × V) := putF "backward" (.ref bw) (putF "onward" (.ref ow) (putF "mark_rows" (.ref mr) (putF "arrow_rows" (.ref ar) (putF "places" (.ref pl) []))))
theorem flds_eq (pl ar mr ow bw : Addr) : flds pl ar mr ow bw = ([("places", V.ref pl), ("arrow_rows", V.ref ar), ("mark_rows", V.ref mr), ("onward", V.ref ow), ("backward", V.ref bw)] : List (Str × V)) := by
  rfl
def GX (H : Hp) (d : Addr) (f : List Key → List V) : Prop := ∃ kvs, H d = some (.dT kvs) ∧ (∀ k, valV kvs k = none → f k = []) ∧ ∀ k v, valV kvs k = some v → ∃ q, v = .ref q ∧ H q = some (.lst (f k))
theorem GX.same {H H' : Hp} {d : Addr} {f : List Key → List V} (s : Same H H') (g : GX H d f) : GX H' d f := by
  obtain ⟨kvs, e, h1, h2⟩ := g
  refine ⟨kvs, s _ _ e, h1, fun k v hv => ?_⟩
  obtain ⟨q, eq, hq⟩ := h2 k v hv
  exact ⟨q, eq, s _ _ hq⟩
theorem GD.gx {H0 H : Hp} {d : Addr} {rows : List TK} (g : GD H0 H d rows) : GX H d (gat rows) := by
  obtain ⟨kvs, e, _, h1, h2, _⟩ := g.ex
  refine ⟨kvs, e, h1, fun k v hv => ?_⟩
  obtain ⟨q, eq, _, hq⟩ := h2 k v hv
  exact ⟨q, eq, hq⟩
def swK (k : List Key) : List Key := [k.getD 0 (.inl 0), k.getD 2 (.inl 0), k.getD 1 (.inl 0)]
theorem Xt.put {b : Addr} {H H' : Hp} {o : HO} (x : Xt b H H') : Xt b H (upd H' b o) := fun c u hc e => by
  rw [upd_ne hc]
  exact x c u hc e
theorem GX.xt {x C dx d : Addr} {fs : List (Str × V)} {H H' : Hp} {f : List Key → List V} (s : Xt x H H') (hx : H x = some (.ins C dx fs)) (g : GX H d f) : GX H' d f := by
  obtain ⟨kvs, e, h1, h2⟩ := g
  refine ⟨kvs, s _ _ (ne_of e hx (fun z => nomatch z)) e, h1, fun k v hv => ?_⟩
  obtain ⟨q, eq, hq⟩ := h2 k v hv
  exact ⟨q, eq, s _ _ (ne_of hq hx (fun z => nomatch z)) hq⟩
theorem xt_tup' {K : PySem.W.Frag} {x p : Addr} {ys : List V} {H H' : Hp} {xs : List V} (s : Xt x H H') (hx : H x = some (.lst ys)) (h : SqT K H p xs) : SqT K H' p xs := by
  rcases h with (h | ⟨o, h⟩) | h
  · exact .inl (.inl (s _ _ (ne_of h hx (fun z => nomatch z)) h))
  · exact .inl (.inr ⟨o, s _ _ (ne_of h hx (fun z => nomatch z)) h⟩)
  · exact .inr h
def GXn (H0 H : Hp) (d : Addr) (f : List Key → List V) : Prop := H0 d = none ∧ ∃ kvs, H d = some (.dT kvs) ∧ (∀ k, valV kvs k = none → f k = []) ∧ ∀ k v, valV kvs k = some v → ∃ q, v = .ref q ∧ H0 q = none ∧ H q = some (.lst (f k))
theorem GXn.gx {H0 H : Hp} {d : Addr} {f : List Key → List V} (g : GXn H0 H d f) : GX H d f := by
  obtain ⟨_, kvs, e, h1, h2⟩ := g
  refine ⟨kvs, e, h1, fun k v hv => ?_⟩
  obtain ⟨q, eq, _, hq⟩ := h2 k v hv
  exact ⟨q, eq, hq⟩
theorem GXn.keep {H0 H H' : Hp} {d : Addr} {f : List Key → List V} (g : GXn H0 H d f) (k : ∀ c o, H0 c = none → H c = some o → H' c = some o) : GXn H0 H' d f := by
  obtain ⟨n0, kvs, e, h1, h2⟩ := g
  refine ⟨n0, kvs, k _ _ n0 e, h1, fun z v hv => ?_⟩
  obtain ⟨q, eq, nq, hq⟩ := h2 z v hv
  exact ⟨q, eq, nq, k _ _ nq hq⟩
theorem GD.gxn {x C dx d : Addr} {fs : List (Str × V)} {H J J' : Hp} {rows : List TK} (g : GD J J' d rows) (s : Xt x H J) (hx : J x = some (.ins C dx fs)) : GXn H J' d (gat rows) := by
  obtain ⟨kvs, e, _, h1, h2, _⟩ := g.ex
  refine ⟨s.free (ne_of_none hx g.nd).symm g.nd, kvs, e, h1, fun k v hv => ?_⟩
  obtain ⟨q, eq, nq, hq⟩ := h2 k v hv
  exact ⟨q, eq, s.free (ne_of_none hx nq).symm nq, hq⟩
structure WebAt (C : Addr) (H : Hp) (x : Addr) (n : Int) (As Ms : List TK) : Prop where
  ex : ∃ dx pl ar mr ow bw, H x = some (.ins C dx (flds pl ar mr ow bw)) ∧ H pl = some (.lst (rgV 0 n)) ∧ H ar = some (.lst (refs As)) ∧ H mr = some (.lst (refs Ms)) ∧ GX H ow (gat As) ∧ ∃ Bs : List TK, Bs.map (·.2) = As.map (fun p => swK p.2) ∧ GX H bw (gat Bs)
theorem WebAt.same {C : Addr} {H H' : Hp} {x : Addr} {n : Int} {As Ms : List TK} (s : Same H H') (w : WebAt C H x n As Ms) : WebAt C H' x n As Ms := by
  obtain ⟨dx, pl, ar, mr, ow, bw, h1, h2, h3, h4, h5, Bs, h6, h7⟩ := w.ex
  exact ⟨dx, pl, ar, mr, ow, bw, s _ _ h1, s _ _ h2, s _ _ h3, s _ _ h4, h5.same s, Bs, h6, h7.same s⟩
def WebOwn (C : Addr) (H0 H : Hp) (x : Addr) (n : Int) (As Ms : List TK) : Prop := ∀ H', (∀ c o, H0 c = none ∨ c = x → H c = some o → H' c = some o) → WebAt C H' x n As Ms
structure Srt (ks L : List TK) : Prop where
  of : ∀ p ∈ L, p ∈ ks
  all : ∀ p ∈ ks, p.2 ∈ L.map (·.2)
  nd : (L.map (·.2)).Nodup
  ris : L.Pairwise fun p q => ordOf 128 p ≤ ordOf 128 q
structure WT (K : PySem.W.Frag) (mg : Str → Option Value) (C : Addr) : Prop where
  cl : Cls K C
  n1 : NoAttr K C "places"
  n2 : NoAttr K C "arrow_rows"
  n3 : NoAttr K C "mark_rows"
  n4 : NoAttr K C "onward"
  n5 : NoAttr K C "backward"
  list : mg "list" = none
  range : mg "range" = none
  set : mg "set" = none
  sorted : mg "sorted" = none
  most : ∃ t, mg "MOST_POINTS" = some (.int 81 t)
theorem xt_tup {K : PySem.W.Frag} {x C dx p : Addr} {fs : List (Str × V)} {H H' : Hp} {xs : List V} (s : Xt x H H') (hx : H x = some (.ins C dx fs)) (h : SqT K H p xs) : SqT K H' p xs := by
  rcases h with (h | ⟨o, h⟩) | h
  · exact .inl (.inl (s _ _ (ne_of h hx (fun z => nomatch z)) h))
  · exact .inl (.inr ⟨o, s _ _ (ne_of h hx (fun z => nomatch z)) h⟩)
  · exact .inr h
theorem xt_lst {K : PySem.W.Frag} {x C dx p : Addr} {fs : List (Str × V)} {H H' : Hp} {xs : List V} (s : Xt x H H') (hx : H x = some (.ins C dx fs)) (h : SqL K H p xs) : SqL K H' p xs := by
  rcases h with (h | ⟨o, h⟩) | h
  · exact .inl (.inl (s _ _ (ne_of h hx (fun z => nomatch z)) h))
  · exact .inl (.inr ⟨o, s _ _ (ne_of h hx (fun z => nomatch z)) h⟩)
  · exact .inr h
theorem TL.xt {K : PySem.W.Frag} {x C dx l : Addr} {fs : List (Str × V)} {H H' : Hp} {ks : List TK} (s : Xt x H H') (hx : H x = some (.ins C dx fs)) (h : TL K H l ks) : TL K H' l ks :=
  ⟨h.1.imp (fun z => xt_lst s hx z) fun z => xt_tup s hx z, fun p hp => xt_tup s hx (h.2 p hp)⟩
theorem seq_fld {K : PySem.W.Frag} {tv ta : TE} {f : Str} {rest : TS} {D : Ends} {σ : L2.St} {H : Hp} (h : tv σ H fun y H1 => ta σ H1 fun x H2 => ∃ a C dx fs, x = .ref a ∧ H2 a = some (.ins C dx fs) ∧ Cls K C ∧ NoAttr K C f ∧ fs.length < 1000 ∧ rest D σ (upd H2 a (.ins C dx (putF f y fs)))) : tSeq (sFld K ta tv f) rest D σ H := h
theorem seq_drop {te : TE} {rest : TS} {D : Ends} {σ : L2.St} {H : Hp} (h : te σ H fun _ H1 => rest D σ H1) : tSeq (tDrop te) rest D σ H := h
theorem seq_if {c : TT} {t u rest : TS} {D : Ends} {σ : L2.St} {H : Hp} (h : c σ H fun b H1 => if b = true then tSeq t rest D σ H1 else tSeq u rest D σ H1) : tSeq (tIfS c t u) rest D σ H := h
theorem seq_next {rest : TS} {D : Ends} {σ : L2.St} {H : Hp} (h : rest D σ H) : tSeq tNext rest D σ H := h
theorem Srt.len {ks L : List TK} (h : Srt ks L) : L.length ≤ ks.length := by
  have := List.Nodup.length_le_of_subset h.nd (l₂ := ks.map (·.2)) (fun z hz => by
    obtain ⟨p, hp, rfl⟩ := List.mem_map.mp hz
    exact List.mem_map.mpr ⟨p, h.of p hp, rfl⟩)
  rwa [List.length_map, List.length_map] at this
theorem read_ss {P : Program} {w : World} {K : PySem.W.Frag} {i d : Nat} {σ : L2.St} {H : Hp} {Q : VK} {l : Addr} {ks : List TK} (hv : σ[i]? = some (some (.ref l))) (hT : TL K H l ks) (h64 : ks.length < 19600) (tie : ∀ p ∈ ks, TieK 128 d p.2)
    (q : ∀ L p H', Srt ks L → Same H H' → H p = none → H' p = some (.lst (refs L)) → Q (.ref p) H') : tCB (rSortX K P w) (tCons (tCB (rSetX K P w) (tCons (tVar i) tNil)) tNil) σ H Q := by
  refine ⟨_, hv, l, ks, rfl, hT.1, hT.2, h64, fun a L na hL1 hL2 => ?_⟩
  have s1 : Same H (upd H a (SetX P w a L)) := same_upd na
  have e1 : (upd H a (SetX P w a L)) a = some (SetX P w a L) := upd_same
  generalize upd H a (SetX P w a L) = H1 at s1 e1 ⊢
  refine ⟨a, L, d, 128, rfl, .inl e1, fun p hp => same_tup s1 (hT.2 p (hL1 p hp)), fun p hp => tie p (hL1 p hp), fun L' p pm ris nd np => ?_⟩
  refine q L' p _ ⟨fun z hz => hL1 z (pm.mem_iff.mp hz), fun z hz => (pm.map _).mem_iff.mpr (hL2 z hz), nd e1, ris⟩ (s1.trans (same_upd np)) (s1.free np) upd_same
section
variable {P : Program} {w : World} {K : PySem.W.Frag} {mg : Str → Option Value} {base : Heap}
def spInit (K : PySem.W.Frag) (C : Addr) : Sp := fun vs H Q _ => ∃ x dx n la lm ka km, vs = [.ref x, .int n, .ref la, .ref lm] ∧ H x = some (.ins C dx []) ∧ 0 ≤ n ∧ n ≤ 81 ∧ TL K H la ka ∧ (∀ p ∈ ka, AK n p.2) ∧ ka.length < 19600 ∧ TL K H lm km ∧ (∀ p ∈ km, MK n p.2) ∧ km.length < 19600 ∧
  ∀ H' As Ms, WebOwn C H H' x n As Ms → Srt ka As → Srt km Ms → Xt x H H' → Q .non H'
abbrev NI : List Str := ["self", "points", "arrows", "marks", "colour", "start", "end"]
theorem scI : FnScope NI ["self", "points", "arrows", "marks"] (defScope sInit) := ⟨rfl, rfl, rfl, by decide +kernel, rfl, by decide +kernel, by decide +kernel⟩
theorem AK.r3 {n : Int} {k : List Key} (h : AK n k) : R3 k := by
  obtain ⟨c, x, y, e, _⟩ := h
  exact ⟨_, x, y, e⟩
set_option maxHeartbeats 4000000 in
theorem ok_init {f C fA fM fG : Addr} {fd dA dM dG : FuncData} {dvs : List V} {kws : List (Str × V)} (F : FunD K "__init__" "Web.__init__" (defArgs sInit) (defBody sInit) (defScope sInit) dvs kws f fd) (T : WT K mg C) (oA : Df P w K mg base 1 "refuse_bad_arrows" ["points", "arrows"] (spRA K) fA dA)
    (oM : Df P w K mg base 1 "refuse_bad_marks" ["points", "marks"] (spRM K) fM dM) (oG : Df P w K mg base 1 "gathered" ["rows"] (spGat K) fG dG) : FnOk P w K mg base CX0 2 f fd ["self", "points", "arrows", "marks"] (spInit K C) := by
  obtain ⟨tkM, gM⟩ := T.most
  refine F.ok scI (fun vs H Q E h => ?_) (fun cdv A outer s H vs Q E hr h => ?_)
  · obtain ⟨x, dx, n, la, lm, ka, km, rfl, _⟩ := h
    rfl
  · obtain ⟨x, dx, n, la, lm, ka, km, rfl, hx, n0, n1, ta, ga, la64, tm, gm, lm64, KQ⟩ := h
    have hu : (A.deeper (envOfC "Web.__init__" (defScope sInit) s.heap.objs.size f cdv)).units + 64 < cLine := by
      have := hr.un
      omega
    refine ⟨_, PSs.nox (pss_cons (ps_if (pt_not (pt_chain op_le op_le pe_int (pv 1) (pe_glob (v := .int 81) (by rfl) gM ⟨_, rfl⟩))) (pss_one ps_never) pss_nil)
      (pss_cons (ps_expr (pe_call oA.ok hr (by rfl) oA.gl oA.kp oA.bd .nil pass0 (pa_cons (pv 1) (pa_cons (pv 2) pa_nil))))
      (pss_cons (ps_expr (pe_call oM.ok hr (by rfl) oM.gl oM.kp oM.bd .nil pass0 (pa_cons (pv 1) (pa_cons (pv 3) pa_nil))))
      (pss_cons (ps_fld (pv 0) (pe_listRg rfl (by rfl) T.list (prg_1 (by rfl) T.range (pv 1))) rfl)
      (pss_cons (ps_fld (pv 0) (pe_callB (cr_sortX rfl) (by rfl) T.sorted (by decide +kernel) (pa_cons (pe_callTy (cr_setX rfl hu) (by rfl) T.set (by decide +kernel) (pa_cons (pv 2) pa_nil)) pa_nil)) rfl)
      (pss_cons (ps_fld (pv 0) (pe_callB (cr_sortX rfl) (by rfl) T.sorted (by decide +kernel) (pa_cons (pe_callTy (cr_setX rfl hu) (by rfl) T.set (by decide +kernel) (pa_cons (pv 3) pa_nil)) pa_nil)) rfl)
      (pss_cons (ps_fld (pv 0) (pe_call oG.ok hr (by rfl) oG.gl oG.kp oG.bd .nil pass0 (pa_cons (pe_fld (pv 0) rfl) pa_nil)) rfl)
      (pss_one (ps_fld (pv 0) (pe_call oG.ok hr (by rfl) oG.gl oG.kp oG.bd .nil pass0 (pa_cons
        (pe_lc (own := [("colour", 4), ("start", 5), ("end", 6)]) (g := gTup K 3 (gCons (gName 4) (gCons (gName 5) (gCons (gName 6) gNil)))) (tt := tYes) rfl scI.nd (pi_list (pe_fld (pv 0) rfl)) (blkOk_by (N := NI) (sc := defScope sInit) (by decide +kernel))
          (fun _ _ _ _ _ => pg_tup rfl (pgs_cons (pg_name (i := 4) scI.nd rfl (.inl rfl)) (pgs_cons (pg_name (i := 5) scI.nd rfl (.inl rfl)) (pgs_cons (pg_name (i := 6) scI.nd rfl (.inl rfl)) pgs_nil)))) (fun _ _ _ _ _ => pts_nil)
          (fun _ _ _ _ _ => pe_tup (pa_cons (pv 4) (pa_cons (pv 6) (pa_cons (pv 5) pa_nil)))))
        pa_nil)) rfl))))))))), ?_⟩
    refine seq_if ⟨_, rfl, _, _, rfl, rfl, _, rfl, ?_⟩
    rw [decide_eq_true (show (0 : Int) ≤ n from n0)]
    refine iteT ⟨_, _, rfl, rfl, _, rfl, ?_⟩
    rw [decide_eq_true (show n ≤ (81 : Int) from n1)]
    refine iteF ?_
    refine seq_next ?_
    refine seq_drop ⟨_, rfl, _, rfl, n, la, ka, rfl, ta, ga, fun H1 s1 => ?_⟩
    refine seq_drop ⟨_, rfl, _, rfl, n, lm, km, rfl, tm.same s1, gm, fun H2 s2 => ?_⟩
    have hx2 := s2 _ _ (s1 _ _ hx)
    have ta2 := (ta.same s1).same s2
    have tm2 := (tm.same s1).same s2
    have x2 : Xt x H H2 := Same.xt (s1.trans s2)
    generalize H2 = J at hx2 ta2 tm2 x2 ⊢
    clear s1 s2 ta tm
    refine seq_fld ⟨_, rfl, n, rfl, RgOk.of_le (Int.le_refl 0) (by omega) (by decide) n0, fun pl npl => ⟨_, rfl, x, C, dx, [], rfl, same_upd npl _ _ hx2, T.cl, T.n1, by decide, ?_⟩⟩
    have dpl : pl ≠ x := (ne_of_none hx2 npl).symm
    have fpl : H pl = none := x2.free dpl npl
    have x3 : Xt x H (upd (upd J pl (.lst (rgV 0 n))) x (.ins C dx (putF "places" (.ref pl) []))) := (x2.new npl).put
    have h3x : (upd (upd J pl (.lst (rgV 0 n))) x (.ins C dx (putF "places" (.ref pl) []))) x = some (.ins C dx (putF "places" (.ref pl) [])) := upd_same
    have h3p : (upd (upd J pl (.lst (rgV 0 n))) x (.ins C dx (putF "places" (.ref pl) []))) pl = some (.lst (rgV 0 n)) := by
      rw [upd_ne dpl]
      exact upd_same
    have ta3 : TL K (upd (upd J pl (.lst (rgV 0 n))) x (.ins C dx (putF "places" (.ref pl) []))) la ka := ta2.xt (((Xt.refl x J).new npl).put) hx2
    have tm3 : TL K (upd (upd J pl (.lst (rgV 0 n))) x (.ins C dx (putF "places" (.ref pl) []))) lm km := tm2.xt (((Xt.refl x J).new npl).put) hx2
    generalize upd (upd J pl (.lst (rgV 0 n))) x (.ins C dx (putF "places" (.ref pl) [])) = J3 at x3 h3x h3p ta3 tm3 ⊢
    refine seq_fld (read_ss rfl ta3 la64 (fun p hp => (ga p hp).tie (by omega)) fun As ar J4 sA s4 nar har => ⟨_, rfl, x, C, dx, _, rfl, s4 _ _ h3x, T.cl, T.n2, (show (1 : Nat) < 1000 by decide), ?_⟩)
    have dar : ar ≠ x := (ne_of_none h3x nar).symm
    have far : H ar = none := x3.free dar nar
    have y4 : Xt x J3 (upd J4 x (.ins C dx (putF "arrow_rows" (.ref ar) (putF "places" (.ref pl) [])))) := (Same.xt s4).put
    have h5x : (upd J4 x (.ins C dx (putF "arrow_rows" (.ref ar) (putF "places" (.ref pl) [])))) x = some (.ins C dx (putF "arrow_rows" (.ref ar) (putF "places" (.ref pl) []))) := upd_same
    have h5a : (upd J4 x (.ins C dx (putF "arrow_rows" (.ref ar) (putF "places" (.ref pl) [])))) ar = some (.lst (refs As)) := by
      rw [upd_ne dar]
      exact har
    generalize upd J4 x (.ins C dx (putF "arrow_rows" (.ref ar) (putF "places" (.ref pl) []))) = J5 at y4 h5x h5a ⊢
    have x5 := x3.trans y4
    have h5p := y4 _ _ dpl h3p
    have tm5 := tm3.xt y4 h3x
    have ta5 := ta3.xt y4 h3x
    clear ta3 tm3 x3 y4 s4 h3x h3p nar
    refine seq_fld (read_ss rfl tm5 lm64 (fun p hp => (gm p hp).tie (by omega)) fun Ms mr J6 sM s6 nmr hmr => ⟨_, rfl, x, C, dx, _, rfl, s6 _ _ h5x, T.cl, T.n3, (show (2 : Nat) < 1000 by decide), ?_⟩)
    have dmr : mr ≠ x := (ne_of_none h5x nmr).symm
    have fmr : H mr = none := x5.free dmr nmr
    have y6 : Xt x J5 (upd J6 x (.ins C dx (putF "mark_rows" (.ref mr) (putF "arrow_rows" (.ref ar) (putF "places" (.ref pl) []))))) := (Same.xt s6).put
    have h7x : (upd J6 x (.ins C dx (putF "mark_rows" (.ref mr) (putF "arrow_rows" (.ref ar) (putF "places" (.ref pl) []))))) x = some (.ins C dx (putF "mark_rows" (.ref mr) (putF "arrow_rows" (.ref ar) (putF "places" (.ref pl) [])))) := upd_same
    have h7m : (upd J6 x (.ins C dx (putF "mark_rows" (.ref mr) (putF "arrow_rows" (.ref ar) (putF "places" (.ref pl) []))))) mr = some (.lst (refs Ms)) := by
      rw [upd_ne dmr]
      exact hmr
    generalize upd J6 x (.ins C dx (putF "mark_rows" (.ref mr) (putF "arrow_rows" (.ref ar) (putF "places" (.ref pl) [])))) = J7 at y6 h7x h7m ⊢
    have x7 := x5.trans y6
    have h7p := y6 _ _ dpl h5p
    have h7a := y6 _ _ dar h5a
    have ta7 := ta5.xt y6 h5x
    clear tm5 ta5 x5 y6 s6 h5x h5p h5a nmr hmr
    have hAs : ∀ p ∈ As, SqT K J7 p.1 (p.2.map kV) ∧ R3 p.2 := fun p hp => ⟨ta7.2 p (sA.of p hp), (ga p (sA.of p hp)).r3⟩
    have lA : As.length < 19600 := Nat.lt_of_le_of_lt sA.len la64
    refine seq_fld ⟨_, rfl, x, C, dx, _, _, rfl, h7x, T.cl, T.n2, rfl, ar, As, rfl, SqL.of h7a, hAs, by omega, fun ow J8 s8 gd => ⟨_, rfl, x, C, dx, _, rfl, s8 _ _ h7x, T.cl, T.n4, (show (3 : Nat) < 1000 by decide), ?_⟩⟩
    have dow : ow ≠ x := (ne_of_none h7x gd.nd).symm
    have gx8 : GXn H J8 ow (gat As) := gd.gxn x7 h7x
    have nx : ∀ c, H c = none → c ≠ x := fun c hc => (ne_of_none hx hc).symm
    have y8 : Xt x J7 (upd J8 x (.ins C dx (putF "onward" (.ref ow) (putF "mark_rows" (.ref mr) (putF "arrow_rows" (.ref ar) (putF "places" (.ref pl) [])))))) := (Same.xt s8).put
    have h9x : (upd J8 x (.ins C dx (putF "onward" (.ref ow) (putF "mark_rows" (.ref mr) (putF "arrow_rows" (.ref ar) (putF "places" (.ref pl) [])))))) x = some (.ins C dx (putF "onward" (.ref ow) (putF "mark_rows" (.ref mr) (putF "arrow_rows" (.ref ar) (putF "places" (.ref pl) []))))) := upd_same
    have gx9 : GXn H (upd J8 x (.ins C dx (putF "onward" (.ref ow) (putF "mark_rows" (.ref mr) (putF "arrow_rows" (.ref ar) (putF "places" (.ref pl) [])))))) ow (gat As) := gx8.keep fun c o hc e => (Xt.refl x J8).put c o (nx c hc) e
    generalize upd J8 x (.ins C dx (putF "onward" (.ref ow) (putF "mark_rows" (.ref mr) (putF "arrow_rows" (.ref ar) (putF "places" (.ref pl) []))))) = J9 at y8 h9x gx9 ⊢
    have x9 := x7.trans y8
    have h9p := y8 _ _ dpl h7p
    have h9a := y8 _ _ dar h7a
    have h9m := y8 _ _ dmr h7m
    have hA9 : ∀ p ∈ As, SqT K J9 p.1 (p.2.map kV) ∧ R3 p.2 := fun p hp => ⟨xt_tup y8 h7x (hAs p hp).1, (hAs p hp).2⟩
    clear x7 y8 h7x h7p h7a h7m ta7 hAs gx8 gd s8
    refine ⟨_, rfl, x, C, dx, _, _, rfl, h9x, T.cl, T.n2, rfl, ar, rfl, ⟨_, SqL.of h9a⟩, fun D nD => ?_⟩
    refine lc_list (xs := refs As) (fun i J => ∃ Bs : List TK, J D = some (.lst (refs Bs)) ∧ Bs.map (·.2) = (As.take i).map (fun p => swK p.2) ∧ (∀ p ∈ Bs, SqT K J p.1 (p.2.map kV) ∧ R3 p.2) ∧ Same J9 J) ⟨[], upd_same, rfl, (fun p hp => nomatch hp), same_upd nD⟩ ?_ ?_ ?_
    · rintro i J _ ⟨Bs, _, _, _, sm⟩
      exact sm.seq (SqL.of h9a)
    · rintro i v J hv ⟨Bs, hB, eB, hK, sm⟩
      have hik : i < As.length := by
        have := (List.getElem?_eq_some_iff.mp hv).1
        rwa [List.length_map] at this
      have gi : (refs As)[i]? = some (.ref As[i].1) := by
        rw [List.getElem?_map, List.getElem?_eq_getElem hik]
        rfl
      cases hv.symm.trans gi
      have hm : As[i] ∈ As := List.getElem_mem hik
      obtain ⟨hq, z, a, b, ek⟩ := hA9 _ hm
      have sq := same_tup sm hq
      rw [ek] at sq
      have ht : As.take (i + 1) = As.take i ++ [As[i]] := by
        rw [List.take_add_one, List.getElem?_eq_getElem hik]
        rfl
      have lB : Bs.length ≤ 19600 := by
        have := congrArg List.length eB
        rw [List.length_map, List.length_map, List.length_take] at this
        omega
      refine ⟨As[i].1, [.str z, .int a, .int b], rfl, sq, rfl, .str z, [.int a, .int b], rfl, .int a, [.int b], rfl, .int b, [], rfl, rfl, rfl, ?_⟩
      unfold tYes
      refine Eq.mpr (if_pos rfl) ?_
      refine ⟨_, rfl, _, rfl, _, rfl, by show 3 ≤ sizeLine; decide, fun tp nt => ?_⟩
      have dD : D ≠ tp := ne_of_none hB nt
      have eD : (upd J tp (.tup [.str z, .int b, .int a])) D = some (.lst (refs Bs)) := by
        rw [upd_ne dD]
        exact hB
      have et : (upd J tp (.tup [.str z, .int b, .int a])) tp = some (.tup (([.inr z, .inl b, .inl a] : List Key).map kV)) := upd_same
      have st : Same J (upd J tp (.tup [.str z, .int b, .int a])) := same_upd nt
      generalize upd J tp (.tup [.str z, .int b, .int a]) = J' at eD et st ⊢
      refine ⟨refs Bs, eD, by rw [List.length_map]; exact Nat.lt_of_le_of_lt lB (by decide), Bs ++ [(tp, [.inr z, .inl b, .inl a])], ?_, ?_, ?_, ?_⟩
      · rw [upd_same]
        show _ = some (HO.lst (List.map _ (Bs ++ [_])))
        rw [List.map_append]
        rfl
      · rw [List.map_append, eB, ht, List.map_append]
        show _ ++ [_] = _ ++ [swK As[i].2]
        rw [ek]
        rfl
      · intro p hp
        rcases List.mem_append.mp hp with hp | hp
        · exact ⟨xt_tup' ((Same.xt st).put) hB (hK p hp).1, (hK p hp).2⟩
        · rw [List.mem_singleton] at hp
          subst hp
          refine ⟨SqT.of ?_, z, b, a, rfl⟩
          rw [upd_ne (ne_of et eD (fun z => nomatch z))]
          exact et
      · intro c o hc
        rw [upd_ne (ne_of_none hc nD)]
        exact st _ _ (sm _ _ hc)
    · rintro J ⟨Bs, hB, eB, hK, sm⟩
      rw [List.length_map, List.take_length] at eB
      have lB : Bs.length ≤ 19600 := by
        have := congrArg List.length eB
        rw [List.length_map, List.length_map] at this
        omega
      refine ⟨D, Bs, rfl, SqL.of hB, hK, by omega, fun bw J' s' gd => ⟨_, rfl, x, C, dx, _, rfl, s' _ _ (sm _ _ h9x), T.cl, T.n5, (show (4 : Nat) < 1000 by decide), ?_⟩⟩
      have z9 : Xt x J9 (upd J' x (.ins C dx (flds pl ar mr ow bw))) := (Same.xt (sm.trans s')).put
      have gw : GXn H (upd J' x (.ins C dx (flds pl ar mr ow bw))) ow (gat As) := gx9.keep fun c o hc e => z9 c o (nx c hc) e
      have gb : GXn H (upd J' x (.ins C dx (flds pl ar mr ow bw))) bw (gat Bs) := (gd.gxn (x9.trans (Same.xt sm)) (sm _ _ h9x)).keep fun c o hc e => (Xt.refl x J').put c o (nx c hc) e
      exact KQ _ As Ms (fun H'' kp => ⟨dx, pl, ar, mr, ow, bw, kp _ _ (.inr rfl) upd_same, kp _ _ (.inl fpl) (z9 _ _ dpl h9p), kp _ _ (.inl far) (z9 _ _ dar h9a), kp _ _ (.inl fmr) (z9 _ _ dmr h9m), (gw.keep fun c o hc e => kp c o (.inl hc) e).gx, Bs, eB, (gb.keep fun c o hc e => kp c o (.inl hc) e).gx⟩) sA sM (x9.trans z9)
end
end Wb
namespace Sg
open PySem PySem.Spec PyProof.Rows L2
def kD : Key → PyData
  | .inl i => .int i
  | .inr x => .str x
def tD (k : List Key) : PyData := .tuple (k.map kD)
theorem dp_k (K : PySem.W.Frag) (H : Hp) (k : Key) : Dp K H (kV k) (kD k) := by
  cases k with
  | inl i => exact .int i
  | inr x => exact .str x
theorem dp_ks (K : PySem.W.Frag) (H : Hp) : ∀ ks : List Key, DpAll K H (ks.map kV) (ks.map kD)
  | [] => .nil
  | k :: ks => .cons (dp_k K H k) (dp_ks K H ks)
theorem dp_tie {K : PySem.W.Frag} {H : Hp} {a : Addr} {k : List Key} (h : SqT K H a (k.map kV)) : Dp K H (.ref a) (tD k) := .tup h (dp_ks K H k)
theorem eqv_k (a b : Key) : PyData.eqv (kD a) (kD b) = decide (a = b) := by
  cases a with
  | inl i =>
    cases b with
    | inl j =>
      show PyData.eqv (.int i) (.int j) = _
      rw [PyData.eqv]
      by_cases h : i = j
      · subst h
        simp
      · rw [decide_eq_false (fun z => h (Sum.inl.inj z))]
        exact beq_false_of_ne h
    | inr y =>
      show PyData.eqv (.int i) (.str y) = _
      rw [PyData.eqv, decide_eq_false (fun z => nomatch z)]
  | inr x =>
    cases b with
    | inl j =>
      show PyData.eqv (.str x) (.int j) = _
      rw [PyData.eqv, decide_eq_false (fun z => nomatch z)]
    | inr y =>
      show PyData.eqv (.str x) (.str y) = _
      rw [PyData.eqv]
      by_cases h : x = y
      · subst h
        simp
      · rw [decide_eq_false (fun z => h (Sum.inr.inj z))]
        exact beq_false_of_ne h
theorem eqv_ks : ∀ k k' : List Key, PyData.eqvAll (k.map kD) (k'.map kD) = decide (k = k')
  | [], [] => by rw [List.map_nil, PyData.eqvAll, decide_eq_true rfl]
  | [], b :: bs => by rw [List.map_nil, List.map_cons, PyData.eqvAll, decide_eq_false (fun z => nomatch z)]
  | a :: as, [] => by rw [List.map_nil, List.map_cons, PyData.eqvAll, decide_eq_false (fun z => nomatch z)]
  | a :: as, b :: bs => by
    rw [List.map_cons, List.map_cons, PyData.eqvAll, eqv_k, eqv_ks as bs]
    by_cases h1 : a = b
    · by_cases h2 : as = bs
      · subst h1 h2
        simp
      · rw [decide_eq_false h2, Bool.and_false, decide_eq_false (fun z => h2 (List.cons.inj z).2)]
    · rw [decide_eq_false h1, Bool.false_and, decide_eq_false (fun z => h1 (List.cons.inj z).1)]
theorem eqv_tie (k k' : List Key) : PyData.eqv (tD k) (tD k') = decide (k = k') := by
  unfold tD
  rw [PyData.eqv]
  exact eqv_ks k k'
def okK : Key → Bool
  | .inl _ => true
  | .inr x => PyData.strOk x
theorem can_k {k : Key} (h : okK k = true) : PyData.canLay0 (kD k) = true := by
  cases k with
  | inl i =>
    show PyData.canLay0 (.int i) = true
    rw [PyData.canLay0]
  | inr x =>
    show PyData.canLay0 (.str x) = true
    rw [PyData.canLay0]
    exact h
theorem can_all : ∀ {ds : List PyData}, (∀ d ∈ ds, PyData.canLay0 d = true) → PyData.canLayAll0 ds = true
  | [], _ => by rw [PyData.canLayAll0]
  | d :: ds, h => by
    rw [PyData.canLayAll0, h d (List.mem_cons_self ..), can_all fun e he => h e (List.mem_cons_of_mem _ he)]
    rfl
theorem deep_all {n : Nat} : ∀ {ds : List PyData}, (∀ d ∈ ds, PyData.depth d ≤ n) → PyData.depthAll ds ≤ n
  | [], _ => by
    rw [PyData.depthAll]
    exact Nat.zero_le _
  | d :: ds, h => by
    rw [PyData.depthAll]
    exact Nat.max_le.mpr ⟨h d (List.mem_cons_self ..), deep_all fun e he => h e (List.mem_cons_of_mem _ he)⟩
theorem deep_k (k : Key) : PyData.depth (kD k) ≤ 0 := by
  cases k with
  | inl i =>
    show PyData.depth (.int i) ≤ 0
    simp [PyData.depth]
  | inr x =>
    show PyData.depth (.str x) ≤ 0
    simp [PyData.depth]
theorem can_tie {k : List Key} (h : ∀ z ∈ k, okK z = true) : PyData.canLay0 (tD k) = true := by
  unfold tD
  rw [PyData.canLay0]
  exact can_all fun d hd => by
    obtain ⟨z, hz, rfl⟩ := List.mem_map.mp hd
    exact can_k (h z hz)
theorem deep_tie (k : List Key) : PyData.depth (tD k) ≤ 1 := by
  unfold tD
  rw [PyData.depth]
  have := deep_all (n := 0) (ds := k.map kD) fun d hd => by
    obtain ⟨z, hz, rfl⟩ := List.mem_map.mp hd
    exact deep_k z
  omega
theorem shaped_tie {k : List Key} (h : ∀ z ∈ k, okK z = true) : SeqAt.shaped (tD k) = true := by
  unfold SeqAt.shaped
  have := deep_tie k
  rw [can_tie h, decide_eq_true (by omega)]
  rfl
theorem TieK.ok {d : Nat} {k : List Key} (t : TieK 128 d k) : ∀ z ∈ k, okK z = true := by
  obtain ⟨c, ns, rfl, _, b⟩ := t
  intro z hz
  rcases List.mem_cons.mp hz with rfl | hz
  · have : (c : Int) < 128 := (b.head).2
    show PyData.strOk ⟨#[c]⟩ = true
    unfold PyData.strOk
    simp
    omega
  · obtain ⟨n, _, rfl⟩ := List.mem_map.mp hz
    rfl
def lD (ks : List TK) : PyData := .list (ks.map fun p => tD p.2)
theorem dp_refs {K : PySem.W.Frag} {H : Hp} : ∀ {ks : List TK}, (∀ p ∈ ks, SqT K H p.1 (p.2.map kV)) → DpAll K H (refs ks) (ks.map fun p => tD p.2)
  | [], _ => .nil
  | p :: ks, h => .cons (dp_tie (h p (List.mem_cons_self ..))) (dp_refs fun q hq => h q (List.mem_cons_of_mem _ hq))
theorem dp_list {K : PySem.W.Frag} {H : Hp} {a : Addr} {ks : List TK} (hl : SqL K H a (refs ks)) (h : ∀ p ∈ ks, SqT K H p.1 (p.2.map kV)) : Dp K H (.ref a) (lD ks) := .lst hl (dp_refs h)
theorem can_list {ks : List TK} (h : ∀ p ∈ ks, ∀ z ∈ p.2, okK z = true) : PyData.canLay0 (lD ks) = true := by
  unfold lD
  rw [PyData.canLay0]
  exact can_all fun d hd => by
    obtain ⟨z, hz, rfl⟩ := List.mem_map.mp hd
    exact can_tie (h z hz)
theorem deep_list (ks : List TK) : PyData.depth (lD ks) ≤ 2 := by
  unfold lD
  rw [PyData.depth]
  have := deep_all (n := 1) (ds := ks.map fun p => tD p.2) fun d hd => by
    obtain ⟨z, hz, rfl⟩ := List.mem_map.mp hd
    exact deep_tie z.2
  omega
theorem shaped_list {ks : List TK} (h : ∀ p ∈ ks, ∀ z ∈ p.2, okK z = true) : SeqAt.shaped (lD ks) = true := by
  unfold SeqAt.shaped
  have := deep_list ks
  rw [can_list h, decide_eq_true (by omega)]
  rfl
theorem eqv_nil (ks : List TK) : PyData.eqv (lD ks) (.list []) = decide (ks = []) := by
  unfold lD
  cases ks with
  | nil => simp [PyData.eqv, PyData.eqvAll]
  | cons p ks => simp [PyData.eqv, PyData.eqvAll]
theorem code_inj {B : Int} : ∀ ns ms : List Int, ns.length = ms.length → TS.Bd B ns → TS.Bd B ms → TS.code B ns = TS.code B ms → ns = ms
  | [], [], _, _, _, _ => rfl
  | [], _ :: _, h, _, _, _ => by cases h
  | _ :: _, [], h, _, _, _ => by cases h
  | x :: xs, y :: ys, hl, h1, h2, e => by
    have hl' : xs.length = ys.length := Nat.succ.inj hl
    rcases Int.lt_trichotomy x y with h | h | h
    · have := TS.code_lt hl' h1.tail h2.tail h
      omega
    · subst h
      simp only [TS.code, hl'] at e
      rw [code_inj xs ys hl' h1.tail h2.tail (by omega)]
    · have := TS.code_lt hl'.symm h2.tail h1.tail h
      omega
theorem ord_inj {B : Int} {d : Nat} {p q : TK} (t1 : TieK B d p.2) (t2 : TieK B d q.2) (e : ordOf B p = ordOf B q) : p.2 = q.2 := by
  obtain ⟨c, ns, e1, l1, b1⟩ := t1
  obtain ⟨c', ms, e2, l2, b2⟩ := t2
  unfold ordOf at e
  rw [e1, e2] at e
  have f1 : (Sum.inr ⟨#[c]⟩ :: ns.map Sum.inl : List Key).map numK = (c : Int) :: ns := by
    rw [List.map_cons, nums_inl]
    rfl
  have f2 : (Sum.inr ⟨#[c']⟩ :: ms.map Sum.inl : List Key).map numK = (c' : Int) :: ms := by
    rw [List.map_cons, nums_inl]
    rfl
  rw [f1, f2] at e
  have := code_inj _ _ (by rw [List.length_cons, List.length_cons]; omega) b1 b2 e
  injection this with h1 h2
  have h1' : c = c' := Int.ofNat.inj h1
  rw [e1, e2, h1', h2]
theorem rise_eq : ∀ l m : List Int, l.Pairwise (· < ·) → m.Pairwise (· < ·) → (∀ x, x ∈ l ↔ x ∈ m) → l = m
  | [], [], _, _, _ => rfl
  | [], y :: _, _, _, h => by
    have := (h y).mpr (List.mem_cons_self ..)
    cases this
  | x :: _, [], _, _, h => by
    have := (h x).mp (List.mem_cons_self ..)
    cases this
  | x :: l, y :: m, h1, h2, h => by
    have a1 := List.pairwise_cons.mp h1
    have a2 := List.pairwise_cons.mp h2
    have exy : x = y := by
      rcases List.mem_cons.mp ((h x).mp (List.mem_cons_self ..)) with e | e
      · exact e
      · rcases List.mem_cons.mp ((h y).mpr (List.mem_cons_self ..)) with e' | e'
        · exact e'.symm
        · have := a2.1 x e
          have := a1.1 y e'
          omega
    subst exy
    rw [rise_eq l m a1.2 a2.2 fun z => ⟨fun hz => ?_, fun hz => ?_⟩]
    · rcases List.mem_cons.mp ((h z).mp (List.mem_cons_of_mem _ hz)) with e | e
      · have := a1.1 z hz
        omega
      · exact e
    · rcases List.mem_cons.mp ((h z).mpr (List.mem_cons_of_mem _ hz)) with e | e
      · have := a2.1 z hz
        omega
      · exact e
theorem keys_eq {B : Int} {d : Nat} : ∀ {U V : List TK}, (∀ p ∈ U, TieK B d p.2) → (∀ p ∈ V, TieK B d p.2) → U.map (ordOf B) = V.map (ordOf B) → U.map (·.2) = V.map (·.2)
  | [], [], _, _, _ => rfl
  | [], _ :: _, _, _, h => by cases h
  | _ :: _, [], _, _, h => by cases h
  | p :: U, q :: V, h1, h2, h => by
    rw [List.map_cons, List.map_cons] at h
    injection h with ha hb
    rw [List.map_cons, List.map_cons, ord_inj (h1 p (List.mem_cons_self ..)) (h2 q (List.mem_cons_self ..)) ha, keys_eq (fun z hz => h1 z (List.mem_cons_of_mem _ hz)) (fun z hz => h2 z (List.mem_cons_of_mem _ hz)) hb]
theorem strict_of {B : Int} {d : Nat} : ∀ {U : List TK}, (∀ p ∈ U, TieK B d p.2) → (U.map (·.2)).Nodup → U.Pairwise (fun p q => ordOf B p ≤ ordOf B q) → (U.map (ordOf B)).Pairwise (· < ·)
  | [], _, _, _ => List.Pairwise.nil
  | p :: U, ht, nd, ris => by
    rw [List.map_cons] at nd ⊢
    have a1 := List.nodup_cons.mp nd
    have a2 := List.pairwise_cons.mp ris
    refine List.pairwise_cons.mpr ⟨fun x hx => ?_, strict_of (fun z hz => ht z (List.mem_cons_of_mem _ hz)) a1.2 a2.2⟩
    obtain ⟨q, hq, rfl⟩ := List.mem_map.mp hx
    have h1 := a2.1 q hq
    have h2 : ordOf B p ≠ ordOf B q := fun e => a1.1 (by
      rw [ord_inj (ht p (List.mem_cons_self ..)) (ht q (List.mem_cons_of_mem _ hq)) e]
      exact List.mem_map.mpr ⟨q, hq, rfl⟩)
    omega
theorem same_keys {B : Int} {d : Nat} {U V : List TK} (h1 : ∀ p ∈ U, TieK B d p.2) (h2 : ∀ p ∈ V, TieK B d p.2) (n1 : (U.map (·.2)).Nodup) (n2 : (V.map (·.2)).Nodup) (r1 : U.Pairwise fun p q => ordOf B p ≤ ordOf B q)
    (r2 : V.Pairwise fun p q => ordOf B p ≤ ordOf B q) (h : ∀ k, k ∈ U.map (·.2) ↔ k ∈ V.map (·.2)) : U.map (·.2) = V.map (·.2) := by
  refine keys_eq h1 h2 (rise_eq _ _ (strict_of h1 n1 r1) (strict_of h2 n2 r2) fun x => ?_)
  have go : ∀ {S T : List TK}, (∀ k, k ∈ S.map (·.2) → k ∈ T.map (·.2)) → x ∈ S.map (ordOf B) → x ∈ T.map (ordOf B) := fun {S T} g hx => by
    obtain ⟨p, hp, rfl⟩ := List.mem_map.mp hx
    obtain ⟨q, hq, e⟩ := List.mem_map.mp (g p.2 (List.mem_map.mpr ⟨p, hp, rfl⟩))
    refine List.mem_map.mpr ⟨q, hq, ?_⟩
    show TS.code B (q.2.map numK) = TS.code B (p.2.map numK)
    rw [show q.2 = p.2 from e]
  exact ⟨go fun k => (h k).mp, go fun k => (h k).mpr⟩
end Sg
namespace Wb
open PySem PySem.Spec PyProof.Rows L2 RZ Sg
abbrev sUnlike : Stmt := topS 29
abbrev sSign : Stmt := topS 31
section
variable {P : Program} {w : World} {K : PySem.W.Frag} {mg : Str → Option Value} {base : Heap}
def spPts (C : Addr) : Sp := fun vs H Q _ => ∃ x n As Ms, vs = [.ref x] ∧ WebAt C H x n As Ms ∧ 0 ≤ n ∧ Q (.int n) H
theorem scPt : FnScope ["self"] ["self"] (defScope sPoints) := ⟨rfl, rfl, rfl, by decide +kernel, rfl, by decide +kernel, by decide +kernel⟩
theorem ok_pts {f C : Addr} {fd : FuncData} (F : Fun K "points" "Web.points" sPoints f fd) (T : WT K mg C) (ml : mg "len" = none) : FnOk P w K mg base CX0 1 f fd ["self"] (spPts C) := by
  refine F.ok scPt (fun vs H Q E h => ?_) (fun cdv A outer s H vs Q E hr h => ?_)
  · obtain ⟨x, n, As, Ms, rfl, _⟩ := h
    rfl
  · obtain ⟨x, n, As, Ms, rfl, W, n0, KQ⟩ := h
    refine ⟨_, pss_one (ps_ret (pe_callB call_len_seq (by rfl) ml PySem.boot_len (pa_cons (pe_fld (pv 0) rfl) pa_nil))), ?_⟩
    obtain ⟨dx, pl, ar, mr, ow, bw, h1, h2, _⟩ := W.ex
    refine ret_of ⟨_, rfl, x, C, dx, _, _, rfl, h1, T.cl, T.n1, rfl, pl, _, rfl, .inl (SqL.of h2), ?_⟩
    have : ((rgV 0 n).length : Int) = n := by
      unfold rgV
      rw [List.length_map, List.length_range]
      omega
    rw [this]
    exact KQ
def spArr (C : Addr) : Sp := fun vs H Q _ => ∃ x n As Ms, vs = [.ref x] ∧ WebAt C H x n As Ms ∧ ∀ p, H p = none → Q (.ref p) (upd H p (.lst (refs As)))
theorem scAr : FnScope ["self"] ["self"] (defScope sArrows) := ⟨rfl, rfl, rfl, by decide +kernel, rfl, by decide +kernel, by decide +kernel⟩
theorem ok_arr {f C : Addr} {fd : FuncData} (F : Fun K "arrows" "Web.arrows" sArrows f fd) (T : WT K mg C) : FnOk P w K mg base CX0 1 f fd ["self"] (spArr C) := by
  refine F.ok scAr (fun vs H Q E h => ?_) (fun cdv A outer s H vs Q E hr h => ?_)
  · obtain ⟨x, n, As, Ms, rfl, _⟩ := h
    rfl
  · obtain ⟨x, n, As, Ms, rfl, W, KQ⟩ := h
    refine ⟨_, pss_one (ps_ret (pe_callTy call_list_of (by rfl) T.list boot_list (pa_cons (pe_fld (pv 0) rfl) pa_nil))), ?_⟩
    obtain ⟨dx, pl, ar, mr, ow, bw, h1, _, h3, _⟩ := W.ex
    exact ret_of ⟨_, rfl, x, C, dx, _, _, rfl, h1, T.cl, T.n2, rfl, ar, _, rfl, .inl (SqL.of h3), fun p np => KQ p np⟩
def spMrk (C : Addr) : Sp := fun vs H Q _ => ∃ x n As Ms, vs = [.ref x] ∧ WebAt C H x n As Ms ∧ ∀ p, H p = none → Q (.ref p) (upd H p (.lst (refs Ms)))
theorem scMr : FnScope ["self"] ["self"] (defScope sMarks) := ⟨rfl, rfl, rfl, by decide +kernel, rfl, by decide +kernel, by decide +kernel⟩
theorem ok_mrk {f C : Addr} {fd : FuncData} (F : Fun K "marks" "Web.marks" sMarks f fd) (T : WT K mg C) : FnOk P w K mg base CX0 1 f fd ["self"] (spMrk C) := by
  refine F.ok scMr (fun vs H Q E h => ?_) (fun cdv A outer s H vs Q E hr h => ?_)
  · obtain ⟨x, n, As, Ms, rfl, _⟩ := h
    rfl
  · obtain ⟨x, n, As, Ms, rfl, W, KQ⟩ := h
    refine ⟨_, pss_one (ps_ret (pe_callTy call_list_of (by rfl) T.list boot_list (pa_cons (pe_fld (pv 0) rfl) pa_nil))), ?_⟩
    obtain ⟨dx, pl, ar, mr, ow, bw, h1, _, _, h4, _⟩ := W.ex
    exact ret_of ⟨_, rfl, x, C, dx, _, _, rfl, h1, T.cl, T.n3, rfl, mr, _, rfl, .inl (SqL.of h4), fun p np => KQ p np⟩
theorem bx_nr {H : Hp} {b q l : Addr} {ks : List TK} (B : Bx H b q) (h : H l = some (.lst (refs ks))) : l ≠ b := fun e => by
  subst e
  obtain ⟨ns, i, r, k, hb, _⟩ := B
  rw [h] at hb
  injection hb with hb
  injection hb with hb
  match ks, hb with
  | [], hb => cases hb
  | [_], hb => cases hb
  | _ :: _ :: _, hb => cases hb
theorem Srt.strict {ks U : List TK} (h1 : ∀ p ∈ U, p ∈ ks) (h2 : ∀ p ∈ ks, p.2 ∈ U.map (·.2)) (h3 : (U.map (ordOf 128)).Pairwise (· < ·)) : Srt ks U := by
  refine ⟨h1, h2, ?_, ?_⟩
  · rw [List.pairwise_map] at h3
    unfold List.Nodup
    rw [List.pairwise_map]
    refine h3.imp fun {p q} h e => ?_
    have : ordOf 128 p = ordOf 128 q := by
      show TS.code 128 (p.2.map numK) = TS.code 128 (q.2.map numK)
      rw [e]
    omega
  · rw [List.pairwise_map] at h3
    exact h3.imp fun h => Int.le_of_lt h
def spUnl (K : PySem.W.Frag) : Sp := fun vs H Q _ => ∃ l ks d, vs = [.ref l] ∧ H l = some (.lst (refs ks)) ∧ (∀ p ∈ ks, SqT K H p.1 (p.2.map kV)) ∧ (∀ p ∈ ks, TieK 128 d p.2) ∧ ks.length < 19600 ∧ ∀ p U H', H p = none → H' p = some (.lst (refs U)) → Srt ks U → Same H H' → Q (.ref p) H'
theorem scU : FnScope ["_law_some", "_law_found", "_law_one_here"] ["_law_some"] (defScope sUnlike) := ⟨rfl, rfl, rfl, by decide +kernel, rfl, by decide +kernel, by decide +kernel⟩
set_option maxHeartbeats 2000000 in
theorem ok_unl {f : Addr} {fd : FuncData} (F : Fun K "_law_unlike" "_law_unlike" sUnlike f fd) (ms : mg "sorted" = none) : FnOk P w K mg base CX0 1 f fd ["_law_some"] (spUnl K) := by
  refine F.ok scU (fun vs H Q E h => ?_) (fun cdv A outer s H vs Q E hr h => ?_)
  · obtain ⟨l, ks, d, rfl, _⟩ := h
    rfl
  · obtain ⟨l, ks, d, rfl, hl, hq, ht, h64, KQ⟩ := h
    have hu : (A.deeper (envOfC "_law_unlike" (defScope sUnlike) s.heap.objs.size f cdv)).units + 64 < cLine := by
      have := hr.un
      omega
    refine ⟨_, pss_cons (ps_set (i := 1) scU.nd rfl (.inl rfl) (pe_lst pa_nil))
      (pss_cons (ps_for PassesOwn.never rfl (pi_list (pe_callB (cr_sortX rfl) (by rfl) ms (by decide +kernel) (pa_cons (pv 0) pa_nil))) (pg_name (i := 2) scU.nd rfl (.inl rfl))
        (pss_one (ps_if (PW.pt (pw_or (pt_cmpR (op_eqD hu) (pv 1) (pe_lst pa_nil) (by rfl)) (pw_or1 (pt_cmpR (op_neD hu) (pe_ix ix_list (pv 1) (pe_un un_neg pe_int) (fun _ _ => rfl)) (pv 2) (by rfl)))))
          (pss_one (ps_expr (pe_bm PySem.F.plainAttrs_list PySem.F.slot_list_append PySem.F.type_list_append mt_append (pv 1) (pa_cons (pv 2) pa_nil)))) pss_nil)))
      (pss_one (ps_ret (pv 1)))), ?_⟩
    refine seq_set ⟨Nat.zero_le _, fun D nD => ?_⟩
    have s0 : Same H (upd H D (.lst [])) := same_upd nD
    have e0 : (upd H D (.lst [])) D = some (.lst (refs [])) := upd_same
    generalize upd H D (.lst []) = H0 at s0 e0 ⊢
    refine ⟨_, rfl, l, ks, d, 128, rfl, .inr ⟨SqL.of (s0 _ _ hl), h64⟩, fun p hp => same_tup s0 (hq p hp), ht, fun L p pm ris _ np => ?_⟩
    have s1 : Same H0 (upd H0 p (.lst (refs L))) := same_upd np
    have e1 : (upd H0 p (.lst (refs L))) p = some (.lst (refs L)) := upd_same
    generalize upd H0 p (.lst (refs L)) = H1 at s1 e1 ⊢
    have s01 := s0.trans s1
    have qL : ∀ z ∈ L, SqT K H1 z.1 (z.2.map kV) := fun z hz => same_tup s01 (hq z (pm.mem_iff.mp hz))
    have tL : ∀ z ∈ L, TieK 128 d z.2 := fun z hz => ht z (pm.mem_iff.mp hz)
    refine ⟨p, rfl, ⟨_, SqL.of e1⟩, for_list (xs := refs L) (fun i σ J => ∃ y2 U, σ = [some (.ref l), some (.ref D), y2] ∧ J D = some (.lst (refs U)) ∧ (∀ z ∈ U, z ∈ L.take i) ∧ (∀ z ∈ L.take i, z.2 ∈ U.map (·.2)) ∧ (U.map (ordOf 128)).Pairwise (· < ·) ∧ (∀ c o, c ≠ D → H1 c = some o → J c = some o)) ⟨_, [], rfl, s1 _ _ e0, (fun z hz => nomatch hz), (fun z hz => nomatch hz), List.Pairwise.nil, fun c o _ h => h⟩ ?_ ?_ ?_⟩
    · rintro i σ J _ ⟨y2, U, _, _, _, _, _, sm⟩
      exact SqL.of (sm _ _ (ne_of_none e0 np).symm e1)
    · rintro i v σ J hv ⟨y2, U, rfl, hD, u1, u2, u3, sm⟩
      have hik : i < L.length := by
        have := (List.getElem?_eq_some_iff.mp hv).1
        rwa [List.length_map] at this
      have gi : (refs L)[i]? = some (.ref L[i].1) := by
        rw [List.getElem?_map, List.getElem?_eq_getElem hik]
        rfl
      cases hv.symm.trans gi
      have hti : L.take (i + 1) = L.take i ++ [L[i]] := by
        rw [List.take_add_one, List.getElem?_eq_getElem hik]
        rfl
      have tU : ∀ z ∈ U, TieK 128 d z.2 := fun z hz => tL z (List.mem_of_mem_take (u1 z hz))
      have tx : TieK 128 d L[i].2 := tL _ (List.getElem_mem hik)
      have le : ∀ z ∈ U, ordOf 128 z ≤ ordOf 128 L[i] := fun z hz => by
        have r2 := ris
        rw [← List.take_append_drop i L] at r2
        refine (List.pairwise_append.mp r2).2.2 z (u1 z hz) L[i] ?_
        rw [List.drop_eq_getElem_cons hik]
        exact List.mem_cons_self ..
      have lU : U.length < 45000 := by
        have h1 : (U.map (·.2)).Nodup := (Srt.strict (ks := L.take i) u1 u2 u3).nd
        have h2 := (Srt.strict (ks := L.take i) u1 u2 u3).len
        rw [List.length_take] at h2
        have h3 := pm.length_eq
        omega
      refine ⟨_, rfl, Nat.zero_le _, fun e ne => ?_⟩
      have dDe : D ≠ e := ne_of_none hD ne
      have eD : (upd J e (.lst [])) D = some (.lst (refs U)) := by
        rw [upd_ne dDe]
        exact hD
      have ee : (upd J e (.lst [])) e = some (.lst []) := upd_same
      have se : Same J (upd J e (.lst [])) := same_upd ne
      generalize upd J e (.lst []) = J1 at eD ee se ⊢
      have qx : ∀ z ∈ L, SqT K J1 z.1 (z.2.map kV) := fun z hz => same_tup se (xt_tup' (fun c o hc h => sm c o hc h) (s1 _ _ e0) (qL z hz))
      have qU : ∀ z ∈ U, SqT K J1 z.1 (z.2.map kV) := fun z hz => qx z (List.mem_of_mem_take (u1 z hz))
      have sm1 : ∀ c o, c ≠ D → H1 c = some o → J1 c = some o := fun c o hc h => se _ _ (sm c o hc h)
      have add : (∀ z ∈ U, ordOf 128 z < ordOf 128 L[i]) → ∃ y2 U', [some (V.ref l), some (V.ref D), some (V.ref L[i].1)] = [some (V.ref l), some (V.ref D), y2] ∧ (upd J1 D (.lst (refs U ++ [.ref L[i].1]))) D = some (.lst (refs U')) ∧ (∀ z ∈ U', z ∈ L.take (i + 1)) ∧ (∀ z ∈ L.take (i + 1), z.2 ∈ U'.map (·.2)) ∧ (U'.map (ordOf 128)).Pairwise (· < ·) ∧ ∀ c o, c ≠ D → H1 c = some o → (upd J1 D (.lst (refs U ++ [.ref L[i].1]))) c = some o := fun hlt => by
        refine ⟨_, U ++ [L[i]], rfl, ?_, ?_, ?_, ?_, ?_⟩
        · rw [upd_same]
          show _ = some (HO.lst (List.map _ (U ++ [_])))
          rw [List.map_append]
          rfl
        · intro z hz
          rw [hti]
          rcases List.mem_append.mp hz with hz | hz
          · exact List.mem_append_left _ (u1 z hz)
          · exact List.mem_append_right _ hz
        · intro z hz
          rw [hti] at hz
          rw [List.map_append]
          rcases List.mem_append.mp hz with hz | hz
          · exact List.mem_append_left _ (u2 z hz)
          · rw [List.mem_singleton] at hz
            subst hz
            exact List.mem_append_right _ (List.mem_cons_self ..)
        · rw [List.map_append]
          refine List.pairwise_append.mpr ⟨u3, List.pairwise_singleton .., fun a ha b hb => ?_⟩
          obtain ⟨z, hz, rfl⟩ := List.mem_map.mp ha
          rw [List.map_cons, List.map_nil, List.mem_singleton] at hb
          subst hb
          exact hlt z hz
        · intro c o hc h
          rw [upd_ne hc]
          exact sm1 c o hc h
      refine ⟨lD U, .list [], dp_list (SqL.of eD) qU, .lst (SqL.of ee) .nil, shaped_list (fun z hz => (tU z hz).ok), by decide +kernel, _, rfl, ?_⟩
      rw [eqv_nil]
      rcases List.eq_nil_or_concat U with hU | ⟨U0, u, hU⟩
      · rw [decide_eq_true hU]
        refine iteT (iteT ?_)
        refine ⟨_, rfl, .inl ⟨rfl, _, SqL.of eD⟩, _, rfl, D, _, _, rfl, rfl, eD, small9k (by rw [List.length_map]; omega), ?_⟩
        exact add (fun z hz => by rw [hU] at hz; cases hz)
      · rw [List.concat_eq_append] at hU
        have hne : U ≠ [] := by
          rw [hU]
          simp
        rw [decide_eq_false hne]
        refine iteF ?_
        have mu : u ∈ U := by
          rw [hU]
          exact List.mem_append_right _ (List.mem_cons_self ..)
        have la : atI (refs U) (-1) = some (.ref u.1) := by
          rw [hU]
          show atI (List.map _ (U0 ++ [u])) (-1) = _
          rw [List.map_append]
          exact atI_last _ _
        refine ⟨_, rfl, 1, rfl, D, _, _, _, rfl, rfl, SqL.of eD, la, _, rfl, tD u.2, tD L[i].2, dp_tie (qU u mu), dp_tie (qx _ (List.getElem_mem hik)), shaped_tie (tU u mu).ok, shaped_tie tx.ok, _, rfl, ?_⟩
        rw [eqv_tie]
        by_cases hk : u.2 = L[i].2
        · rw [decide_eq_true hk]
          refine iteF ?_
          refine ⟨_, U, rfl, eD, fun z hz => ?_, fun z hz => ?_, u3, sm1⟩
          · rw [hti]
            exact List.mem_append_left _ (u1 z hz)
          · rw [hti] at hz
            rcases List.mem_append.mp hz with hz | hz
            · exact u2 z hz
            · rw [List.mem_singleton] at hz
              subst hz
              exact List.mem_map.mpr ⟨u, mu, hk⟩
        · rw [decide_eq_false hk]
          refine iteT ?_
          refine ⟨_, rfl, .inl ⟨rfl, _, SqL.of eD⟩, _, rfl, D, _, _, rfl, rfl, eD, small9k (by rw [List.length_map]; omega), ?_⟩
          refine add fun z hz => ?_
          have hlu : ordOf 128 u < ordOf 128 L[i] := by
            have h1 := le u mu
            have h2 : ordOf 128 u ≠ ordOf 128 L[i] := fun e => hk (ord_inj (tU u mu) tx e)
            omega
          have u3' := u3
          rw [hU, List.map_append] at u3'
          have hz' := hz
          rw [hU] at hz'
          rcases List.mem_append.mp hz' with h | h
          · have := (List.pairwise_append.mp u3').2.2 (ordOf 128 z) (List.mem_map.mpr ⟨z, h, rfl⟩) (ordOf 128 u) (List.mem_cons_self ..)
            omega
          · rw [List.mem_singleton] at h
            subst h
            exact hlu
    · rintro σ J ⟨y2, U, rfl, hD, u1, u2, u3, sm⟩
      rw [List.length_map, List.take_length] at u1 u2
      refine ⟨_, rfl, KQ D U J nD hD (Srt.strict (fun z hz => pm.mem_iff.mp (u1 z hz)) (fun z hz => u2 z (pm.mem_iff.mpr hz)) u3) ?_⟩
      intro c o hc
      exact sm c o (ne_of_none hc nD) (s01 _ _ hc)
end
end Wb
namespace Wb
open PySem PySem.Spec PyProof.Rows L2 RZ Sg
abbrev sWeb : Stmt := topS 33
structure MW (K : PySem.W.Frag) (H : Hp) (p : Addr) (n : Int) (a m : Addr) (As Ms : List TK) : Prop where
  tp : H p = some (.tup [.int n, .ref a, .ref m])
  ha : H a = some (.lst (refs As))
  hm : H m = some (.lst (refs Ms))
  qa : ∀ z ∈ As, SqT K H z.1 (z.2.map kV)
  qm : ∀ z ∈ Ms, SqT K H z.1 (z.2.map kV)
  ka : ∀ z ∈ As, AK n z.2
  km : ∀ z ∈ Ms, MK n z.2
  na : (As.map (·.2)).Nodup
  nm : (Ms.map (·.2)).Nodup
  ra : As.Pairwise fun p q => ordOf 128 p ≤ ordOf 128 q
  rm : Ms.Pairwise fun p q => ordOf 128 p ≤ ordOf 128 q
  la : As.length ≤ 19500
  lm : Ms.length ≤ 19500
  n0 : 0 ≤ n
  n1 : n ≤ 30
theorem MW.same {K : PySem.W.Frag} {H H' : Hp} {p a m : Addr} {n : Int} {As Ms : List TK} (s : Same H H') (h : MW K H p n a m As Ms) : MW K H' p n a m As Ms :=
  { h with tp := s _ _ h.tp, ha := s _ _ h.ha, hm := s _ _ h.hm, qa := fun z hz => same_tup s (h.qa z hz), qm := fun z hz => same_tup s (h.qm z hz) }
theorem bx_at {H : Hp} {b q : Addr} (B : Bx H b q) : ∃ xs, H b = some (.lst xs) := by
  obtain ⟨ns, i, r, k, hb, _⟩ := B
  exact ⟨_, hb⟩
theorem bx_same {H H' : Hp} {b q : Addr} (s : Same H H') (B : Bx H b q) : Bx H' b q := by
  obtain ⟨ns, i, r, k, hb, hq, h⟩ := B
  exact ⟨ns, i, r, k, s _ _ hb, s _ _ hq, h⟩
theorem bx_tup {K : PySem.W.Frag} {b q p : Addr} {H H' : Hp} {xs : List V} (B : Bx H b q) (s : Xt b H H') (h : SqT K H p xs) : SqT K H' p xs := by
  obtain ⟨ys, hb⟩ := bx_at B
  exact xt_tup' s hb h
theorem MW.xt {K : PySem.W.Frag} {H H' : Hp} {b q p a m : Addr} {n : Int} {As Ms : List TK} (B : Bx H b q) (s : Xt b H H') (h : MW K H p n a m As Ms) : MW K H' p n a m As Ms := by
  obtain ⟨ys, hb⟩ := bx_at B
  exact { h with tp := s _ _ (ne_of h.tp hb (fun z => nomatch z)) h.tp, ha := s _ _ (bx_nr B h.ha) h.ha, hm := s _ _ (bx_nr B h.hm) h.hm, qa := fun z hz => xt_tup' s hb (h.qa z hz), qm := fun z hz => xt_tup' s hb (h.qm z hz) }
theorem hue_cp {c : Str} (h : c ∈ (["a", "b", "c"] : List Str)) : ∃ k : Nat, c = ⟨#[k]⟩ ∧ (k = 97 ∨ k = 98 ∨ k = 99) := by
  simp only [List.mem_cons, List.not_mem_nil, or_false] at h
  rcases h with rfl | rfl | rfl
  · exact ⟨97, by decide +kernel, .inl rfl⟩
  · exact ⟨98, by decide +kernel, .inr (.inl rfl)⟩
  · exact ⟨99, by decide +kernel, .inr (.inr rfl)⟩
theorem sign_cp {c : Str} (h : c ∈ (["p", "q", "r"] : List Str)) : ∃ k : Nat, c = ⟨#[k]⟩ ∧ (k = 112 ∨ k = 113 ∨ k = 114) := by
  simp only [List.mem_cons, List.not_mem_nil, or_false] at h
  rcases h with rfl | rfl | rfl
  · exact ⟨112, by decide +kernel, .inl rfl⟩
  · exact ⟨113, by decide +kernel, .inr (.inl rfl)⟩
  · exact ⟨114, by decide +kernel, .inr (.inr rfl)⟩
theorem seq_ret {te : TE} {rest : TS} {D : Ends} {σ : L2.St} {H : Hp} (h : te σ H D.rt) : tSeq (tRet te) rest D σ H := h
def CL (K : PySem.W.Frag) (b q : Addr) (G : List Key → Prop) (H1 : Hp) (D : Addr) (i : Nat) (J : Hp) : Prop := ∃ ks : List TK, J D = some (.lst (refs ks)) ∧ ks.length = i ∧ (∀ z ∈ ks, SqT K J z.1 (z.2.map kV) ∧ G z.2) ∧ Bx J b q ∧ Xt b H1 J
theorem CL.new {K : PySem.W.Frag} {b q D : Addr} {G : List Key → Prop} {H1 : Hp} (B : Bx H1 b q) (nD : H1 D = none) : CL K b q G H1 D 0 (upd H1 D (.lst [])) :=
  ⟨[], upd_same, rfl, (fun z hz => nomatch hz), B.new nD, (Xt.refl b H1).new nD⟩
theorem CL.add {K : PySem.W.Frag} {b q D p : Addr} {G : List Key → Prop} {H1 J J' : Hp} {i : Nat} {k : List Key} (B : Bx H1 b q) (nD : H1 D = none) (h : CL K b q G H1 D i J) (hi : i < 45000) (B' : Bx J' b q) (x : Xt b J J') (hp : J' p = some (.tup (k.map kV))) (g : G k) :
    ∃ acc, J' D = some (.lst acc) ∧ acc.length < sizeLine ∧ CL K b q G H1 D (i + 1) (upd J' D (.lst (acc ++ [.ref p]))) := by
  obtain ⟨ks, hD, hl, hk, BJ, xJ⟩ := h
  have nb : D ≠ b := B.ne nD
  have hD' := x _ _ nb hD
  refine ⟨refs ks, hD', by rw [List.length_map]; exact small9k (by omega), ks ++ [(p, k)], ?_, by rw [List.length_append, hl]; rfl, fun z hz => ?_, B'.upd nb (B.neq nD), fun c o hc ec => ?_⟩
  · rw [upd_same]
    show _ = some (HO.lst (List.map _ (ks ++ [_])))
    rw [List.map_append]
    rfl
  · rcases List.mem_append.mp hz with hz | hz
    · exact ⟨xt_tup' (Xt.refl D J').put hD' (bx_tup BJ x (hk z hz).1), (hk z hz).2⟩
    · rw [List.mem_singleton] at hz
      subst hz
      refine ⟨SqT.of ?_, g⟩
      rw [upd_ne (ne_of hp hD' (fun z => nomatch z))]
      exact hp
  · rw [upd_ne (ne_of_none ec nD)]
    exact x _ _ hc (xJ c o hc ec)
theorem CL.xt {K : PySem.W.Frag} {b q D : Addr} {G : List Key → Prop} {H1 J J' : Hp} {i : Nat} (h : CL K b q G H1 D i J) (nb : D ≠ b) (B' : Bx J' b q) (x : Xt b J J') : CL K b q G H1 D i J' := by
  obtain ⟨ks, hD, hl, hk, BJ, xJ⟩ := h
  exact ⟨ks, x _ _ nb hD, hl, fun z hz => ⟨bx_tup BJ x (hk z hz).1, (hk z hz).2⟩, B', xJ.trans x⟩
section
variable {P : Program} {w : World} {K : PySem.W.Frag} {mg : Str → Option Value} {base : Heap}
def spSign : Sp := fun vs H Q _ => ∃ b q, vs = [.ref b] ∧ Bx H b q ∧ ∀ (c : Str) H', c ∈ (["p", "q", "r"] : List Str) → Bx H' b q → Xt b H H' → Q (.str c) H'
theorem scSg : FnScope ["_law_box_here"] ["_law_box_here"] (defScope sSign) := ⟨rfl, rfl, rfl, by decide +kernel, rfl, by decide +kernel, by decide +kernel⟩
theorem ok_sign {f fO : Addr} {fd fdO : FuncData} (F : Fun K "_law_sign" "_law_sign" sSign f fd) (O : Df P w K mg base 2 "_law_one" ["_law_box_here", "_law_some"] (spOne K) fO fdO) : FnOk P w K mg base CX0 3 f fd ["_law_box_here"] spSign := by
  refine F.ok scSg (fun vs H Q E h => ?_) (fun cdv A outer s H vs Q E hr h => ?_)
  · obtain ⟨b, q, rfl, _⟩ := h
    rfl
  · obtain ⟨b, q, rfl, B, K1⟩ := h
    refine ⟨_, pss_one (ps_ret (pe_call O.ok hr (by rfl) O.gl O.kp O.bd .nil pass0 (pa_cons (pv 0) (pa_cons (pe_lst (pa_cons pe_str (pa_cons pe_str (pa_cons pe_str (pa_cons pe_str pa_nil))))) pa_nil)))), ?_⟩
    refine ⟨_, rfl, by show 4 ≤ sizeLine; decide, fun p np => ?_⟩
    refine .inl ⟨b, q, p, _, rfl, B.new np, SqL.of upd_same, B.ne np, by simp, by show 4 ≤ 1000; decide, fun v H' hv B' kp => ?_⟩
    obtain ⟨c, rfl, hc⟩ : ∃ c : Str, v = .str c ∧ c ∈ (["p", "q", "r"] : List Str) := by
      simp only [List.mem_cons, List.not_mem_nil, or_false] at hv
      rcases hv with rfl | rfl | rfl | rfl
      all_goals exact ⟨_, rfl, by simp⟩
    exact K1 c H' hc B' (((Xt.refl b H).new np).trans kp.xt)
def spWeb (K : PySem.W.Frag) : Sp := fun vs H Q _ => ∃ b q lo hi, vs = [.ref b, .int lo, .int hi] ∧ Bx H b q ∧ 0 ≤ lo ∧ lo ≤ hi ∧ hi ≤ 30 ∧ ∀ p n a m As Ms H', lo ≤ n → n ≤ hi → MW K H' p n a m As Ms → Bx H' b q → Xt b H H' → Q (.ref p) H'
abbrev NW : List Str := ["_law_box_here", "_law_low", "_law_high", "_law_many", "_law_crowd", "_law_arrows", "_law_marks", "_law_k"]
theorem scW : FnScope NW ["_law_box_here", "_law_low", "_law_high"] (defScope sWeb) := ⟨rfl, rfl, rfl, by decide +kernel, rfl, by decide +kernel, by decide +kernel⟩
set_option maxHeartbeats 4000000 in
theorem ok_web {f fT fO fS fA fU : Addr} {fd dT dO dS dA dU : FuncData} (F : Fun K "_law_web" "_law_web" sWeb f fd) (mr : mg "range" = none) (T : Df P w K mg base 1 "_law_take" ["_law_box_here", "_law_many"] spTake fT dT)
    (O : Df P w K mg base 2 "_law_one" ["_law_box_here", "_law_some"] (spOne K) fO dO) (G : Df P w K mg base 3 "_law_sign" ["_law_box_here"] spSign fS dS) (R : Df P w K mg base 4 "_law_arrow" ["_law_box_here", "_law_many"] spArrow fA dA)
    (U : Df P w K mg base 1 "_law_unlike" ["_law_some"] (spUnl K) fU dU) : FnOk P w K mg base CX0 5 f fd ["_law_box_here", "_law_low", "_law_high"] (spWeb K) := by
  refine F.ok scW (fun vs H Q E h => ?_) (fun cdv A outer s H vs Q E hr h => ?_)
  · obtain ⟨b, q, lo, hi, rfl, _⟩ := h
    rfl
  · obtain ⟨b, q, lo, hi, rfl, B, l0, l1, l2, KQ⟩ := h
    refine ⟨_, pss_cons (ps_set (i := 3) scW.nd rfl (.inr rfl) (pe_op op_add (pv 1) (pe_call T.ok (hr.mono (by decide)) (by rfl) T.gl T.kp T.bd .nil pass0 (pa_cons (pv 0) (pa_cons (pe_op op_add (pe_op op_sub (pv 2) (pv 1)) pe_int) pa_nil)))))
      (pss_cons (ps_if (pt_cmpR op_eq (pv 3) pe_int (nomark _)) (pss_one (ps_ret (pe_tup (pa_cons pe_int (pa_cons (pe_lst pa_nil) (pa_cons (pe_lst pa_nil) pa_nil)))))) pss_nil)
      (pss_cons (ps_set (i := 4) scW.nd rfl (.inl rfl) (pe_call O.ok (hr.mono (by decide)) (by rfl) O.gl O.kp O.bd .nil pass0 (pa_cons (pv 0) (pa_cons (pe_lst (pa_cons (pv 3) (pa_cons (pv 3) (pa_cons (pe_op op_mul pe_int (pv 3)) (pa_cons pe_int pa_nil))))) pa_nil))))
      (pss_cons (ps_setLc (i := 5) (own := [("_law_k", 7)]) (g := gName 7) (tt := tYes) rfl scW.nd rfl rfl (sw_true rfl rfl rfl (by decide +kernel)) (pi_range1 (by rfl) mr (pa_cons (pe_call T.ok (hr.mono (by decide)) (by rfl) T.gl T.kp T.bd .nil pass0 (pa_cons (pv 0) (pa_cons (pe_op op_add (pv 4) pe_int) pa_nil))) pa_nil)) (blkOk_by (N := NW) (sc := defScope sWeb) (by decide +kernel))
        (fun _ _ _ _ _ => pg_name (i := 7) scW.nd rfl (Or.inl rfl)) (fun _ _ _ _ _ => pts_nil) (fun _ _ _ _ _ => pe_call R.ok hr (by rfl) R.gl R.kp R.bd .nil pass0 (pa_cons (pv 0) (pa_cons (pv 3) pa_nil))))
      (pss_cons (ps_setLc (i := 6) (own := [("_law_k", 7)]) (g := gName 7) (tt := tYes) rfl scW.nd rfl rfl (sw_true rfl rfl rfl (by decide +kernel)) (pi_range1 (by rfl) mr (pa_cons (pe_call O.ok (hr.mono (by decide)) (by rfl) O.gl O.kp O.bd .nil pass0 (pa_cons (pv 0) (pa_cons (pe_lst (pa_cons pe_int (pa_cons pe_int (pa_cons pe_int (pa_cons pe_int (pa_cons (pv 3) pa_nil)))))) pa_nil))) pa_nil)) (blkOk_by (N := NW) (sc := defScope sWeb) (by decide +kernel))
        (fun _ _ _ _ _ => pg_name (i := 7) scW.nd rfl (Or.inl rfl)) (fun _ _ _ _ _ => pts_nil) (fun _ _ _ _ _ => pe_tup (pa_cons (pe_call G.ok (hr.mono (by decide)) (by rfl) G.gl G.kp G.bd .nil pass0 (pa_cons (pv 0) pa_nil)) (pa_cons (pe_call T.ok (hr.mono (by decide)) (by rfl) T.gl T.kp T.bd .nil pass0 (pa_cons (pv 0) (pa_cons (pv 3) pa_nil))) pa_nil))))
      (pss_one (ps_ret (pe_tup (pa_cons (pv 3) (pa_cons (pe_call U.ok (hr.mono (by decide)) (by rfl) U.gl U.kp U.bd .nil pass0 (pa_cons (pv 5) pa_nil)) (pa_cons (pe_call U.ok (hr.mono (by decide)) (by rfl) U.gl U.kp U.bd .nil pass0 (pa_cons (pv 6) pa_nil)) pa_nil)))))))))), ?_⟩
    refine seq_set ⟨_, rfl, _, rfl, _, rfl, _, rfl, _, _, rfl, rfl, _, _, rfl, rfl, b, q, _, rfl, B, by omega, by omega, fun z H1 z0 z1 B1 k1 => ⟨lo, z, rfl, rfl, ?_⟩⟩
    have hn0 : 0 ≤ lo + z := by omega
    have hn1 : lo + z ≤ hi := by omega
    have hlo : lo ≤ lo + z := by omega
    dsimp only
    generalize lo + z = n at hn0 hn1 hlo ⊢
    have x1 := k1.xt
    clear k1 z0 z1
    refine seq_if ⟨_, rfl, rfl, _, rfl, ?_⟩
    by_cases hz : n = 0
    · subst hz
      rw [decide_eq_true rfl]
      refine iteT (seq_ret ?_)
      refine ⟨Nat.zero_le _, fun a na => ⟨Nat.zero_le _, fun m nm => ⟨by show 3 ≤ sizeLine; decide, fun p np => ?_⟩⟩⟩
      have s1 : Same (upd H1 a (.lst [])) (upd (upd H1 a (.lst [])) m (.lst [])) := same_upd nm
      have s2 := same_upd (o := .tup [.int 0, .ref a, .ref m]) np
      exact KQ p 0 a m [] [] _ hlo hn1 ⟨upd_same, s2 _ _ (s1 _ _ upd_same), s2 _ _ upd_same, (fun z hz => nomatch hz), (fun z hz => nomatch hz), (fun z hz => nomatch hz), (fun z hz => nomatch hz), List.Pairwise.nil, List.Pairwise.nil, List.Pairwise.nil, List.Pairwise.nil, Nat.zero_le _, Nat.zero_le _, by omega, by omega⟩ (((B1.new na).new nm).new np) (((x1.new na).new nm).new np)
    · rw [decide_eq_false (fun z => hz (V.int.inj z))]
      refine iteF (seq_next ?_)
      have np0 : 0 < n := by omega
      refine seq_set ⟨_, rfl, _, rfl, _, rfl, _, rfl, 2, n, rfl, rfl, .inl ⟨by decide, by decide⟩, by show 4 ≤ sizeLine; decide, fun p np => .inl ⟨b, q, p, _, rfl, B1.new np, SqL.of upd_same, B1.ne np, by simp, by show 4 ≤ 1000; decide, fun v H2 hv B2 k2 => ?_⟩⟩
      obtain ⟨cr, rfl, c0, c1⟩ : ∃ c : Int, v = .int c ∧ 0 ≤ c ∧ c ≤ 19500 := by
        simp only [List.mem_cons, List.not_mem_nil, or_false] at hv
        rcases hv with rfl | rfl | rfl | rfl
        all_goals exact ⟨_, rfl, by omega, by omega⟩
      have x2 := (x1.new (o := .lst [.int n, .int n, .int (2 * n), .int 3]) np).trans k2.xt
      clear k2 hv
      refine seq_set ⟨_, rfl, _, rfl, _, _, rfl, rfl, b, q, _, rfl, B2, by omega, by omega, fun t H3 t0 t1 B3 k3 => ⟨t, rfl, by omega, by omega, fun D nD => ?_⟩⟩
      have x3 := x2.trans k3.xt
      have Db : D ≠ b := B3.ne nD
      clear x2 k3 B2
      refine lc_range (lo := 0) (n := t.toNat) (CL K b q (AK n) H3 D) (CL.new B3 nD) ?_ ?_
      · rintro i J hi h
        refine ⟨rfl, ?_⟩
        dsimp only [tYes]
        refine iteT ?_
        have hh := h
        obtain ⟨_, _, _, _, BJ, _⟩ := hh
        refine ⟨_, rfl, _, rfl, b, q, n, rfl, BJ, np0, by omega, fun p c x y J' fp pb hp hc x0 x1 y0 y1 B' xt => ?_⟩
        obtain ⟨k, rfl, hk⟩ := hue_cp hc
        exact h.add B3 nD (by omega) B' xt (k := [.inr ⟨#[k]⟩, .inl x, .inl y]) hp ⟨k, x, y, rfl, hk, x0, x1, y0, y1⟩
      · intro J4 cA
        obtain ⟨_, _, _, _, B4, x4⟩ := id cA
        refine ⟨_, rfl, _, rfl, by show 5 ≤ sizeLine; decide, fun p np => .inl ⟨b, q, p, _, rfl, B4.new np, SqL.of upd_same, B4.ne np, by simp, by show 5 ≤ 1000; decide, fun v J5 hv B5 k5 => ?_⟩⟩
        obtain ⟨mm, rfl, m0, m1⟩ : ∃ c : Int, v = .int c ∧ 0 ≤ c ∧ c ≤ 19500 := by
          simp only [List.mem_cons, List.not_mem_nil, or_false] at hv
          rcases hv with rfl | rfl | rfl | rfl | rfl
          all_goals exact ⟨_, rfl, by omega, by omega⟩
        have cA5 := cA.xt Db B5 (((Xt.refl b J4).new np).trans k5.xt)
        clear cA k5 hv
        refine ⟨mm, rfl, by omega, by omega, fun D2 nD2 => ?_⟩
        have Db2 : D2 ≠ b := B5.ne nD2
        refine lc_range (lo := 0) (n := mm.toNat) (CL K b q (MK n) J5 D2) (CL.new B5 nD2) ?_ ?_
        · rintro i J hi h
          refine ⟨rfl, ?_⟩
          dsimp only [tYes]
          refine iteT ?_
          obtain ⟨_, _, _, _, BJ, _⟩ := id h
          refine ⟨_, rfl, b, q, rfl, BJ, fun c J1 hc B1 y1 => ?_⟩
          refine ⟨_, rfl, _, rfl, b, q, n, rfl, B1, np0, by omega, fun x J2 x0 x1 B2 k2 => ?_⟩
          refine ⟨by show 2 ≤ sizeLine; decide, fun p np => ?_⟩
          obtain ⟨k, rfl, hk⟩ := sign_cp hc
          exact h.add B5 nD2 (by omega) (B2.new np) ((y1.trans k2.xt).new np) (k := [.inr ⟨#[k]⟩, .inl x]) upd_same ⟨k, x, rfl, hk, x0, x1⟩
        · intro J6 cM
          obtain ⟨_, _, _, _, B6, x6⟩ := id cM
          obtain ⟨ka, hA, lA, gA, _, xA⟩ := cA5.xt Db B6 x6
          obtain ⟨km, hM, lM, gM, _, _⟩ := cM
          have tA : ∀ z ∈ ka, TieK 128 3 z.2 := fun z hz => (gA z hz).2.tie (by omega)
          have tM : ∀ z ∈ km, TieK 128 2 z.2 := fun z hz => (gM z hz).2.tie (by omega)
          refine ⟨_, rfl, _, rfl, D, ka, 3, rfl, hA, fun z hz => (gA z hz).1, tA, by omega, fun a As J7 na ha sA s7 => ?_⟩
          refine ⟨_, rfl, D2, km, 2, rfl, s7 _ _ hM, fun z hz => same_tup s7 (gM z hz).1, tM, by omega, fun m Ms J8 nm hm sM s8 => ?_⟩
          refine ⟨by show 3 ≤ sizeLine; decide, fun p np => ?_⟩
          have s9 := same_upd (o := .tup [.int n, .ref a, .ref m]) np
          have s69 := (s7.trans s8).trans s9
          refine KQ p n a m As Ms _ hlo hn1 ⟨upd_same, s9 _ _ (s8 _ _ ha), s9 _ _ hm, fun z hz => same_tup s69 (gA z (sA.of z hz)).1, fun z hz => same_tup s69 (gM z (sM.of z hz)).1, fun z hz => (gA z (sA.of z hz)).2, fun z hz => (gM z (sM.of z hz)).2, sA.nd, sM.nd, sA.ris, sM.ris, ?_, ?_, by omega, by omega⟩ (bx_same s69 B6) ((x3.trans xA).trans (Same.xt s69))
          · have := sA.len
            omega
          · have := sM.len
            omega
end
end Wb
namespace Wb
open PySem PySem.Spec PyProof.Rows L2 RZ Sg
structure Mf (P : Program) (w : World) (K : PySem.W.Frag) (mg : Str → Option Value) (base : Heap) (k : Nat) (C : Addr) (m : Str) (sp : Sp) (f : Addr) (fd : FuncData) : Prop where
  ok : FnOk P w K mg base CX0 k f fd ["self"] sp
  mt : Meth K C m f
  bd : Binds K fd ["self"] []
section
variable {P : Program} {w : World} {K : PySem.W.Frag} {mg : Str → Option Value} {base : Heap}
abbrev psI : List Str := ["self", "points", "arrows", "marks"]
def g1 {α : Type} (us _mv ws : List α) : List α := match us, ws with | [s, p], [m, a] => [s, p, a, m] | _, _ => []
def g2 {α : Type} (us _mv ws : List α) : List α := match us, ws with | [s, p], [a, m] => [s, p, a, m] | _, _ => []
def g3 {α : Type} (us mv ws : List α) : List α := match us, mv, ws with | [s], [a, m], [p] => [s, p, a, m] | _, _, _ => []
def g4 {α : Type} (us mv ws : List α) : List α := match us, mv, ws with | [s, p], [a], [m] => [s, p, a, m] | _, _, _ => []
theorem vals1 {vs : List V} {u : Value} {us : List Value} (h : Vals vs (u :: us)) : ∃ v vs', vs = v :: vs' ∧ RelV v u ∧ Vals vs' us := by
  cases h with
  | cons a b => exact ⟨_, _, rfl, a, b⟩
theorem kb2 {f : Addr} {fd : FuncData} {kws : List (Str × V)} (F : FunD K "__init__" "Web.__init__" (defArgs sInit) (defBody sInit) (defScope sInit) [] kws f fd) (hk : kws ≠ []) : ∃ mv : List Value, KBn K fd psI 2 ["arrows", "marks"] (fun us ws => g2 us mv ws) (fun vs zs => g2 vs [] zs) := by
  refine F.kbinds0 2 ["arrows", "marks"] [] g2 hk (fun q h => nomatch h) ?_ ?_
  · intro vs mz zs us mv ws h1 h2 h3
    cases h1 with
    | nil => exact .nil
    | cons a0 ta0 =>
      cases ta0 with
      | nil => exact .nil
      | cons a1 ta1 =>
        cases ta1 with
        | cons _ _ => exact .nil
        | nil =>
          cases h3 with
          | nil => exact .nil
          | cons b0 tb0 =>
            cases tb0 with
            | nil => exact .nil
            | cons b1 tb1 =>
              cases tb1 with
              | cons _ _ => exact .nil
              | nil =>
                exact .cons a0 (.cons a1 (.cons b0 (.cons b1 .nil)))
  · intro D doc pm an cdv ct us mv ws l1 l2 l3
    match us, mv, ws, l1, l2, l3 with
    | [s, p], [], [a, m], _, _, _ => exact rfl
end
end Wb
namespace Wb
open PySem PySem.Spec PyProof.Rows L2 RZ Sg
section
variable {P : Program} {w : World} {K : PySem.W.Frag} {mg : Str → Option Value} {base : Heap}
theorem mk_use {C x dx la lm : Addr} {J : Hp} {ka km : List TK} {n : Int} {Q : Hp → Prop} {E : XK} (nx : J x = none) (ndx : J dx = none) (ne : dx ≠ x) (n0 : 0 ≤ n) (n1 : n ≤ 81) (ta : TL K J la ka) (ga : ∀ p ∈ ka, AK n p.2) (l64 : ka.length < 19600) (tm : TL K J lm km) (gm : ∀ p ∈ km, MK n p.2) (m64 : km.length < 19600)
    (q : ∀ J' As Ms, (∀ J'', (∀ c o, J c = none → J' c = some o → J'' c = some o) → WebAt C J'' x n As Ms) → Srt ka As → Srt km Ms → Same J J' → Q J') : spInit K C [.ref x, .int n, .ref la, .ref lm] (upd (upd J dx (.own x)) x (.ins C dx [])) (fun v H3 => v = .non ∧ Q H3) E := by
  have s1 : Same J (upd J dx (.own x)) := same_upd ndx
  have nx1 : (upd J dx (.own x)) x = none := by
    rw [upd_ne ne.symm]
    exact nx
  have s2 : Same (upd J dx (.own x)) (upd (upd J dx (.own x)) x (.ins C dx [])) := same_upd nx1
  have s := s1.trans s2
  refine ⟨x, dx, n, la, lm, ka, km, rfl, upd_same, n0, n1, ta.same s, ga, l64, tm.same s, gm, m64, fun J' As Ms W sA sM xt => ⟨rfl, q J' As Ms (fun J'' kp => W J'' fun c o hc e => kp c o ?_ e) sA sM fun c o hc => ?_⟩⟩
  · rcases hc with hc | rfl
    · exact s.free hc
    · exact nx
  exact xt c o (ne_of_none hc nx) (s c o hc)
end
end Wb
namespace Tm
open PySem PySem.Spec PyProof.Rows L2
theorem flyZ_keeps {base h h' : Heap} {l : List Env} {e : Addr} {Z : Obj → Prop} (x : HandSPX.FlyingZ base l e Z h) (k : ∀ b o, h.get? b = some o → h'.get? b = some o) : HandSPX.FlyingZ base l e Z h' := by
  obtain ⟨f1, f2, f3, oe, vs, T, oT, ts, he, hz, hd, h1, hn, hne, hT, hdT, h3⟩ := x
  exact ⟨fun b o q => k b o (f1 b o q), f2, f3.of_keeps fun b o q _ => ⟨o, k b o q, rfl⟩, oe, vs, T, oT, ts, k _ _ he, hz, hd, h1, hn, hne, k _ _ hT, hdT, h3⟩
def TestOk (X : Cx) (t : Expr) (cs : List Value) : Prop := ∀ (a : Addr) (pn : List (Addr × Obj)) (s : Shared) (σ : L2.St) (H : Hp) (cls : Value) (b : Bool) (Q : Bool → Shared → Prop) (E : Value → Shared → Prop), Inv (X.suite a pn) [] σ H s → PySem.W.Looks (model X.prog X.w) s.heap (typeOf (.ref a)) cls → PySem.W.exmAny X.K cls cs = some b →
  (∀ h', (∀ q o, s.heap.get? q = some o → h'.get? q = some o) → Q b { s with heap := h' }) →
  wpAny (model X.prog X.w) (X.A.mark (some (.ref a))) (eval t X.env) (fun c s1 => wpAny (model X.prog X.w) (X.A.mark (some (.ref a))) (excMatches (.ref a) c) Q E s1) E s
section
variable {X : Cx}
theorem name_ok {x : Str} {c : Value} {np : Pos} {a : Addr} {pn : List (Addr × Obj)} {s : Shared} {σ : L2.St} {H : Hp} {Q : Value → Shared → Prop} {E : Value → Shared → Prop} (hc : Names X x c) (I : Inv (X.suite a pn) [] σ H s) (q : Q c s) : wpAny (model X.prog X.w) (X.A.mark (some (.ref a))) (eval (.Name x np) X.env) Q E s := by
  obtain ⟨hg, hdbg, hm | ⟨hm, hv, hnn⟩⟩ := hc
  · exact ld_glob (X := X.suite a pn) I hg hm q hdbg
  · exact ld_blt (X := X.suite a pn) I hg hm hv q hnn hdbg
theorem test_one {x : Str} {c : Value} {np : Pos} (hc : Names X x c) : TestOk X (.Name x np) [c] := fun a pn s σ H cls b Q E I LT hx q => by
  obtain ⟨b1, d1, x1, y1, z1⟩ := PySem.W.exmAny_cons hx
  have y2 : some false = some d1 := y1
  cases y2
  rw [Bool.or_false] at z1
  subst z1
  exact name_ok hc I ((PySem.W.exm_one I.kIn LT x1).here (q s.heap fun _ _ z => z))
theorem test_three {x1 x2 x3 : Str} {c1 c2 c3 : Value} {p1 p2 p3 tp : Pos} {kk : Nat} (n1 : Names X x1 c1) (n2 : Names X x2 c2) (n3 : Names X x3 c3) : TestOk X (.Tuple [.Name x1 p1, .Name x2 p2, .Name x3 p3] kk tp) [c1, c2, c3] := fun a pn s σ H cls b Q E I LT hx q => by
  refine wpAny_Tuple ?_
  refine wpAny_items_cons (name_ok n1 I ?_)
  refine wpAny_items_cons (name_ok n2 I ?_)
  refine wpAny_items_cons (name_ok n3 I ?_)
  refine wpAny_items_nil ⟨by size_fits, ?_⟩
  have kp : ∀ q o, s.heap.get? q = some o → (s.heap.push { cls := .type "tuple", data := .seq [c1, c2, c3].toArray }).get? q = some o := fun _ _ z => Heap.get?_push_of_some _ z
  exact (PySem.W.exm_tup3 (I.kIn.keeps kp) (LT.keeps kp) (Heap.get?_push_size s.heap rfl) hx).here (q _ kp)
theorem test_four {x1 x2 x3 x4 : Str} {c1 c2 c3 c4 : Value} {p1 p2 p3 p4 tp : Pos} {kk : Nat} (n1 : Names X x1 c1) (n2 : Names X x2 c2) (n3 : Names X x3 c3) (n4 : Names X x4 c4) : TestOk X (.Tuple [.Name x1 p1, .Name x2 p2, .Name x3 p3, .Name x4 p4] kk tp) [c1, c2, c3, c4] := fun a pn s σ H cls b Q E I LT hx q => by
  refine wpAny_Tuple ?_
  refine wpAny_items_cons (name_ok n1 I ?_)
  refine wpAny_items_cons (name_ok n2 I ?_)
  refine wpAny_items_cons (name_ok n3 I ?_)
  refine wpAny_items_cons (name_ok n4 I ?_)
  refine wpAny_items_nil ⟨by size_fits, ?_⟩
  have kp : ∀ q o, s.heap.get? q = some o → (s.heap.push { cls := .type "tuple", data := .seq [c1, c2, c3, c4].toArray }).get? q = some o := fun _ _ z => Heap.get?_push_of_some _ z
  exact (PySem.W.exm_tup4 (I.kIn.keeps kp) (LT.keeps kp) (Heap.get?_push_size s.heap rfl) hx).here (q _ kp)
end
abbrev Cl : Type := List Value × Nat × (Addr → Value → Option Addr → TS)
abbrev endsOf (i : Nat) (D : Ends) : Ends := { nx := fun σ' H' => D.nx (σ'.set i none) H', rt := D.rt, bk := fun σ' H' => D.bk (σ'.set i none) H', ct := fun σ' H' => D.ct (σ'.set i none) H' }
def wM (K : PySem.W.Frag) (Wout : WX) (D : Ends) : List Cl → WX
  | [] => Wout
  | (cs, i, ts) :: r => fun cls d σ H => ∃ b, PySem.W.exmAny K cls cs = some b ∧ (b = true → ∀ a, H a = none → ts a cls d (endsOf i D) (σ.set i (some (.ref a))) H) ∧ (b = false → wM K Wout D r cls d σ H)
inductive HdsA (X : Cx) : List ExceptHandler → List Cl → Prop
  | nil : HdsA X [] []
  | cons {t : Expr} {n : Str} {cs : List Value} {i : Nat} {ts : Addr → Value → Option Addr → TS} {b₀ : Stmt} {suite : List Stmt} {pos' : Pos} {hds : List ExceptHandler} {l : List Cl} (ht : TestOk X t cs) (hi : X.N[i]? = some n) (hln : X.env.kindOf n = some .local)
      (hsu : ∀ (a : Addr) (oe : Obj) (cls : Value) (d : Option Addr) (pn : List (Addr × Obj)), Zc cls d oe → (∃ vs, oe.data = .fields vs) → PSs (X.suite a ((a, oe) :: pn)) (b₀ :: suite) (ts a cls d)) (r : HdsA X hds l) :
      HdsA X (.ExceptHandler (some t) (some n) (b₀ :: suite) pos' :: hds) ((cs, i, ts) :: l)
structure Air (X : Cx) (pins : List (Addr × Obj)) (st : L2.St) (M : Hp) (cls : Value) (dd : Option Addr) (ea : Addr) (G : Heap) (g now : Shared) : Prop where
  inv : Inv X pins st M g
  keeps : ∀ p ob, g.heap.get? p = some ob → p ∉ frs X.stack → G.get? p = some ob
  slots : g.heap.UpToSlots now.heap
  new : M ea = none
  same : now.os = g.os
  bare : AllBare now.gens
section
variable {X : Cx} {pins : List (Addr × Obj)} {st : L2.St} {M : Hp} {cls : Value} {dd : Option Addr} {ea : Addr} {G : Heap} {g now : Shared}
theorem Air.land (a : Air X pins st M cls dd ea G g now) {k : Heap} (fl : HandSPX.FlyingZ G (X.env :: X.outer) ea (Zc cls dd) k) (u : now.heap.UpToSlots k) : Inv X pins st M { now with heap := k } :=
  a.inv.landed a.keeps fl.1 (a.slots.trans u) a.same a.bare
theorem not_frame {k : Heap} (fl : HandSPX.FlyingZ G (X.env :: X.outer) ea (Zc cls dd) k) : ea ∉ frs (X.env :: X.outer) := fun hm => by
  obtain ⟨ob, us, ho, _, hu⟩ := fl.there
  obtain ⟨_, ob2, ho2, no⟩ := fl.2.2.1.mem hm
  cases ho.symm.trans ho2
  exact no us hu
theorem not_locals (hf : X.env.frame = some X.env.locals) (nf : ea ∉ frs (X.env :: X.outer)) : ea ≠ X.env.locals := fun z =>
  nf (List.mem_filterMap.mpr ⟨X.env, List.mem_cons_self, by rw [hf, z]⟩)
theorem not_outer (nf : ea ∉ frs (X.env :: X.outer)) : ea ∉ X.fs := fun hm => by
  obtain ⟨v, hv, hq⟩ := List.mem_filterMap.mp hm
  exact nf (List.mem_filterMap.mpr ⟨v, List.mem_cons_of_mem _ hv, hq⟩)
theorem air_on {Wout : WX} {D : Ends} (hs : X.stack = X.env :: X.outer) (hf : X.env.frame = some X.env.locals) (tk : Takes X Wout) (a : Air X pins st M cls dd ea G g now) {k : Heap} (fl : HandSPX.FlyingZ G (X.env :: X.outer) ea (Zc cls dd) k) (u : now.heap.UpToSlots k) (w : Wout cls dd st M) :
    wpAny (model X.prog X.w) X.A (handleBy (.ref ea) X.env []) (SP X pins D) X.xe { now with heap := k } := by
  have up : wpAny (model X.prog X.w) X.A (setFlight (.ref ea) X.env.frame) (fun _ z => wpAny (model X.prog X.w) X.A (throw (.ref ea) : Sem Flow) (SP X pins D) X.xe z) X.xe { now with heap := k } := by
    rw [hf]
    exact HandSPX.setFlight_upZ fl fun m hm um => wpAny_throw (tk _ _ ⟨ea, G, g, pins, st, M, cls, dd, rfl, a.inv, a.keeps, (a.slots.trans u).trans um, .inr (.inr (by rw [hs]; exact hm)), a.new, a.same, a.bare, w⟩)
  refine wpAny_handleBy_nil ?_
  obtain ⟨_, _, _, ob, us, tb, _, _, ho, _, hu, h1, _⟩ := id fl
  unfold PySem.passOn
  refine wpAny_bind (wpAny_field ho hu h1 ?_)
  rw [if_neg (by simp : ¬ ((Value.ref tb == Value.none) = true))]
  first
    | exact wpAny_bind (wpAny_pure (wpAny_bind up))
    | exact wpAny_bind up
theorem air_suite {E1 E2 : Value → Shared → Prop} {i : Nat} {n : Str} {pos' : Pos} {b₀ : Stmt} {suite : List Stmt} {ts : Addr → Value → Option Addr → TS} {D : Ends} (hf : X.env.frame = some X.env.locals) (hN : X.N.Nodup) (hi : X.N[i]? = some n) (hl : X.env.kindOf n = some .local) (a : Air X pins st M cls dd ea G g now) (nf : ea ∉ frs (X.env :: X.outer))
    (hsu : ∀ (a : Addr) (oe : Obj) (cls : Value) (d : Option Addr) (pn : List (Addr × Obj)), Zc cls d oe → (∃ vs, oe.data = .fields vs) → PSs (X.suite a ((a, oe) :: pn)) (b₀ :: suite) (ts a cls d))
    (w : ts ea cls dd (endsOf i D) (st.set i (some (.ref ea))) M) {k : Heap} (fl : HandSPX.FlyingZ G (X.env :: X.outer) ea (Zc cls dd) k) (u : now.heap.UpToSlots k) {ob : Obj} {us : Array Value} (ho : k.get? ea = some ob) (hz : Zc cls dd ob) (hu : ob.data = .fields us) :
    wpAny (model X.prog X.w) (X.A.mark (some (.ref ea))) (storeName X.env n (.ref ea)) (fun _ z => wpAny (model X.prog X.w) (X.A.mark (some (.ref ea))) (execs (b₀ :: suite) X.env) (fun fw z2 => wpAny (model X.prog X.w) X.A (do bindName X.env n .none; unbindBehindTheSuite X.env n pos') (fun _ z3 => SP X pins D fw z3) X.xe z2) E2 z) E1 { now with heap := k } := by
  refine store_ok (X := X.suite ea ((ea, ob) :: (X.pn ++ pins))) (v := .ref ea) ((a.land fl u).suite ho hu a.new (not_locals hf nf) (not_outer nf)) hN hi (.inl hl) rfl (fun z S => ?_) (.inr hl)
  refine wpAny_mono ((hsu ea ob cls dd (X.pn ++ pins) hz ⟨_, hu⟩).run [] z _ M _ S w) (fun fw z2 hp => ?_) fun _ _ bad => bad.elim
  have away : ∀ {τ : L2.St} {L : Hp} {R : Shared → Prop}, Inv (X.suite ea ((ea, ob) :: (X.pn ++ pins))) [] τ L z2 → (∀ y, Inv X pins (τ.set i none) L y → R y) → wpAny (model X.prog X.w) X.A (do bindName X.env n .none; unbindBehindTheSuite X.env n pos') (fun _ y => R y) X.xe z2 :=
    fun S2 hR => gone_ok (S2.unsuite a.inv.ok) hN hi hl hR
  cases fw with
  | ret _ =>
    obtain ⟨v, τ, L, S2, rv, hq⟩ := hp
    exact away S2 fun y J => ⟨v, _, L, J, rv, hq⟩
  | _ =>
    obtain ⟨τ, L, S2, hq⟩ := hp
    exact away S2 fun y J => ⟨_, L, J, hq⟩
theorem air_clauses {Wout : WX} {D : Ends} (hs : X.stack = X.env :: X.outer) (hf : X.env.frame = some X.env.locals) (hN : X.N.Nodup) (tk : Takes X Wout) (a : Air X pins st M cls dd ea G g now) (nf : ea ∉ frs (X.env :: X.outer)) {hds : List ExceptHandler} {l : List Cl} (hh : HdsA X hds l) :
    ∀ k : Heap, HandSPX.FlyingZ G (X.env :: X.outer) ea (Zc cls dd) k → now.heap.UpToSlots k → wM X.K Wout D l cls dd st M → wpAny (model X.prog X.w) X.A (handleBy (.ref ea) X.env hds) (SP X pins D) X.xe { now with heap := k } := by
  induction hh with
  | nil => exact fun k fl u w => air_on hs hf tk a fl u w
  | cons ht hi hl hsu _ ih =>
    rintro k fl u ⟨b, hb, yes, no⟩
    obtain ⟨ob, us, ho, hz, hu⟩ := fl.there
    have ty : PySem.W.Looks (model X.prog X.w) k (typeOf (.ref ea)) cls := fun _ _ _ _ kk hq => wpAny_typeOf_ref (kk _ _ ho) (by rw [hz.1]; exact hq)
    refine wpAny_handleBy_cons (codeAny_handlers_test (ht ea _ { now with heap := k } st M cls b _ _ ((a.land fl u).suite ho hu a.new (not_locals hf nf) (not_outer nf)) ty hb fun m kp => ?_)) (fun z => by cases z)
    have fm := flyZ_keeps fl kp
    have um := u.trans (Heap.UpToSlots.of_keeps kp)
    cases b with
    | false => exact ih m fm um (no rfl)
    | true =>
      refine codeAny_handlers_suite_as (HandSPX.lands_againZ fm fun m2 f2 u2 => ?_)
      obtain ⟨ob2, us2, ho2, hz2, hu2⟩ := f2.there
      exact air_suite hf hN hi hl a nf hsu (yes rfl ea a.new) f2 (um.trans u2) ho2 hz2 hu2
end
section
variable {X : Cx} {body : List Stmt} {c0 : ExceptHandler} {cs : List ExceptHandler} {l : List Cl} {pos : Pos} {tb : WX → TS} {Wout : WX}
theorem ps_tryM (hs : X.stack = X.env :: X.outer) (hf : X.env.frame = some X.env.locals) (hN : X.N.Nodup) (tk : Takes X Wout)
    (hb : ∀ (W : WX) (pn : List (Addr × Obj)) (xe : Value → Shared → Prop), Takes (X.tr pn xe) W → PassesOwn (model X.prog X.w) X.A X.env xe → PSs (X.tr pn xe) body (tb W))
    (hh : HdsA X (c0 :: cs) l) : PS X (.Try body (c0 :: cs) [] [] pos) (fun D σ H => tb (wM X.K Wout D l) D σ H) := by
  refine ⟨fun pins s σ H D I h => wpAny_Try_except ?_⟩
  refine wpAny_mono ((hb (wM X.K Wout D l) (X.pn ++ pins) _ ?_ PassesOwn.looking).run [] s σ H D (I.toTry _) h) (fun fw z hp => ?_) fun _ _ hx => hx
  · rintro u now ⟨ea, G, g, pins', st, M, cls, dd, rfl, J, nb, up, sky, na, os, ag, w⟩
    have a : Air X pins st M cls dd ea G g now := ⟨J.ofTry I.ok, nb, up, na, os, ag⟩
    rw [show (X.tr (X.pn ++ pins) _).stack = X.env :: X.outer from hs] at sky
    exact Sky.land Zc.steady (by rw [I.ok.frames, hs]) hf sky fun k fl uk => air_clauses hs hf hN tk a (not_frame fl) hh k fl uk w
  · cases fw with
    | ret _ =>
      obtain ⟨v, τ, L, J, rv, hq⟩ := hp
      exact ⟨v, τ, L, J.ofTry I.ok, rv, hq⟩
    | _ =>
      obtain ⟨τ, L, J, hq⟩ := hp
      first
        | exact wpAny_execs_nil ⟨τ, L, J.ofTry I.ok, hq⟩
        | exact ⟨τ, L, J.ofTry I.ok, hq⟩
end
def tXfA (K : PySem.W.Frag) (a : Addr) (cls : Value) (d : Option Addr) (f : Str) (te : TE) : TE := fun σ H Q => te σ H fun x H1 => x = .ref a ∧ ∃ (C dd : Addr) (fs : List (Str × V)) (v : V), cls = .ref C ∧ XfC K C ∧ PySem.W.findIn K (.ref C) f = some none ∧ d = some dd ∧ H1 dd = some (.xd fs) ∧ fs.lookup f = some v ∧ Q v H1
theorem pe_xfA {X : Cx} {ea : Addr} {ob : Obj} {cls : Value} {d : Option Addr} {pn : List (Addr × Obj)} {e : Expr} {te : TE} {pos : Pos} {n : Str} (hz : Zc cls d ob) (hf : ∃ us, ob.data = .fields us) (he : PE (X.suite ea ((ea, ob) :: pn)) e te) (hb : attributeBase e n X.env (eval e X.env) = eval e X.env := by rfl) :
    PE (X.suite ea ((ea, ob) :: pn)) (.Attribute e n pos) (tXfA X.K ea cls d n te) := ⟨fun pins s σ H Q I h => attr_of hb (thn (he.run pins s σ H _ I h) fun got z ⟨y, L, J, ry, ey, C, dd, fs, v, ec, T, no, ed, hd, hl, q⟩ => by
    cases ey
    cases ec
    cases ed
    cases (show got = Value.ref ea from ry)
    obtain ⟨us, hu⟩ := hf
    have there := (J.pin (ea, ob) (List.mem_append_left _ List.mem_cons_self)).1
    obtain ⟨m, hn, rel⟩ := (show ObjOk X.prog X.w L z.heap dd (.xd fs) from J.hok dd _ hd)
    obtain ⟨od, ho, hk⟩ := lookIn_ns hn
    have rn := rel n
    rw [hl] at rn
    obtain ⟨r, hr, rr⟩ := RelO.some_of rn
    refine HandSPX.exc_get J.kIn (od := some od) ⟨there, hz.1, ?_, ?_⟩ T.ga T.gg T.exC (PySem.W.findObj_own T.hdC no rfl (by rw [hk, hr])) (handed_of rr) ⟨v, L, J.tok _, rr, q⟩
    · unfold PySem.W.notCls
      rw [hu] <;> rfl
    · rw [hz.2]
      exact ho)⟩
def oexB (K : PySem.W.Frag) (C : Addr) : Bool := match K.lookup C with
  | some ⟨.type "type", _, .cls cd, sl⟩ => (match cd.mro, sl.toList with
    | .ref C' :: bm, [_, _, _, _, some (.builtin n), _] => C' == C && n == "ValueError.__new__" && !cd.hasDel && cd.hasDict && HandSPX.refsVE bm
    | _, _ => false)
  | _ => false
theorem oex_cls {K : PySem.W.Frag} {C : Addr} (q : oexB K C = true) : ∃ nm q N bs bm sn sub ab col dd k0 k1 k2 k3 k5, K.lookup C = some (excClassObj nm q C N bs bm true sn sub ab col dd k0 k1 k2 k3 k5 "ValueError.__new__") ∧ PySem.HandSPX.refsVE bm = true := by
  unfold oexB at q
  split at q
  · rename_i dd cd sl ho
    split at q
    · rename_i C' bm k0 k1 k2 k3 n k5 hm hs
      simp only [Bool.and_eq_true, beq_iff_eq, Bool.not_eq_true'] at q
      obtain ⟨⟨⟨⟨rfl, rfl⟩, hdel⟩, hdi⟩, ht⟩ := q
      obtain ⟨nm, bs, mro, ns, qn, hd, sn, sub, ab, col, del⟩ := cd
      dsimp only at hm hdel hdi
      subst hm hdel hdi
      have hsl : sl = #[k0, k1, k2, k3, some (.builtin "ValueError.__new__"), k5] := by
        obtain ⟨l⟩ := sl
        simp only at hs
        rw [hs]
      subst hsl
      exact ⟨nm, qn, ns, bs, bm, sn, sub, ab, col, dd, k0, k1, k2, k3, k5, ho, ht⟩
    · cases q
  · cases q
def errB (K : PySem.W.Frag) (C fI : Addr) (f : Str) : Bool := oexB K C && decide (PySem.W.findIn K (.ref C) "__setattr__" = some (some (.builtin "object.__setattr__"))) && decide (PySem.W.subIn K (.ref C) (.type "BaseException") = some true) && decide (PySem.W.typeIn K (.ref C) = some (.type "type")) && PySem.W.keepIn K (.ref C) &&
  xfB K C && decide (PySem.W.findIn K (.ref C) "word" = some none) && decide (PySem.W.findIn K (.ref C) f = some none) && decide (PySem.W.findIn K (.ref C) "__init__" = some (some (.ref fI))) && decide (PySem.W.typeIn K (.ref fI) = some (.type "function"))
structure ErrC (K : PySem.W.Frag) (C fI : Addr) (f : Str) : Prop where
  oe : OexC K C
  xf : XfC K C
  nw : PySem.W.findIn K (.ref C) "word" = some none
  nf : PySem.W.findIn K (.ref C) f = some none
  iC : PySem.W.findIn K (.ref C) "__init__" = some (some (.ref fI))
  tI : PySem.W.typeIn K (.ref fI) = some (.type "function")
theorem errC_of {K : PySem.W.Frag} {C fI : Addr} {f : Str} (h : errB K C fI f = true) : ErrC K C fI f := by
  unfold errB at h
  simp only [Bool.and_eq_true, decide_eq_true_eq] at h
  obtain ⟨⟨⟨⟨⟨⟨⟨⟨⟨h1, h2⟩, h3⟩, h4⟩, h5⟩, h6⟩, h7⟩, h8⟩, h9⟩, h10⟩ := h
  exact ⟨⟨oex_cls h1, h2, h3, h4, h5⟩, xfB_ok h6, h7, h8, h9, h10⟩
end Tm
namespace Tm
open PySem PySem.Spec PyProof.Rows L2 LamX
section
variable {X : Cx} {pins : List (Addr × Obj)} {σ : L2.St} {H : Hp} {s : Shared}
structure LamAt (X : Cx) (H : Hp) (s : Shared) (params : Arguments) (body : Expr) (scope : Scope) (f cf : Addr) (pm ct : Value) : Prop where
  at_ : s.heap.get? f = some (PySem.W.kla_obj "<lambda>" (X.env.qual ++ "<lambda>") params body scope (cloFrom X.env.cells scope.names []) pm cf ct)
  own : H f = none
  nofr : f ∉ frs X.stack
  nobind : bindArgs (PySem.W.kla_fn "<lambda>" (X.env.qual ++ "<lambda>") params body scope (cloFrom X.env.cells scope.names []) pm (.ref cf) ct) ⟨[], []⟩ = pure []
theorem LamAt.runs {params : Arguments} {body : Expr} {scope : Scope} {f cf : Addr} {pm ct : Value} {tb : TE} {Wh : XK} {k : Nat} {B : Around} {fr : List Env} {L : Hp} {z : Shared} {Q : VK} (T : LamAt X H s params body scope f cf pm ct) (I : Inv X pins σ H s) (S : LamS X.env.scope scope) (hr : Room (k + 1) B) (e0 : Env0 X.prog X.w X.K X.mg X.base B fr z L)
    (un : Un (frs X.stack) [] H L s.heap z.heap) (lim : z.heap.NoLimit) (hc : L cf = some (CodeO cf (X.env.qual ++ "<lambda>"))) (hb : Room k (B.deeper (lamEnv X scope z.heap.objs.size f cf)) → PE (lamCx X B fr z L Wh scope f cf) body tb) (q : tb σ L Q) :
    codeAny (model X.prog X.w) B (.call (.ref f) ⟨[], []⟩) (CR (L2.CX X.prog X.w) fr X.prog X.w L z Q Wh) z := by
  have there := un.keep f _ T.at_ T.own T.nofr (fun m => nomatch (show f ∈ ([] : List Addr) from m))
  obtain ⟨⟨oc, us, tk, h1, h2, h3⟩, _, _⟩ := e0.hok cf _ hc
  refine PySem.W.kla_callFunE hr.depth there rfl S.co S.gen rfl ⟨cf, oc, us, tk, rfl, h1, h2, h3⟩ ?_
  rw [T.nobind]
  refine wpAny_pure (wpAny_newFunctionEnv (fun y hy => (S.own y hy).2) (fun _ hy => absurd hy (by simp)) (fun g hns sb => ⟨lim.fresh _ sb, ?_⟩) S.kind)
  have kp : ∀ p ob, z.heap.get? p = some ob → g.get? p = some ob := fun p ob e => sb.extBut p ob (Nat.ne_of_lt (Heap.lt_size e)) (Heap.get?_push_of_some _ e)
  refine PySem.W.kla_codeExpr (wpAny_mono ((hb (hr.deeper _)).run [] _ _ L Q (lam_start2 (tk := z.toks + ([] : List (Str × Value)).length) I S e0 hr.hd un hns kp) q) (fun v y hy => ?_) fun _ _ hy => hy)
  obtain ⟨r, M, J, rv, hq⟩ := hy
  exact ⟨r, M, J.os, J.bare, J.base, J.hok, rv, hq⟩
theorem pe_act2 {CXg : CXT} {Eg : XK} {Ng : List Str} {qg : Str} {sg : Scope} {g f cf : Addr} {cdg pm ct : Value} {params : Arguments} {body : Expr} {scope : Scope} {k i : Nat} {a : Str} {pn : List (Addr × Obj)} {xe : Value → Shared → Prop} {W : WX} {tb : XK → TE} {p1 p2 : Pos} (T : LamAt X H s params body scope f cf pm ct) (I : Inv X pins σ H s) (S : LamS X.env.scope scope)
    (tk : Takes ((cxOf CXg X.prog X.w X.K X.mg X.base Ng qg sg g cdg X.A X.stack s H Eg).tr pn xe) W) (hr : Room (k + 1) (X.A.deeper (envOfC qg sg s.heap.objs.size g cdg)))
    (hbody : ∀ (E : XK) (A : Around) (outer : List Env) (s : Shared) (H : Hp), Room k (A.deeper (lamEnv X scope s.heap.objs.size f cf)) → PE (lamCx X A outer s H E scope f cf) body (tb E))
    (hN : Ng[i]? = some a) (hv : Vis sg a) (hd : (a == ("__debug__" : Str)) = false) (hcd : (a == ("__classdict__" : Str)) = false) :
    PE ((cxOf CXg X.prog X.w X.K X.mg X.base Ng qg sg g cdg X.A X.stack s H Eg).tr pn xe) (.Call (.Name a p1) [] [] p2)
      (fun τ L Q => τ[i]? = some (some (.ref f)) ∧ L cf = some (CodeO cf (X.env.qual ++ "<lambda>")) ∧ tb (fun cls d M => W cls d τ M) σ L Q) := by
  refine ⟨fun pz z τ L Q J ⟨hs, hc, ht⟩ => ?_⟩
  refine wpAny_Call_Name_kw (thn ((pe_var (pos := p1) (i := i) hN hv hd hcd).run pz z τ L (fun v M => v = .ref f ∧ M = L) J ⟨.ref f, hs, rfl, rfl⟩) ?_)
  rintro u y ⟨v, M, J1, ru, rfl, rfl⟩
  cases (show u = Value.ref f from ru)
  have un : Un (frs X.stack) [] H M s.heap y.heap := J1.base
  refine PySem.W.callWith_F0 ⟨_, _, _, _, un.keep f _ T.at_ T.own T.nofr (fun m => nomatch (show f ∈ ([] : List Addr) from m))⟩ (wpAny_call (codeAny_mono (T.runs I S hr J1.env0 un J1.nolimit hc (fun h => hbody _ _ _ y M h) ht) fun r y2 hy => ?_))
  match r, hy with
  | .error er, hy => exact passAt tk τ pz M y er y2 J1 hy
  | .ok (.ret _), hy => exact J1.after hy
  | .ok .next, hy => exact False.elim hy
  | .ok .brk, hy => exact False.elim hy
  | .ok .cont, hy => exact False.elim hy
def GivesTo2 (X : Cx) (Ng : List Str) (x : Str) (sg : Scope) (g : Addr) (cdg : Value) (bg : List Stmt) (a : Str) (q : Str) (TT : (XK → Hp → VK → Prop) → Hp → VK → Prop) : Prop :=
  ∀ (f cf : Addr) (s : Shared) (H : Hp) (Q : VK) (tl : XK → Hp → VK → Prop),
    (∀ (W : WX) (pn : List (Addr × Obj)) (xe : Value → Shared → Prop) (p1 p2 : Pos), Takes ((cxOf C8.CX0 X.prog X.w X.K X.mg X.base Ng x sg g cdg X.A X.stack s H C8.E0).tr pn xe) W →
      PE ((cxOf C8.CX0 X.prog X.w X.K X.mg X.base Ng x sg g cdg X.A X.stack s H C8.E0).tr pn xe) (.Call (.Name a p1) [] [] p2) (fun τ L Q => τ[0]? = some (some (.ref f)) ∧ L cf = some (CodeO cf q) ∧ tl (fun cls d M => W cls d τ M) L Q)) →
    H cf = some (CodeO cf q) → TT tl H Q →
    ∃ t, PSs (cxOf C8.CX0 X.prog X.w X.K X.mg X.base Ng x sg g cdg X.A X.stack s H C8.E0).nox bg t ∧ t { nx := fun _ M => Q .non M, rt := Q } (L2.start Ng [.ref f]) H
theorem pe_lamcall2 {T : List (Addr × Str)} {TT : (XK → Hp → VK → Prop) → Hp → VK → Prop} {x a : Str} {g c PT : Addr} {k : Nat} {pg : Arguments} {bg : List Stmt} {sg : Scope} {dV kV doc pm cdv ct oc : Value} {an od : Option Addr} {osl : Array (Option Value)} {Ng : List Str} {params : Arguments} {body : Expr} {scope : Scope} {t : XK → TE} {p lpos pos : Pos} (hg : Gl X x) (hm : X.mg x = some (.ref g)) (hk : PySem.W.keepIn X.K (.ref g) = true)
    (lk : X.K.lookup g = some ⟨oc, od, .func (PySem.W.fnOf x x pg bg sg dV kV doc pm an cdv ct), osl⟩) (hcg : PySem.W.codeIn X.K cdv x = true) (hb : L2.Binds X.K (PySem.W.fnOf x x pg bg sg dV kV doc pm an cdv ct) [a] []) (Sg : FnScope Ng [a] sg) (hNg : Ng[0]? = some a) (hva : Vis sg a) (hG : GivesTo2 X Ng x sg g cdv bg a (X.env.qual ++ "<lambda>") TT)
    (TB : TabB X.base X.mg c PT) (hcode : X.env.code = .ref c) (hmT : (PT, X.env.qual ++ "<lambda>") ∈ T) (hu : ∀ p ∈ T, p.1 = PT → p.2 = X.env.qual ++ "<lambda>") (hr : Room (k + 2) X.A) (S : LamS X.env.scope scope) (hdef : defaultsOf params X.env = ([], []))
    (hbind : ∀ (q : Str) (cl : List (Str × Addr)) (pm cv ctv : Value), bindArgs (PySem.W.kla_fn "<lambda>" q params body scope cl pm cv ctv) ⟨[], []⟩ = pure [])
    (hbody : ∀ (A : Around) (outer : List Env) (s : Shared) (H : Hp) (E : XK) (f cf : Addr), Room k (A.deeper (lamEnv X scope s.heap.objs.size f cf)) → PE (lamCx X A outer s H E scope f cf) body (t E))
    (hdb : (x == ("__debug__" : Str)) = false := by decide) (hd : (a == ("__debug__" : Str)) = false := by decide) (hcd : (a == ("__classdict__" : Str)) = false := by decide) :
    PE X (.Call (.Name x p) [.Lambda params body scope lpos] [] pos) (tLam T TT t) := by
  refine ⟨fun pins s σ H Q I ⟨hT, h⟩ => wpAny_Call_Name_kw (ld_glob I hg hm (PySem.W.callWith_K (h₀ := X.base) I.ok.mod.kin hk ?_ (by rfl) (by rfl)) hdb)⟩
  show wpAny _ _ (spliced ((false, eval (.Lambda params body scope lpos) X.env) :: backTo pos (starEach [] X.env))) _ _ s
  refine Calls.spliced_cons (lam_make2 I TB hcode hmT hu hT hdef (S.has I.ok) fun f cf pf cv M z J eN TM hf nf nfr hco => Calls.spliced_nil ⟨J.kIn, wpAny_call ?_⟩)
  have LA : LamAt X M z params body scope f cf pf cv := ⟨hf, nf, nfr, hbind _ _ _ _ _⟩
  refine codeAny_mono (R := CR C8.CX0 X.stack X.prog X.w M z Q C8.E0) (run_ofS (N := Ng) (ps := [a]) (us := [.ref f]) (vs := [.ref f]) lk hcg Sg hr J.env0 (hb z [.ref f] J.kIn rfl) (.cons rfl .nil) rfl fun room => ?_) fun r y hy => ?_
  · obtain ⟨tt, h1, h2⟩ := hG f cf z M Q (fun E L Q' => t E σ L Q') (fun W pn xe p1 p2 tk => pe_act2 (i := 0) LA J S tk room (fun E A outer s H h => hbody A outer s H E f cf h) hNg hva hd hcd) hco (h M eN TM)
    exact ⟨tt, h1.nox, h2⟩
  · match r, hy with
    | .error _, hy => exact (show False from hy).elim
    | .ok (.ret _), hy => exact J.after hy
    | .ok .next, hy => exact False.elim hy
    | .ok .brk, hy => exact False.elim hy
    | .ok .cont, hy => exact False.elim hy
end
end Tm
namespace Wb
open PySem PySem.Spec PyProof.Rows L2 RZ Sg Tm
def spE (C : Addr) (f w : Str) : Sp := fun vs H Q _ => ∃ a v, vs = [.ref a, v] ∧ H a = some (exo a C none) ∧ ∀ d, H d = none → d ≠ a → Q .non (upd (upd (upd H d (exd d [(f, v)])) a (exo a C (some d))) d (exd d [("word", .str w), (f, v)]))
abbrev xdE (w f : Str) (v : V) : HO := .xd [("word", .str w), (f, v)]
theorem mkE {C : Addr} {f w : Str} {te : TE} {σ : L2.St} {H H1 : Hp} {v : V} {Q : XK} (hv : ∀ Q' : VK, Q' v H1 → te σ H Q') (q : ∀ d H', H1 d = none → H' d = some (xdE w f v) → Same H1 H' → Q (.ref C) (some d) H') : tMkO C (spE C f w) [] (tCons te tNil) σ H Q := by
  refine hv _ ⟨by show 1 ≤ 1000; decide, fun a na => ⟨a, v, rfl, upd_same, fun d nd ne => ⟨rfl, d, _, ?_, upd_same, ?_, ?_⟩⟩⟩
  · rw [upd_ne ne.symm]
    exact upd_same
  · rw [upd_ne ne] at nd
    exact nd
  · rw [upd_ne ne] at nd
    refine q d _ nd upd_same fun c o h => ?_
    have ca : c ≠ a := ne_of_none h na
    have cd : c ≠ d := ne_of_none h nd
    rw [upd_ne cd, del_ne ca, upd_ne cd, upd_ne ca, upd_ne cd, upd_ne ca]
    exact h
theorem passE {X : Cx} {E : XK} {E1 : Value → Shared → Prop} (hs : X.stack = X.env :: X.outer) (hf : X.env.frame = some X.env.locals) (hex : X.ex = [])
    (hx : X.xe = fun e s' => wpAny (model X.prog X.w) X.A (leaving X.env e) (fun _ s'' => L2.CX X.prog X.w X.outer X.H_0 X.s_0 E e s'') E1 s') : Passes (L2.CX X.prog X.w) X E := passes_call (takes_of hs hf hex hx) fun _ _ _ _ h => h
def ErrTo (H : Hp) (E : XK) (C : Addr) (x f : Str) (v : V) : Prop := ∀ d H', H d = none → H' d = some (xdE x f v) → Same H H' → E (.ref C) (some d) H'
structure EDf (P : Program) (w : World) (K : PySem.W.Frag) (mg : Str → Option Value) (base : Heap) (x f : Str) (C fI : Addr) (fd : FuncData) : Prop where
  ok : FnOk P w K mg base CX0 1 fI fd ["self", f] (spE C f x)
  er : ErrC K C fI f
  gl : mg x = some (.ref C)
  bd : Binds K fd ["self", f] []
structure DfX (P : Program) (w : World) (K : PySem.W.Frag) (mg : Str → Option Value) (base : Heap) (k : Nat) (x : Str) (ps : List Str) (sp : Sp) (f : Addr) (fd : FuncData) : Prop where
  ok : FnOk P w K mg base (L2.CX P w) k f fd ps sp
  gl : mg x = some (.ref f)
  kp : PySem.W.keepIn K (.ref f) = true
  bd : Binds K fd ps []
structure MfX (P : Program) (w : World) (K : PySem.W.Frag) (mg : Str → Option Value) (base : Heap) (k : Nat) (C : Addr) (m : Str) (ps : List Str) (sp : Sp) (f : Addr) (fd : FuncData) : Prop where
  ok : FnOk P w K mg base (L2.CX P w) k f fd ps sp
  mt : Meth K C m f
  bd : Binds K fd ps []
structure MfN (P : Program) (w : World) (K : PySem.W.Frag) (mg : Str → Option Value) (base : Heap) (k : Nat) (C : Addr) (m : Str) (ps : List Str) (sp : Sp) (f : Addr) (fd : FuncData) : Prop where
  ok : FnOk P w K mg base CX0 k f fd ps sp
  mt : Meth K C m f
  bd : Binds K fd ps []
section
variable {P : Program} {w : World} {K : PySem.W.Frag} {mg : Str → Option Value} {base : Heap}
abbrev sEBadSize : Stmt := inClass (topS 3) 0
abbrev sEBadArrow : Stmt := inClass (topS 4) 0
abbrev sEBadMark : Stmt := inClass (topS 5) 0
abbrev sEBadPoint : Stmt := inClass (topS 6) 0
abbrev sEBadText : Stmt := inClass (topS 7) 0
theorem scEBadText : FnScope ["self", "at"] ["self", "at"] (defScope sEBadText) := ⟨rfl, rfl, rfl, by decide +kernel, rfl, by decide +kernel, by decide +kernel⟩
theorem ok_eBadText {f C : Addr} {fd : FuncData} (F : Fun K "__init__" "BadText.__init__" sEBadText f fd) (T : ErrC K C f "at") : FnOk P w K mg base CX0 1 f fd ["self", "at"] (spE C "at" "BadText") := by
  refine F.ok scEBadText (fun vs H Q E h => ?_) (fun cdv A outer s H vs Q E hr h => ?_)
  · obtain ⟨a, v, rfl, _⟩ := h
    rfl
  · obtain ⟨a, v, rfl, ha, K1⟩ := h
    refine ⟨_, pss_cons (ps_ost (pv 0) (pv 1)) (pss_one (ps_ost (pv 0) pe_str)), _, rfl, _, rfl, a, C, rfl, T.oe, T.nf, .inl ⟨ha, fun d nd ne => ?_⟩⟩
    exact ⟨_, rfl, a, C, rfl, T.oe, T.nw, .inr ⟨d, _, upd_same, by rw [upd_ne ne]; exact upd_same, by show 1 ≤ 900; decide, K1 d nd ne⟩⟩
abbrev sEBadNumber : Stmt := inClass (topS 8) 0
abbrev sEBadStrike : Stmt := inClass (topS 9) 0
abbrev sETooMany : Stmt := inClass (topS 10) 0
end
end Wb
namespace Wb
open PySem PySem.Spec PyProof.Rows L2 RZ Sg Tm
end Wb
namespace Wb
open PySem PySem.Spec PyProof.Rows L2 RZ Sg Tm
abbrev sAt : Stmt := topS 28
section
variable {P : Program} {w : World} {K : PySem.W.Frag} {mg : Str → Option Value} {base : Heap}
structure Ecs where
  ba : Addr
  bm : Addr
  bt : Addr
  bs : Addr
  sz : Addr
  pt : Addr
  nu : Addr
  tm : Addr
structure AtG (mg : Str → Option Value) (e : Ecs) : Prop where
  ba : mg "BadArrow" = some (.ref e.ba)
  bm : mg "BadMark" = some (.ref e.bm)
  bt : mg "BadText" = some (.ref e.bt)
  bs : mg "BadStrike" = some (.ref e.bs)
  sz : mg "BadSize" = some (.ref e.sz)
  pt : mg "BadPoint" = some (.ref e.pt)
  nu : mg "BadNumber" = some (.ref e.nu)
  tm : mg "TooMany" = some (.ref e.tm)
abbrev hd1 (e : Ecs) : List Value := [.ref e.ba, .ref e.bm, .ref e.bt, .ref e.bs]
abbrev hd2 (e : Ecs) : List Value := [.ref e.sz, .ref e.pt, .ref e.nu]
abbrev hd3 (e : Ecs) : List Value := [.ref e.tm]
def AtC (K : PySem.W.Frag) (e : Ecs) (C : Addr) (f : Str) : Prop := (f = "at" ∧ PySem.W.exmAny K (.ref C) (hd1 e) = some true) ∨ (f = "number" ∧ PySem.W.exmAny K (.ref C) (hd1 e) = some false ∧ PySem.W.exmAny K (.ref C) (hd2 e) = some true) ∨
  (f = "bound" ∧ PySem.W.exmAny K (.ref C) (hd1 e) = some false ∧ PySem.W.exmAny K (.ref C) (hd2 e) = some false ∧ PySem.W.exmAny K (.ref C) (hd3 e) = some true)
def atB (K : PySem.W.Frag) (e : Ecs) (C : Addr) (n : Nat) : Bool := match n with
  | 0 => decide (PySem.W.exmAny K (.ref C) (hd1 e) = some true)
  | 1 => decide (PySem.W.exmAny K (.ref C) (hd1 e) = some false) && decide (PySem.W.exmAny K (.ref C) (hd2 e) = some true)
  | _ => decide (PySem.W.exmAny K (.ref C) (hd1 e) = some false) && decide (PySem.W.exmAny K (.ref C) (hd2 e) = some false) && decide (PySem.W.exmAny K (.ref C) (hd3 e) = some true)
theorem atC0 {e : Ecs} {C : Addr} (h : atB K e C 0 = true) : AtC K e C "at" := .inl ⟨rfl, of_decide_eq_true h⟩
def WishAt (K : PySem.W.Frag) (e : Ecs) (Q : VK) : XK := fun cls d H' => ∃ (C fI dd : Addr) (f x : Str) (v : V), cls = .ref C ∧ AtC K e C f ∧ ErrC K C fI f ∧ d = some dd ∧ H' dd = some (xdE x f v) ∧ f ≠ "word" ∧ ∀ p, H' p = none → Q (.ref p) (upd H' p (.tup [.str x, v]))
def TAt (K : PySem.W.Frag) (e : Ecs) : (XK → Hp → VK → Prop) → Hp → VK → Prop := fun tl H Q => ∀ (E1 : XK) (Q1 : VK), (∀ cls d H', WishAt K e Q cls d H' → E1 cls d H') → (∀ v H', Q .non H' → Q1 v H') → tl E1 H Q1
theorem scAt : FnScope ["_law_ask", "_law_found", "e"] ["_law_ask"] (defScope sAt) := ⟨rfl, rfl, rfl, by decide +kernel, rfl, by decide +kernel, by decide +kernel⟩
theorem look_w {x f : Str} {v : V} : List.lookup ("word" : Str) ([("word", V.str x), (f, v)] : List (Str × V)) = some (V.str x) := by rw [lookup_put, if_pos rfl]
theorem look_f {x f : Str} {v : V} (h : f ≠ "word") : ([("word", V.str x), (f, v)] : List (Str × V)).lookup f = some v := by
  rw [lookup_put, if_neg h, lookup_put, if_pos rfl]
set_option maxHeartbeats 2000000 in
theorem at_gives {X : Cx} {e : Ecs} {g : Addr} {cdg : Value} {q : Str} (G : AtG X.mg e) : GivesTo2 X ["_law_ask", "_law_found", "e"] "_law_at" (defScope sAt) g cdg (defBody sAt) "_law_ask" q (TAt X.K e) := by
  intro f c' s H Q tl act hc h
  refine ⟨_, pss_cons (ps_set (i := 1) scAt.nd rfl (.inl rfl) pe_non)
    (pss_cons (ps_tryM (X := (cxOf C8.CX0 X.prog X.w X.K X.mg X.base ["_law_ask", "_law_found", "e"] "_law_at" (defScope sAt) g cdg X.A X.stack s H C8.E0).nox)
      (tb := fun W D σ H => σ[0]? = some (some (.ref f)) ∧ H c' = some (LamX.CodeO c' q) ∧ tl (fun cls d H' => W cls d σ H') H (fun _ H1 => D.nx σ H1)) (l := [(hd1 e, 2, _), (hd2 e, 2, _), (hd3 e, 2, _)])
      rfl rfl scAt.nd L2.takes0 (fun W pn xe tk _ => ?_)
      (.cons (test_four ⟨rfl, by decide, .inl G.ba⟩ ⟨rfl, by decide, .inl G.bm⟩ ⟨rfl, by decide, .inl G.bt⟩ ⟨rfl, by decide, .inl G.bs⟩) rfl rfl (fun a oe cls d pn hz hf => pss_one (ps_set (i := 1) scAt.nd rfl (.inl rfl) (pe_tup (pa_cons (pe_xfA hz hf (pv 2)) (pa_cons (pe_xfA hz hf (pv 2)) pa_nil)))))
      (.cons (test_three ⟨rfl, by decide, .inl G.sz⟩ ⟨rfl, by decide, .inl G.pt⟩ ⟨rfl, by decide, .inl G.nu⟩) rfl rfl (fun a oe cls d pn hz hf => pss_one (ps_set (i := 1) scAt.nd rfl (.inl rfl) (pe_tup (pa_cons (pe_xfA hz hf (pv 2)) (pa_cons (pe_xfA hz hf (pv 2)) pa_nil)))))
      (.cons (test_one ⟨rfl, by decide, .inl G.tm⟩) rfl rfl (fun a oe cls d pn hz hf => pss_one (ps_set (i := 1) scAt.nd rfl (.inl rfl) (pe_tup (pa_cons (pe_xfA hz hf (pv 2)) (pa_cons (pe_xfA hz hf (pv 2)) pa_nil))))) .nil))))
    (pss_one (ps_ret (pv 1)))), ?_⟩
  · refine ⟨fun pins s' σ H' D I h' => ?_⟩
    obtain ⟨h1, h2, h3⟩ := h'
    exact (pss_one (ps_expr (act W pn xe _ _ tk))).run pins s' σ H' D I ⟨h1, h2, h3⟩
  · refine seq_set ⟨rfl, hc, h _ _ (fun cls d H' wi => ?_) (fun v H' q => ⟨_, rfl, q⟩)⟩
    obtain ⟨C, fI, dd, fl, x, v, rfl, aC, eC, rfl, hd, nw, K1⟩ := wi
    rcases aC with ⟨rfl, h1⟩ | ⟨rfl, h1, h2⟩ | ⟨rfl, h1, h2, h3⟩
    · refine ⟨true, h1, fun _ a na => ?_, (fun z => nomatch z)⟩
      exact ⟨_, rfl, rfl, C, dd, _, _, rfl, eC.xf, eC.nw, rfl, hd, look_w, _, rfl, rfl, C, dd, _, _, rfl, eC.xf, eC.nf, rfl, hd, look_f nw, by show 2 ≤ sizeLine; decide, fun p np => ⟨_, rfl, K1 p np⟩⟩
    · refine ⟨false, h1, (fun z => nomatch z), fun _ => ⟨true, h2, fun _ a na => ?_, (fun z => nomatch z)⟩⟩
      exact ⟨_, rfl, rfl, C, dd, _, _, rfl, eC.xf, eC.nw, rfl, hd, look_w, _, rfl, rfl, C, dd, _, _, rfl, eC.xf, eC.nf, rfl, hd, look_f nw, by show 2 ≤ sizeLine; decide, fun p np => ⟨_, rfl, K1 p np⟩⟩
    · refine ⟨false, h1, (fun z => nomatch z), fun _ => ⟨false, h2, (fun z => nomatch z), fun _ => ⟨true, h3, fun _ a na => ?_, (fun z => nomatch z)⟩⟩⟩
      exact ⟨_, rfl, rfl, C, dd, _, _, rfl, eC.xf, eC.nw, rfl, hd, look_w, _, rfl, rfl, C, dd, _, _, rfl, eC.xf, eC.nf, rfl, hd, look_f nw, by show 2 ≤ sizeLine; decide, fun p np => ⟨_, rfl, K1 p np⟩⟩
end
end Wb
namespace Tm
open PySem PySem.Spec PyProof.Rows L2
def ipM : TIp := fun x y H Q => ∃ i j, x = .int i ∧ y = .int j ∧ (-(2 ^ 64) < j ∧ j < 2 ^ 64) ∧ Q (.int (i * j)) H
end Tm
namespace Wb
open PySem PySem.Spec PyProof.Rows L2 RZ Sg Tm
structure WX (K : PySem.W.Frag) (C : Addr) (H : Hp) (x : Addr) (n : Int) (As Ms : List TK) : Prop where
  w : WebAt C H x n As Ms
  qa : ∀ z ∈ As, SqT K H z.1 (z.2.map kV)
  qm : ∀ z ∈ Ms, SqT K H z.1 (z.2.map kV)
  ka : ∀ z ∈ As, AK n z.2
  km : ∀ z ∈ Ms, MK n z.2
  la : As.length ≤ 19600
  lm : Ms.length ≤ 19600
  n0 : 0 ≤ n
  n1 : n ≤ 81
theorem WX.same {K : PySem.W.Frag} {C : Addr} {H H' : Hp} {x : Addr} {n : Int} {As Ms : List TK} (s : Same H H') (h : WX K C H x n As Ms) : WX K C H' x n As Ms :=
  { h with w := h.w.same s, qa := fun z hz => same_tup s (h.qa z hz), qm := fun z hz => same_tup s (h.qm z hz) }
abbrev iVs (vs : List Int) : List V := vs.map V.int
def IS (K : PySem.W.Frag) (H : Hp) (l : Addr) (vs : List Int) : Prop := SqL K H l (iVs vs) ∨ SqT K H l (iVs vs)
theorem IS.same {K : PySem.W.Frag} {H H' : Hp} {l : Addr} {vs : List Int} (s : Same H H') (h : IS K H l vs) : IS K H' l vs := h.imp (fun z => s.seq z) fun z => same_tup s z
def img (vs : List Int) (i : Int) : Int := vs.getD i.toNat 0
def arrOk (As2 : List TK) (vs : List Int) : List Key → Bool
  | [.inr c, .inl s, .inl t] => inV (.int (img vs t)) (gat As2 [.inr c, .inl (img vs s)])
  | _ => false
section
variable {P : Program} {w : World} {K : PySem.W.Frag} {mg : Str → Option Value} {base : Heap}
def spWays (K : PySem.W.Frag) (C : Addr) : Sp := fun vs H Q _ => ∃ x1 n1 As1 Ms1 x2 n2 As2 Ms2, vs = [.ref x1, .ref x2] ∧ WX K C H x1 n1 As1 Ms1 ∧ WX K C H x2 n2 As2 Ms2 ∧ Q (.int (n2 ^ n1.toNat)) H
end
end Wb
namespace Tm
open PySem PySem.Spec PyProof.Rows L2
structure FunC (K : PySem.W.Frag) (x qual : Str) (st : Stmt) (f : Addr) (fd : FuncData) (c : Addr) : Prop where
  ex : ∃ (oc : Value) (od : Option Addr) (kV doc pm : Value) (an : Option Addr) (ct : Value) (osl : Array (Option Value)),
    fd = PySem.W.fnOf x qual (defArgs st) (defBody st) (defScope st) .none kV doc pm an (.ref c) ct ∧ K.lookup f = some ⟨oc, od, .func fd, osl⟩ ∧ PySem.W.codeIn K (.ref c) qual = true
  kp : PySem.W.keepIn K (.ref f) = true
theorem FunC.ok {P : Program} {w : World} {K : PySem.W.Frag} {mg : Str → Option Value} {base : Heap} {x qual : Str} {st : Stmt} {f c : Addr} {fd : FuncData} {N ps : List Str} {k : Nat} {sp : Sp} (F : FunC K x qual st f fd c) (S : FnScope N ps (defScope st)) (len : ∀ vs H Q E, sp vs H Q E → vs.length = ps.length)
    (hbody : ∀ (A : Around) (outer : List Env) (s : Shared) (H : Hp) (vs : List V) (Q : VK) (E : XK), Room k (A.deeper (envOfC qual (defScope st) s.heap.objs.size f (.ref c))) → sp vs H Q E →
      ∃ t, PSs (cxOf CX0 P w K mg base N qual (defScope st) f (.ref c) A outer s H E).nox (defBody st) t ∧ t { nx := fun _ H' => Q .non H', rt := Q } (start N vs) H) : FnOk P w K mg base CX0 (k + 1) f fd ps sp := by
  obtain ⟨oc, od, kV, doc, pm, an, ct, osl, rfl, lk, hcd⟩ := F.ex
  exact fn_of lk hcd S len fun A outer s H vs Q E hr hsp => by
    obtain ⟨t, h1, h2⟩ := hbody A outer s H vs Q E hr hsp
    exact ⟨t, h1.nox, h2⟩
theorem funC_mk {K : PySem.W.Frag} {x qual : Str} {st : Stmt} {f c : Addr} {oc : Value} {od an : Option Addr} {osl : Array (Option Value)} {kV doc pm ct : Value} (l : K.lookup f = some ⟨oc, od, .func (PySem.W.fnOf x qual (defArgs st) (defBody st) (defScope st) .none kV doc pm an (.ref c) ct), osl⟩)
    (h : PySem.W.codeIn K (.ref c) qual = true) (k : PySem.W.keepIn K (.ref f) = true) : FunC K x qual st f (PySem.W.fnOf x qual (defArgs st) (defBody st) (defScope st) .none kV doc pm an (.ref c) ct) c := ⟨⟨oc, od, kV, doc, pm, an, ct, osl, rfl, l, h⟩, k⟩
theorem extN_tup {K : PySem.W.Frag} {H H' : Hp} {p : Addr} {xs : List V} (e : LamX.ExtN H H') (h : SqT K H p xs) : SqT K H' p xs := by
  rcases h with (h | ⟨o, h⟩) | h
  · exact .inl (.inl (e _ _ h (fun _ z => nomatch z)))
  · exact .inl (.inr ⟨o, e _ _ h (fun _ z => nomatch z)⟩)
  · exact .inr h
theorem tabs_but {T : List (Addr × Str)} {H H' : Hp} {b : Addr} {xs : List V} (hb : H b = some (.lst xs)) (x : ∀ c o, c ≠ b → H c = some o → H' c = some o) (t : LamX.Tabs T H) : LamX.Tabs T H' := fun p hp => by
  obtain ⟨ps, h1, h2, h3⟩ := t p hp
  refine ⟨ps, x _ _ (ne_of h1 hb (fun z => nomatch z)) h1, h2, fun pos cv hc => ?_⟩
  obtain ⟨c, e1, e2⟩ := h3 pos cv hc
  exact ⟨c, e1, x _ _ (ne_of e2 hb (fun z => by unfold LamX.CodeO at z; cases z)) e2⟩
end Tm
namespace Wb
open PySem PySem.Spec PyProof.Rows L2 RZ Sg Tm
theorem bx_extN {H H' : Hp} {b q : Addr} (s : LamX.ExtN H H') (B : Bx H b q) : Bx H' b q := by
  obtain ⟨ns, i, r, k, hb, hq, h⟩ := B
  exact ⟨ns, i, r, k, s _ _ hb (fun _ z => nomatch z), s _ _ hq (fun _ z => nomatch z), h⟩
theorem MW.extN {K : PySem.W.Frag} {H H' : Hp} {p a m : Addr} {n : Int} {As Ms : List TK} (s : LamX.ExtN H H') (h : MW K H p n a m As Ms) : MW K H' p n a m As Ms :=
  { h with tp := s _ _ h.tp (fun _ z => nomatch z), ha := s _ _ h.ha (fun _ z => nomatch z), hm := s _ _ h.hm (fun _ z => nomatch z), qa := fun z hz => extN_tup s (h.qa z hz), qm := fun z hz => extN_tup s (h.qm z hz) }
theorem GX.extN {H H' : Hp} {d : Addr} {f : List Key → List V} (s : LamX.ExtN H H') (g : GX H d f) : GX H' d f := by
  obtain ⟨kvs, e, h1, h2⟩ := g
  refine ⟨kvs, s _ _ e (fun _ z => nomatch z), h1, fun k v hv => ?_⟩
  obtain ⟨q, eq, hq⟩ := h2 k v hv
  exact ⟨q, eq, s _ _ hq (fun _ z => nomatch z)⟩
theorem WebAt.extN {C : Addr} {H H' : Hp} {x : Addr} {n : Int} {As Ms : List TK} (s : LamX.ExtN H H') (w : WebAt C H x n As Ms) : WebAt C H' x n As Ms := by
  obtain ⟨dx, pl, ar, mr, ow, bw, h1, h2, h3, h4, h5, Bs, h6, h7⟩ := w.ex
  exact ⟨dx, pl, ar, mr, ow, bw, s _ _ h1 (fun _ z => nomatch z), s _ _ h2 (fun _ z => nomatch z), s _ _ h3 (fun _ z => nomatch z), s _ _ h4 (fun _ z => nomatch z), h5.extN s, Bs, h6, h7.extN s⟩
theorem pe_at {X : Cx} {e : Ecs} {T : List (Addr × Str)} {g c PT : Addr} {fd : FuncData} {k : Nat} {params : Arguments} {body : Expr} {scope : Scope} {t : XK → TE} {p lpos pos : Pos} (F : Fun X.K "_law_at" "_law_at" sAt g fd) (hm : X.mg "_law_at" = some (.ref g)) (hb : Binds X.K fd ["_law_ask"] []) (G : AtG X.mg e) (hg : Gl X "_law_at") (TB : LamX.TabB X.base X.mg c PT) (hcode : X.env.code = .ref c) (hmT : (PT, X.env.qual ++ "<lambda>") ∈ T)
    (hu : ∀ p ∈ T, p.1 = PT → p.2 = X.env.qual ++ "<lambda>") (hr : Room (k + 2) X.A) (L : LamX.LamS X.env.scope scope) (hdef : defaultsOf params X.env = ([], [])) (hbind : ∀ (q : Str) (cl : List (Str × Addr)) (pm cv ctv : Value), bindArgs (PySem.W.kla_fn "<lambda>" q params body scope cl pm cv ctv) ⟨[], []⟩ = pure [])
    (hbody : ∀ (A : Around) (outer : List Env) (s : Shared) (H : Hp) (E : XK) (f c' : Addr), Room k (A.deeper (LamX.lamEnv X scope s.heap.objs.size f c')) → PE (LamX.lamCx X A outer s H E scope f c') body (t E)) :
    PE X (.Call (.Name "_law_at" p) [.Lambda params body scope lpos] [] pos) (LamX.tLam T (TAt X.K e) t) := by
  obtain ⟨oc, od, kV, doc, pm, an, cdv, ct, osl, rfl, lk, hcd⟩ := F.ex
  exact pe_lamcall2 hg hm F.kp lk hcd hb scAt rfl (.inl rfl) (at_gives G) TB hcode hmT hu hr L hdef hbind hbody
end Wb
namespace Dv
open PySem PySem.Spec PyProof.Rows L2
abbrev Ks := List Key
inductive D where
  | non | bl (b : Bool) | int (i : Int) | str (x : Str) | lst (l : List D) | tup (l : List D) | web (n : Int) (As Ms : List Ks) | dk (kvs : List (Key × D)) | dt (kvs : List (Ks × D)) | box | obj (p : Hp → Addr → Prop)
abbrev Env := List (Option D)
def Sub (H H' : Hp) : Prop := ∀ a o, H a = some o → H' a = some o
theorem Sub.refl (H : Hp) : Sub H H := fun _ _ h => h
theorem Sub.trans {H H1 H2 : Hp} (a : Sub H H1) (b : Sub H1 H2) : Sub H H2 := fun x o h => b x o (a x o h)
theorem Sub.free {H H' : Hp} {a : Addr} (s : Sub H H') (h : H' a = none) : H a = none := by
  cases e : H a with
  | none => rfl
  | some o => rw [s a o e] at h; cases h
theorem sub_new {H : Hp} {p : Addr} {o : HO} (h : H p = none) : Sub H (upd H p o) := fun a u e => by
  rw [upd_ne (ne_of_none e h)]
  exact e
theorem sub_tup {K : PySem.W.Frag} {H H' : Hp} {a : Addr} {xs : List V} (s : Sub H H') (h : SqT K H a xs) : SqT K H' a xs := by
  rcases h with (h | ⟨o, h⟩) | h
  · exact .inl (.inl (s _ _ h))
  · exact .inl (.inr ⟨o, s _ _ h⟩)
  · exact .inr h
structure Base where
  K : PySem.W.Frag
  C : Addr
  T : List (Addr × Str)
  cls : Str → Addr
  W : Hp → Addr → Int → List Ks → List Ks → Prop
  mono : ∀ {H H' x n As Ms}, Sub H H' → W H x n As Ms → W H' x n As Ms
  ins : ∀ {H x n As Ms}, W H x n As Ms → ∃ dx fs, H x = some (.ins C dx fs) ∧ ∀ m : Str, m ∉ (["places", "arrow_rows", "mark_rows", "onward", "backward"] : List Str) → fs.lookup m = none
structure Bo (S : Base) where
  bq : Option (Addr × Addr)
def plainO : HO → Bool
  | .lst _ => true
  | .dK _ => true
  | .dT _ => true
  | _ => false
theorem plainO.nt {o : HO} (h : plainO o = true) : ∀ ps, o ≠ .tbl ps := fun ps z => by subst z; cases h
theorem tabs_upd {T : List (Addr × Str)} {H : Hp} {a : Addr} {u : HO} (t : LamX.Tabs T H) (h : ∀ o, H a = some o → plainO o = true) : LamX.Tabs T (upd H a u) := fun p hp => by
  obtain ⟨ps, h1, h2, h3⟩ := t p hp
  have e : ∀ {c o}, H c = some o → plainO o = false → c ≠ a := fun {c o} e n z => by
    subst z
    rw [h o e] at n; cases n
  refine ⟨ps, by rw [upd_ne (e h1 rfl)]; exact h1, h2, fun pos cv hc => ?_⟩
  obtain ⟨c, e1, e2⟩ := h3 pos cv hc
  exact ⟨c, e1, by rw [upd_ne (e e2 rfl)]; exact e2⟩
theorem tabs_sub {T : List (Addr × Str)} {H H' : Hp} (s : ∀ a o, H a = some o → H' a = some o) (t : LamX.Tabs T H) : LamX.Tabs T H' := fun p hp => (t p hp).ext s
def BxAt (H : Hp) (b q : Addr) : Prop := ∃ (ns : List Int) (i r k : Int), H b = some (.lst [.ref q, .int i, .int r, .int k]) ∧ H q = some (.lst (ns.map V.int)) ∧ 0 ≤ i ∧ 0 ≤ r ∧ 0 ≤ k ∧ k < 2147483563
variable {S : Base} {B : Bo S}
mutual
inductive Rp (S : Base) (B : Bo S) (G : Hp) : V → D → Prop
  | non : Rp S B G .non .non
  | bl (b : Bool) : Rp S B G (.bl b) (.bl b)
  | int (i : Int) : Rp S B G (.int i) (.int i)
  | str (x : Str) : Rp S B G (.str x) (.str x)
  | lst {a : Addr} {xs : List V} {ds : List D} : G a = some (.lst xs) → RpA S B G xs ds → Rp S B G (.ref a) (.lst ds)
  | tup {a : Addr} {xs : List V} {ds : List D} : SqT S.K G a xs → RpA S B G xs ds → Rp S B G (.ref a) (.tup ds)
  | web {a : Addr} {n : Int} {As Ms : List Ks} : S.W G a n As Ms → Rp S B G (.ref a) (.web n As Ms)
  | dk {a : Addr} {kvs : List (Key × V)} {es : List (Key × D)} : G a = some (.dK kvs) → kvs.map (·.1) = es.map (·.1) → RpA S B G (kvs.map (·.2)) (es.map (·.2)) → Rp S B G (.ref a) (.dk es)
  | dt {a : Addr} {kvs : List (Ks × V)} {es : List (Ks × D)} : G a = some (.dT kvs) → kvs.map (·.1) = es.map (·.1) → RpA S B G (kvs.map (·.2)) (es.map (·.2)) → Rp S B G (.ref a) (.dt es)
  | box {b q : Addr} : B.bq = some (b, q) → Rp S B G (.ref b) .box
  | obj {a : Addr} {p : Hp → Addr → Prop} : (∀ {H H' x}, Sub H H' → p H x → p H' x) → p G a → Rp S B G (.ref a) (.obj p)
inductive RpA (S : Base) (B : Bo S) (G : Hp) : List V → List D → Prop
  | nil : RpA S B G [] []
  | cons {v : V} {vs : List V} {d : D} {ds : List D} : Rp S B G v d → RpA S B G vs ds → RpA S B G (v :: vs) (d :: ds)
end
mutual
theorem Rp.mono {G G' : Hp} (s : Sub G G') : ∀ {v : V} {d : D}, Rp S B G v d → Rp S B G' v d
  | _, _, .non => .non
  | _, _, .bl b => .bl b
  | _, _, .int i => .int i
  | _, _, .str x => .str x
  | _, _, .lst h r => .lst (s _ _ h) (RpA.mono s r)
  | _, _, .tup h r => .tup (sub_tup s h) (RpA.mono s r)
  | _, _, .web h => .web (S.mono s h)
  | _, _, .dk h e r => .dk (s _ _ h) e (RpA.mono s r)
  | _, _, .dt h e r => .dt (s _ _ h) e (RpA.mono s r)
  | _, _, .box h => .box h
  | _, _, .obj m h => .obj m (m s h)
theorem RpA.mono {G G' : Hp} (s : Sub G G') : ∀ {vs : List V} {ds : List D}, RpA S B G vs ds → RpA S B G' vs ds
  | _, _, .nil => .nil
  | _, _, .cons h r => .cons (Rp.mono s h) (RpA.mono s r)
end
theorem RpA.length {G : Hp} : ∀ {vs : List V} {ds : List D}, RpA S B G vs ds → vs.length = ds.length
  | _, _, .nil => rfl
  | _, _, .cons _ r => congrArg (· + 1) (RpA.length r)
theorem RpA.get {G : Hp} : ∀ {vs : List V} {ds : List D}, RpA S B G vs ds → ∀ {i : Nat} {d : D}, ds[i]? = some d → ∃ v, vs[i]? = some v ∧ Rp S B G v d
  | _, _, .nil, i, d, h => by simp at h
  | _, _, .cons h r, 0, d, e => by simp at e; subst e; exact ⟨_, rfl, h⟩
  | _, _, .cons h r, i + 1, d, e => by
    obtain ⟨v, h1, h2⟩ := RpA.get r (i := i) (d := d) (by simpa using e)
    exact ⟨v, by simpa using h1, h2⟩
theorem RpA.getV {G : Hp} {vs : List V} {ds : List D} (r : RpA S B G vs ds) {i : Nat} {v : V} (h : vs[i]? = some v) : ∃ d, ds[i]? = some d ∧ Rp S B G v d := by
  have hl := r.length
  have hi := (List.getElem?_eq_some_iff.mp h).1
  obtain ⟨u, h1, h2⟩ := r.get (i := i) (d := ds[i]'(by omega)) (List.getElem?_eq_getElem _)
  rw [h] at h1
  cases h1
  exact ⟨_, List.getElem?_eq_getElem _, h2⟩
theorem RpA.append {G : Hp} : ∀ {vs us : List V} {ds es : List D}, RpA S B G vs ds → RpA S B G us es → RpA S B G (vs ++ us) (ds ++ es)
  | _, _, _, _, .nil, s => s
  | _, _, _, _, .cons h r, s => .cons h (RpA.append r s)
theorem RpA.take {G : Hp} : ∀ {vs : List V} {ds : List D} (n : Nat), RpA S B G vs ds → RpA S B G (vs.take n) (ds.take n)
  | _, _, 0, _ => .nil
  | _, _, _ + 1, .nil => .nil
  | _, _, n + 1, .cons h r => .cons h (RpA.take n r)
theorem RpA.drop {G : Hp} : ∀ {vs : List V} {ds : List D} (n : Nat), RpA S B G vs ds → RpA S B G (vs.drop n) (ds.drop n)
  | _, _, 0, r => r
  | _, _, _ + 1, .nil => .nil
  | _, _, n + 1, .cons _ r => RpA.drop n r
theorem RpA.set {G : Hp} {v : V} {d : D} (h : Rp S B G v d) : ∀ {vs : List V} {ds : List D} (n : Nat), RpA S B G vs ds → RpA S B G (vs.set n v) (ds.set n d)
  | _, _, _, .nil => .nil
  | _, _, 0, .cons _ r => .cons h r
  | _, _, n + 1, .cons q r => .cons q (RpA.set h n r)
structure Ok {S : Base} (B : Bo S) (H G : Hp) : Prop where
  sub : Sub G H
  nm : ∀ b q, B.bq = some (b, q) → G b = none
  bx : ∀ b q, B.bq = some (b, q) → BxAt H b q
  tb : LamX.Tabs S.T H
  nt : ∀ a ps, G a ≠ some (.tbl ps)
def FrA (H : Hp) (a : Addr) : Prop := ∀ o, H a = some o → ∃ ps, o = .tbl ps
theorem FrA.of {H : Hp} {a : Addr} (h : H a = none) : FrA H a := fun o e => by rw [h] at e; cases e
theorem FrA.ne {H : Hp} {a b : Addr} {o : HO} (h : FrA H a) (hb : H b = some o) (n : ∀ ps, o ≠ .tbl ps) : b ≠ a := fun z => by
  subst z
  obtain ⟨ps, e⟩ := h o hb
  exact n ps e
theorem FrA.sub {H H' : Hp} {a : Addr} (s : Sub H H') (h : FrA H' a) : FrA H a := fun o e => h o (s a o e)
theorem FrA.upd {H : Hp} {a p : Addr} {o : HO} (hp : FrA H p) (h : FrA (L2.upd H p o) a) : FrA H a := by
  by_cases z : a = p
  · subst z; exact hp
  · exact fun u e => h u (by rw [upd_ne z]; exact e)
structure Ch {S : Base} (B : Bo S) (H G H' G' : Hp) : Prop where
  ch : ∀ a o, (∀ q, B.bq ≠ some (a, q)) → (∀ ps, o ≠ .tbl ps) → H a = some o → H' a = some o
  fr : ∀ a, FrA H' a → FrA H a
  ext : Sub G G'
  new : ∀ a o, G' a = some o → G a = some o ∨ FrA H a
theorem Ch.refl {H G : Hp} : Ch B H G H G := ⟨fun _ _ _ _ h => h, fun _ h => h, Sub.refl G, fun _ _ h => .inl h⟩
theorem Ch.trans {H G H1 G1 H2 G2 : Hp} (a : Ch B H G H1 G1) (b : Ch B H1 G1 H2 G2) : Ch B H G H2 G2 :=
  ⟨fun x o n z h => b.ch x o n z (a.ch x o n z h), fun x h => a.fr x (b.fr x h), a.ext.trans b.ext, fun x o h => (b.new x o h).elim (a.new x o) fun z => .inr (a.fr x z)⟩
theorem BxAt.sub {H H' : Hp} {b q : Addr} (s : Sub H H') (h : BxAt H b q) : BxAt H' b q := by
  obtain ⟨ns, i, r, k, h1, h2, h3, h4⟩ := h
  exact ⟨ns, i, r, k, s _ _ h1, s _ _ h2, h3, h4⟩
theorem BxAt.some {H : Hp} {b q : Addr} (h : BxAt H b q) : ∃ o, H b = some o := by
  obtain ⟨ns, i, r, k, h1, _⟩ := h
  exact ⟨_, h1⟩
theorem Ok.ne {H G : Hp} (k : Ok B H G) {p b q : Addr} (e : B.bq = some (b, q)) (h : FrA H p) : b ≠ p := by
  obtain ⟨ns, i, r, kk, ho, _⟩ := k.bx b q e
  exact h.ne ho (fun _ z => nomatch z)
theorem Ok.put {H G : Hp} (k : Ok B H G) {p : Addr} (h : H p = none) (o : HO) (nt : ∀ ps, o ≠ .tbl ps) : Ok B (upd H p o) (upd G p o) ∧ Ch B H G (upd H p o) (upd G p o) := by
  refine ⟨⟨fun a u e => ?_, fun b q e => ?_, fun b q e => (k.bx b q e).sub (sub_new h), tabs_sub (sub_new h) k.tb, fun a ps e => ?_⟩, ⟨fun a u _ _ e => sub_new h a u e, fun a e => FrA.upd (FrA.of h) e, sub_new (k.sub.free h), fun a u e => ?_⟩⟩
  · by_cases z : a = p
    · subst z; rw [upd_same] at e ⊢; exact e
    · rw [upd_ne z] at e ⊢; exact k.sub a u e
  · rw [upd_ne (k.ne e (FrA.of h))]
    exact k.nm b q e
  · by_cases z : a = p
    · subst z; rw [upd_same] at e; exact nt ps (Option.some.inj e)
    · rw [upd_ne z] at e; exact k.nt a ps e
  · by_cases z : a = p
    · subst z; exact .inr (FrA.of h)
    · rw [upd_ne z] at e; exact .inl e
theorem Ok.lay {H G : Hp} (k : Ok B H G) {p : Addr} (h : H p = none) (o : HO) : Ok B (upd H p o) G ∧ Ch B H G (upd H p o) G :=
  ⟨⟨k.sub.trans (sub_new h), k.nm, fun b q e => (k.bx b q e).sub (sub_new h), tabs_sub (sub_new h) k.tb, k.nt⟩, ⟨fun a u _ _ e => sub_new h a u e, fun a e => FrA.upd (FrA.of h) e, Sub.refl G, fun _ _ e => .inl e⟩⟩
structure Er (S : Base) (B : Bo S) (G : Hp) (σ : L2.St) (ρ : Env) : Prop where
  len : ρ.length = σ.length
  get : ∀ (i : Nat) (d : D), ρ[i]? = some (some d) → ∃ v, σ[i]? = some (some v) ∧ Rp S B G v d
theorem Er.mono {G G' : Hp} {σ : L2.St} {ρ : Env} (s : Sub G G') (h : Er S B G σ ρ) : Er S B G' σ ρ := ⟨h.len, fun i d e => by
  obtain ⟨v, h1, h2⟩ := h.get i d e
  exact ⟨v, h1, h2.mono s⟩⟩
structure M (α : Type) where
  run : (α → Prop) → Prop
  mono : ∀ {P Q : α → Prop}, (∀ a, P a → Q a) → run P → run Q
namespace M
variable {α β : Type}
def ret (a : α) : M α := ⟨fun Q => Q a, fun h p => h a p⟩
def fail : M α := ⟨fun _ => False, fun _ p => p⟩
def bnd (m : M α) (f : α → M β) : M β := ⟨fun Q => m.run fun a => (f a).run Q, fun h p => m.mono (fun a q => (f a).mono h q) p⟩
def req (p : Prop) : M Unit := ⟨fun Q => p ∧ Q (), fun h q => ⟨q.1, h _ q.2⟩⟩
def all (p : α → Prop) : M α := ⟨fun Q => ∀ a, p a → Q a, fun h q a pa => h a (q a pa)⟩
def opt : Option α → M α
  | some a => ret a
  | none => fail
def mapL (f : α → M β) : List α → M (List β)
  | [] => ret []
  | a :: l => bnd (f a) fun b => bnd (mapL f l) fun bs => ret (b :: bs)
def sel (f : α → M (Option β)) : List α → M (List β)
  | [] => ret []
  | a :: l => bnd (f a) fun b => bnd (sel f l) fun bs => ret (match b with | some x => x :: bs | none => bs)
end M
def Rs1 (S : Base) (B : Bo S) (H G : Hp) (Q : VK) (d : D) : Prop := ∀ v H' G', Ok B H' G' → Ch B H G H' G' → Rp S B G' v d → Q v H'
def EvD (S : Base) (te : TE) (m : Env → M D) : Prop := ∀ B σ H G ρ Q, Ok B H G → Er S B G σ ρ → (m ρ).run (Rs1 S B H G Q) → te σ H Q
def Rs2 (S : Base) (B : Bo S) (H G : Hp) (Q : VK) (ds : List D) : Prop := ∀ p xs H' G', FrA H p → Ok B H' G' → Ch B H G H' G' → H' p = some (.lst xs) → G' p = none → RpA S B G' xs ds → Q (.ref p) H'
def EvL (S : Base) (te : TE) (m : Env → M (List D)) : Prop := ∀ B σ H G ρ Q, Ok B H G → Er S B G σ ρ → (m ρ).run (Rs2 S B H G Q) → te σ H Q
def EvT (S : Base) (tt : TT) (m : Env → M Bool) : Prop := ∀ B σ H G ρ Q, Ok B H G → Er S B G σ ρ → (m ρ).run (fun b => ∀ H' G', Ok B H' G' → Ch B H G H' G' → Q b H') → tt σ H Q
def EvA (S : Base) (ta : TA) (m : Env → M (List D)) : Prop := ∀ B σ H G ρ Q, Ok B H G → Er S B G σ ρ → (m ρ).run (fun ds => ∀ vs H' G', Ok B H' G' → Ch B H G H' G' → RpA S B G' vs ds → Q vs H') → ta σ H Q
def EvO (S : Base) (to : TO) (m : Env → M (Option Int)) : Prop := ∀ B σ H G ρ Q, Ok B H G → Er S B G σ ρ → (m ρ).run (fun o => ∀ H' G', Ok B H' G' → Ch B H G H' G' → Q o H') → to σ H Q
def R2D (S : Base) (r : R2) (f : D → D → M D) : Prop := ∀ B H G x y d e Q, Ok B H G → Rp S B G x d → Rp S B G y e → (f d e).run (Rs1 S B H G Q) → r x y H Q
def R2L (S : Base) (r : R2) (f : D → D → M (List D)) : Prop := ∀ B H G x y d e Q, Ok B H G → Rp S B G x d → Rp S B G y e → (f d e).run (Rs2 S B H G Q) → r x y H Q
def R1D (S : Base) (r : V → Hp → VK → Prop) (f : D → M D) : Prop := ∀ B H G x d Q, Ok B H G → Rp S B G x d → (f d).run (Rs1 S B H G Q) → r x H Q
def RCD (S : Base) (r : List V → Hp → VK → Prop) (f : List D → M D) : Prop := ∀ B H G vs ds Q, Ok B H G → RpA S B G vs ds → (f ds).run (Rs1 S B H G Q) → r vs H Q
def RCL (S : Base) (r : List V → Hp → VK → Prop) (f : List D → M (List D)) : Prop := ∀ B H G vs ds Q, Ok B H G → RpA S B G vs ds → (f ds).run (Rs2 S B H G Q) → r vs H Q
theorem Rs1.now {H G : Hp} {Q : VK} {d : D} {v : V} (k : Ok B H G) (h : Rs1 S B H G Q d) (r : Rp S B G v d) : Q v H := h v H G k Ch.refl r
theorem Rs1.after {H G H1 G1 : Hp} {Q : VK} {d : D} (c : Ch B H G H1 G1) (h : Rs1 S B H G Q d) : Rs1 S B H1 G1 Q d := fun v H' G' k c' r => h v H' G' k (c.trans c') r
theorem Rs2.after {H G H1 G1 : Hp} {Q : VK} {ds : List D} (c : Ch B H G H1 G1) (h : Rs2 S B H G Q ds) : Rs2 S B H1 G1 Q ds := fun p xs H' G' n k c' h1 h2 r => h p xs H' G' (c.fr p n) k (c.trans c') h1 h2 r
theorem Rs1.frz {H G : Hp} {Q : VK} {ds : List D} (k0 : Ok B H G) (h : Rs1 S B H G Q (.lst ds)) : Rs2 S B H G Q ds := fun p xs H' G' n k c h1 h2 r => by
  have hs : Sub G' (upd G' p (.lst xs)) := sub_new h2
  refine h (.ref p) H' (upd G' p (.lst xs)) ⟨fun a u e => ?_, fun b q e => ?_, k.bx, k.tb, fun a ps e => ?_⟩ ⟨c.ch, c.fr, c.ext.trans hs, fun a u e => ?_⟩ (.lst upd_same (r.mono hs))
  · by_cases z : a = p
    · subst z; rw [upd_same] at e; rw [h1]; exact e
    · rw [upd_ne z] at e; exact k.sub a u e
  · rw [upd_ne (k0.ne e n)]; exact k.nm b q e
  · by_cases z : a = p
    · subst z; rw [upd_same] at e; cases e
    · rw [upd_ne z] at e; exact k.nt a ps e
  · by_cases z : a = p
    · subst z; exact .inr n
    · rw [upd_ne z] at e; exact c.new a u e
end Dv
namespace Dv
open PySem PySem.Spec PyProof.Rows L2
variable {S : Base} {B : Bo S}
def dOf : V → Option D
  | .non => some .non
  | .bl b => some (.bl b)
  | .int i => some (.int i)
  | .str x => some (.str x)
  | _ => none
theorem rp_dOf {G : Hp} {v : V} {d : D} (h : dOf v = some d) : Rp S B G v d := by
  cases v <;> simp only [dOf, Option.some.injEq, reduceCtorEq] at h <;> subst h
  · exact .non
  · exact .bl _
  · exact .int _
  · exact .str _
def vOf : D → Option V
  | .non => some .non
  | .bl b => some (.bl b)
  | .int i => some (.int i)
  | .str x => some (.str x)
  | _ => none
theorem rp_vOf {G : Hp} {v u : V} {d : D} (h : vOf d = some v) (r : Rp S B G u d) : u = v := by
  cases r <;> simp only [vOf, Option.some.injEq, reduceCtorEq] at h <;> exact h
theorem M.run_opt {α : Type} {o : Option α} {Q : α → Prop} (h : (M.opt o).run Q) : ∃ a, o = some a ∧ Q a := by
  cases o with
  | none => exact h.elim
  | some a => exact ⟨a, rfl, h⟩
section
variable {ta tb te : TE} {ma mb me : Env → M D} {tt t u : TT} {mt mu : Env → M Bool} {r : R2}
theorem ed_var {i : Nat} : EvD S (tVar i) (fun ρ => M.opt (ρ[i]?.join)) := fun B σ H G ρ Q k er h => by
  obtain ⟨d, e, q⟩ := M.run_opt h
  have e' : ρ[i]? = some (some d) := by
    cases h1 : ρ[i]? with
    | none => rw [h1] at e; cases e
    | some o => rw [h1] at e; rw [show o = some d from e]
  obtain ⟨v, h1, h2⟩ := er.get i d e'
  exact ⟨v, h1, q.now k h2⟩
theorem ed_c {v : V} : EvD S (tC v) (fun _ => M.opt (dOf v)) := fun B σ H G ρ Q k er h => by
  obtain ⟨d, e, q⟩ := M.run_opt h
  exact q.now k (rp_dOf e)
theorem ed_op {f : D → D → M D} (hr : R2D S r f) (ha : EvD S ta ma) (hb : EvD S tb mb) : EvD S (tOp r ta tb) (fun ρ => M.bnd (ma ρ) fun x => M.bnd (mb ρ) fun y => f x y) := fun B σ H G ρ Q k er h =>
  ha B σ H G ρ _ k er ((ma ρ).mono (fun d hd v H1 G1 k1 c1 r1 => hb B σ H1 G1 ρ _ k1 (er.mono c1.ext) ((mb ρ).mono (fun e he v2 H2 G2 k2 c2 r2 => hr B H2 G2 v v2 d e Q k2 (r1.mono c2.ext) r2 ((f d e).mono (fun z hz => hz.after (c1.trans c2)) he)) hd)) h)
theorem el_op {f : D → D → M (List D)} (hr : R2L S r f) (ha : EvD S ta ma) (hb : EvD S tb mb) : EvL S (tOp r ta tb) (fun ρ => M.bnd (ma ρ) fun x => M.bnd (mb ρ) fun y => f x y) := fun B σ H G ρ Q k er h =>
  ha B σ H G ρ _ k er ((ma ρ).mono (fun d hd v H1 G1 k1 c1 r1 => hb B σ H1 G1 ρ _ k1 (er.mono c1.ext) ((mb ρ).mono (fun e he v2 H2 G2 k2 c2 r2 => hr B H2 G2 v v2 d e Q k2 (r1.mono c2.ext) r2 ((f d e).mono (fun z hz => hz.after (c1.trans c2)) he)) hd)) h)
theorem ed_un {r : V → Hp → VK → Prop} {f : D → M D} (hr : R1D S r f) (ha : EvD S ta ma) : EvD S (tUn r ta) (fun ρ => M.bnd (ma ρ) f) := fun B σ H G ρ Q k er h =>
  ha B σ H G ρ _ k er ((ma ρ).mono (fun d hd v H1 G1 k1 c1 r1 => hr B H1 G1 v d Q k1 r1 ((f d).mono (fun z hz => hz.after c1) hd)) h)
theorem EvL.d {m : Env → M (List D)} (h : EvL S te m) : EvD S te (fun ρ => M.bnd (m ρ) fun ds => M.ret (.lst ds)) := fun B σ H G ρ Q k er q =>
  h B σ H G ρ Q k er ((m ρ).mono (fun ds hd => Rs1.frz k hd) q)
theorem ed_if (ht : EvT S t mt) (ha : EvD S ta ma) (hb : EvD S tb mb) : EvD S (tIf t ta tb) (fun ρ => M.bnd (mt ρ) fun b => if b = true then ma ρ else mb ρ) := fun B σ H G ρ Q k er h =>
  ht B σ H G ρ _ k er ((mt ρ).mono (fun b hb' H1 G1 k1 c1 => by
    cases b with
    | true => exact ha B σ H1 G1 ρ Q k1 (er.mono c1.ext) ((ma ρ).mono (fun z hz => hz.after c1) hb')
    | false => exact hb B σ H1 G1 ρ Q k1 (er.mono c1.ext) ((mb ρ).mono (fun z hz => hz.after c1) hb')) h)
def asB : D → M Bool
  | .bl b => M.ret b
  | _ => M.fail
theorem asB_run {d : D} {Q : Bool → Prop} (h : (asB d).run Q) : ∃ b, d = .bl b ∧ Q b := by
  cases d <;> first | exact ⟨_, rfl, h⟩ | exact h.elim
theorem et_test (h : EvD S te me) : EvT S (tTest te) (fun ρ => M.bnd (me ρ) asB) := fun B σ H G ρ Q k er q =>
  h B σ H G ρ _ k er ((me ρ).mono (fun d hd v H1 G1 k1 c1 r1 => by
    obtain ⟨b, rfl, hb⟩ := asB_run hd
    cases r1
    exact ⟨b, rfl, hb H1 G1 k1 c1⟩) q)
theorem et_B (h : EvD S te me) : EvT S (tB te) (fun ρ => M.bnd (me ρ) asB) := fun B σ H G ρ Q k er q =>
  h B σ H G ρ _ k er ((me ρ).mono (fun d hd v H1 G1 k1 c1 r1 => by
    obtain ⟨b, rfl, hb⟩ := asB_run hd
    cases r1
    exact ⟨b, rfl, hb H1 G1 k1 c1⟩) q)
theorem et_and (h1 : EvT S t mt) (h2 : EvT S u mu) : EvT S (tAnd t u) (fun ρ => M.bnd (mt ρ) fun b => if b = true then mu ρ else M.ret false) := fun B σ H G ρ Q k er h =>
  h1 B σ H G ρ _ k er ((mt ρ).mono (fun b hb H1 G1 k1 c1 => by
    cases b with
    | true => exact h2 B σ H1 G1 ρ Q k1 (er.mono c1.ext) ((mu ρ).mono (fun z hz H2 G2 k2 c2 => hz H2 G2 k2 (c1.trans c2)) hb)
    | false => exact hb H1 G1 k1 c1) h)
theorem et_or (h1 : EvT S t mt) (h2 : EvT S u mu) : EvT S (tOr t u) (fun ρ => M.bnd (mt ρ) fun b => if b = true then M.ret true else mu ρ) := fun B σ H G ρ Q k er h =>
  h1 B σ H G ρ _ k er ((mt ρ).mono (fun b hb H1 G1 k1 c1 => by
    cases b with
    | true => exact hb H1 G1 k1 c1
    | false => exact h2 B σ H1 G1 ρ Q k1 (er.mono c1.ext) ((mu ρ).mono (fun z hz H2 G2 k2 c2 => hz H2 G2 k2 (c1.trans c2)) hb)) h)
theorem et_not (h1 : EvT S t mt) : EvT S (tNot t) (fun ρ => M.bnd (mt ρ) fun b => M.ret (!b)) := fun B σ H G ρ Q k er h =>
  h1 B σ H G ρ _ k er ((mt ρ).mono (fun b hb H1 G1 k1 c1 => hb H1 G1 k1 c1) h)
theorem et_yes : EvT S tYes (fun _ => M.ret true) := fun B σ H G ρ Q k er h => h H G k Ch.refl
theorem ed_andV (ha : EvD S ta ma) (hb : EvD S tb mb) : EvD S (tAndV ta tb) (fun ρ => M.bnd (ma ρ) fun x => M.bnd (asB x) fun b => if b = true then mb ρ else M.ret (.bl false)) := fun B σ H G ρ Q k er h =>
  ha B σ H G ρ _ k er ((ma ρ).mono (fun d hd v H1 G1 k1 c1 r1 => by
    obtain ⟨b, rfl, hb'⟩ := asB_run hd
    cases r1
    refine ⟨b, rfl, ?_⟩
    cases b with
    | true => exact hb B σ H1 G1 ρ Q k1 (er.mono c1.ext) ((mb ρ).mono (fun z hz => hz.after c1) hb')
    | false => exact (show Rs1 S B H G Q (.bl false) from hb') _ H1 G1 k1 c1 (.bl false)) h)
theorem ed_orV (ha : EvD S ta ma) (hb : EvD S tb mb) : EvD S (tOrV ta tb) (fun ρ => M.bnd (ma ρ) fun x => M.bnd (asB x) fun b => if b = true then M.ret (.bl true) else mb ρ) := fun B σ H G ρ Q k er h =>
  ha B σ H G ρ _ k er ((ma ρ).mono (fun d hd v H1 G1 k1 c1 r1 => by
    obtain ⟨b, rfl, hb'⟩ := asB_run hd
    cases r1
    refine ⟨b, rfl, ?_⟩
    cases b with
    | false => exact hb B σ H1 G1 ρ Q k1 (er.mono c1.ext) ((mb ρ).mono (fun z hz => hz.after c1) hb')
    | true => exact (show Rs1 S B H G Q (.bl true) from hb') _ H1 G1 k1 c1 (.bl true)) h)
theorem ea_nil : EvA S tNil (fun _ => M.ret []) := fun B σ H G ρ Q k er h => h [] H G k Ch.refl .nil
theorem ea_cons {tr : TA} {mr : Env → M (List D)} (ha : EvD S ta ma) (hr : EvA S tr mr) : EvA S (tCons ta tr) (fun ρ => M.bnd (ma ρ) fun x => M.bnd (mr ρ) fun l => M.ret (x :: l)) := fun B σ H G ρ Q k er h =>
  ha B σ H G ρ _ k er ((ma ρ).mono (fun d hd v H1 G1 k1 c1 r1 => hr B σ H1 G1 ρ _ k1 (er.mono c1.ext) ((mr ρ).mono (fun l hl vs H2 G2 k2 c2 r2 => hl (v :: vs) H2 G2 k2 (c1.trans c2) (.cons (r1.mono c2.ext) r2)) hd)) h)
theorem small {n : Nat} (h : n ≤ 100000) : n ≤ sizeLine := Nat.le_trans h (by decide)
theorem ed_tup {t : TA} {m : Env → M (List D)} (h : EvA S t m) : EvD S (tTup t) (fun ρ => M.bnd (m ρ) fun l => M.bnd (M.req (l.length ≤ 100000)) fun _ => M.ret (.tup l)) := fun B σ H G ρ Q k er q =>
  h B σ H G ρ _ k er ((m ρ).mono (fun l hl vs H1 G1 k1 c1 r1 => ⟨by rw [r1.length]; exact small hl.1, fun p hp => by
    obtain ⟨k2, c2⟩ := k1.put hp (.tup vs) (fun _ z => nomatch z)
    exact (hl.2 : Rs1 S B H G Q (.tup l)) _ _ _ k2 (c1.trans c2) (.tup (SqT.of upd_same) (r1.mono c2.ext))⟩) q)
theorem el_lst {t : TA} {m : Env → M (List D)} (h : EvA S t m) : EvL S (tLst t) (fun ρ => M.bnd (m ρ) fun l => M.bnd (M.req (l.length ≤ 100000)) fun _ => M.ret l) := fun B σ H G ρ Q k er q =>
  h B σ H G ρ _ k er ((m ρ).mono (fun l hl vs H1 G1 k1 c1 r1 => ⟨by rw [r1.length]; exact small hl.1, fun p hp => by
    obtain ⟨k2, c2⟩ := k1.lay hp (.lst vs)
    exact (hl.2 : Rs2 S B H G Q l) p vs _ _ (c1.fr p (FrA.of hp)) k2 (c1.trans c2) upd_same (k1.sub.free hp) r1⟩) q)
def spD (S : Base) (f : List D → M D) : Sp := fun vs H Q _ => ∃ B G ds, Ok B H G ∧ RpA S B G vs ds ∧ (f ds).run (Rs1 S B H G Q)
def spL (S : Base) (f : List D → M (List D)) : Sp := fun vs H Q _ => ∃ B G ds, Ok B H G ∧ RpA S B G vs ds ∧ (f ds).run (Rs2 S B H G Q)
theorem ed_call {f : List D → M D} {E : XK} {t : TA} {m : Env → M (List D)} (h : EvA S t m) : EvD S (tCall (spD S f) [] E t) (fun ρ => M.bnd (m ρ) f) := fun B σ H G ρ Q k er q =>
  h B σ H G ρ _ k er ((m ρ).mono (fun l hl vs H1 G1 k1 c1 r1 => ⟨B, G1, l, k1, by rw [List.append_nil]; exact r1, (f l).mono (fun z hz => hz.after c1) hl⟩) q)
theorem el_call {f : List D → M (List D)} {E : XK} {t : TA} {m : Env → M (List D)} (h : EvA S t m) : EvL S (tCall (spL S f) [] E t) (fun ρ => M.bnd (m ρ) f) := fun B σ H G ρ Q k er q =>
  h B σ H G ρ _ k er ((m ρ).mono (fun l hl vs H1 G1 k1 c1 r1 => ⟨B, G1, l, k1, by rw [List.append_nil]; exact r1, (f l).mono (fun z hz => hz.after c1) hl⟩) q)
def asW : D → M D
  | .web n As Ms => M.ret (.web n As Ms)
  | _ => M.fail
theorem asW_run {d : D} {Q : D → Prop} (h : (asW d).run Q) : ∃ n As Ms, d = .web n As Ms ∧ Q d := by
  cases d <;> first | exact ⟨_, _, _, rfl, h⟩ | exact h.elim
theorem ed_meth {f : List D → M D} {E : XK} {n : Str} {t : TA} {m : Env → M (List D)} (hn : n ∉ (["places", "arrow_rows", "mark_rows", "onward", "backward"] : List Str)) (ho : EvD S ta ma) (h : EvA S t m) : EvD S (tMeth S.C n (spD S f) [] E ta t) (fun ρ => M.bnd (ma ρ) fun w => M.bnd (asW w) fun w => M.bnd (m ρ) fun l => f (w :: l)) := fun B σ H G ρ Q k er q =>
  ho B σ H G ρ _ k er ((ma ρ).mono (fun d hd v H1 G1 k1 c1 r1 => by
    obtain ⟨n', As, Ms, rfl, hd⟩ := asW_run hd
    cases r1 with
    | web hw =>
      obtain ⟨dx, fs, h1, h2⟩ := S.ins hw
      refine ⟨_, dx, fs, rfl, k1.sub _ _ h1, h2 n hn, ?_⟩
      refine h B σ H1 G1 ρ _ k1 (er.mono c1.ext) ((m ρ).mono (fun l hl vs H2 G2 k2 c2 r2 => ⟨B, G2, _ :: l, k2, .cons (.web (S.mono c2.ext hw)) (by rw [List.append_nil]; exact r2), (f _).mono (fun z hz => hz.after (c1.trans c2)) hl⟩) hd)) q)
theorem el_meth {f : List D → M (List D)} {E : XK} {n : Str} {t : TA} {m : Env → M (List D)} (hn : n ∉ (["places", "arrow_rows", "mark_rows", "onward", "backward"] : List Str)) (ho : EvD S ta ma) (h : EvA S t m) : EvL S (tMeth S.C n (spL S f) [] E ta t) (fun ρ => M.bnd (ma ρ) fun w => M.bnd (asW w) fun w => M.bnd (m ρ) fun l => f (w :: l)) := fun B σ H G ρ Q k er q =>
  ho B σ H G ρ _ k er ((ma ρ).mono (fun d hd v H1 G1 k1 c1 r1 => by
    obtain ⟨n', As, Ms, rfl, hd⟩ := asW_run hd
    cases r1 with
    | web hw =>
      obtain ⟨dx, fs, h1, h2⟩ := S.ins hw
      refine ⟨_, dx, fs, rfl, k1.sub _ _ h1, h2 n hn, ?_⟩
      refine h B σ H1 G1 ρ _ k1 (er.mono c1.ext) ((m ρ).mono (fun l hl vs H2 G2 k2 c2 r2 => ⟨B, G2, _ :: l, k2, .cons (.web (S.mono c2.ext hw)) (by rw [List.append_nil]; exact r2), (f _).mono (fun z hz => hz.after (c1.trans c2)) hl⟩) hd)) q)
theorem ed_cb {r : List V → Hp → VK → Prop} {f : List D → M D} {t : TA} {m : Env → M (List D)} (hr : RCD S r f) (h : EvA S t m) : EvD S (tCB r t) (fun ρ => M.bnd (m ρ) f) := fun B σ H G ρ Q k er q =>
  h B σ H G ρ _ k er ((m ρ).mono (fun l hl vs H1 G1 k1 c1 r1 => hr B H1 G1 vs l Q k1 r1 ((f l).mono (fun z hz => hz.after c1) hl)) q)
theorem el_cb {r : List V → Hp → VK → Prop} {f : List D → M (List D)} {t : TA} {m : Env → M (List D)} (hr : RCL S r f) (h : EvA S t m) : EvL S (tCB r t) (fun ρ => M.bnd (m ρ) f) := fun B σ H G ρ Q k er q =>
  h B σ H G ρ _ k er ((m ρ).mono (fun l hl vs H1 G1 k1 c1 r1 => hr B H1 G1 vs l Q k1 r1 ((f l).mono (fun z hz => hz.after c1) hl)) q)
end
end Dv
namespace Dv
open PySem PySem.Spec PyProof.Rows L2
variable {S : Base} {B : Bo S}
theorem ed_chain {r r' : R2} {ta tb tc : TE} {ma mb mc : Env → M D} {f f' : D → D → M D} (hr : R2D S r f) (hr' : R2D S r' f') (ha : EvD S ta ma) (hb : EvD S tb mb) (hc : EvD S tc mc) : EvD S (tChain r r' ta tb tc) (fun ρ => M.bnd (ma ρ) fun x => M.bnd (mb ρ) fun y => M.bnd (f x y) fun z => M.bnd (asB z) fun k => if k = true then M.bnd (mc ρ) fun u => f' y u else M.ret (.bl false)) := fun B σ H G ρ Q k er h =>
  ha B σ H G ρ _ k er ((ma ρ).mono (fun d hd v H1 G1 k1 c1 r1 => hb B σ H1 G1 ρ _ k1 (er.mono c1.ext) ((mb ρ).mono (fun e he v2 H2 G2 k2 c2 r2 => hr B H2 G2 v v2 d e _ k2 (r1.mono c2.ext) r2 ((f d e).mono (fun z hz v3 H3 G3 k3 c3 r3 => by
    obtain ⟨b, rfl, hz⟩ := asB_run hz
    cases r3
    refine ⟨b, rfl, ?_⟩
    have c13 := (c1.trans c2).trans c3
    cases b with
    | true => exact hc B σ H3 G3 ρ _ k3 (er.mono c13.ext) ((mc ρ).mono (fun u hu v4 H4 G4 k4 c4 r4 => hr' B H4 G4 v2 v4 e u Q k4 (r2.mono (c3.trans c4).ext) r4 ((f' e u).mono (fun y hy => hy.after (c13.trans c4)) hu)) hz)
    | false => exact (show Rs1 S B H G Q (.bl false) from hz) _ H3 G3 k3 c13 (.bl false)) he)) hd)) h)
def opI (C : Int → Int → Prop) (g : Int → Int → V) : D → D → M D
  | .int i, .int j => M.bnd (M.req (C i j)) fun _ => M.opt (dOf (g i j))
  | _, _ => M.fail
def opI0 (g : Int → Int → V) : D → D → M D
  | .int i, .int j => M.opt (dOf (g i j))
  | _, _ => M.fail
theorem opI0_run {g : Int → Int → V} {d e : D} {Q : D → Prop} (h : (opI0 g d e).run Q) : ∃ i j z, d = .int i ∧ e = .int j ∧ dOf (g i j) = some z ∧ Q z := by
  cases d <;> cases e <;> first
    | exact h.elim
    | (obtain ⟨z, h1, h2⟩ := M.run_opt h; exact ⟨_, _, z, rfl, rfl, h1, h2⟩)
theorem opI_run {C : Int → Int → Prop} {g : Int → Int → V} {d e : D} {Q : D → Prop} (h : (opI C g d e).run Q) : ∃ i j z, d = .int i ∧ e = .int j ∧ C i j ∧ dOf (g i j) = some z ∧ Q z := by
  cases d <;> cases e <;> first
    | exact h.elim
    | (obtain ⟨z, h1, h2⟩ := M.run_opt h.2; exact ⟨_, _, z, rfl, rfl, h.1, h1, h2⟩)
theorem r_I0 {g : Int → Int → V} : R2D S (rI0 g) (opI0 g) := fun B H G x y d e Q k rx ry h => by
  obtain ⟨i, j, z, rfl, rfl, h1, h2⟩ := opI0_run h
  cases rx
  cases ry
  exact ⟨i, j, rfl, rfl, Rs1.now k h2 (rp_dOf h1)⟩
theorem r_I {C : Int → Int → Prop} {g : Int → Int → V} : R2D S (rI C g) (opI C g) := fun B H G x y d e Q k rx ry h => by
  obtain ⟨i, j, z, rfl, rfl, hc, h1, h2⟩ := opI_run h
  cases rx
  cases ry
  exact ⟨i, j, rfl, rfl, hc, Rs1.now k h2 (rp_dOf h1)⟩
def unI (g : Int → V) : D → M D
  | .int i => M.opt (dOf (g i))
  | _ => M.fail
theorem r_U {g : Int → V} : R1D S (rU g) (unI g) := fun B H G x d Q k rx h => by
  cases rx <;> first
    | exact h.elim
    | (obtain ⟨z, h1, h2⟩ := M.run_opt h; exact ⟨_, rfl, Rs1.now k h2 (rp_dOf h1)⟩)
def eqO : Option V → Option V → M Bool
  | some v, some u => M.bnd (M.req (scal v u = true)) fun _ => M.ret (decide (v = u))
  | _, _ => M.fail
def eqS (d e : D) : M Bool := eqO (vOf d) (vOf e)
theorem eqS_run {d e : D} {Q : Bool → Prop} (h : (eqS d e).run Q) : ∃ v u, vOf d = some v ∧ vOf e = some u ∧ scal v u = true ∧ Q (decide (v = u)) := by
  unfold eqS at h
  cases h1 : vOf d with
  | none => rw [h1] at h; exact h.elim
  | some v =>
    cases h2 : vOf e with
    | none => rw [h1, h2] at h; exact h.elim
    | some u => rw [h1, h2] at h; exact ⟨v, u, rfl, rfl, h.1, h.2⟩
theorem r_eq : R2D S rEq (fun d e => M.bnd (eqS d e) fun b => M.ret (.bl b)) := fun B H G x y d e Q k rx ry h => by
  obtain ⟨v, u, h1, h2, h3, h4⟩ := eqS_run h
  rw [rp_vOf h1 rx, rp_vOf h2 ry]
  exact ⟨h3, Rs1.now k h4 (.bl _)⟩
theorem r_ne : R2D S rNe (fun d e => M.bnd (eqS d e) fun b => M.ret (.bl (!b))) := fun B H G x y d e Q k rx ry h => by
  obtain ⟨v, u, h1, h2, h3, h4⟩ := eqS_run h
  rw [rp_vOf h1 rx, rp_vOf h2 ry]
  exact ⟨h3, Rs1.now k h4 (.bl _)⟩
def isNon : D → Bool
  | .non => true
  | _ => false
theorem rp_non {G : Hp} {v : V} {d : D} (r : Rp S B G v d) : decide (v = .non) = isNon d := by
  cases r <;> rfl
def isN : D → D → M D
  | d, .non => M.ret (.bl (isNon d))
  | _, _ => M.fail
def notN : D → D → M D
  | d, .non => M.ret (.bl (!isNon d))
  | _, _ => M.fail
theorem r_isN : R2D S (fun x y H Q => y = .non ∧ Q (.bl (decide (x = .non))) H) isN := fun B H G x y d e Q k rx ry h => by
  cases ry <;> first
    | (cases d <;> exact h.elim)
    | (refine ⟨rfl, ?_⟩; rw [rp_non rx]; cases d <;> exact Rs1.now k h (.bl _))
theorem r_notN : R2D S (fun x y H Q => y = .non ∧ Q (.bl (!decide (x = .non))) H) notN := fun B H G x y d e Q k rx ry h => by
  cases ry <;> first
    | (cases d <;> exact h.elim)
    | (refine ⟨rfl, ?_⟩; rw [rp_non rx]; cases d <;> exact Rs1.now k h (.bl _))
theorem atI_lt {α : Type} {xs : List α} {i : Int} {x : α} (h : atI xs i = some x) : ∃ j, ixN xs.length i = some j ∧ xs[j]? = some x := by
  unfold atI at h
  cases e : ixN xs.length i with
  | none => rw [e] at h; cases h
  | some j => rw [e] at h; exact ⟨j, rfl, h⟩
theorem RpA.atI {G : Hp} {vs : List V} {ds : List D} (r : RpA S B G vs ds) {i : Int} {d : D} (h : L2.atI ds i = some d) : ∃ v, L2.atI vs i = some v ∧ Rp S B G v d := by
  obtain ⟨j, h1, h2⟩ := atI_lt h
  obtain ⟨v, h3, h4⟩ := r.get h2
  refine ⟨v, ?_, h4⟩
  unfold L2.atI
  rw [r.length, h1]
  exact h3
def ixL : D → D → M D
  | .lst ds, .int i => M.opt (L2.atI ds i)
  | _, _ => M.fail
def ixT : D → D → M D
  | .tup ds, .int i => M.opt (L2.atI ds i)
  | _, _ => M.fail
theorem r_ixL : R2D S (rIxL S.K) ixL := fun B H G x y d e Q k rx ry h => by
  cases d <;> cases e <;> first
    | exact h.elim
    | (obtain ⟨z, h1, h2⟩ := M.run_opt h
       cases rx with
       | lst ha hr =>
         cases ry
         obtain ⟨v, h3, h4⟩ := hr.atI h1
         exact ⟨_, _, _, v, rfl, rfl, SqL.of (k.sub _ _ ha), h3, Rs1.now k h2 h4⟩)
theorem r_ixT : R2D S (rIxT S.K) ixT := fun B H G x y d e Q k rx ry h => by
  cases d <;> cases e <;> first
    | exact h.elim
    | (obtain ⟨z, h1, h2⟩ := M.run_opt h
       cases rx with
       | tup ha hr =>
         cases ry
         obtain ⟨v, h3, h4⟩ := hr.atI h1
         exact ⟨_, _, _, v, rfl, rfl, sub_tup k.sub ha, h3, Rs1.now k h2 h4⟩)
def ixQ : D → D → M D
  | .lst ds, .int i => M.opt (L2.atI ds i)
  | .tup ds, .int i => M.opt (L2.atI ds i)
  | .str z, .int i => M.bnd (M.req (z.length ≤ 100000)) fun _ => M.bnd (M.opt (L2.atI z.cps.toList i)) fun c => M.ret (.str ⟨#[c]⟩)
  | _, _ => M.fail
theorem r_ixQ : R2D S (rIx S.K) ixQ := fun B H G x y d e Q k rx ry h => by
  cases d <;> cases e <;> first
    | exact h.elim
    | (obtain ⟨z, h1, h2⟩ := M.run_opt h
       cases rx with
       | lst ha hr =>
         cases ry
         obtain ⟨v, h3, h4⟩ := hr.atI h1
         exact .inl ⟨_, _, _, v, rfl, rfl, SqL.of (k.sub _ _ ha), h3, Rs1.now k h2 h4⟩)
    | (obtain ⟨z, h1, h2⟩ := M.run_opt h
       cases rx with
       | tup ha hr =>
         cases ry
         obtain ⟨v, h3, h4⟩ := hr.atI h1
         exact .inr (.inl ⟨_, _, _, v, rfl, rfl, sub_tup k.sub ha, h3, Rs1.now k h2 h4⟩))
    | (obtain ⟨c, h1, h2⟩ := M.run_opt h.2
       cases rx
       cases ry
       exact .inr (.inr ⟨_, _, c, rfl, rfl, small h.1, h1, Rs1.now k h2 (.str _)⟩))
def lenD : List D → M D
  | [.lst l] => M.ret (.int (l.length : Int))
  | [.tup l] => M.ret (.int (l.length : Int))
  | _ => M.fail
theorem lenD_run {ds : List D} {Q : D → Prop} (h : (lenD ds).run Q) : ∃ l, (ds = [.lst l] ∨ ds = [.tup l]) ∧ Q (.int (l.length : Int)) := by
  unfold lenD at h
  split at h
  · exact ⟨_, .inl rfl, h⟩
  · exact ⟨_, .inr rfl, h⟩
  · exact h.elim
theorem r_len : RCD S (fun xs H Q => ∃ p ys, xs = [.ref p] ∧ (SqL S.K H p ys ∨ SqT S.K H p ys) ∧ Q (.int ys.length) H) lenD := fun B H G vs ds Q k r h => by
  obtain ⟨l, e, h⟩ := lenD_run h
  rcases e with rfl | rfl
  · cases r with
    | cons r1 r2 =>
      cases r2
      cases r1 with
      | lst ha hr => exact ⟨_, _, rfl, .inl (SqL.of (k.sub _ _ ha)), by rw [hr.length]; exact Rs1.now k h (.int _)⟩
  · cases r with
    | cons r1 r2 =>
      cases r2
      cases r1 with
      | tup ha hr => exact ⟨_, _, rfl, .inr (sub_tup k.sub ha), by rw [hr.length]; exact Rs1.now k h (.int _)⟩
def listD : List D → M (List D)
  | [.lst l] => M.ret l
  | [.tup l] => M.ret l
  | _ => M.fail
theorem listD_run {ds : List D} {Q : List D → Prop} (h : (listD ds).run Q) : ∃ l, (ds = [.lst l] ∨ ds = [.tup l]) ∧ Q l := by
  unfold listD at h
  split at h
  · exact ⟨_, .inl rfl, h⟩
  · exact ⟨_, .inr rfl, h⟩
  · exact h.elim
theorem Rs2.lay {H G : Hp} {Q : VK} {ds : List D} (k : Ok B H G) (h : Rs2 S B H G Q ds) {xs : List V} (r : RpA S B G xs ds) {p : Addr} (hp : H p = none) : Q (.ref p) (upd H p (.lst xs)) := by
  obtain ⟨k2, c2⟩ := k.lay hp (.lst xs)
  exact h p xs _ _ (FrA.of hp) k2 c2 upd_same (k.sub.free hp) r
theorem r_list : RCL S (fun xs H Q => ∃ p ys, xs = [.ref p] ∧ (SqL S.K H p ys ∨ SqT S.K H p ys) ∧ ∀ l, H l = none → Q (.ref l) (upd H l (.lst ys))) listD := fun B H G vs ds Q k r h => by
  obtain ⟨l, e, h⟩ := listD_run h
  rcases e with rfl | rfl
  · cases r with
    | cons r1 r2 =>
      cases r2
      cases r1 with
      | lst ha hr => exact ⟨_, _, rfl, .inl (SqL.of (k.sub _ _ ha)), fun p hp => Rs2.lay k h hr hp⟩
  · cases r with
    | cons r1 r2 =>
      cases r2
      cases r1 with
      | tup ha hr => exact ⟨_, _, rfl, .inr (sub_tup k.sub ha), fun p hp => Rs2.lay k h hr hp⟩
def catD : D → D → M (List D)
  | .lst a, .lst b => M.bnd (M.req (a.length + b.length ≤ 100000)) fun _ => M.ret (a ++ b)
  | _, _ => M.fail
theorem r_cat : R2L S rCat catD := fun B H G x y d e Q k rx ry h => by
  cases d <;> cases e <;> first
    | exact h.elim
    | (cases rx with
       | lst ha hr =>
         cases ry with
         | lst hb hs => exact ⟨_, _, _, _, rfl, rfl, k.sub _ _ ha, k.sub _ _ hb, by rw [hr.length, hs.length]; exact small h.1, fun p hp => Rs2.lay k h.2 (hr.append hs) hp⟩)
def cutD (xs : List D) (lo hi : Option Int) : List D := (xs.drop (HT.sIx xs.length 0 lo)).take (HT.sIx xs.length xs.length hi - HT.sIx xs.length 0 lo)
theorem RpA.cut {G : Hp} {vs : List V} {ds : List D} (r : RpA S B G vs ds) (lo hi : Option Int) : RpA S B G (cutV vs lo hi) (cutD ds lo hi) := by
  unfold cutV cutD
  rw [r.length]
  exact (r.drop _).take _
theorem eo_none : EvO S tNoPart (fun _ => M.ret none) := fun B σ H G ρ Q k er h => h H G k Ch.refl
def asI : D → M Int
  | .int i => M.ret i
  | _ => M.fail
theorem eo_some {te : TE} {me : Env → M D} (h : EvD S te me) : EvO S (tPart te) (fun ρ => M.bnd (me ρ) fun d => M.bnd (asI d) fun i => M.ret (some i)) := fun B σ H G ρ Q k er q =>
  h B σ H G ρ _ k er ((me ρ).mono (fun d hd v H1 G1 k1 c1 r1 => by
    cases r1 <;> first
      | exact hd.elim
      | exact ⟨_, rfl, (show ∀ H' G', Ok B H' G' → Ch B H G H' G' → Q (some _) H' from hd) H1 G1 k1 c1⟩) q)
def asL : D → M (List D)
  | .lst l => M.ret l
  | _ => M.fail
theorem asL_run {d : D} {Q : List D → Prop} (h : (asL d).run Q) : ∃ l, d = .lst l ∧ Q l := by
  cases d <;> first | exact ⟨_, rfl, h⟩ | exact h.elim
theorem el_sl {te : TE} {tl th : TO} {me : Env → M D} {ml mh : Env → M (Option Int)} (h : EvD S te me) (h1 : EvO S tl ml) (h2 : EvO S th mh) : EvL S (tSl (rSlL S.K) te tl th) (fun ρ => M.bnd (me ρ) fun d => M.bnd (ml ρ) fun lo => M.bnd (mh ρ) fun hi => M.bnd (asL d) fun l => M.ret (cutD l lo hi)) := fun B σ H G ρ Q k er q =>
  h B σ H G ρ _ k er ((me ρ).mono (fun d hd v H1 G1 k1 c1 r1 => h1 B σ H1 G1 ρ _ k1 (er.mono c1.ext) ((ml ρ).mono (fun lo hlo H2 G2 k2 c2 => h2 B σ H2 G2 ρ _ k2 (er.mono (c1.trans c2).ext) ((mh ρ).mono (fun hi hhi H3 G3 k3 c3 => by
    obtain ⟨l, rfl, hl⟩ := asL_run hhi
    cases r1.mono (c2.trans c3).ext with
    | lst ha hr => exact ⟨_, _, rfl, SqL.of (k3.sub _ _ ha), fun p hp => Rs2.lay k3 (Rs2.after ((c1.trans c2).trans c3) hl) (hr.cut lo hi) hp⟩) hlo)) hd)) q)
theorem ea_star {te : TE} {t : TA} {me : Env → M D} {m : Env → M (List D)} (h : EvD S te me) (hr : EvA S t m) : EvA S (StX.tStar S.K te t) (fun ρ => M.bnd (me ρ) fun d => M.bnd (listD [d]) fun l => M.bnd (m ρ) fun ys => M.ret (l ++ ys)) := fun B σ H G ρ Q k er q =>
  h B σ H G ρ _ k er ((me ρ).mono (fun d hd v H1 G1 k1 c1 r1 => by
    obtain ⟨l, e, hd⟩ := listD_run hd
    have go : ∀ {a : Addr} {xs : List V}, v = .ref a → RpA S B G1 xs l → (SqT S.K H1 a xs ∨ SqL S.K H1 a xs) → ∃ p xs, v = V.ref p ∧ (SqT S.K H1 p xs ∨ SqL S.K H1 p xs) ∧ t σ H1 fun ys H2 => Q (xs ++ ys) H2 := fun {a xs} e rx hs =>
      ⟨a, xs, e, hs, hr B σ H1 G1 ρ _ k1 (er.mono c1.ext) ((m ρ).mono (fun ys hy vs H2 G2 k2 c2 r2 => hy _ H2 G2 k2 (c1.trans c2) ((rx.mono c2.ext).append r2)) hd)⟩
    rcases e with e | e
    · injection e with e _
      subst e
      cases r1 with
      | lst ha hx => exact go rfl hx (.inr (SqL.of (k1.sub _ _ ha)))
    · injection e with e _
      subst e
      cases r1 with
      | tup ha hx => exact go rfl hx (.inl (sub_tup k1.sub ha))) q)
end Dv
namespace Dv
open PySem PySem.Spec PyProof.Rows L2 Sg
variable {S : Base} {B : Bo S}
def Agree (js : List Nat) (σ σ' : L2.St) : Prop := σ'.length = σ.length ∧ ∀ i, i ∉ js → σ'[i]? = σ[i]?
theorem Agree.trans {js ks : List Nat} {σ σ1 σ2 : L2.St} (a : Agree js σ σ1) (b : Agree ks σ1 σ2) : Agree (js ++ ks) σ σ2 :=
  ⟨b.1.trans a.1, fun i h => by
    rw [List.mem_append, not_or] at h
    rw [b.2 i h.2, a.2 i h.1]⟩
theorem wipe_get (σ : L2.St) : ∀ (vs : List Nat) (i : Nat), (wipe σ vs)[i]? = if i ∈ vs then σ[i]?.map (fun _ => none) else σ[i]?
  | [], i => by simp [wipe]
  | v :: vs, i => by
    unfold wipe
    rw [List.getElem?_set]
    by_cases h : v = i
    · subst h
      rw [if_pos rfl, wipe_length]
      rw [if_pos (List.mem_cons_self ..)]
      by_cases hl : v < σ.length
      · rw [if_pos hl, List.getElem?_eq_getElem hl]; rfl
      · rw [if_neg hl, List.getElem?_eq_none (by omega)]; rfl
    · rw [if_neg h, wipe_get σ vs i]
      have : i ∈ v :: vs ↔ i ∈ vs := by
        rw [List.mem_cons]
        exact ⟨fun z => z.elim (fun e => absurd e.symm h) id, .inr⟩
      simp only [this]
theorem Agree.wipe {js vs : List Nat} {σ σ' : L2.St} (a : Agree js σ σ') (h : ∀ j ∈ js, j ∈ vs) : L2.wipe σ' vs = L2.wipe σ vs := by
  refine List.ext_getElem? fun i => ?_
  rw [wipe_get, wipe_get]
  by_cases hi : i ∈ vs
  · rw [if_pos hi, if_pos hi]
    by_cases hl : i < σ.length
    · rw [List.getElem?_eq_getElem hl, List.getElem?_eq_getElem (by rw [a.1]; exact hl)]; rfl
    · have := a.1
      rw [List.getElem?_eq_none (show σ'.length ≤ i by omega), List.getElem?_eq_none (show σ.length ≤ i by omega)]
  · rw [if_neg hi, if_neg hi, a.2 i fun z => hi (h i z)]
theorem wipe_idem (σ : L2.St) (vs : List Nat) : wipe (wipe σ vs) vs = wipe σ vs := by
  refine List.ext_getElem? fun i => ?_
  rw [wipe_get, wipe_get]
  by_cases hi : i ∈ vs
  · rw [if_pos hi, if_pos hi]
    cases σ[i]? <;> rfl
  · rw [if_neg hi, if_neg hi]
def wipeE (ρ : Env) : List Nat → Env
  | [] => ρ
  | v :: vs => (wipeE ρ vs).set v none
theorem wipeE_len (ρ : Env) : ∀ vs, (wipeE ρ vs).length = ρ.length
  | [] => rfl
  | v :: vs => by unfold wipeE; rw [List.length_set, wipeE_len ρ vs]
theorem wipeE_some {ρ : Env} {i : Nat} {d : D} : ∀ {vs : List Nat}, (wipeE ρ vs)[i]? = some (some d) → ρ[i]? = some (some d) ∧ i ∉ vs
  | [], h => ⟨h, by simp⟩
  | v :: vs, h => by
    unfold wipeE at h
    rw [List.getElem?_set] at h
    by_cases e : v = i
    · rw [if_pos e] at h
      split at h
      · cases h
      · cases h
    · rw [if_neg e] at h
      obtain ⟨h1, h2⟩ := wipeE_some h
      exact ⟨h1, fun z => (List.mem_cons.mp z).elim (fun q => e q.symm) h2⟩
theorem Er.wipe {G : Hp} {σ : L2.St} {ρ : Env} (h : Er S B G σ ρ) (vs : List Nat) : Er S B G (L2.wipe σ vs) (wipeE ρ vs) := ⟨by rw [wipeE_len, wipe_length, h.len], fun i d e => by
  obtain ⟨h1, h2⟩ := wipeE_some e
  obtain ⟨v, h3, h4⟩ := h.get i d h1
  exact ⟨v, by rw [wipe_get, if_neg h2, h3], h4⟩⟩
theorem Er.set {G : Hp} {σ : L2.St} {ρ : Env} (h : Er S B G σ ρ) {v : V} {d : D} (r : Rp S B G v d) (j : Nat) : Er S B G (σ.set j (some v)) (ρ.set j (some d)) := ⟨by rw [List.length_set, List.length_set, h.len], fun i e q => by
  rw [List.getElem?_set] at q ⊢
  by_cases hj : j = i
  · rw [if_pos hj] at q ⊢
    rw [h.len] at q
    split at q
    · rename_i hl
      cases q
      exact ⟨v, by rw [if_pos hl], r⟩
    · cases q
  · rw [if_neg hj] at q ⊢
    exact h.get i e q⟩
def EgD (S : Base) (g : TG) (b : D → Env → M Env) (js : List Nat) : Prop := ∀ B σ H G ρ v d Q, Ok B H G → Er S B G σ ρ → Rp S B G v d → (b d ρ).run (fun ρ' => ∀ σ', Er S B G σ' ρ' → Agree js σ σ' → Q σ' H) → g v σ H Q
def EgsD (S : Base) (g : TGs) (b : List D → Env → M Env) (js : List Nat) : Prop := ∀ B σ H G ρ vs ds Q, Ok B H G → Er S B G σ ρ → RpA S B G vs ds → (b ds ρ).run (fun ρ' => ∀ σ', Er S B G σ' ρ' → Agree js σ σ' → Q σ' H) → g vs σ H Q
theorem eg_name {j : Nat} : EgD S (gName j) (fun d ρ => M.ret (ρ.set j (some d))) [j] := fun B σ H G ρ v d Q k er r h =>
  h _ (er.set r j) ⟨List.length_set, fun i hi => by rw [List.getElem?_set, if_neg fun z => hi (by rw [z]; exact List.mem_singleton.mpr rfl)]⟩
def bNil : List D → Env → M Env
  | [], ρ => M.ret ρ
  | _, _ => M.fail
def bCons (b : D → Env → M Env) (bs : List D → Env → M Env) : List D → Env → M Env
  | d :: ds, ρ => M.bnd (b d ρ) fun ρ' => bs ds ρ'
  | [], _ => M.fail
theorem eg_nil : EgsD S gNil bNil [] := fun B σ H G ρ vs ds Q k er r h => by
  cases r with
  | nil => exact ⟨rfl, h σ er ⟨rfl, fun _ _ => rfl⟩⟩
  | cons _ _ => exact h.elim
theorem eg_cons {g : TG} {gs : TGs} {b : D → Env → M Env} {bs : List D → Env → M Env} {js ks : List Nat} (h1 : EgD S g b js) (h2 : EgsD S gs bs ks) : EgsD S (gCons g gs) (bCons b bs) (js ++ ks) := fun B σ H G ρ vs ds Q k er r h => by
  cases r with
  | nil => exact h.elim
  | cons r1 r2 => exact ⟨_, _, rfl, h1 B σ H G ρ _ _ _ k er r1 ((b _ ρ).mono (fun ρ' hρ σ' er' a => h2 B σ' H G ρ' _ _ _ k er' r2 ((bs _ ρ').mono (fun ρ2 h3 σ2 er2 a2 => h3 σ2 er2 (a.trans a2)) hρ)) h)⟩
def bTup (n : Nat) (bs : List D → Env → M Env) : D → Env → M Env
  | .tup ds, ρ => M.bnd (M.req (ds.length = n)) fun _ => bs ds ρ
  | _, _ => M.fail
theorem eg_tup {n : Nat} {gs : TGs} {bs : List D → Env → M Env} {js : List Nat} (h : EgsD S gs bs js) : EgD S (gTup S.K n gs) (bTup n bs) js := fun B σ H G ρ v d Q k er r q => by
  cases r <;> first
    | exact q.elim
    | (rename_i ha hr
       exact ⟨_, _, rfl, sub_tup k.sub ha, by rw [hr.length]; exact q.1, h B σ H G ρ _ _ Q k er hr q.2⟩)
structure WkD (S : Base) (B : Bo S) (J : It) (G : Hp) (ds : List D) : Prop where
  go : ∀ i L GL, Ok B L GL → Sub G GL → i < ds.length → J.go i L
  st : ∀ L GL, Ok B L GL → Sub G GL → J.stop ds.length L
  yl : ∀ i L GL x L', Ok B L GL → Sub G GL → (h : i < ds.length) → J.yld i L x L' → ∃ GL', Ok B L' GL' ∧ Ch B L GL L' GL' ∧ Rp S B GL' x ds[i]
def EiD (S : Base) (wi : TI) (m : Env → M (List D)) : Prop := ∀ B σ H G ρ R, Ok B H G → Er S B G σ ρ → (m ρ).run (fun ds => ∀ J H' G', Ok B H' G' → Ch B H G H' G' → WkD S B J G' ds → R J H') → wi σ H R
theorem wk_at {J : It} {xs : List V} {G : Hp} {P : Hp → Prop} {ds : List D} (w : Walk J xs.length P (YAt xs)) (hp : ∀ L GL, Ok B L GL → Sub G GL → P L) (r : RpA S B G xs ds) : WkD S B J G ds :=
  ⟨fun i L GL k s h => w.goes i L (by rw [r.length]; exact h) (hp L GL k s), fun L GL k s => by rw [← r.length]; exact w.stops L (hp L GL k s), fun i L GL x L' k s h y => by
    obtain ⟨rfl, hx⟩ := w.yields i L x L' (by rw [r.length]; exact h) (hp L GL k s) y
    obtain ⟨d, h1, h2⟩ := r.getV hx
    rw [List.getElem?_eq_getElem h] at h1
    cases h1
    exact ⟨GL, k, Ch.refl, h2.mono s⟩⟩
theorem ei_list {tl : TE} {m : Env → M D} (h : EvD S tl m) : EiD S (iList S.K tl) (fun ρ => M.bnd (m ρ) asL) := fun B σ H G ρ R k er q =>
  h B σ H G ρ _ k er ((m ρ).mono (fun d hd v H1 G1 k1 c1 r1 => by
    obtain ⟨l, rfl, hl⟩ := asL_run hd
    cases r1 with
    | lst ha hr => exact ⟨_, rfl, ⟨_, SqL.of (k1.sub _ _ ha)⟩, hl _ H1 G1 k1 c1 (wk_at walk_list (fun L GL k s => SqL.of (k.sub _ _ (s _ _ ha))) hr)⟩) q)
def asT : D → M (List D)
  | .tup l => M.ret l
  | _ => M.fail
theorem asT_run {d : D} {Q : List D → Prop} (h : (asT d).run Q) : ∃ l, d = .tup l ∧ Q l := by
  cases d <;> first | exact ⟨_, rfl, h⟩ | exact h.elim
theorem ei_tup {tl : TE} {m : Env → M D} (h : EvD S tl m) : EiD S (iTup S.K tl) (fun ρ => M.bnd (m ρ) asT) := fun B σ H G ρ R k er q =>
  h B σ H G ρ _ k er ((m ρ).mono (fun d hd v H1 G1 k1 c1 r1 => by
    obtain ⟨l, rfl, hl⟩ := asT_run hd
    cases r1 with
    | tup ha hr => exact ⟨_, rfl, ⟨_, sub_tup k1.sub ha⟩, hl _ H1 G1 k1 c1 (wk_at walk_tup (fun L GL k s => sub_tup (s.trans k.sub) ha) hr)⟩) q)
def rngD (lo : Int) (n : Nat) : List D := (List.range n).map fun i : Nat => D.int (lo + (i : Int))
theorem rngD_len (lo : Int) (n : Nat) : (rngD lo n).length = n := by
  unfold rngD
  rw [List.length_map, List.length_range]
theorem wk_range {lo : Int} {n : Nat} {G : Hp} : WkD S B (Itr lo n) G (rngD lo n) :=
  ⟨fun i L GL k s h => by rw [rngD_len] at h; exact walk_range.goes i L h trivial, fun L GL k s => by rw [rngD_len]; exact walk_range.stops L trivial, fun i L GL x L' k s h y => by
    obtain ⟨rfl, rfl⟩ := walk_range.yields i L x L' (by rw [rngD_len] at h; exact h) trivial y
    refine ⟨GL, k, Ch.refl, ?_⟩
    have e : (rngD lo n)[i] = .int (lo + (i : Int)) := by
      simp only [rngD, List.getElem_map, List.getElem_range]
    rw [e]
    exact .int _⟩
def rng1 : List D → M (List D)
  | [.int j] => M.bnd (M.req (-(2 ^ 62) ≤ j ∧ j < 2 ^ 62)) fun _ => M.ret (rngD 0 j.toNat)
  | _ => M.fail
def rng2 : List D → M (List D)
  | [.int i, .int j] => M.bnd (M.req (-(2 ^ 62) ≤ i ∧ i < 2 ^ 62 ∧ -(2 ^ 62) ≤ j ∧ j < 2 ^ 62)) fun _ => M.ret (rngD i (j - i).toNat)
  | _ => M.fail
theorem ei_rng1 {ta : TA} {m : Env → M (List D)} (h : EvA S ta m) : EiD S (iRng1 ta) (fun ρ => M.bnd (m ρ) rng1) := fun B σ H G ρ R k er q =>
  h B σ H G ρ _ k er ((m ρ).mono (fun ds hd vs H1 G1 k1 c1 r1 => by
    unfold rng1 at hd
    split at hd
    · cases r1 with
      | cons a b =>
        cases a
        cases b
        exact ⟨_, rfl, hd.1.1, hd.1.2, hd.2 _ H1 G1 k1 c1 wk_range⟩
    · exact hd.elim) q)
theorem ei_rng2 {ta : TA} {m : Env → M (List D)} (h : EvA S ta m) : EiD S (iRng2 ta) (fun ρ => M.bnd (m ρ) rng2) := fun B σ H G ρ R k er q =>
  h B σ H G ρ _ k er ((m ρ).mono (fun ds hd vs H1 G1 k1 c1 r1 => by
    unfold rng2 at hd
    split at hd
    · cases r1 with
      | cons a b =>
        cases a
        cases b with
        | cons c d =>
          cases c
          cases d
          exact ⟨_, _, rfl, hd.1, hd.2 _ H1 G1 k1 c1 wk_range⟩
    · exact hd.elim) q)
def strD : D → M (List D)
  | .str x => M.ret (x.cps.toList.map fun c => D.str ⟨#[c]⟩)
  | _ => M.fail
theorem ei_str {te : TE} {m : Env → M D} (h : EvD S te m) : EiD S (iStr te) (fun ρ => M.bnd (m ρ) strD) := fun B σ H G ρ R k er q =>
  h B σ H G ρ _ k er ((m ρ).mono (fun d hd v H1 G1 k1 c1 r1 => by
    cases r1 <;> first
      | exact hd.elim
      | (rename_i x
         have el : (x.cps.toList.map fun c => D.str ⟨#[c]⟩).length = x.cps.size := by rw [List.length_map, Array.length_toList]
         refine ⟨_, rfl, (show ∀ J H' G', _ from hd) _ H1 G1 k1 c1 ⟨fun i L GL k s h => ?_, fun L GL k s => ?_, fun i L GL y L' k s h yl => ?_⟩⟩
         · rw [el] at h
           exact walk_str.goes i L h trivial
         · rw [el]
           exact walk_str.stops L trivial
         · obtain ⟨rfl, c, hc, rfl⟩ := walk_str.yields i L y L' (by rw [el] at h; exact h) trivial yl
           refine ⟨GL, k, Ch.refl, ?_⟩
           have : x.cps.toList[i]? = some c := by rw [Array.getElem?_toList]; exact hc
           have hi : i < x.cps.toList.length := (List.getElem?_eq_some_iff.mp this).1
           rw [List.getElem?_eq_getElem hi] at this
           injection this with this
           rw [List.getElem_map, this]
           exact .str _)) q)
theorem Ok.upd {H G : Hp} (k : Ok B H G) {a : Addr} {o : HO} (hg : G a = none) (hl : ∀ u, H a = some u → plainO u = true) (hb : ∀ b q, B.bq = some (b, q) → b ≠ a ∧ q ≠ a) : Ok B (L2.upd H a o) G :=
  ⟨fun c u e => by rw [upd_ne (ne_of_none e hg)]; exact k.sub c u e, k.nm, fun b q e => by
    obtain ⟨h1, h2⟩ := hb b q e
    obtain ⟨ns, i, r, kk, e1, e2, e3⟩ := k.bx b q e
    exact ⟨ns, i, r, kk, by rw [upd_ne h1]; exact e1, by rw [upd_ne h2]; exact e2, e3⟩, tabs_upd k.tb hl, k.nt⟩
theorem Ok.away {H G : Hp} (k : Ok B H G) {a : Addr} (h : FrA H a) : ∀ b q, B.bq = some (b, q) → b ≠ a ∧ q ≠ a := fun b q e => by
  obtain ⟨ns, i, r, kk, e1, e2, e3⟩ := k.bx b q e
  exact ⟨h.ne e1 (fun _ z => nomatch z), h.ne e2 (fun _ z => nomatch z)⟩
theorem Ch.upd {H G H' G' : Hp} (c : Ch B H G H' G') {a : Addr} {o : HO} (h : FrA H a) : Ch B H G (L2.upd H' a o) G' :=
  ⟨fun x u n z e => by rw [upd_ne (h.ne e z)]; exact c.ch x u n z e, fun x e => by
    by_cases z : x = a
    · subst z; exact h
    · exact c.fr x fun u q => e u (by rw [upd_ne z]; exact q), c.ext, c.new⟩
theorem Ch.mine {H G H' G' : Hp} (c : Ch B H G H' G') {a : Addr} {o : HO} (h : H a = some o) (hg : G a = none) (ho : plainO o = true) (hb : ∀ q, B.bq ≠ some (a, q)) : H' a = some o ∧ G' a = none :=
  ⟨c.ch a o hb (plainO.nt ho) h, by
    cases e : G' a with
    | none => rfl
    | some u => rcases c.new a u e with z | z
                · rw [hg] at z; cases z
                · obtain ⟨ps, e9⟩ := z o h
                  exact absurd e9 (plainO.nt ho ps)⟩
def lcF (b : D → Env → M Env) (mt : Env → M Bool) (me : Env → M D) (ρ : Env) (d : D) : M (Option D) :=
  M.bnd (b d ρ) fun ρ' => M.bnd (mt ρ') fun t => if t = true then M.bnd (me ρ') fun y => M.ret (some y) else M.ret none
theorem el_lc {wi : TI} {g : TG} {tt : TT} {te : TE} {vs js : List Nat} {mi : Env → M (List D)} {b : D → Env → M Env} {mt : Env → M Bool} {me : Env → M D} (hj : ∀ j ∈ js, j ∈ vs) (hi : EiD S wi mi) (hg : EgD S g b js) (ht : EvT S tt mt) (he : EvD S te me) :
    EvL S (tLc wi g tt te vs) (fun ρ => M.bnd (mi ρ) fun ds => M.bnd (M.req (ds.length ≤ 100000)) fun _ => M.sel (lcF b mt me (wipeE ρ vs)) ds) := fun B σ H G ρ Q k er q =>
  hi B σ H G ρ _ k er ((mi ρ).mono (fun ds hd J H1 G1 k1 c1 wk Dl nD => by
    have nDH : FrA H Dl := c1.fr _ (FrA.of nD)
    have nb : ∀ q, B.bq ≠ some (Dl, q) := fun q e => k.ne e nDH rfl
    have aw := k.away nDH
    refine ⟨fun i m L => m = ds.length - i ∧ i ≤ ds.length ∧ ∃ GL acc done, Ok B L GL ∧ Ch B H1 G1 L GL ∧ L Dl = some (.lst acc) ∧ GL Dl = none ∧ RpA S B GL acc done ∧ done.length ≤ i ∧ (M.sel (lcF b mt me (wipeE ρ vs)) (ds.drop i)).run (fun rest => Rs2 S B H G Q (done ++ rest)), ⟨_, rfl, Nat.zero_le _, ?_⟩, ?_⟩
    · obtain ⟨k2, c2⟩ := k1.lay nD (.lst [])
      exact ⟨G1, [], [], k2, c2, upd_same, k1.sub.free nD, .nil, Nat.le_refl _, hd.2⟩
    · rintro i m L ⟨rfl, hi', GL, acc, done, kL, cL, hD, gD, rD, hdl, hr⟩
      rcases Nat.lt_or_ge i ds.length with hlt | hge
      · refine .inr ⟨wk.go i L GL kL cL.ext hlt, fun L' => (i + 1) ≤ ds.length ∧ ∃ GL acc done, Ok B L' GL ∧ Ch B H1 G1 L' GL ∧ L' Dl = some (.lst acc) ∧ GL Dl = none ∧ RpA S B GL acc done ∧ done.length ≤ i + 1 ∧ (M.sel (lcF b mt me (wipeE ρ vs)) (ds.drop (i + 1))).run (fun rest => Rs2 S B H G Q (done ++ rest)), fun L' hL => ⟨_, by omega, rfl, hL.1, hL.2⟩, fun x L' y => ?_⟩
        obtain ⟨GY, kY, cY, rY⟩ := wk.yl i L GL x L' kL cL.ext hlt y
        obtain ⟨hDY, gDY⟩ := cY.mine hD gD rfl nb
        have eD : ds.drop i = ds[i] :: ds.drop (i + 1) := List.drop_eq_getElem_cons hlt
        rw [eD] at hr
        have cHY := cL.trans cY
        refine hg B (wipe σ vs) L' GY (wipeE ρ vs) x ds[i] _ kY ((er.mono (c1.trans cHY).ext).wipe vs) rY (M.mono _ (fun ρ' hρ σ' er' ag => ?_) hr)
        refine ⟨by rw [ag.wipe hj, wipe_idem], ?_⟩
        refine ht B σ' L' GY ρ' _ kY er' (M.mono _ (fun t htt L3 G3 k3 c3 => ?_) hρ)
        obtain ⟨hD3, gD3⟩ := c3.mine hDY gDY rfl nb
        cases t with
        | false => exact ⟨hlt, G3, acc, done, k3, cHY.trans c3, hD3, gD3, rD.mono (cY.trans c3).ext, by omega, htt⟩
        | true =>
          refine he B σ' L3 G3 ρ' _ k3 (er'.mono c3.ext) (M.mono _ (fun y' hy v4 L4 G4 k4 c4 r4 => ?_) htt)
          obtain ⟨hD4, gD4⟩ := c4.mine hD3 gD3 rfl nb
          have ra := rD.mono ((cY.trans c3).trans c4).ext
          refine ⟨acc, hD4, ?_, hlt, G4, acc ++ [v4], done ++ [y'], k4.upd gD4 (fun u e => by rw [hD4] at e; cases e; rfl) aw, ((cHY.trans c3).trans c4).upd (FrA.of nD), upd_same, gD4, ra.append (.cons r4 .nil), by rw [List.length_append]; exact Nat.succ_le_succ hdl, ?_⟩
          · rw [ra.length]
            have := hd.1
            exact Nat.lt_of_lt_of_le (show done.length < 100000 by omega) (by decide)
          · refine M.mono _ (fun rest hrest => ?_) hy
            rw [List.append_assoc]
            exact hrest
      · obtain rfl : i = ds.length := by omega
        refine .inl ⟨wk.st L GL kL cL.ext, ?_⟩
        rw [List.drop_length] at hr
        have h9 : Rs2 S B H G Q (done ++ []) := hr
        rw [List.append_nil] at h9
        exact h9 Dl acc L GL nDH kL (c1.trans cL) hD gD rD) q)
end Dv
namespace Dv
open PySem PySem.Spec PyProof.Rows L2 Sg
variable {S : Base} {B : Bo S}
inductive Sl where
  | f (d : D) | o (ds : List D) | od (es : List (Key × D)) | ot (es : List (Ks × D))
abbrev Ev := List (Option Sl)
def Sl.owned : Sl → Bool
  | .f _ => false
  | _ => true
def Sl.data : Sl → D
  | .f d => d
  | .o ds => .lst ds
  | .od es => .dk es
  | .ot es => .dt es
def mask (ρ : Ev) : Env := ρ.map fun s => s.bind fun s => match s with | .f d => some d | _ => none
def peek (ρ : Ev) : Env := ρ.map fun s => s.map Sl.data
def Ow (S : Base) (B : Bo S) (G : Hp) : HO → Sl → Prop
  | .lst xs, .o ds => RpA S B G xs ds
  | .dK kvs, .od es => kvs.map (·.1) = es.map (·.1) ∧ RpA S B G (kvs.map (·.2)) (es.map (·.2))
  | .dT kvs, .ot es => kvs.map (·.1) = es.map (·.1) ∧ RpA S B G (kvs.map (·.2)) (es.map (·.2))
  | _, _ => False
theorem Ow.mono {G G' : Hp} (s : Sub G G') {o : HO} {l : Sl} (h : Ow S B G o l) : Ow S B G' o l := by
  cases o <;> cases l <;> first
    | exact h.elim
    | exact RpA.mono s h
    | exact ⟨h.1, h.2.mono s⟩
theorem Ow.rp {G : Hp} {a : Addr} {o : HO} {l : Sl} (hg : G a = some o) (h : Ow S B G o l) : Rp S B G (.ref a) l.data := by
  cases o <;> cases l <;> first
    | exact h.elim
    | exact .lst hg h
    | exact .dk hg h.1 h.2
    | exact .dt hg h.1 h.2
theorem Ow.pl {G : Hp} {o : HO} {l : Sl} (h : Ow S B G o l) : plainO o = true := by
  cases o <;> cases l <;> first
    | exact h.elim
    | rfl
structure RsG (S : Base) (B : Bo S) (H0 G0 : Hp) (σ : L2.St) (H : Hp) (ρ : Ev) (G : Hp) (A : Nat → Addr) : Prop where
  aw : ∀ b q, B.bq = some (b, q) → ∃ o u, H0 b = some (.lst o) ∧ H0 q = some (.lst u)
  ok : Ok B H G
  ch : Ch B H0 G0 H G
  len : ρ.length = σ.length
  fz : ∀ (i : Nat) (d : D), ρ[i]? = some (some (.f d)) → ∃ v, σ[i]? = some (some v) ∧ Rp S B G v d
  ow : ∀ (i : Nat) (s : Sl), ρ[i]? = some (some s) → s.owned = true → σ[i]? = some (some (.ref (A i))) ∧ FrA H0 (A i) ∧ G (A i) = none ∧ ∃ o, H (A i) = some o ∧ Ow S B G o s
  dj : ∀ (i j : Nat) (s t : Sl), ρ[i]? = some (some s) → ρ[j]? = some (some t) → s.owned = true → t.owned = true → i ≠ j → A i ≠ A j
def Rs (S : Base) (B : Bo S) (H0 G0 : Hp) (σ : L2.St) (H : Hp) (ρ : Ev) : Prop := ∃ G A, RsG S B H0 G0 σ H ρ G A
section
variable {H0 G0 H G : Hp} {σ : L2.St} {ρ : Ev} {A : Nat → Addr}
theorem RsG.away (r : RsG S B H0 G0 σ H ρ G A) {a : Addr} (h : FrA H0 a) : ∀ b q, B.bq = some (b, q) → b ≠ a ∧ q ≠ a := fun b q e => by
  obtain ⟨o, u, h1, h2⟩ := r.aw b q e
  exact ⟨h.ne h1 (fun _ z => nomatch z), h.ne h2 (fun _ z => nomatch z)⟩
theorem RsG.nb (r : RsG S B H0 G0 σ H ρ G A) {a : Addr} (h : FrA H0 a) : ∀ q, B.bq ≠ some (a, q) := fun q e => (r.away h a q e).1 rfl
theorem mask_get {ρ : Ev} {i : Nat} {d : D} (h : (mask ρ)[i]? = some (some d)) : ρ[i]? = some (some (.f d)) := by
  unfold mask at h
  rw [List.getElem?_map] at h
  cases e : ρ[i]? with
  | none => rw [e] at h; cases h
  | some o =>
    rw [e] at h
    cases o with
    | none => cases h
    | some s => cases s <;> first | (cases h; rfl) | cases h
theorem peek_get {ρ : Ev} {i : Nat} {d : D} (h : (peek ρ)[i]? = some (some d)) : ∃ s, ρ[i]? = some (some s) ∧ s.data = d := by
  unfold peek at h
  rw [List.getElem?_map] at h
  cases e : ρ[i]? with
  | none => rw [e] at h; cases h
  | some o =>
    rw [e] at h
    cases o with
    | none => cases h
    | some s => cases h; exact ⟨s, rfl, rfl⟩
theorem RsG.mask (r : RsG S B H0 G0 σ H ρ G A) : Er S B G σ (mask ρ) := ⟨by unfold Dv.mask; rw [List.length_map, r.len], fun i d e => r.fz i d (mask_get e)⟩
theorem RsG.step (r : RsG S B H0 G0 σ H ρ G A) {H' G' : Hp} (k : Ok B H' G') (c : Ch B H G H' G') : RsG S B H0 G0 σ H' ρ G' A :=
  ⟨r.aw, k, r.ch.trans c, r.len, fun i d e => by
    obtain ⟨v, h1, h2⟩ := r.fz i d e
    exact ⟨v, h1, h2.mono c.ext⟩, fun i s e w => by
    obtain ⟨h1, h2, h3, o, h4, h5⟩ := r.ow i s e w
    obtain ⟨h6, h7⟩ := c.mine h4 h3 h5.pl (r.nb h2)
    exact ⟨h1, h2, h7, o, h6, h5.mono c.ext⟩, r.dj⟩
theorem RsG.peek (r : RsG S B H0 G0 σ H ρ G A) : ∃ G1, Ok B H G1 ∧ Er S B G1 σ (peek ρ) ∧ Ch B H0 G0 H G1 ∧ ∀ H' G1', Ok B H' G1' → Ch B H G1 H' G1' → ∃ G', RsG S B H0 G0 σ H' ρ G' A ∧ Sub G G' ∧ Sub G' G1' := by
  classical
  let own : Addr → Prop := fun a => ∃ i s, ρ[i]? = some (some s) ∧ s.owned = true ∧ A i = a
  have og : ∀ a, own a → G a = none := fun a ⟨i, s, e, w, ha⟩ => by
    rw [← ha]; exact (r.ow i s e w).2.2.1
  have oh : ∀ a, own a → FrA H0 a := fun a ⟨i, s, e, w, ha⟩ => by
    rw [← ha]; exact (r.ow i s e w).2.1
  let G1 : Hp := fun a => if own a then H a else G a
  have g1 : ∀ a, own a → G1 a = H a := fun a h => if_pos h
  have g2 : ∀ a, ¬ own a → G1 a = G a := fun a h => if_neg h
  have gs : Sub G G1 := fun a o e => by
    by_cases h : own a
    · rw [og a h] at e; cases e
    · rw [g2 a h]; exact e
  refine ⟨G1, ⟨fun a o e => ?_, fun b q e => ?_, r.ok.bx, r.ok.tb, fun a ps e => ?_⟩, ⟨?_, fun i d e => ?_⟩, ⟨r.ch.ch, r.ch.fr, r.ch.ext.trans gs, fun a o e => ?_⟩, fun H' G1' k c => ?_⟩
  · by_cases h : own a
    · rw [g1 a h] at e; exact e
    · rw [g2 a h] at e; exact r.ok.sub a o e
  · have h : ¬ own b := fun h => r.nb (oh b h) q e
    rw [g2 b h]; exact r.ok.nm b q e
  · by_cases h : own a
    · rw [g1 a h] at e
      obtain ⟨i, s, e1, w, rfl⟩ := h
      obtain ⟨_, _, _, o, h4, h5⟩ := r.ow i s e1 w
      rw [h4] at e
      exact (plainO.nt h5.pl) ps (Option.some.inj e)
    · rw [g2 a h] at e; exact r.ok.nt a ps e
  · unfold Dv.peek; rw [List.length_map, r.len]
  · obtain ⟨s, h1, h2⟩ := peek_get e
    cases hw : s.owned with
    | false =>
      cases s with
      | f d' =>
        obtain ⟨v, h3, h4⟩ := r.fz i d' h1
        cases h2
        exact ⟨v, h3, h4.mono gs⟩
      | _ => cases hw
    | true =>
      obtain ⟨h3, h4, h5, o, h6, h7⟩ := r.ow i s h1 hw
      refine ⟨_, h3, ?_⟩
      rw [← h2]
      exact Ow.rp (by rw [g1 _ ⟨i, s, h1, hw, rfl⟩]; exact h6) (h7.mono gs)
  · by_cases h : own a
    · exact .inr (oh a h)
    · rw [g2 a h] at e; exact r.ch.new a o e
  · let G' : Hp := fun a => if own a then none else G1' a
    have k1 : ∀ a, own a → G' a = none := fun a h => if_pos h
    have k2 : ∀ a, ¬ own a → G' a = G1' a := fun a h => if_neg h
    have gg : Sub G G' := fun a o e => by
      have h : ¬ own a := fun h => by rw [og a h] at e; cases e
      rw [k2 a h]; exact c.ext a o (gs a o e)
    refine ⟨G', ⟨r.aw, ⟨fun a o e => ?_, fun b q e => ?_, k.bx, k.tb, fun a ps e => ?_⟩, ⟨fun a o n z e => c.ch a o n z (r.ch.ch a o n z e), fun a e => r.ch.fr a (c.fr a e), r.ch.ext.trans gg, fun a o e => ?_⟩, r.len, fun i d e => ?_, fun i s e w => ?_, r.dj⟩, gg, fun a o e => ?_⟩
    · by_cases h : own a
      · rw [k1 a h] at e; cases e
      · rw [k2 a h] at e; exact k.sub a o e
    · by_cases h : own b
      · exact k1 b h
      · rw [k2 b h]; exact k.nm b q e
    · by_cases h : own a
      · rw [k1 a h] at e; cases e
      · rw [k2 a h] at e; exact k.nt a ps e
    · by_cases h : own a
      · rw [k1 a h] at e; cases e
      · rw [k2 a h] at e
        rcases c.new a o e with z | z
        · rw [g2 a h] at z; exact r.ch.new a o z
        · exact .inr (r.ch.fr a z)
    · obtain ⟨v, h1, h2⟩ := r.fz i d e
      exact ⟨v, h1, h2.mono gg⟩
    · obtain ⟨h1, h2, h3, o, h4, h5⟩ := r.ow i s e w
      exact ⟨h1, h2, k1 _ ⟨i, s, e, w, rfl⟩, o, c.ch _ _ (r.nb h2) (plainO.nt h5.pl) h4, h5.mono gg⟩
    · by_cases h : own a
      · rw [k1 a h] at e; cases e
      · rw [k2 a h] at e; exact e
theorem get_set {α : Type} {ρ : List α} {i j : Nat} {x y : α} (h : (ρ.set j x)[i]? = some y) : (i = j ∧ y = x) ∨ (i ≠ j ∧ ρ[i]? = some y) := by
  rw [List.getElem?_set] at h
  by_cases e : j = i
  · rw [if_pos e] at h
    split at h
    · cases h; exact .inl ⟨e.symm, rfl⟩
    · cases h
  · rw [if_neg e] at h
    exact .inr ⟨fun z => e z.symm, h⟩
theorem set_get {α : Type} {ρ : List α} {i : Nat} {x : α} (h : i < ρ.length) : (ρ.set i x)[i]? = some x := by
  rw [List.getElem?_set, if_pos rfl, if_pos h]
theorem RsG.set (r : RsG S B H0 G0 σ H ρ G A) {v : V} {d : D} (h : Rp S B G v d) (j : Nat) : RsG S B H0 G0 (σ.set j (some v)) H (ρ.set j (some (.f d))) G A := by
  refine ⟨r.aw, r.ok, r.ch, by rw [List.length_set, List.length_set, r.len], fun i e q => ?_, fun i s q w => ?_, fun i i' s t q1 q2 w1 w2 => ?_⟩
  · rcases get_set q with ⟨rfl, z⟩ | ⟨n, q⟩
    · cases z
      have hl : i < σ.length := by
        have := (List.getElem?_eq_some_iff.mp q).1
        rwa [List.length_set, r.len] at this
      exact ⟨v, set_get hl, h⟩
    · obtain ⟨u, h1, h2⟩ := r.fz i e q
      exact ⟨u, by rw [List.getElem?_set, if_neg n.symm]; exact h1, h2⟩
  · rcases get_set q with ⟨rfl, z⟩ | ⟨n, q⟩
    · cases z; cases w
    · obtain ⟨h1, h2⟩ := r.ow i s q w
      exact ⟨by rw [List.getElem?_set, if_neg n.symm]; exact h1, h2⟩
  · rcases get_set q1 with ⟨rfl, z⟩ | ⟨n, q1⟩
    · cases z; cases w1
    · rcases get_set q2 with ⟨rfl, z⟩ | ⟨n2, q2⟩
      · cases z; cases w2
      · exact r.dj i i' s t q1 q2 w1 w2
theorem RsG.own (r : RsG S B H0 G0 σ H ρ G A) {p : Addr} {o : HO} {s : Sl} (hs : s.owned = true) (h0 : FrA H0 p) (hh : H p = some o) (hg : G p = none) (hw : Ow S B G o s) (nw : ∀ i t, ρ[i]? = some (some t) → t.owned = true → A i ≠ p) (j : Nat) :
    RsG S B H0 G0 (σ.set j (some (.ref p))) H (ρ.set j (some s)) G (fun i => if i = j then p else A i) := by
  refine ⟨r.aw, r.ok, r.ch, by rw [List.length_set, List.length_set, r.len], fun i e q => ?_, fun i t q w => ?_, fun i i' t t' q1 q2 w1 w2 ne => ?_⟩
  · rcases get_set q with ⟨rfl, z⟩ | ⟨n, q⟩
    · cases z; cases hs
    · obtain ⟨u, h1, h2⟩ := r.fz i e q
      exact ⟨u, by rw [List.getElem?_set, if_neg n.symm]; exact h1, h2⟩
  · rcases get_set q with ⟨rfl, z⟩ | ⟨n, q⟩
    · cases z
      have hl : i < σ.length := by
        have := (List.getElem?_eq_some_iff.mp q).1
        rwa [List.length_set, r.len] at this
      simp only [if_true]
      exact ⟨set_get hl, h0, hg, o, hh, hw⟩
    · obtain ⟨h1, h2⟩ := r.ow i t q w
      simp only [if_neg n]
      exact ⟨by rw [List.getElem?_set, if_neg n.symm]; exact h1, h2⟩
  · rcases get_set q1 with ⟨e1, z⟩ | ⟨n, p1⟩
    · rcases get_set q2 with ⟨e2, z2⟩ | ⟨n2, p2⟩
      · exact absurd (e1.trans e2.symm) ne
      · simp only [if_pos e1, if_neg n2]
        exact (nw i' t' p2 w2).symm
    · rcases get_set q2 with ⟨e2, z2⟩ | ⟨n2, p2⟩
      · simp only [if_pos e2, if_neg n]
        exact nw i t p1 w1
      · simp only [if_neg n, if_neg n2]
        exact r.dj i i' t t' p1 p2 w1 w2 ne
theorem RsG.put (r : RsG S B H0 G0 σ H ρ G A) {j : Nat} {s s' : Sl} {o' : HO} (h : ρ[j]? = some (some s)) (w : s.owned = true) (w' : s'.owned = true) (hw : Ow S B G o' s') : RsG S B H0 G0 σ (upd H (A j) o') (ρ.set j (some s')) G A := by
  obtain ⟨h1, h2, h3, o, h4, h5⟩ := r.ow j s h w
  refine ⟨r.aw, r.ok.upd h3 (fun u e => by rw [h4] at e; cases e; exact h5.pl) (r.away h2), r.ch.upd h2, by rw [List.length_set, r.len], fun i e q => ?_, fun i t q wt => ?_, fun i i' t t' q1 q2 w1 w2 ne => ?_⟩
  · rcases get_set q with ⟨rfl, z⟩ | ⟨n, q⟩
    · cases z; cases w'
    · exact r.fz i e q
  · rcases get_set q with ⟨rfl, z⟩ | ⟨n, q⟩
    · cases z
      exact ⟨h1, h2, h3, o', upd_same, hw⟩
    · obtain ⟨e1, e2, e3, u, e4, e5⟩ := r.ow i t q wt
      exact ⟨e1, e2, e3, u, by rw [upd_ne (r.dj i j t s q h wt w n)]; exact e4, e5⟩
  · have hh : ∀ {i : Nat} {t : Sl}, (ρ.set j (some s'))[i]? = some (some t) → t.owned = true → ∃ t2 : Sl, ρ[i]? = some (some t2) ∧ t2.owned = true := fun {i t} q wt => by
      rcases get_set q with ⟨rfl, z⟩ | ⟨n, q⟩
      · exact ⟨s, h, w⟩
      · exact ⟨t, q, wt⟩
    obtain ⟨a, a1, a2⟩ := hh q1 w1
    obtain ⟨b, b1, b2⟩ := hh q2 w2
    exact r.dj i i' a b a1 b1 a2 b2 ne
theorem RsG.rebase {G1 : Hp} (r : RsG S B H0 G1 σ H ρ G A) (s : Sub G0 G1) (n : ∀ a o, G1 a = some o → G0 a = some o ∨ FrA H0 a) : RsG S B H0 G0 σ H ρ G A :=
  ⟨r.aw, r.ok, ⟨r.ch.ch, r.ch.fr, s.trans r.ch.ext, fun a o e => (r.ch.new a o e).elim (n a o) .inr⟩, r.len, r.fz, r.ow, r.dj⟩
theorem RsG.here (r : RsG S B H0 G0 σ H ρ G A) : RsG S B H0 G σ H ρ G A := ⟨r.aw, r.ok, ⟨r.ch.ch, r.ch.fr, Sub.refl G, fun _ _ e => .inl e⟩, r.len, r.fz, r.ow, r.dj⟩
end
end Dv
namespace Dv
open PySem PySem.Spec PyProof.Rows L2 Sg
variable {S : Base} {B : Bo S} {X : XK}
structure Exn where
  w : Str
  f : Str
  v : V
def xdF (x : Exn) : List (Str × V) := if x.f = "word" then [("word", .str x.w)] else [("word", .str x.w), (x.f, x.v)]
theorem xdF_f {x : Exn} (h : x.f ≠ "word") : xdF x = ([("word", .str x.w), (x.f, x.v)] : List (Str × V)) := if_neg h
def RsE {S : Base} (B : Bo S) (H G : Hp) (X : XK) (x : Exn) : Prop := ∀ dd H' G', Ok B H' G' → Ch B H G H' G' → FrA H dd → H' dd = some (.xd (xdF x)) → X (.ref (S.cls x.w)) (some dd) H'
theorem RsE.after {H G H1 G1 : Hp} {X : XK} {x : Exn} (c : Ch B H G H1 G1) (h : RsE B H G X x) : RsE B H1 G1 X x := fun dd H' G' k c' n e => h dd H' G' k (c.trans c') (c.fr _ n) e
inductive Ou where
  | nx (ρ : Ev) | bk (ρ : Ev) | ct (ρ : Ev) | rt (d : D) | rl (ds : List D) | er (x : Exn)
def Fin (S : Base) (X : XK) (B : Bo S) (H0 G0 : Hp) (E : Ends) : Ou → Prop
  | .er x => RsE B H0 G0 X x
  | .nx ρ => ∀ σ H, Rs S B H0 G0 σ H ρ → E.nx σ H
  | .bk ρ => ∀ σ H, Rs S B H0 G0 σ H ρ → E.bk σ H
  | .ct ρ => ∀ σ H, Rs S B H0 G0 σ H ρ → E.ct σ H
  | .rt d => ∀ v H G, Ok B H G → Ch B H0 G0 H G → Rp S B G v d → E.rt v H
  | .rl ds => ∀ p xs H G, FrA H0 p → Ok B H G → Ch B H0 G0 H G → H p = some (.lst xs) → G p = none → RpA S B G xs ds → E.rt (.ref p) H
def SvD (S : Base) (X : XK) (ts : TS) (g : Ev → M Ou) : Prop := ∀ B H0 G0 σ H ρ E, Rs S B H0 G0 σ H ρ → (g ρ).run (Fin S X B H0 G0 E) → ts E σ H
def thenM (g : Ev → M Ou) : Ou → M Ou
  | .nx ρ => g ρ
  | o => M.ret o
theorem sv_seq {t u : TS} {g h : Ev → M Ou} (h1 : SvD S X t g) (h2 : SvD S X u h) : SvD S X (tSeq t u) (fun ρ => M.bnd (g ρ) (thenM h)) := fun B H0 G0 σ H ρ E r q =>
  h1 B H0 G0 σ H ρ _ r ((g ρ).mono (fun o ho => by
    cases o with
    | nx ρ' => exact fun σ' H' r' => h2 B H0 G0 σ' H' ρ' E r' ho
    | _ => exact ho) q)
theorem sv_next : SvD S X tNext (fun ρ => M.ret (.nx ρ)) := fun B H0 G0 σ H ρ E r q => q σ H r
theorem sv_break : SvD S X tBreak (fun ρ => M.ret (.bk ρ)) := fun B H0 G0 σ H ρ E r q => q σ H r
theorem sv_cont : SvD S X tCont (fun ρ => M.ret (.ct ρ)) := fun B H0 G0 σ H ρ E r q => q σ H r
theorem sv_never : SvD S X tNever (fun _ => M.fail) := fun B H0 G0 σ H ρ E r q => q.elim
theorem sv_asg {te : TE} {m : Env → M D} {i : Nat} (h : EvD S te m) : SvD S X (tAsg te (gName i)) (fun ρ => M.bnd (m (mask ρ)) fun d => M.ret (.nx (ρ.set i (some (.f d))))) := fun B H0 G0 σ H ρ E ⟨G, A, r⟩ q =>
  h B σ H G (mask ρ) _ r.ok r.mask ((m (mask ρ)).mono (fun d hd v H1 G1 k1 c1 r1 => (show ∀ σ H, Rs S B H0 G0 σ H (ρ.set i (some (.f d))) → E.nx σ H from hd) _ _ ⟨G1, A, (r.step k1 c1).set r1 i⟩) q)
def scD (d : D) : Bool := (vOf d).isSome
theorem rp_sc {G G' : Hp} {v : V} {d : D} (h : scD d = true) (r : Rp S B G v d) : Rp S B G' v d := by
  cases r <;> first
    | exact .non
    | exact .bl _
    | exact .int _
    | exact .str _
    | cases h
theorem sv_asgL {te : TE} {m : Env → M (List D)} {i : Nat} (h : EvL S te m) : SvD S X (tAsg te (gName i)) (fun ρ => M.bnd (m (mask ρ)) fun ds => M.ret (.nx (ρ.set i (some (.o ds))))) := fun B H0 G0 σ H ρ E ⟨G, A, r⟩ q =>
  h B σ H G (mask ρ) _ r.ok r.mask ((m (mask ρ)).mono (fun ds hd p xs H1 G1 n k1 c1 h1 g1 r1 => by
    have r' := r.step k1 c1
    exact (show ∀ σ H, Rs S B H0 G0 σ H (ρ.set i (some (.o ds))) → E.nx σ H from hd) _ _ ⟨G1, _, r'.own (s := .o ds) rfl (r.ch.fr _ n) h1 g1 r1 (fun j t e w z => by
      obtain ⟨_, _, _, o, ho, hw⟩ := r.ow j t e w
      exact n.ne ho (plainO.nt hw.pl) z) i⟩) q)
def EgS (S : Base) (g : TG) (b : D → Ev → M Ev) : Prop := ∀ B H0 G0 σ H ρ G A v d Q, RsG S B H0 G0 σ H ρ G A → Rp S B G v d → (b d ρ).run (fun ρ' => ∀ σ', RsG S B H0 G0 σ' H ρ' G A → Q σ' H) → g v σ H Q
def EgsS (S : Base) (g : TGs) (b : List D → Ev → M Ev) : Prop := ∀ B H0 G0 σ H ρ G A vs ds Q, RsG S B H0 G0 σ H ρ G A → RpA S B G vs ds → (b ds ρ).run (fun ρ' => ∀ σ', RsG S B H0 G0 σ' H ρ' G A → Q σ' H) → g vs σ H Q
def sName (j : Nat) : D → Ev → M Ev := fun d ρ => M.ret (ρ.set j (some (.f d)))
def sNil : List D → Ev → M Ev
  | [], ρ => M.ret ρ
  | _, _ => M.fail
def sCons (b : D → Ev → M Ev) (bs : List D → Ev → M Ev) : List D → Ev → M Ev
  | d :: ds, ρ => M.bnd (b d ρ) fun ρ' => bs ds ρ'
  | [], _ => M.fail
def sTup (n : Nat) (bs : List D → Ev → M Ev) : D → Ev → M Ev
  | .tup ds, ρ => M.bnd (M.req (ds.length = n)) fun _ => bs ds ρ
  | _, _ => M.fail
theorem es_name {j : Nat} : EgS S (gName j) (sName j) := fun B H0 G0 σ H ρ G A v d Q r h q => q _ (r.set h j)
theorem es_nil : EgsS S gNil sNil := fun B H0 G0 σ H ρ G A vs ds Q r h q => by
  cases h with
  | nil => exact ⟨rfl, q σ r⟩
  | cons _ _ => exact q.elim
theorem es_cons {g : TG} {gs : TGs} {b : D → Ev → M Ev} {bs : List D → Ev → M Ev} (h1 : EgS S g b) (h2 : EgsS S gs bs) : EgsS S (gCons g gs) (sCons b bs) := fun B H0 G0 σ H ρ G A vs ds Q r h q => by
  cases h with
  | nil => exact q.elim
  | cons r1 r2 => exact ⟨_, _, rfl, h1 B H0 G0 σ H ρ G A _ _ _ r r1 ((b _ ρ).mono (fun ρ' hρ σ' r' => h2 B H0 G0 σ' H ρ' G A _ _ _ r' r2 hρ) q)⟩
theorem es_tup {n : Nat} {gs : TGs} {bs : List D → Ev → M Ev} (h : EgsS S gs bs) : EgS S (gTup S.K n gs) (sTup n bs) := fun B H0 G0 σ H ρ G A v d Q r hr q => by
  cases hr <;> first
    | exact q.elim
    | (rename_i ha hx
       exact ⟨_, _, rfl, sub_tup r.ok.sub ha, by rw [hx.length]; exact q.1, h B H0 G0 σ H ρ G A _ _ Q r hx q.2⟩)
theorem sv_asgT {te : TE} {m : Env → M D} {g : TG} {b : D → Ev → M Ev} (h : EvD S te m) (hg : EgS S g b) : SvD S X (tAsg te g) (fun ρ => M.bnd (m (mask ρ)) fun d => M.bnd (b d ρ) fun ρ' => M.ret (.nx ρ')) := fun B H0 G0 σ H ρ E ⟨G, A, r⟩ q =>
  h B σ H G (mask ρ) _ r.ok r.mask ((m (mask ρ)).mono (fun d hd v H1 G1 k1 c1 r1 => hg B H0 G0 σ H1 ρ G1 A v d _ (r.step k1 c1) r1 ((b d ρ).mono (fun ρ' hρ σ' r' => (show ∀ σ H, Rs S B H0 G0 σ H ρ' → E.nx σ H from hρ) _ _ ⟨G1, A, r'⟩) hd)) q)
def two (i j : Nat) (ρ : Ev) : List D → M Ou
  | [d, e] => M.ret (.nx ((ρ.set i (some (.f d))).set j (some (.f e))))
  | _ => M.fail
theorem sv_par {i j : Nat} {ta : TA} {m : Env → M (List D)} (h : EvA S ta m) : SvD S X (tPar i j ta) (fun ρ => M.bnd (m (mask ρ)) (two i j ρ)) := fun B H0 G0 σ H ρ E ⟨G, A, r⟩ q =>
  h B σ H G (mask ρ) _ r.ok r.mask ((m (mask ρ)).mono (fun ds hd vs H1 G1 k1 c1 r1 => by
    unfold two at hd
    split at hd
    · cases r1 with
      | cons a b =>
        cases b with
        | cons c d =>
          cases d
          exact ⟨_, _, rfl, (show ∀ σ H, Rs S B H0 G0 σ H _ → E.nx σ H from hd) _ _ ⟨G1, A, ((r.step k1 c1).set a i).set c j⟩⟩
    · exact hd.elim) q)
theorem sv_if {c : TT} {mc : Env → M Bool} {t u : TS} {g h : Ev → M Ou} (hc : EvT S c mc) (h1 : SvD S X t g) (h2 : SvD S X u h) : SvD S X (tIfS c t u) (fun ρ => M.bnd (mc (peek ρ)) fun b => if b = true then g ρ else h ρ) := fun B H0 G0 σ H ρ E ⟨G, A, r⟩ q => by
  obtain ⟨G1, k, er, _, back⟩ := r.peek
  refine hc B σ H G1 (peek ρ) _ k er ((mc (peek ρ)).mono (fun b hb H1 G2 k1 c1 => ?_) q)
  obtain ⟨G', r', _⟩ := back H1 G2 k1 c1
  cases b with
  | true => exact h1 B H0 G0 σ H1 ρ E ⟨G', A, r'⟩ hb
  | false => exact h2 B H0 G0 σ H1 ρ E ⟨G', A, r'⟩ hb
theorem sv_ret {te : TE} {m : Env → M D} (h : EvD S te m) : SvD S X (tRet te) (fun ρ => M.bnd (m (peek ρ)) fun d => M.ret (.rt d)) := fun B H0 G0 σ H ρ E ⟨G, A, r⟩ q => by
  obtain ⟨G1, k, er, c0, back⟩ := r.peek
  exact h B σ H G1 (peek ρ) _ k er ((m (peek ρ)).mono (fun d hd v H1 G2 k1 c1 r1 => (show ∀ v H G, Ok B H G → Ch B H0 G0 H G → Rp S B G v d → E.rt v H from hd) v H1 G2 k1 (c0.trans c1) r1) q)
def ownL (ρ : Ev) (i : Nat) : M (List D) := match ρ[i]? with
  | some (some (.o ds)) => M.ret ds
  | _ => M.fail
theorem ownL_run {ρ : Ev} {i : Nat} {Q : List D → Prop} (h : (ownL ρ i).run Q) : ∃ ds, ρ[i]? = some (some (.o ds)) ∧ Q ds := by
  unfold ownL at h
  split at h
  · exact ⟨_, by assumption, h⟩
  · exact h.elim
theorem sv_retV {i : Nat} : SvD S X (tRet (tVar i)) (fun ρ => M.bnd (ownL ρ i) fun ds => M.ret (.rl ds)) := fun B H0 G0 σ H ρ E ⟨G, A, r⟩ q => by
  obtain ⟨ds, e, q⟩ := ownL_run q
  obtain ⟨h1, h2, h3, o, h4, h5⟩ := r.ow i _ e rfl
  cases o <;> first
    | exact h5.elim
    | exact ⟨_, h1, (show ∀ p xs H G, FrA H0 p → Ok B H G → Ch B H0 G0 H G → H p = some (.lst xs) → G p = none → RpA S B G xs ds → E.rt (.ref p) H from q) _ _ H G h2 r.ok r.ch h4 h3 h5⟩
theorem sv_retN : SvD S X tRetN (fun _ => M.ret (.rt .non)) := fun B H0 G0 σ H ρ E ⟨G, A, r⟩ q => (show ∀ v H G, Ok B H G → Ch B H0 G0 H G → Rp S B G v .non → E.rt v H from q) .non H G r.ok r.ch .non
theorem sv_drop {te : TE} {m : Env → M D} (h : EvD S te m) : SvD S X (tDrop te) (fun ρ => M.bnd (m (peek ρ)) fun _ => M.ret (.nx ρ)) := fun B H0 G0 σ H ρ E ⟨G, A, r⟩ q => by
  obtain ⟨G1, k, er, c0, back⟩ := r.peek
  refine h B σ H G1 (peek ρ) _ k er ((m (peek ρ)).mono (fun d hd v H1 G2 k1 c1 r1 => ?_) q)
  obtain ⟨G', r', _⟩ := back H1 G2 k1 c1
  exact (show ∀ σ H, Rs S B H0 G0 σ H ρ → E.nx σ H from hd) _ _ ⟨G', A, r'⟩
theorem sv_app {i : Nat} {te : TE} {m : Env → M D} (h : EvD S te m) : SvD S X (tDrop (tBM S.K "list" rAppend (tVar i) (tCons te tNil))) (fun ρ => M.bnd (ownL ρ i) fun ds => M.bnd (M.req (ds.length < 100000)) fun _ => M.bnd (m (mask ρ)) fun d => M.ret (.nx (ρ.set i (some (.o (ds ++ [d])))))) := fun B H0 G0 σ H ρ E ⟨G, A, r⟩ q => by
  obtain ⟨ds, e, hl, q⟩ := ownL_run q
  obtain ⟨h1, h2, h3, o, h4, h5⟩ := r.ow i _ e rfl
  cases o <;> first
    | exact h5.elim
    | (rename_i xs
       refine ⟨_, h1, .inl ⟨rfl, _, SqL.of h4⟩, ?_⟩
       refine h B σ H G (mask ρ) _ r.ok r.mask ((m (mask ρ)).mono (fun d hd v H1 G1 k1 c1 r1 => ?_) q)
       have r' := r.step k1 c1
       obtain ⟨_, _, _, o', h4', h5'⟩ := r'.ow i _ e rfl
       have h6 := c1.ch _ (.lst xs) (r.nb h2) (fun _ z => nomatch z) h4
       rw [h6] at h4'
       cases h4'
       refine ⟨_, xs, v, rfl, rfl, h6, ?_, (show ∀ σ H, Rs S B H0 G0 σ H _ → E.nx σ H from hd) _ _ ⟨G1, A, r'.put (s' := .o (ds ++ [d])) e rfl rfl (RpA.append h5' (.cons r1 .nil))⟩⟩
       rw [RpA.length h5]
       exact Nat.lt_of_lt_of_le hl (by decide))
def loopM (b : D → Ev → M Ev) (g : Ev → M Ou) : List D → Ev → M Ou
  | [], ρ => M.ret (.nx ρ)
  | d :: ds, ρ => M.bnd (b d ρ) fun ρ1 => M.bnd (g ρ1) fun o => match o with
    | .nx ρ2 => loopM b g ds ρ2
    | .ct ρ2 => loopM b g ds ρ2
    | .bk ρ2 => M.ret (.nx ρ2)
    | .rt d => M.ret (.rt d)
    | .rl l => M.ret (.rl l)
    | .er x => M.ret (.er x)
theorem Fin.base {H0 G0 G1 : Hp} {E : Ends} {o : Ou} (s : Sub G0 G1) (n : ∀ a o, G1 a = some o → G0 a = some o ∨ FrA H0 a) (h : Fin S X B H0 G0 E o) : Fin S X B H0 G1 E o := by
  have cc : ∀ {H G}, Ch B H0 G1 H G → Ch B H0 G0 H G := fun c => ⟨c.ch, c.fr, s.trans c.ext, fun a o e => (c.new a o e).elim (n a o) .inr⟩
  cases o with
  | nx ρ => exact fun σ H ⟨G, A, r⟩ => h σ H ⟨G, A, r.rebase s n⟩
  | bk ρ => exact fun σ H ⟨G, A, r⟩ => h σ H ⟨G, A, r.rebase s n⟩
  | ct ρ => exact fun σ H ⟨G, A, r⟩ => h σ H ⟨G, A, r.rebase s n⟩
  | rt d => exact fun v H G k c r => h v H G k (cc c) r
  | rl l => exact fun p xs H G a k c b d r => h p xs H G a k (cc c) b d r
  | er x => exact fun dd H G k c n e => h dd H G k (cc c) n e
theorem loop_go {J : It} {g : TG} {tb : TS} {b : D → Ev → M Ev} {gb : Ev → M Ou} (hg : EgS S g b) (hb : SvD S X tb gb) {ds : List D} {H0 G1 : Hp} {E : Ends} (wk : WkD S B J G1 ds) {σ : L2.St} {H : Hp} {ρ : Ev} (r : Rs S B H0 G1 σ H ρ) (h : (loopM b gb ds ρ).run (Fin S X B H0 G1 E)) :
    ∃ W : Nat → Nat → L2.St → Hp → Prop, (∃ m, W 0 m σ H) ∧ ∀ i m σ H, W i m σ H → (J.stop i H ∧ E.nx σ H) ∨ (J.go i H ∧ ∃ N : L2.St → Hp → Prop, (∀ σ' H', N σ' H' → ∃ m', m' < m ∧ W (i + 1) m' σ' H') ∧ ∀ x H', J.yld i H x H' → g x σ H' fun σ2 H2 => tb { E with nx := N, ct := N, bk := E.nx } σ2 H2) := by
  refine ⟨fun i m σ L => m = ds.length - i ∧ i ≤ ds.length ∧ ∃ ρ, Rs S B H0 G1 σ L ρ ∧ (loopM b gb (ds.drop i) ρ).run (Fin S X B H0 G1 E), ⟨_, rfl, Nat.zero_le _, ρ, r, h⟩, ?_⟩
  rintro i m σ L ⟨rfl, hi, ρ, ⟨GL, A, r⟩, q⟩
  rcases Nat.lt_or_ge i ds.length with hlt | hge
  · refine .inr ⟨wk.go i L GL r.ok r.ch.ext hlt, fun σ' L' => (i + 1) ≤ ds.length ∧ ∃ ρ, Rs S B H0 G1 σ' L' ρ ∧ (loopM b gb (ds.drop (i + 1)) ρ).run (Fin S X B H0 G1 E), fun σ' L' hh => ⟨_, by omega, rfl, hh⟩, fun x L' y => ?_⟩
    obtain ⟨GY, kY, cY, rY⟩ := wk.yl i L GL x L' r.ok r.ch.ext hlt y
    rw [List.drop_eq_getElem_cons hlt] at q
    refine hg B H0 G1 σ L' ρ GY A x ds[i] _ (r.step kY cY) rY ((b ds[i] ρ).mono (fun ρ1 h1 σ1 r1 => ?_) q)
    refine hb B H0 G1 σ1 L' ρ1 _ ⟨GY, A, r1⟩ ((gb ρ1).mono (fun o ho => ?_) h1)
    cases o with
    | nx ρ2 => exact fun σ2 L2 r2 => ⟨hlt, ρ2, r2, ho⟩
    | ct ρ2 => exact fun σ2 L2 r2 => ⟨hlt, ρ2, r2, ho⟩
    | bk ρ2 => exact ho
    | rt d => exact ho
    | rl l => exact ho
    | er x => exact ho
  · obtain rfl : i = ds.length := by omega
    rw [List.drop_length] at q
    exact .inl ⟨wk.st L GL r.ok r.ch.ext, (show ∀ σ H, Rs S B H0 G1 σ H ρ → E.nx σ H from q) _ _ ⟨GL, A, r⟩⟩
theorem sv_for {wi : TI} {g : TG} {tb : TS} {mi : Env → M (List D)} {b : D → Ev → M Ev} {gb : Ev → M Ou} (hi : EiD S wi mi) (hg : EgS S g b) (hb : SvD S X tb gb) : SvD S X (tFor wi g tb) (fun ρ => M.bnd (mi (mask ρ)) fun ds => loopM b gb ds ρ) := fun B H0 G0 σ H ρ E ⟨G, A, r⟩ q =>
  hi B σ H G (mask ρ) _ r.ok r.mask ((mi (mask ρ)).mono (fun ds hd J H1 G1 k1 c1 wk => by
    have r1 := r.step k1 c1
    exact loop_go hg hb wk ⟨G1, A, r1.here⟩ (M.mono _ (fun o ho => ho.base r1.ch.ext r1.ch.new) hd)) q)
def whileM (mc : Env → M Bool) (g : Ev → M Ou) : Nat → Ev → M Ou
  | 0, _ => M.fail
  | n + 1, ρ => M.bnd (mc (peek ρ)) fun b => if b = true then M.bnd (g ρ) fun o => match o with
    | .nx ρ2 => whileM mc g n ρ2
    | .ct ρ2 => whileM mc g n ρ2
    | .bk ρ2 => M.ret (.nx ρ2)
    | .rt d => M.ret (.rt d)
    | .rl l => M.ret (.rl l)
    | .er x => M.ret (.er x) else M.ret (.nx ρ)
def M.some' {α : Type} (f : Nat → M α) : M α := ⟨fun Q => ∃ n, (f n).run Q, fun h ⟨n, q⟩ => ⟨n, (f n).mono h q⟩⟩
def startE (n : Nat) (ds : List D) : Ev := ds.map (fun d => some (.f d)) ++ List.replicate (n - ds.length) none
def outD (P : D → Prop) : Ou → Prop
  | .rt d => P d
  | .rl l => P (.lst l)
  | .nx _ => P .non
  | _ => False
def outL (P : List D → Prop) : Ou → Prop
  | .rl l => P l
  | _ => False
theorem start_rs {N : List Str} {H G : Hp} {vs : List V} {ds : List D} (k : Ok B H G) (r : RpA S B G vs ds) : Rs S B H G (L2.start N vs) H (startE N.length ds) := by
  refine ⟨G, fun _ => 0, fun b q e => ?_, k, Ch.refl, ?_, fun i d e => ?_, fun i s e w => ?_, fun i j s t e1 e2 w1 w2 => ?_⟩
  · obtain ⟨ns, i, r, kk, e1, e2, e3⟩ := k.bx b q e
    exact ⟨_, _, e1, e2⟩
  · unfold L2.start startE
    rw [List.length_append, List.length_append, List.length_map, List.length_map, List.length_replicate, List.length_replicate, r.length]
  · unfold startE at e
    unfold L2.start
    by_cases hi : i < ds.length
    · rw [List.getElem?_append_left (by rw [List.length_map]; exact hi), List.getElem?_map, List.getElem?_eq_getElem hi] at e
      injection e with e
      injection e with e
      injection e with e
      obtain ⟨v, h1, h2⟩ := r.get (i := i) (d := ds[i]) (List.getElem?_eq_getElem hi)
      rw [List.getElem?_append_left (by rw [List.length_map, r.length]; exact hi), List.getElem?_map, h1, ← e]
      exact ⟨v, rfl, h2⟩
    · rw [List.getElem?_append_right (by rw [List.length_map]; omega), List.getElem?_replicate] at e
      split at e <;> cases e
  · exfalso
    unfold startE at e
    by_cases hi : i < ds.length
    · rw [List.getElem?_append_left (by rw [List.length_map]; exact hi), List.getElem?_map, List.getElem?_eq_getElem hi] at e
      injection e with e
      injection e with e
      subst e
      cases w
    · rw [List.getElem?_append_right (by rw [List.length_map]; omega), List.getElem?_replicate] at e
      split at e <;> cases e
  · exfalso
    unfold startE at e1
    by_cases hi : i < ds.length
    · rw [List.getElem?_append_left (by rw [List.length_map]; exact hi), List.getElem?_map, List.getElem?_eq_getElem hi] at e1
      injection e1 with e1
      injection e1 with e1
      subst e1
      cases w1
    · rw [List.getElem?_append_right (by rw [List.length_map]; omega), List.getElem?_replicate] at e1
      split at e1 <;> cases e1
theorem run_D {N : List Str} {t : TS} {g : Ev → M Ou} {f : List D → M D} (h : SvD S X t g) (ref : ∀ ds P, (f ds).run P → (g (startE N.length ds)).run (outD P)) {vs : List V} {H : Hp} {Q : VK} {E : XK} (sp : spD S f vs H Q E) : t { nx := fun _ H' => Q .non H', rt := Q } (L2.start N vs) H := by
  obtain ⟨B, G, ds, k, r, q⟩ := sp
  refine h B H G _ H _ _ (start_rs k r) (M.mono _ (fun o ho => ?_) (ref ds _ q))
  cases o with
  | nx ρ => exact fun σ H' ⟨G', A, r'⟩ => (show Rs1 S B H G Q .non from ho) .non H' G' r'.ok r'.ch .non
  | rt d => exact ho
  | rl l => exact fun p xs H' G' a k' c b d r' => Rs1.frz k ho p xs H' G' a k' c b d r'
  | bk ρ => exact ho.elim
  | ct ρ => exact ho.elim
  | er x => exact ho.elim
end Dv
namespace Dv
open PySem PySem.Spec PyProof.Rows L2 Sg
variable {S : Base} {B : Bo S}
def kDd : Key → D
  | .inl i => .int i
  | .inr x => .str x
def tieD (k : Ks) : D := .tup (k.map kDd)
def lD (l : List Ks) : D := .lst (l.map tieD)
def mwD (n : Int) (As Ms : List Ks) : D := .tup [.int n, lD As, lD Ms]
theorem rp_key {G : Hp} (k : Key) : Rp S B G (kV k) (kDd k) := by
  cases k with
  | inl i => exact .int i
  | inr x => exact .str x
theorem rp_keys {G : Hp} : ∀ k : Ks, RpA S B G (k.map kV) (k.map kDd)
  | [] => .nil
  | a :: k => .cons (rp_key a) (rp_keys k)
theorem key_of {G : Hp} {v : V} {k : Key} (h : Rp S B G v (kDd k)) : v = kV k := by
  cases k with
  | inl i => cases h; rfl
  | inr x => cases h; rfl
theorem keys_of {G : Hp} : ∀ {xs : List V} {k : Ks}, RpA S B G xs (k.map kDd) → xs = k.map kV
  | _, [], h => by cases h; rfl
  | _, a :: k, h => by
    cases h with
    | cons h1 h2 => rw [key_of h1, keys_of h2]; rfl
theorem rp_tie {G : Hp} {a : Addr} {k : Ks} (h : SqT S.K G a (k.map kV)) : Rp S B G (.ref a) (tieD k) := .tup h (rp_keys k)
theorem tie_of {G : Hp} {v : V} {k : Ks} (h : Rp S B G v (tieD k)) : ∃ a, v = .ref a ∧ SqT S.K G a (k.map kV) := by
  cases h with
  | tup h r => rw [keys_of r] at h; exact ⟨_, rfl, h⟩
theorem tks_of {G : Hp} : ∀ {xs : List V} {l : List Ks}, RpA S B G xs (l.map tieD) → ∃ ks : List TK, xs = refs ks ∧ (∀ p ∈ ks, SqT S.K G p.1 (p.2.map kV)) ∧ ks.map (·.2) = l
  | _, [], h => by cases h; exact ⟨[], rfl, (fun p hp => nomatch hp), rfl⟩
  | _, k :: l, h => by
    cases h with
    | cons h1 h2 =>
      obtain ⟨a, rfl, ha⟩ := tie_of h1
      obtain ⟨ks, rfl, h3, h4⟩ := tks_of h2
      refine ⟨(a, k) :: ks, rfl, fun p hp => ?_, by rw [List.map_cons, h4]⟩
      rcases List.mem_cons.mp hp with rfl | hp
      · exact ha
      · exact h3 p hp
theorem rp_refs {G : Hp} : ∀ {U : List TK}, (∀ p ∈ U, SqT S.K G p.1 (p.2.map kV)) → RpA S B G (refs U) ((U.map (·.2)).map tieD)
  | [], _ => .nil
  | p :: U, h => .cons (rp_tie (h p (List.mem_cons_self ..))) (rp_refs fun q hq => h q (List.mem_cons_of_mem _ hq))
theorem list_of {G : Hp} {v : V} {l : List Ks} (h : Rp S B G v (lD l)) : ∃ a ks, v = .ref a ∧ G a = some (.lst (refs ks)) ∧ (∀ p ∈ ks, SqT S.K G p.1 (p.2.map kV)) ∧ ks.map (·.2) = l := by
  cases h with
  | lst h r =>
    obtain ⟨ks, rfl, h3, h4⟩ := tks_of r
    exact ⟨_, ks, rfl, h, h3, h4⟩
def noTab : Option HO → Option HO
  | some (.tbl _) => none
  | o => o
theorem noTab_of {o u : HO} {x : Option HO} (h : noTab x = some u) : x = some u ∧ ∀ ps, u ≠ .tbl ps := by
  unfold noTab at h
  split at h
  · cases h
  · rename_i hn
    refine ⟨h, fun ps z => ?_⟩
    subst z
    exact hn ps h
theorem noTab_go {u : HO} (h : ∀ ps, u ≠ .tbl ps) : noTab (some u) = some u := by
  cases u <;> first | rfl | exact absurd rfl (h _)
def newG (H H' G : Hp) : Hp := fun a => match H a with
  | none => noTab (H' a)
  | some _ => G a
theorem newG_some {H H' G : Hp} {a : Addr} {o : HO} (h : H a = some o) : newG H H' G a = G a := by unfold newG; rw [h]
theorem newG_none {H H' G : Hp} {a : Addr} (h : H a = none) : newG H H' G a = noTab (H' a) := by unfold newG; rw [h]
theorem newG_ok {H H' G : Hp} (k : Ok B H G) (s : ∀ a o, (∀ q, B.bq ≠ some (a, q)) → (∀ ps, o ≠ .tbl ps) → H a = some o → H' a = some o) (fr : ∀ a, FrA H' a → FrA H a) (bx : ∀ b q, B.bq = some (b, q) → BxAt H' b q) (tb : LamX.Tabs S.T H') : Ok B H' (newG H H' G) ∧ Ch B H G H' (newG H H' G) := by
  refine ⟨⟨fun a o e => ?_, fun b q e => ?_, bx, tb, fun a ps e => ?_⟩, ⟨s, fr, fun a o e => ?_, fun a o e => ?_⟩⟩
  · cases h : H a with
    | none => rw [newG_none h] at e; exact (noTab_of (o := o) e).1
    | some u =>
      rw [newG_some h] at e
      refine s a o (fun q z => ?_) (fun ps z => ?_) (k.sub a o e)
      · rw [k.nm a q z] at e; cases e
      · subst z; exact k.nt a ps e
  · obtain ⟨o, ho⟩ := (k.bx b q e).some
    rw [newG_some ho]; exact k.nm b q e
  · cases h : H a with
    | none => rw [newG_none h] at e; exact (noTab_of (o := .tbl ps) e).2 ps rfl
    | some u => rw [newG_some h] at e; exact k.nt a ps e
  · rw [newG_some (k.sub a o e)]; exact e
  · cases h : H a with
    | none => exact .inr (FrA.of h)
    | some u => rw [newG_some h] at e; exact .inl e
theorem newG_same {H H' G : Hp} (k : Ok B H G) (s : Sub H H') : Ok B H' (newG H H' G) ∧ Ch B H G H' (newG H H' G) := newG_ok k (fun a o _ _ e => s a o e) (fun a e => FrA.sub s e) (fun b q e => (k.bx b q e).sub s) (tabs_sub s k.tb)
theorem old_ok {H H' G : Hp} (k : Ok B H G) (s : ∀ a o, (∀ q, B.bq ≠ some (a, q)) → (∀ ps, o ≠ .tbl ps) → H a = some o → H' a = some o) (fr : ∀ a, FrA H' a → FrA H a) (bx : ∀ b q, B.bq = some (b, q) → BxAt H' b q) (tb : LamX.Tabs S.T H') : Ok B H' G ∧ Ch B H G H' G :=
  ⟨⟨fun a o e => s a o (fun q z => by rw [k.nm a q z] at e; cases e) (fun ps z => by subst z; exact k.nt a ps e) (k.sub a o e), k.nm, bx, tb, k.nt⟩, ⟨s, fr, Sub.refl G, fun _ _ e => .inl e⟩⟩
mutual
def D.deep : D → Nat
  | .lst l => deepL l + 1
  | .tup l => deepL l + 1
  | _ => 0
def deepL : List D → Nat
  | [] => 0
  | d :: l => max d.deep (deepL l)
end
mutual
def D.plain : D → Bool
  | .lst l => plainL l
  | .tup l => plainL l
  | .web _ _ _ => false
  | .dk _ => false
  | .dt _ => false
  | .box => false
  | .obj _ => false
  | _ => true
def plainL : List D → Bool
  | [] => true
  | d :: l => d.plain && plainL l
end
mutual
def D.thin : D → Bool
  | .lst l => decide (l.length ≤ 100000) && thinL l
  | .tup l => decide (l.length ≤ 100000) && thinL l
  | _ => true
def thinL : List D → Bool
  | [] => true
  | d :: l => d.thin && thinL l
end
end Dv
namespace Dv
open PySem PySem.Spec PyProof.Rows L2 Sg
variable {S : Base} {B : Bo S} {X : XK}
def M.choose {α : Type} (p : α → Prop) : M α := ⟨fun Q => ∃ a, p a ∧ Q a, fun h ⟨a, pa, q⟩ => ⟨a, pa, h a q⟩⟩
inductive Rx where
  | ok (d : D) | er (x : Exn)
def RsX (S : Base) (B : Bo S) (H G : Hp) (Q : VK) (X : XK) : Rx → Prop
  | .ok d => Rs1 S B H G Q d
  | .er x => RsE B H G X x
theorem RsX.after {H G H1 G1 : Hp} {Q : VK} {r : Rx} (c : Ch B H G H1 G1) (h : RsX S B H G Q X r) : RsX S B H1 G1 Q X r := by
  cases r with
  | ok d => exact Rs1.after c h
  | er x => exact RsE.after c h
def spX (S : Base) (f : List D → M Rx) : Sp := fun vs H Q X => ∃ B G ds, Ok B H G ∧ RpA S B G vs ds ∧ (f ds).run (RsX S B H G Q X)
def EvX (S : Base) (t : XK → TE) (m : Env → M Rx) : Prop := ∀ B σ H G ρ Q X, Ok B H G → Er S B G σ ρ → (m ρ).run (RsX S B H G Q X) → t X σ H Q
theorem ex_call {f : List D → M Rx} {t : TA} {m : Env → M (List D)} (h : EvA S t m) : EvX S (fun E => tCall (spX S f) [] E t) (fun ρ => M.bnd (m ρ) f) := fun B σ H G ρ Q X k er q =>
  h B σ H G ρ _ k er ((m ρ).mono (fun l hl vs H1 G1 k1 c1 r1 => ⟨B, G1, l, k1, by rw [List.append_nil]; exact r1, (f l).mono (fun z hz => hz.after c1) hl⟩) q)
def ouX (ρ : Ev) : Rx → M Ou
  | .ok _ => M.ret (.nx ρ)
  | .er x => M.ret (.er x)
theorem sv_dropX {t : XK → TE} {m : Env → M Rx} (h : EvX S t m) : SvD S X (tDrop (t X)) (fun ρ => M.bnd (m (peek ρ)) (ouX ρ)) := fun B H0 G0 σ H ρ E ⟨G, A, r⟩ q => by
  obtain ⟨G1, k, er, c0, back⟩ := r.peek
  refine h B σ H G1 (peek ρ) _ X k er ((m (peek ρ)).mono (fun d hd => ?_) q)
  cases d with
  | ok d =>
    exact fun v H1 G2 k1 c1 r1 => by
      obtain ⟨G', r', _⟩ := back H1 G2 k1 c1
      exact (show ∀ σ H, Rs S B H0 G0 σ H ρ → E.nx σ H from hd) _ _ ⟨G', A, r'⟩
  | er x => exact fun dd H1 G2 k1 c1 n e => (show RsE B H0 G0 X x from hd) dd H1 G2 k1 (c0.trans c1) (c0.fr _ n) e
def ouR : Rx → M Ou
  | .ok d => M.ret (.rt d)
  | .er x => M.ret (.er x)
theorem sv_retX {t : XK → TE} {m : Env → M Rx} (h : EvX S t m) : SvD S X (tRet (t X)) (fun ρ => M.bnd (m (peek ρ)) ouR) := fun B H0 G0 σ H ρ E ⟨G, A, r⟩ q => by
  obtain ⟨G1, k, er, c0, back⟩ := r.peek
  refine h B σ H G1 (peek ρ) _ X k er ((m (peek ρ)).mono (fun d hd => ?_) q)
  cases d with
  | ok d => exact fun v H1 G2 k1 c1 r1 => (show ∀ v H G, Ok B H G → Ch B H0 G0 H G → Rp S B G v d → E.rt v H from hd) v H1 G2 k1 (c0.trans c1) r1
  | er x => exact fun dd H1 G2 k1 c1 n e => (show RsE B H0 G0 X x from hd) dd H1 G2 k1 (c0.trans c1) (c0.fr _ n) e
def ouS (ρ : Ev) (i : Nat) : Rx → M Ou
  | .ok d => M.ret (.nx (ρ.set i (some (.f d))))
  | .er x => M.ret (.er x)
theorem sv_asgX {t : XK → TE} {m : Env → M Rx} {i : Nat} (h : EvX S t m) : SvD S X (tAsg (t X) (gName i)) (fun ρ => M.bnd (m (mask ρ)) (ouS ρ i)) := fun B H0 G0 σ H ρ E ⟨G, A, r⟩ q =>
  h B σ H G (mask ρ) _ X r.ok r.mask ((m (mask ρ)).mono (fun d hd => by
    cases d with
    | ok d => exact fun v H1 G1 k1 c1 r1 => (show ∀ σ H, Rs S B H0 G0 σ H (ρ.set i (some (.f d))) → E.nx σ H from hd) _ _ ⟨G1, A, (r.step k1 c1).set r1 i⟩
    | er x => exact fun dd H1 G2 k1 c1 n e => (show RsE B H0 G0 X x from hd) dd H1 G2 k1 (r.ch.trans c1) (r.ch.fr _ n) e) q)
def outX (P : Rx → Prop) : Ou → Prop
  | .rt d => P (.ok d)
  | .rl l => P (.ok (.lst l))
  | .nx _ => P (.ok .non)
  | .er x => P (.er x)
  | _ => False
theorem run_X {N : List Str} {t : TS} {g : Ev → M Ou} {f : List D → M Rx} (h : SvD S X t g) (ref : ∀ ds P, (f ds).run P → (g (startE N.length ds)).run (outX P)) {vs : List V} {H : Hp} {Q : VK} (sp : spX S f vs H Q X) : t { nx := fun _ H' => Q .non H', rt := Q } (L2.start N vs) H := by
  obtain ⟨B, G, ds, k, r, q⟩ := sp
  refine h B H G _ H _ _ (start_rs k r) (M.mono _ (fun o ho => ?_) (ref ds _ q))
  cases o with
  | nx ρ => exact fun σ H' ⟨G', A, r'⟩ => (show Rs1 S B H G Q .non from ho) .non H' G' r'.ok r'.ch .non
  | rt d => exact ho
  | rl l => exact fun p xs H' G' a k' c b d r' => Rs1.frz k (show Rs1 S B H G Q (.lst l) from ho) p xs H' G' a k' c b d r'
  | er x => exact ho
  | bk ρ => exact ho.elim
  | ct ρ => exact ho.elim
theorem M.sel_map {α β : Type} {f : α → M (Option β)} {R : α → β → Prop} : ∀ {l : List α}, (∀ a ∈ l, (f a).run fun o => ∃ b, o = some b ∧ R a b) → (M.sel f l).run (Paired R l)
  | [], _ => .nil
  | a :: l, h => (f a).mono (fun o ⟨b, e, hb⟩ => by
      subst e
      exact (M.sel f l).mono (fun bs hbs => .cons hb hbs) (M.sel_map fun x hx => h x (List.mem_cons_of_mem _ hx))) (h a (List.mem_cons_self ..))
theorem Paired.right {α β : Type} {R : α → β → Prop} {P : β → Prop} (h : ∀ a b, R a b → P b) : ∀ {l : List α} {m : List β}, Paired R l m → ∀ b ∈ m, P b
  | _, _, .nil => fun b hb => nomatch hb
  | _, _, .cons r t => fun b hb => (List.mem_cons.mp hb).elim (fun e => by subst e; exact h _ _ r) (Paired.right h t b)
end Dv
namespace Dv
open PySem PySem.Spec PyProof.Rows L2 RZ Sg Tm Wb
def WD (K : PySem.W.Frag) (C : Addr) (H : Hp) (x : Addr) (n : Int) (As Ms : List Ks) : Prop := ∃ U V, WX K C H x n U V ∧ U.map (·.2) = As ∧ V.map (·.2) = Ms
abbrev mkS (K : PySem.W.Frag) (C : Addr) (T : List (Addr × Str)) (cls : Str → Addr) : Base where
  K := K
  C := C
  T := T
  cls := cls
  W := WD K C
  mono := fun s ⟨U, V, h, a, b⟩ => ⟨U, V, h.same s, a, b⟩
  ins := fun ⟨U, V, h, _, _⟩ => by
    obtain ⟨dx, pl, ar, mr, ow, bw, h1, _⟩ := h.w.ex
    refine ⟨dx, _, h1, fun m hm => ?_⟩
    simp only [List.mem_cons, List.not_mem_nil, or_false, not_or] at hm
    obtain ⟨e1, e2, e3, e4, e5⟩ := hm
    rw [flds_eq]
    simp only [List.lookup, beq_eq_false_iff_ne.mpr e1, beq_eq_false_iff_ne.mpr e2, beq_eq_false_iff_ne.mpr e3, beq_eq_false_iff_ne.mpr e4, beq_eq_false_iff_ne.mpr e5]
section
variable {P : Program} {w : World} {K : PySem.W.Frag} {mg : Str → Option Value} {base : Heap} {C : Addr} {T : List (Addr × Str)} {cls : Str → Addr}
theorem Df.to {k : Nat} {x : Str} {ps : List Str} {sp sp' : Sp} {f : Addr} {fd : FuncData} (d : Df P w K mg base k x ps sp f fd) (h : ∀ vs H Q E, sp' vs H Q E → sp vs H Q E) : Df P w K mg base k x ps sp' f fd := ⟨d.ok.imp h, d.gl, d.kp, d.bd⟩
theorem box_ok {S : Base} {B : Bo S} {H H' G : Hp} {b q : Addr} (k : Ok B H G) (e : B.bq = some (b, q)) (hb : Bx H' b q) (kp : Kp b H H') : Ok B H' G ∧ Ch B H G H' G := by
  have ne : ∀ {a}, (∀ q, B.bq ≠ some (a, q)) → a ≠ b := fun {a} n z => n q (by rw [z]; exact e)
  refine old_ok k (fun a o n _ h => by rw [kp a (ne n)]; exact h) (fun a h => ?_) (fun b' q' e' => ?_) ?_
  · by_cases z : a = b
    · subst z
      obtain ⟨ns, i, r, kk, e1, _⟩ := hb
      obtain ⟨ps, e2⟩ := h _ e1
      cases e2
    · exact fun o e => h o (by rw [kp a z]; exact e)
  · rw [e] at e'
    cases e'
    exact hb
  · obtain ⟨ns, i, r, kk, e1, _⟩ := k.bx b q e
    exact tabs_but e1 (fun c o n h => by rw [kp c n]; exact h) k.tb
def takeM : List D → M D
  | [.box, .int n] => M.bnd (M.req (0 < n ∧ n < 2 ^ 100)) fun _ => M.bnd (M.all fun v : Int => 0 ≤ v ∧ v < n) fun v => M.ret (.int v)
  | _ => M.fail
theorem sp_take {vs : List V} {H : Hp} {Q : VK} {E : XK} (h : spD (mkS K C T cls) takeM vs H Q E) : spTake vs H Q E := by
  obtain ⟨B, G, ds, k, r, h⟩ := h
  unfold takeM at h
  split at h
  · cases r with
    | cons r1 r2 =>
      cases r1 with
      | box e =>
        cases r2 with
        | cons r2 r3 =>
          cases r2
          cases r3
          refine ⟨_, _, _, rfl, k.bx _ _ e, h.1.1, h.1.2, fun v H' v0 v1 hb kp => ?_⟩
          obtain ⟨k1, c1⟩ := box_ok k e hb kp
          exact (show Rs1 _ B H G Q (.int v) from h.2 v ⟨v0, v1⟩) _ H' G k1 c1 (.int v)
  · exact h.elim
def oneM : List D → M D
  | [.box, .lst ds] => M.bnd (M.req (ds ≠ [] ∧ ds.length ≤ 1000)) fun _ => M.all fun d => d ∈ ds
  | [.box, .str z] => M.bnd (M.req (0 < z.length ∧ z.length ≤ 1000)) fun _ => M.bnd (M.all fun c => c ∈ z.cps.toList) fun c => M.ret (.str ⟨#[c]⟩)
  | _ => M.fail
theorem sp_one {vs : List V} {H : Hp} {Q : VK} {E : XK} (h : spD (mkS K C T cls) oneM vs H Q E) : spOne K vs H Q E := by
  obtain ⟨B, G, ds, k, r, h⟩ := h
  unfold oneM at h
  split at h
  · cases r with
    | cons r1 r2 =>
      cases r1 with
      | box e =>
        cases r2 with
        | cons r2 r3 =>
          cases r3
          cases r2 with
          | lst ha hr =>
            refine .inl ⟨_, _, _, _, rfl, k.bx _ _ e, SqL.of (k.sub _ _ ha), fun z => ?_, fun z => h.1.1 ?_, by rw [hr.length]; exact h.1.2, fun v H' hv hb kp => ?_⟩
            · rw [z, k.nm _ _ e] at ha; cases ha
            · rw [z] at hr; cases hr; rfl
            · obtain ⟨k1, c1⟩ := box_ok k e hb kp
              obtain ⟨i, hi⟩ := List.getElem?_of_mem hv
              obtain ⟨d, h1, h2⟩ := hr.getV hi
              exact (show Rs1 _ B H G Q d from h.2 d (List.mem_of_getElem? h1)) _ H' G k1 c1 h2
  · cases r with
    | cons r1 r2 =>
      cases r1 with
      | box e =>
        cases r2 with
        | cons r2 r3 =>
          cases r3
          cases r2
          refine .inr ⟨_, _, _, rfl, k.bx _ _ e, h.1.1, h.1.2, fun c H' hc hb kp => ?_⟩
          obtain ⟨k1, c1⟩ := box_ok k e hb kp
          exact (show Rs1 _ B H G Q _ from h.2 c hc) _ H' G k1 c1 (.str _)
  · exact h.elim
structure SrtK (l u : List Ks) : Prop where
  of : ∀ k ∈ u, k ∈ l
  all : ∀ k ∈ l, k ∈ u
  nd : u.Nodup
  ris : u.Pairwise fun p q => TS.code 128 (p.map numK) ≤ TS.code 128 (q.map numK)
theorem srtK_of {ks U : List TK} (h : Srt ks U) : SrtK (ks.map (·.2)) (U.map (·.2)) := by
  refine ⟨fun k hk => ?_, fun k hk => ?_, h.nd, ?_⟩
  · obtain ⟨p, hp, rfl⟩ := List.mem_map.mp hk
    exact List.mem_map.mpr ⟨p, h.of p hp, rfl⟩
  · obtain ⟨p, hp, rfl⟩ := List.mem_map.mp hk
    exact h.all p hp
  · rw [List.pairwise_map]
    exact h.ris
def unlM : List D → M (List D)
  | [.lst es] => M.bnd (M.choose fun l : List Ks => es = l.map tieD ∧ (∃ d, ∀ k ∈ l, TieK 128 d k) ∧ l.length < 19600) fun l => M.bnd (M.all fun u => SrtK l u) fun u => M.ret (u.map tieD)
  | _ => M.fail
theorem sp_unl {vs : List V} {H : Hp} {Q : VK} {E : XK} (h : spL (mkS K C T cls) unlM vs H Q E) : spUnl K vs H Q E := by
  obtain ⟨B, G, ds, k, r, h⟩ := h
  unfold unlM at h
  split at h
  · obtain ⟨l, ⟨rfl, ⟨d, hd⟩, h64⟩, h⟩ := h
    cases r with
    | cons r1 r2 =>
      cases r2
      obtain ⟨a, ks, rfl, h1, h2, h3⟩ := list_of (l := l) r1
      subst h3
      refine ⟨a, ks, d, rfl, k.sub _ _ h1, fun p hp => sub_tup k.sub (h2 p hp), fun p hp => hd _ (List.mem_map.mpr ⟨p, hp, rfl⟩), by rw [List.length_map] at h64; exact h64, fun p U H' np hp hs sm => ?_⟩
      obtain ⟨k1, c1⟩ := old_ok k (fun a o _ _ e => sm a o e) (fun a e => FrA.sub (show Sub H H' from sm) e) (fun b q e => (k.bx b q e).sub sm) (tabs_sub sm k.tb)
      exact (show Rs2 _ B H G Q ((U.map (·.2)).map tieD) from h _ (srtK_of hs)) p _ H' G (FrA.of np) k1 c1 hp (k.sub.free np) (rp_refs fun z hz => h2 z (hs.of z hz))
  · exact h.elim
def GoodW (n : Int) (As Ms : List Ks) : Prop := 0 ≤ n ∧ n ≤ 81 ∧ (∀ k ∈ As, AK n k) ∧ (∀ k ∈ Ms, MK n k) ∧ As.length < 19600 ∧ Ms.length < 19600
def mkM (n : Int) (es fs : List D) : M D :=
  M.bnd (M.choose fun p : List Ks × List Ks => es = p.1.map tieD ∧ fs = p.2.map tieD ∧ GoodW n p.1 p.2) fun p => M.bnd (M.all fun u : List Ks × List Ks => SrtK p.1 u.1 ∧ SrtK p.2 u.2) fun u => M.ret (.web n u.1 u.2)
theorem mk_D {S : Base} (hS : S = mkS K C T cls) {B : Bo S} {H G : Hp} (k : Ok B H G) {Q : VK} {n : Int} {es fs : List D} (h : (mkM n es fs).run (Rs1 S B H G Q)) {va vm : V} (ra : Rp S B G va (.lst es)) (rm : Rp S B G vm (.lst fs)) {x dx : Addr} (nx : H x = none) (ndx : H dx = none) (ne : dx ≠ x) {E : XK} : spInit K C [.ref x, .int n, va, vm] (upd (upd H dx (.own x)) x (.ins C dx [])) (fun v H3 => v = .non ∧ Q (.ref x) H3) E := by
  subst hS
  obtain ⟨⟨la, lm⟩, ⟨rfl, rfl, h0, h1, gA, gM, l1, l2⟩, h⟩ := h
  obtain ⟨a, ka, rfl, e1, e2, rfl⟩ := list_of (l := la) ra
  obtain ⟨m, km, rfl, f1, f2, rfl⟩ := list_of (l := lm) rm
  have gA' : ∀ p ∈ ka, AK n p.2 := fun p hp => gA _ (List.mem_map.mpr ⟨p, hp, rfl⟩)
  have gM' : ∀ p ∈ km, MK n p.2 := fun p hp => gM _ (List.mem_map.mpr ⟨p, hp, rfl⟩)
  rw [List.length_map] at l1 l2
  refine mk_use nx ndx ne h0 h1 ⟨.inl (SqL.of (k.sub _ _ e1)), fun p hp => sub_tup k.sub (e2 p hp)⟩ gA' l1 ⟨.inl (SqL.of (k.sub _ _ f1)), fun p hp => sub_tup k.sub (f2 p hp)⟩ gM' l2 fun J' As Ms W sA sM sm => ?_
  obtain ⟨k1, c1⟩ := newG_same k (show Sub H J' from sm)
  have w1 : WebAt C (fun a => match H a with | none => J' a | some _ => newG H J' G a) x n As Ms := W _ fun c o hc he => by
    show (match H c with | none => J' c | some _ => _) = _
    rw [hc]; exact he
  have w2 : WebAt C (newG H J' G) x n As Ms := w1.extN fun b o hb hn => by
    cases hh : H b with
    | none =>
      simp only [hh] at hb
      rw [newG_none hh, hb]
      exact noTab_go hn
    | some u =>
      simp only [hh] at hb
      exact hb
  have b1 := sA.len
  have b2 := sM.len
  exact (show Rs1 _ B H G Q (.web n (As.map (·.2)) (Ms.map (·.2))) from h (As.map (fun p : TK => p.2), Ms.map (fun p : TK => p.2)) ⟨srtK_of sA, srtK_of sM⟩) _ J' _ k1 c1 (.web ⟨As, Ms, ⟨w2, fun z hz => sub_tup c1.ext (e2 z (sA.of z hz)), fun z hz => sub_tup c1.ext (f2 z (sM.of z hz)), fun z hz => gA' z (sA.of z hz), fun z hz => gM' z (sM.of z hz), by omega, by omega, h0, h1⟩, rfl, rfl⟩)
def mk2 : List D → List D → M D
  | [.int n], [.lst es, .lst fs] => mkM n es fs
  | _, _ => M.fail
theorem ed_mk2 {E : XK} {t tk : TA} {m mk : Env → M (List D)} (h : EvA (mkS K C T cls) t m) (hk : EvA (mkS K C T cls) tk mk) : EvD (mkS K C T cls) (tMakeK C 1 (["arrows", "marks"] : List Str).length (spInit K C) (fun vs zs => g2 vs [] zs) E t tk) (fun ρ => M.bnd (m ρ) fun l => M.bnd (mk ρ) fun z => mk2 l z) := fun B σ H G ρ Q k er q =>
  h B σ H G ρ _ k er ((m ρ).mono (fun l hl vs H1 G1 k1 c1 r1 => hk B σ H1 G1 ρ _ k1 (er.mono c1.ext) ((mk ρ).mono (fun z hz zs H2 G2 k2 c2 r2 => by
    have hz : (mk2 l z).run (Rs1 (mkS K C T cls) B H G Q) := hz
    unfold mk2 at hz
    split at hz
    · have r1' := r1.mono c2.ext
      cases r1' with
      | cons a b =>
        cases a
        cases b
        cases r2 with
        | cons a b =>
          cases b with
          | cons b c =>
            cases c
            exact ⟨rfl, rfl, fun x dx nx ndx ne => mk_D rfl k2 (M.mono _ (fun y hy => Rs1.after (c1.trans c2) hy) hz) a b nx ndx ne⟩
    · exact hz.elim) hl)) q)
def ptsM : List D → M D
  | [.web n _ _] => M.ret (.int n)
  | _ => M.fail
def arrM : List D → M (List D)
  | [.web _ As _] => M.ret (As.map tieD)
  | _ => M.fail
def mrkM : List D → M (List D)
  | [.web _ _ Ms] => M.ret (Ms.map tieD)
  | _ => M.fail
theorem sp_pts {vs : List V} {H : Hp} {Q : VK} {E : XK} (h : spD (mkS K C T cls) ptsM vs H Q E) : spPts C vs H Q E := by
  obtain ⟨B, G, ds, k, r, h⟩ := h
  unfold ptsM at h
  split at h
  · cases r with
    | cons r1 r2 =>
      cases r2
      cases r1 with
      | web hw =>
        obtain ⟨U, V, w, e1, e2⟩ := hw
        exact ⟨_, _, U, V, rfl, (w.same k.sub).w, w.n0, Rs1.now k h (.int _)⟩
  · exact h.elim
theorem sp_arr {vs : List V} {H : Hp} {Q : VK} {E : XK} (h : spL (mkS K C T cls) arrM vs H Q E) : spArr C vs H Q E := by
  obtain ⟨B, G, ds, k, r, h⟩ := h
  unfold arrM at h
  split at h
  · cases r with
    | cons r1 r2 =>
      cases r2
      cases r1 with
      | web hw =>
        obtain ⟨U, V, w, rfl, e2⟩ := hw
        exact ⟨_, _, U, V, rfl, (w.same k.sub).w, fun p hp => Rs2.lay k h (rp_refs w.qa) hp⟩
  · exact h.elim
theorem sp_mrk {vs : List V} {H : Hp} {Q : VK} {E : XK} (h : spL (mkS K C T cls) mrkM vs H Q E) : spMrk C vs H Q E := by
  obtain ⟨B, G, ds, k, r, h⟩ := h
  unfold mrkM at h
  split at h
  · cases r with
    | cons r1 r2 =>
      cases r2
      cases r1 with
      | web hw =>
        obtain ⟨U, V, w, e1, rfl⟩ := hw
        exact ⟨_, _, U, V, rfl, (w.same k.sub).w, fun p hp => Rs2.lay k h (rp_refs w.qm) hp⟩
  · exact h.elim
theorem sv_plain {S : Base} {B : Bo S} {G H : Hp} (s : Sub G H) (hK : S.K = K) : ∀ (n : Nat) {v u : V} {d : D}, d.deep ≤ n → d.plain = true → d.thin = true → Rp S B G v d → Rp S B G u d → Sv K H n v u := by
  subst hK
  intro n
  induction n with
  | zero =>
    intro v u d h1 h2 h3 r1 r2
    cases r1 <;> cases r2 <;> first
      | exact ⟨rfl, rfl⟩
      | cases h2
      | (simp only [D.deep] at h1; omega)
  | succ n ih =>
    intro v u d h1 h2 h3 r1 r2
    have all : ∀ {xs ys : List V} {ds : List D}, deepL ds ≤ n → plainL ds = true → thinL ds = true → RpA S B G xs ds → RpA S B G ys ds → Paired (Sv S.K H n) xs ys := by
      intro xs ys ds
      induction ds generalizing xs ys with
      | nil => intro _ _ _ a b; cases a; cases b; exact .nil
      | cons d ds ih2 =>
        intro g1 g2 g3 a b
        simp only [deepL, plainL, thinL, Bool.and_eq_true] at g1 g2 g3
        cases a with
        | cons a1 a2 =>
          cases b with
          | cons b1 b2 => exact .cons (ih (by omega) g2.1 g3.1 a1 b1) (ih2 (by omega) g2.2 g3.2 a2 b2)
    cases r1 with
    | lst ha hr =>
      cases r2 with
      | lst hb hs =>
        simp only [D.deep, D.plain, D.thin, Bool.and_eq_true, decide_eq_true_eq] at h1 h2 h3
        exact .inr ⟨_, _, _, _, rfl, rfl, .inl ⟨SqL.of (s _ _ ha), SqL.of (s _ _ hb)⟩, by rw [hr.length]; exact h3.1, all (by omega) h2 h3.2 hr hs⟩
    | tup ha hr =>
      cases r2 with
      | tup hb hs =>
        simp only [D.deep, D.plain, D.thin, Bool.and_eq_true, decide_eq_true_eq] at h1 h2 h3
        exact .inr ⟨_, _, _, _, rfl, rfl, .inr ⟨sub_tup s ha, sub_tup s hb⟩, by rw [hr.length]; exact h3.1, all (by omega) h2 h3.2 hr hs⟩
    | non => cases r2; exact .inl ⟨rfl, rfl⟩
    | bl b => cases r2; exact .inl ⟨rfl, rfl⟩
    | int i => cases r2; exact .inl ⟨rfl, rfl⟩
    | str x => cases r2; exact .inl ⟨rfl, rfl⟩
    | web _ => cases h2
    | dk _ _ _ => cases h2
    | dt _ _ _ => cases h2
    | box _ => cases h2
    | obj _ _ => cases h2
def sameM (n : Nat) : List D → M D
  | [x, y] => M.bnd (M.req (x = y ∧ y.deep ≤ n ∧ y.plain = true ∧ y.thin = true)) fun _ => M.ret (.bl true)
  | _ => M.fail
theorem sp_same {n : Nat} {vs : List V} {H : Hp} {Q : VK} {E : XK} (h : spD (mkS K C T cls) (sameM n) vs H Q E) : spSame K n vs H Q E := by
  obtain ⟨B, G, ds, k, r, h⟩ := h
  unfold sameM at h
  split at h
  · cases r with
    | cons r1 r2 =>
      cases r2 with
      | cons r2 r3 =>
        cases r3
        obtain ⟨rfl, h1, h2, h3⟩ := h.1
        refine ⟨_, _, rfl, sv_plain k.sub rfl n h1 h2 h3 r1 r2, fun H' sm => ?_⟩
        obtain ⟨k1, c1⟩ := old_ok k (fun a o _ _ e => sm a o e) (fun a e => FrA.sub (show Sub H H' from sm) e) (fun b q e => (k.bx b q e).sub sm) (tabs_sub sm k.tb)
        exact (show Rs1 _ B H G Q (.bl true) from h.2) _ H' G k1 c1 (.bl true)
  · exact h.elim
end
end Dv
namespace Dv
open PySem PySem.Spec PyProof.Rows L2 Sg
section
variable {α β : Type}
theorem run_bnd (m : M α) (f : α → M β) (Q : β → Prop) : (M.bnd m f).run Q = m.run fun a => (f a).run Q := rfl
theorem run_ret (a : α) (Q : α → Prop) : (M.ret a).run Q = Q a := rfl
theorem run_opt (a : α) (Q : α → Prop) : (M.opt (some a)).run Q = Q a := rfl
theorem run_req (p : Prop) (Q : Unit → Prop) : (M.req p).run Q = (p ∧ Q ()) := rfl
theorem run_all (p : α → Prop) (Q : α → Prop) : (M.all p).run Q = ∀ a, p a → Q a := rfl
theorem run_choose (p : α → Prop) (Q : α → Prop) : (M.choose p).run Q = ∃ a, p a ∧ Q a := rfl
theorem run_ite (c : Prop) [Decidable c] (m n : M α) (Q : α → Prop) : (if c then m else n).run Q = if c then m.run Q else n.run Q := by split <;> rfl
end
theorem then_nx (g : Ev → M Ou) (ρ : Ev) : thenM g (.nx ρ) = g ρ := rfl
theorem then_rt (g : Ev → M Ou) (d : D) : thenM g (.rt d) = M.ret (.rt d) := rfl
theorem then_rl (g : Ev → M Ou) (l : List D) : thenM g (.rl l) = M.ret (.rl l) := rfl
theorem then_er (g : Ev → M Ou) (x : Exn) : thenM g (.er x) = M.ret (.er x) := rfl
theorem then_ct (g : Ev → M Ou) (ρ : Ev) : thenM g (.ct ρ) = M.ret (.ct ρ) := rfl
theorem then_bk (g : Ev → M Ou) (ρ : Ev) : thenM g (.bk ρ) = M.ret (.bk ρ) := rfl
theorem outD_rt (P : D → Prop) (d : D) : outD P (.rt d) = P d := rfl
theorem outD_rl (P : D → Prop) (l : List D) : outD P (.rl l) = P (.lst l) := rfl
theorem outD_nx (P : D → Prop) (ρ : Ev) : outD P (.nx ρ) = P .non := rfl
theorem outL_rl (P : List D → Prop) (l : List D) : outL P (.rl l) = P l := rfl
theorem outX_rt (P : Rx → Prop) (d : D) : outX P (.rt d) = P (.ok d) := rfl
theorem outX_rl (P : Rx → Prop) (l : List D) : outX P (.rl l) = P (.ok (.lst l)) := rfl
theorem outX_nx (P : Rx → Prop) (ρ : Ev) : outX P (.nx ρ) = P (.ok .non) := rfl
theorem outX_er (P : Rx → Prop) (x : Exn) : outX P (.er x) = P (.er x) := rfl
def pk (s : Option Sl) : Option D := s.map Sl.data
def mk0 (s : Option Sl) : Option D := s.bind fun s => match s with | .f d => some d | _ => none
theorem mask_nil : mask [] = [] := rfl
theorem mask_cons (s : Option Sl) (ρ : Ev) : mask (s :: ρ) = mk0 s :: mask ρ := rfl
theorem mk0_f (d : D) : mk0 (some (.f d)) = some d := rfl
theorem mk0_o (l : List D) : mk0 (some (.o l)) = none := rfl
theorem mk0_od (l : List (Key × D)) : mk0 (some (.od l)) = none := rfl
theorem mk0_ot (l : List (Ks × D)) : mk0 (some (.ot l)) = none := rfl
theorem mk0_n : mk0 none = none := rfl
theorem peek_nil : peek [] = [] := rfl
theorem peek_cons (s : Option Sl) (ρ : Ev) : peek (s :: ρ) = pk s :: peek ρ := rfl
theorem pk_f (d : D) : pk (some (.f d)) = some d := rfl
theorem pk_o (l : List D) : pk (some (.o l)) = some (.lst l) := rfl
theorem pk_od (l : List (Key × D)) : pk (some (.od l)) = some (.dk l) := rfl
theorem pk_ot (l : List (Ks × D)) : pk (some (.ot l)) = some (.dt l) := rfl
theorem pk_n : pk none = none := rfl
theorem dOf_int (i : Int) : dOf (.int i) = some (.int i) := rfl
theorem dOf_bl (b : Bool) : dOf (.bl b) = some (.bl b) := rfl
theorem dOf_str (x : Str) : dOf (.str x) = some (.str x) := rfl
theorem dOf_non : dOf .non = some .non := rfl
theorem opI0_int (g : Int → Int → V) (i j : Int) : opI0 g (.int i) (.int j) = M.opt (dOf (g i j)) := rfl
theorem opI_int (C : Int → Int → Prop) (g : Int → Int → V) (i j : Int) : opI C g (.int i) (.int j) = M.bnd (M.req (C i j)) fun _ => M.opt (dOf (g i j)) := rfl
theorem unI_int (g : Int → V) (i : Int) : unI g (.int i) = M.opt (dOf (g i)) := rfl
theorem asB_bl (b : Bool) : asB (.bl b) = M.ret b := rfl
theorem asI_int (i : Int) : asI (.int i) = M.ret i := rfl
theorem asL_lst (l : List D) : asL (.lst l) = M.ret l := rfl
theorem asT_tup (l : List D) : asT (.tup l) = M.ret l := rfl
theorem asW_web (n : Int) (As Ms : List Ks) : asW (.web n As Ms) = M.ret (.web n As Ms) := rfl
theorem eqS_int (i j : Int) : eqS (.int i) (.int j) = M.ret (decide (i = j)) := by
  unfold eqS vOf eqO
  show (⟨_, _⟩ : M Bool) = ⟨_, _⟩
  congr 1
  funext Q
  show (scal (.int i) (.int j) = true ∧ Q (decide (V.int i = V.int j))) = Q (decide (i = j))
  have : decide (V.int i = V.int j) = decide (i = j) := by
    rw [Bool.eq_iff_iff, decide_eq_true_eq, decide_eq_true_eq]
    exact ⟨V.int.inj, fun h => by rw [h]⟩
  rw [this]
  exact propext ⟨fun h => h.2, fun h => ⟨rfl, h⟩⟩
theorem eqS_str (i j : Str) : eqS (.str i) (.str j) = M.ret (decide (i = j)) := by
  unfold eqS vOf eqO
  show (⟨_, _⟩ : M Bool) = ⟨_, _⟩
  congr 1
  funext Q
  show (scal (.str i) (.str j) = true ∧ Q (decide (V.str i = V.str j))) = Q (decide (i = j))
  have : decide (V.str i = V.str j) = decide (i = j) := by
    rw [Bool.eq_iff_iff, decide_eq_true_eq, decide_eq_true_eq]
    exact ⟨V.str.inj, fun h => by rw [h]⟩
  rw [this]
  exact propext ⟨fun h => h.2, fun h => ⟨rfl, h⟩⟩
theorem ixL_lst (l : List D) (i : Int) : ixL (.lst l) (.int i) = M.opt (L2.atI l i) := rfl
theorem ixT_tup (l : List D) (i : Int) : ixT (.tup l) (.int i) = M.opt (L2.atI l i) := rfl
theorem ixQ_lst (l : List D) (i : Int) : ixQ (.lst l) (.int i) = M.opt (L2.atI l i) := rfl
theorem ixQ_tup (l : List D) (i : Int) : ixQ (.tup l) (.int i) = M.opt (L2.atI l i) := rfl
theorem lenD_lst (l : List D) : lenD [.lst l] = M.ret (.int (l.length : Int)) := rfl
theorem lenD_tup (l : List D) : lenD [.tup l] = M.ret (.int (l.length : Int)) := rfl
theorem listD_lst (l : List D) : listD [.lst l] = M.ret l := rfl
theorem listD_tup (l : List D) : listD [.tup l] = M.ret l := rfl
theorem catD_lst (a b : List D) : catD (.lst a) (.lst b) = M.bnd (M.req (a.length + b.length ≤ 100000)) fun _ => M.ret (a ++ b) := rfl
theorem rng1_int (j : Int) : rng1 [.int j] = M.bnd (M.req (-(2 ^ 62) ≤ j ∧ j < 2 ^ 62)) fun _ => M.ret (rngD 0 j.toNat) := rfl
theorem rng2_int (i j : Int) : rng2 [.int i, .int j] = M.bnd (M.req (-(2 ^ 62) ≤ i ∧ i < 2 ^ 62 ∧ -(2 ^ 62) ≤ j ∧ j < 2 ^ 62)) fun _ => M.ret (rngD i (j - i).toNat) := rfl
theorem sName_go (j : Nat) (d : D) (ρ : Ev) : sName j d ρ = M.ret (ρ.set j (some (.f d))) := rfl
theorem sTup_go (n : Nat) (bs : List D → Ev → M Ev) (l : List D) (ρ : Ev) : sTup n bs (.tup l) ρ = M.bnd (M.req (l.length = n)) fun _ => bs l ρ := rfl
theorem sCons_go (b : D → Ev → M Ev) (bs : List D → Ev → M Ev) (d : D) (l : List D) (ρ : Ev) : sCons b bs (d :: l) ρ = M.bnd (b d ρ) fun ρ' => bs l ρ' := rfl
theorem sNil_go (ρ : Ev) : sNil [] ρ = M.ret ρ := rfl
theorem bTup_go (n : Nat) (bs : List D → Env → M Env) (l : List D) (ρ : Env) : bTup n bs (.tup l) ρ = M.bnd (M.req (l.length = n)) fun _ => bs l ρ := rfl
theorem bCons_go (b : D → Env → M Env) (bs : List D → Env → M Env) (d : D) (l : List D) (ρ : Env) : bCons b bs (d :: l) ρ = M.bnd (b d ρ) fun ρ' => bs l ρ' := rfl
theorem bNil_go (ρ : Env) : bNil [] ρ = M.ret ρ := rfl
theorem two_go (i j : Nat) (ρ : Ev) (d e : D) : two i j ρ [d, e] = M.ret (.nx ((ρ.set i (some (.f d))).set j (some (.f e)))) := rfl
theorem atI_0 {α : Type} (x : α) (l : List α) : L2.atI (x :: l) 0 = some x := by
  unfold L2.atI ixN
  rw [if_pos (by decide), if_pos (by simp only [List.length_cons]; omega)]
  rfl
theorem atI_1 {α : Type} (x y : α) (l : List α) : L2.atI (x :: y :: l) 1 = some y := by
  unfold L2.atI ixN
  rw [if_pos (by decide), if_pos (by simp only [List.length_cons]; omega)]
  rfl
theorem atI_2 {α : Type} (x y z : α) (l : List α) : L2.atI (x :: y :: z :: l) 2 = some z := by
  unfold L2.atI ixN
  rw [if_pos (by decide), if_pos (by simp only [List.length_cons]; omega)]
  rfl
theorem ex_ret {α : Type} {m : M α} {P : α → Prop} (h : m.run P) {Q : α → Prop} (k : ∀ a, P a → Q a) : m.run Q := m.mono k h
end Dv
namespace Dv
open PySem PySem.Spec PyProof.Rows L2 Sg
variable {S : Base} {B : Bo S}
mutual
def D.py : D → PyData
  | .non => .none
  | .bl b => .bool b
  | .int i => .int i
  | .str x => .str x
  | .lst l => .list (pyL l)
  | .tup l => .tuple (pyL l)
  | _ => .none
def pyL : List D → List PyData
  | [] => []
  | d :: l => d.py :: pyL l
end
mutual
theorem dp_of {G H : Hp} (s : Sub G H) : ∀ {v : V} {d : D}, d.plain = true → Rp S B G v d → Dp S.K H v d.py
  | _, _, _, .non => .non
  | _, _, _, .bl b => .bl b
  | _, _, _, .int i => .int i
  | _, _, _, .str x => .str x
  | _, _, p, .lst h r => .lst (SqL.of (s _ _ h)) (dp_ofA s (by simpa only [D.plain] using p) r)
  | _, _, p, .tup h r => .tup (sub_tup s h) (dp_ofA s (by simpa only [D.plain] using p) r)
  | _, _, p, .web _ => by simp only [D.plain] at p; cases p
  | _, _, p, .dk _ _ _ => by simp only [D.plain] at p; cases p
  | _, _, p, .dt _ _ _ => by simp only [D.plain] at p; cases p
  | _, _, p, .box _ => by simp only [D.plain] at p; cases p
  | _, _, p, .obj _ _ => by simp only [D.plain] at p; cases p
theorem dp_ofA {G H : Hp} (s : Sub G H) : ∀ {vs : List V} {ds : List D}, plainL ds = true → RpA S B G vs ds → DpAll S.K H vs (pyL ds)
  | _, _, _, .nil => .nil
  | _, _, p, .cons h r => by
    simp only [plainL, Bool.and_eq_true] at p
    exact .cons (dp_of s p.1 h) (dp_ofA s p.2 r)
end
mutual
def D.sok : D → Bool
  | .str x => PyData.strOk x
  | .lst l => sokL l
  | .tup l => sokL l
  | _ => true
def sokL : List D → Bool
  | [] => true
  | d :: l => d.sok && sokL l
end
mutual
theorem can_of : ∀ {d : D}, d.plain = true → d.sok = true → PyData.canLay0 d.py = true
  | .non, _, _ => by simp only [D.py, PyData.canLay0]
  | .bl _, _, _ => by simp only [D.py, PyData.canLay0]
  | .int _, _, _ => by simp only [D.py, PyData.canLay0]
  | .str x, _, s => by simp only [D.py, PyData.canLay0]; simpa only [D.sok] using s
  | .lst l, p, s => by simp only [D.py, PyData.canLay0]; exact can_ofA (by simpa only [D.plain] using p) (by simpa only [D.sok] using s)
  | .tup l, p, s => by simp only [D.py, PyData.canLay0]; exact can_ofA (by simpa only [D.plain] using p) (by simpa only [D.sok] using s)
  | .web _ _ _, p, _ => by simp only [D.plain] at p; cases p
  | .dk _, p, _ => by simp only [D.plain] at p; cases p
  | .dt _, p, _ => by simp only [D.plain] at p; cases p
  | .box, p, _ => by simp only [D.plain] at p; cases p
  | .obj _, p, _ => by simp only [D.plain] at p; cases p
theorem can_ofA : ∀ {l : List D}, plainL l = true → sokL l = true → PyData.canLayAll0 (pyL l) = true
  | [], _, _ => by simp only [pyL, PyData.canLayAll0]
  | d :: l, p, s => by
    simp only [plainL, sokL, Bool.and_eq_true] at p s
    simp only [pyL, PyData.canLayAll0, can_of p.1 s.1, can_ofA p.2 s.2, Bool.and_self]
end
mutual
theorem deep_of : ∀ {d : D}, PyData.depth d.py ≤ d.deep
  | .non => by simp [D.py, PyData.depth]
  | .bl _ => by simp [D.py, PyData.depth]
  | .int _ => by simp [D.py, PyData.depth]
  | .str x => by simp [D.py, PyData.depth]
  | .lst l => by
    have := deep_ofA (l := l)
    simp only [D.py, PyData.depth, D.deep]; omega
  | .tup l => by
    have := deep_ofA (l := l)
    simp only [D.py, PyData.depth, D.deep]; omega
  | .web _ _ _ => by simp [D.py, PyData.depth]
  | .dk _ => by simp [D.py, PyData.depth]
  | .dt _ => by simp [D.py, PyData.depth]
  | .box => by simp [D.py, PyData.depth]
  | .obj _ => by simp [D.py, PyData.depth]
theorem deep_ofA : ∀ {l : List D}, PyData.depthAll (pyL l) ≤ deepL l
  | [] => by simp [pyL, PyData.depthAll]
  | d :: l => by
    have h1 := deep_of (d := d)
    have h2 := deep_ofA (l := l)
    simp only [pyL, PyData.depthAll, deepL]; omega
end
def D.good (d : D) : Prop := d.plain = true ∧ d.sok = true ∧ d.deep ≤ 60
theorem D.good.shaped {d : D} (h : d.good) : SeqAt.shaped d.py = true := by
  unfold SeqAt.shaped
  have := deep_of (d := d)
  have := h.2.2
  rw [can_of h.1 h.2.1, decide_eq_true (by omega)]
  rfl
def eqD (d e : D) : Bool := PyData.eqv d.py e.py
theorem r_eqD : R2D S (rEqD S.K) (fun d e => M.bnd (M.req (d.good ∧ e.good)) fun _ => M.ret (.bl (eqD d e))) := fun B H G x y d e Q k rx ry h =>
  ⟨d.py, e.py, dp_of k.sub h.1.1.1 rx, dp_of k.sub h.1.2.1 ry, h.1.1.shaped, h.1.2.shaped, Rs1.now k h.2 (.bl _)⟩
theorem r_neD : R2D S (rNeD S.K) (fun d e => M.bnd (M.req (d.good ∧ e.good)) fun _ => M.ret (.bl (!eqD d e))) := fun B H G x y d e Q k rx ry h =>
  ⟨d.py, e.py, dp_of k.sub h.1.1.1 rx, dp_of k.sub h.1.2.1 ry, h.1.1.shaped, h.1.2.shaped, Rs1.now k h.2 (.bl _)⟩
def inD (d : D) (l : List D) : Bool := l.any fun z => eqD z d
theorem any_py (d : D) : ∀ l : List D, ((pyL l).any fun z => PyData.eqv z d.py) = inD d l
  | [] => rfl
  | z :: l => by
    unfold inD
    rw [pyL, List.any_cons, List.any_cons, any_py d l]
    rfl
def inL (neg : Bool) : D → D → M D
  | d, .lst l => M.bnd (M.req (d.good ∧ (D.lst l).good)) fun _ => M.ret (.bl (if neg then !inD d l else inD d l))
  | _, _ => M.fail
theorem r_inD : R2D S (rInD S.K) (inL false) := fun B H G x y d e Q k rx ry h => by
  cases e <;> first
    | exact h.elim
    | (rename_i l
       have h2 := dp_of k.sub h.1.2.1 ry
       have h3 := h.1.2.shaped
       simp only [D.py] at h2 h3
       refine ⟨d.py, pyL l, dp_of k.sub h.1.1.1 rx, h2, h.1.1.shaped, h3, ?_⟩
       rw [any_py]
       exact Rs1.now k h.2 (.bl _))
theorem r_notInD : R2D S (rNotInD S.K) (inL true) := fun B H G x y d e Q k rx ry h => by
  cases e <;> first
    | exact h.elim
    | (rename_i l
       have h2 := dp_of k.sub h.1.2.1 ry
       have h3 := h.1.2.shaped
       simp only [D.py] at h2 h3
       refine ⟨d.py, pyL l, dp_of k.sub h.1.1.1 rx, h2, h.1.1.shaped, h3, ?_⟩
       rw [any_py]
       exact Rs1.now k h.2 (.bl _))
def allM : List D → M D
  | [.lst l] => M.bnd (M.choose fun bs : List Bool => l = bs.map D.bl) fun bs => M.ret (.bl (bs.all id))
  | _ => M.fail
theorem bls_of {G : Hp} : ∀ {xs : List V} {bs : List Bool}, RpA S B G xs (bs.map D.bl) → xs = bs.map V.bl
  | _, [], h => by cases h; rfl
  | _, b :: bs, h => by
    cases h with
    | cons h1 h2 => cases h1; rw [bls_of h2]; rfl
theorem r_all : RCD S (rAll S.K) allM := fun B H G vs ds Q k r h => by
  unfold allM at h
  split at h
  · obtain ⟨bs, rfl, h⟩ := h
    cases r with
    | cons r1 r2 =>
      cases r2
      cases r1 with
      | lst ha hr =>
        rw [bls_of hr] at ha
        exact ⟨_, bs, rfl, SqL.of (k.sub _ _ ha), Rs1.now k h (.bl _)⟩
  · exact h.elim
mutual
def D.nb : D → Bool
  | .bl _ => false
  | .lst l => nbL l
  | .tup l => nbL l
  | _ => true
def nbL : List D → Bool
  | [] => true
  | d :: l => d.nb && nbL l
end
mutual
theorem eqD_eq : ∀ {d e : D}, d.plain = true → e.plain = true → d.nb = true → e.nb = true → (PyData.eqv d.py e.py = true ↔ d = e)
  | .non, e, _, p, _, q => by cases e <;> simp_all [D.py, PyData.eqv, D.plain, D.nb]
  | .bl _, e, _, _, n, _ => by simp only [D.nb] at n; cases n
  | .int i, e, _, p, _, q => by cases e <;> simp_all [D.py, PyData.eqv, D.plain, D.nb]
  | .str x, e, _, p, _, q => by cases e <;> simp_all [D.py, PyData.eqv, D.plain, D.nb]
  | .lst l, e, p1, p, n, q => by
    cases e with
    | lst m =>
      simp only [D.plain, D.nb] at p1 p n q
      simp only [D.py, PyData.eqv, D.lst.injEq]
      exact eqD_eqA p1 p n q
    | _ => simp_all [D.py, PyData.eqv, D.plain, D.nb]
  | .tup l, e, p1, p, n, q => by
    cases e with
    | tup m =>
      simp only [D.plain, D.nb] at p1 p n q
      simp only [D.py, PyData.eqv, D.tup.injEq]
      exact eqD_eqA p1 p n q
    | _ => simp_all [D.py, PyData.eqv, D.plain, D.nb]
  | .web _ _ _, _, p, _, _, _ => by simp only [D.plain] at p; cases p
  | .dk _, _, p, _, _, _ => by simp only [D.plain] at p; cases p
  | .dt _, _, p, _, _, _ => by simp only [D.plain] at p; cases p
  | .box, _, p, _, _, _ => by simp only [D.plain] at p; cases p
  | .obj _, _, p, _, _, _ => by simp only [D.plain] at p; cases p
theorem eqD_eqA : ∀ {l m : List D}, plainL l = true → plainL m = true → nbL l = true → nbL m = true → (PyData.eqvAll (pyL l) (pyL m) = true ↔ l = m)
  | [], [], _, _, _, _ => by simp [pyL, PyData.eqvAll]
  | [], _ :: _, _, _, _, _ => by simp [pyL, PyData.eqvAll]
  | _ :: _, [], _, _, _, _ => by simp [pyL, PyData.eqvAll]
  | d :: l, e :: m, p, q, n, o => by
    simp only [plainL, nbL, Bool.and_eq_true] at p q n o
    simp only [pyL, PyData.eqvAll, Bool.and_eq_true, List.cons.injEq]
    rw [eqD_eq p.1 q.1 n.1 o.1, eqD_eqA p.2 q.2 n.2 o.2]
end
def D.std (d : D) : Prop := d.good ∧ d.nb = true
theorem eqD_iff {d e : D} (h1 : d.std) (h2 : e.std) : eqD d e = true ↔ d = e := eqD_eq h1.1.1 h2.1.1 h1.2 h2.2
def iDD (l : List Int) : D := .lst (l.map D.int)
end Dv
namespace Dv
open PySem PySem.Spec PyProof.Rows L2 Sg
variable {S : Base} {B : Bo S} {X : XK}
def tyD : D → Option String
  | .non => some "NoneType"
  | .bl _ => some "bool"
  | .int _ => some "int"
  | .str _ => some "str"
  | .lst _ => some "list"
  | _ => none
def isiB (T : String) (d : D) : Option Bool := (tyD d).bind fun t => kitB t T
theorem ed_isi {ta : TE} {ma : Env → M D} {T : String} (ha : EvD S ta ma) : EvD S (tCB (rIsi S.K) (tCons ta (tCons (tC (.ty T)) tNil))) (fun ρ => M.bnd (ma ρ) fun d => M.bnd (M.opt (isiB T d)) fun b => M.ret (.bl b)) := fun B σ H G ρ Q k er q =>
  ha B σ H G ρ _ k er ((ma ρ).mono (fun d hd v H1 G1 k1 c1 r1 => by
    obtain ⟨b, h1, h2⟩ := M.run_opt hd
    have h2 : Q (.bl b) H1 := (show Rs1 S B H G Q (.bl b) from h2) _ H1 G1 k1 c1 (.bl b)
    cases r1 <;> first
      | exact ⟨_, _, _, _, b, rfl, .ty T, .base .non, kit_ty h1, h2⟩
      | exact ⟨_, _, _, _, b, rfl, .ty T, .base (.bl _), kit_ty h1, h2⟩
      | exact ⟨_, _, _, _, b, rfl, .ty T, .base (.int _), kit_ty h1, h2⟩
      | exact ⟨_, _, _, _, b, rfl, .ty T, .base (.str _), kit_ty h1, h2⟩
      | (rename_i hg hr; exact ⟨_, _, _, _, b, rfl, .ty T, .base (.lst (k1.sub _ _ hg)), kit_ty h1, h2⟩)
      | cases h1) q)
section
variable {Y : Cx} {K : PySem.W.Frag}
theorem dx_list (h : Y.K = K) : IxR Y (rIxL K) := by subst h; exact ix_list
theorem dx_tup (h : Y.K = K) : IxR Y (rIxT K) := by subst h; exact ix_tup
theorem dv_len (h : Y.K = K) : CallR Y (.builtin "len") (fun xs H Q => ∃ p ys, xs = [.ref p] ∧ (SqL K H p ys ∨ SqT K H p ys) ∧ Q (.int ys.length) H) := by subst h; exact call_len_seq
theorem dv_all (h : Y.K = K) (hc : Y.calm = true) : CallR Y (.builtin "all") (rAll K) := by subst h; exact cr_all hc
theorem dv_eq (h : Y.K = K) (hu : Y.A.units + 64 < cLine) : OpR Y (compareOp .Eq) (rEqD K) := by subst h; exact op_eqD hu
theorem dv_slL (h : Y.K = K) : SlR Y (rSlL K) := by subst h; exact sl_list
theorem di_list {tg l : Expr} {tl : TE} (h : Y.K = K) (hl : PE Y l tl) : PI Y tg l (iList K tl) := by subst h; exact pi_list hl
theorem da_star {e : Expr} {p : Pos} {es : List Expr} {te : TE} {t : TA} (h : Y.K = K) (he : PE Y e te) (hr : PA Y es t) (hs : starEach (.Starred e p :: es) Y.env = (true, eval e Y.env) :: starEach es Y.env := by rfl) : PA Y (.Starred e p :: es) (StX.tStar K te t) := by
  subst h
  exact StX.pa_star he hr hs
end
def stepP (I : Ev → Prop) (P : Ou → Prop) : Ou → Prop
  | .nx ρ => I ρ
  | .ct ρ => I ρ
  | .bk ρ => P (.nx ρ)
  | .rt d => P (.rt d)
  | .rl l => P (.rl l)
  | .er x => P (.er x)
theorem loop_inv {b : D → Ev → M Ev} {g : Ev → M Ou} {P : Ou → Prop} (I : Nat → Ev → Prop) : ∀ (ds : List D) (k : Nat) (ρ : Ev), I k ρ →
    (∀ i (h : i < ds.length) ρ, I (k + i) ρ → (b ds[i] ρ).run fun ρ1 => (g ρ1).run (stepP (I (k + i + 1)) P)) → (∀ ρ, I (k + ds.length) ρ → P (.nx ρ)) → (loopM b g ds ρ).run P
  | [], k, ρ, h0, hs, hd => hd ρ h0
  | d :: ds, k, ρ, h0, hs, hd => by
    have h1 := hs 0 (by simp) ρ h0
    refine (b d ρ).mono (fun ρ1 hρ => (g ρ1).mono (fun o ho => ?_) hρ) h1
    have go : ∀ ρ2, I (k + 1) ρ2 → (loopM b g ds ρ2).run P := fun ρ2 h2 => loop_inv I ds (k + 1) ρ2 h2 (fun i h ρ hi => by
      have := hs (i + 1) (by simp only [List.length_cons]; omega) ρ (by rw [show k + (i + 1) = k + 1 + i by omega]; exact hi)
      rw [show k + (i + 1) + 1 = k + 1 + i + 1 by omega] at this
      simpa only [List.getElem_cons_succ] using this) (fun ρ hi => hd ρ (by simp only [List.length_cons]; rw [show k + (ds.length + 1) = k + 1 + ds.length by omega]; exact hi))
    cases o with
    | nx ρ2 => exact go ρ2 ho
    | ct ρ2 => exact go ρ2 ho
    | bk ρ2 => exact ho
    | rt d => exact ho
    | rl l => exact ho
    | er x => exact ho
theorem loop_run {b : D → Ev → M Ev} {g : Ev → M Ou} {P : Ou → Prop} {ds : List D} {ρ : Ev} (I : Nat → Ev → Prop) (h0 : I 0 ρ) (hs : ∀ i (h : i < ds.length) ρ, I i ρ → (b ds[i] ρ).run fun ρ1 => (g ρ1).run (stepP (I (i + 1)) P)) (hd : ∀ ρ, I ds.length ρ → P (.nx ρ)) : (loopM b g ds ρ).run P :=
  loop_inv I ds 0 ρ h0 (fun i h ρ hi => by
    have := hs i h ρ (by simpa using hi)
    simpa using this) (fun ρ hi => hd ρ (by simpa using hi))
theorem step_nx (I : Ev → Prop) (P : Ou → Prop) (ρ : Ev) : stepP I P (.nx ρ) = I ρ := rfl
theorem step_ct (I : Ev → Prop) (P : Ou → Prop) (ρ : Ev) : stepP I P (.ct ρ) = I ρ := rfl
theorem step_bk (I : Ev → Prop) (P : Ou → Prop) (ρ : Ev) : stepP I P (.bk ρ) = P (.nx ρ) := rfl
theorem step_rt (I : Ev → Prop) (P : Ou → Prop) (d : D) : stepP I P (.rt d) = P (.rt d) := rfl
theorem step_rl (I : Ev → Prop) (P : Ou → Prop) (l : List D) : stepP I P (.rl l) = P (.rl l) := rfl
theorem step_er (I : Ev → Prop) (P : Ou → Prop) (x : Exn) : stepP I P (.er x) = P (.er x) := rfl
theorem lcF_go (b : D → Env → M Env) (mt : Env → M Bool) (me : Env → M D) (ρ : Env) (d : D) : lcF b mt me ρ d = M.bnd (b d ρ) fun ρ' => M.bnd (mt ρ') fun t => if t = true then M.bnd (me ρ') fun y => M.ret (some y) else M.ret none := rfl
theorem atI_get {α : Type} {l : List α} {i : Int} (h0 : 0 ≤ i) (h : i.toNat < l.length) : L2.atI l i = some l[i.toNat] := by
  unfold L2.atI ixN
  rw [if_pos h0, if_pos (by omega)]
  exact List.getElem?_eq_getElem h
theorem vOf_int (i : Int) : vOf (.int i) = some (.int i) := rfl
theorem vOf_str (i : Str) : vOf (.str i) = some (.str i) := rfl
end Dv
namespace Dv
open PySem PySem.Spec PyProof.Rows L2 Sg
variable {S : Base} {B : Bo S} {X : XK}
section
variable {Y : Cx} {K : PySem.W.Frag}
theorem dg_tup {pos : Pos} {es : List Expr} {k : Nat} {t : TGs} {n : Nat} (h : Y.K = K) (hc : Y.calm = true) (ht : PGs Y es t) (hn : (assignEach es Y.env).length = n := by rfl) (hs : List.findIdx? (fun x => x.fst) (assignEach es Y.env) = none := by rfl) : PG Y (Expr.Tuple es k pos) (gTup K n t) := by
  subst h
  exact pg_tup hc ht hn hs
end
def isB : D → D → M D
  | .bl a, .bl b => M.ret (.bl (decide (a = b)))
  | _, _ => M.fail
def notB : D → D → M D
  | .bl a, .bl b => M.ret (.bl (!decide (a = b)))
  | _, _ => M.fail
theorem r_isB : R2D S (fun x y H Q => ∃ a b, x = .bl a ∧ y = .bl b ∧ Q (.bl (decide (a = b))) H) isB := fun B H G x y d e Q k rx ry h => by
  cases d <;> cases e <;> first
    | exact h.elim
    | (cases rx; cases ry; exact ⟨_, _, rfl, rfl, Rs1.now k h (.bl _)⟩)
theorem r_notB : R2D S (fun x y H Q => ∃ a b, x = .bl a ∧ y = .bl b ∧ Q (.bl (!decide (a = b))) H) notB := fun B H G x y d e Q k rx ry h => by
  cases d <;> cases e <;> first
    | exact h.elim
    | (cases rx; cases ry; exact ⟨_, _, rfl, rfl, Rs1.now k h (.bl _)⟩)
def okR : Rx → M D
  | .ok d => M.ret d
  | .er _ => M.fail
theorem ed_callX {f : List D → M Rx} {E : XK} {t : TA} {m : Env → M (List D)} (h : EvA S t m) : EvD S (tCall (spX S f) [] E t) (fun ρ => M.bnd (m ρ) fun l => M.bnd (f l) okR) := fun B σ H G ρ Q k er q =>
  h B σ H G ρ _ k er ((m ρ).mono (fun l hl vs H1 G1 k1 c1 r1 => ⟨B, G1, l, k1, by rw [List.append_nil]; exact r1, (f l).mono (fun z hz => by
    cases z with
    | ok d => exact Rs1.after c1 hz
    | er x => exact hz.elim) hl⟩) q)
section
variable {Y : Cx} {CX : CXT} {k : Nat} {f : Addr} {fd : FuncData} {ps ks : List Str} {sp : Sp} {E : XK} {x : Str} {p pos : Pos} {kws : List Keyword} {tk : TA} {g : List Value → List Value → List Value} {gV : List V → List V → List V}
end
theorem law_go {t : TS} {g : Ev → M Ou} {n : Nat} {H : Hp} {a bx q : Addr} (h : SvD S X t g) (hb : BxAt H bx q) (tb : LamX.Tabs S.T H) (ref : (g (none :: some (.f .box) :: List.replicate n none)).run fun o => o = .rt (.bl true)) {D : Ends} (hD : ∀ H', D.rt (.bl true) H') : t D (some (.ref a) :: some (.ref bx) :: List.replicate n none) H := by
  let G : Hp := fun _ => none
  have k : Ok (S := S) ⟨some (bx, q)⟩ H G := ⟨(fun a o e => nomatch e), fun _ _ _ => rfl, fun b q' e => by cases e; exact hb, tb, (fun a ps e => nomatch e)⟩
  have get : ∀ {i : Nat} {s : Sl}, (none :: some (.f .box) :: List.replicate n none : Ev)[i]? = some (some s) → i = 1 ∧ s = .f .box := fun {i s} e => by
    match i with
    | 0 => cases e
    | 1 => cases e; exact ⟨rfl, rfl⟩
    | i + 2 =>
      simp only [List.getElem?_cons_succ, List.getElem?_replicate] at e
      split at e <;> cases e
  refine h ⟨some (bx, q)⟩ H G _ H _ _ ⟨G, fun _ => 0, fun b q' e => ?_, k, Ch.refl, ?_, fun i d e => ?_, fun i s e w => ?_, fun i j s t e1 e2 w1 w2 => ?_⟩ (M.mono _ (fun o ho => ?_) ref)
  · obtain ⟨ns, i, r, kk, e1, e2, e3⟩ := k.bx b q' e
    exact ⟨_, _, e1, e2⟩
  · simp only [List.length_cons, List.length_replicate]
  · obtain ⟨rfl, e2⟩ := get e
    cases e2
    exact ⟨_, rfl, .box rfl⟩
  · obtain ⟨rfl, rfl⟩ := get e
    cases w
  · obtain ⟨rfl, rfl⟩ := get e1
    cases w1
  · subst ho
    exact fun v H' G' k' c r => by
      cases r
      exact hD H'
end Dv
namespace Dv
open PySem PySem.Spec PyProof.Rows L2 RZ Sg Tm Wb
local macro_rules | `(tactic| walk_at "r2") => `(tactic| first | with_reducible exact r_I0 | with_reducible exact r_I | with_reducible exact r_eq | with_reducible exact r_ne | with_reducible exact r_isN | with_reducible exact r_notN | with_reducible exact r_ixL | with_reducible exact r_ixT | with_reducible exact r_ixQ | with_reducible exact r_eqD | with_reducible exact r_neD | with_reducible exact r_inD | with_reducible exact r_notInD | with_reducible exact r_isB | with_reducible exact r_notB)
local macro_rules | `(tactic| walk_at "r2l") => `(tactic| first | with_reducible exact r_cat)
local macro_rules | `(tactic| walk_at "rc") => `(tactic| first | with_reducible exact r_len | with_reducible exact r_all)
local macro_rules | `(tactic| walk_at "rcl") => `(tactic| first | with_reducible exact r_list)
local macro_rules | `(tactic| walk_at "eo") => `(tactic| first | with_reducible exact eo_none | (with_reducible apply eo_some; walk_at "ed"))
local macro_rules | `(tactic| walk_at "ea") => `(tactic| first | with_reducible exact ea_nil | (with_reducible apply ea_star; walk_at "ed"; walk_at "ea") | (with_reducible apply ea_cons; walk_at "ed"; walk_at "ea"))
local macro_rules | `(tactic| walk_at "et") => `(tactic| first
  | with_reducible exact et_yes
  | (with_reducible apply et_test; walk_at "ed") | (with_reducible apply et_B; walk_at "ed") | (with_reducible apply et_not; walk_at "et")
  | (with_reducible apply et_and; walk_at "et"; walk_at "et") | (with_reducible apply et_or; walk_at "et"; walk_at "et"))
local macro_rules | `(tactic| walk_at "eg") => `(tactic| first | with_reducible exact eg_name | (with_reducible apply eg_tup; walk_at "egs"))
local macro_rules | `(tactic| walk_at "egs") => `(tactic| first | with_reducible exact eg_nil | (with_reducible apply eg_cons; walk_at "eg"; walk_at "egs"))
local macro_rules | `(tactic| walk_at "es") => `(tactic| first | with_reducible exact es_name | (with_reducible apply es_tup; walk_at "ess"))
local macro_rules | `(tactic| walk_at "ess") => `(tactic| first | with_reducible exact es_nil | (with_reducible apply es_cons; walk_at "es"; walk_at "ess"))
local macro_rules | `(tactic| walk_at "ei") => `(tactic| first | (with_reducible apply ei_list; walk_at "ed") | (with_reducible apply ei_tup; walk_at "ed") | (with_reducible apply ei_rng1; walk_at "ea") | (with_reducible apply ei_rng2; walk_at "ea") | (with_reducible apply ei_str; walk_at "ed"))
local macro_rules | `(tactic| walk_at "el") => `(tactic| first
  | (with_reducible apply el_lst; walk_at "ea")
  | (focus (with_reducible apply el_lc; rotate_left; walk_at "ei"; walk_at "eg"; walk_at "et"; walk_at "ed"; decide))
  | (with_reducible apply el_op; walk_at "r2l"; walk_at "ed"; walk_at "ed")
  | (with_reducible apply el_cb; walk_at "rcl"; walk_at "ea")
  | (with_reducible apply el_sl; walk_at "ed"; walk_at "eo"; walk_at "eo")
  | (with_reducible apply el_call; walk_at "ea")
  | walk_at "el+"
  | (with_reducible apply el_meth; decide; walk_at "ed"; walk_at "ea"))
local macro_rules | `(tactic| walk_at "ed") => `(tactic| first
  | with_reducible exact ed_var | with_reducible exact ed_c
  | (with_reducible apply ed_op; walk_at "r2"; walk_at "ed"; walk_at "ed")
  | (with_reducible apply ed_call; walk_at "ea")
  | (with_reducible apply ed_callX; walk_at "ea")
  | (with_reducible apply ed_tup; walk_at "ea")
  | (with_reducible apply ed_if; walk_at "et"; walk_at "ed"; walk_at "ed")
  | (with_reducible apply ed_cb; walk_at "rc"; walk_at "ea")
  | (with_reducible apply ed_un r_U; walk_at "ed")
  | (with_reducible apply ed_chain; walk_at "r2"; walk_at "r2"; walk_at "ed"; walk_at "ed"; walk_at "ed")
  | (with_reducible apply ed_andV; walk_at "ed"; walk_at "ed") | (with_reducible apply ed_orV; walk_at "ed"; walk_at "ed")
  | (with_reducible apply ed_meth; decide; walk_at "ed"; walk_at "ea")
  | walk_at "ed+"
  | (with_reducible apply EvL.d; walk_at "el"))
local macro_rules | `(tactic| walk_at "svF") => `(tactic| first
  | (with_reducible apply sv_seq; walk_at "svF"; walk_at "svF")
  | (with_reducible apply sv_asg; walk_at "ed")
  | (with_reducible apply sv_if; walk_at "et"; walk_at "svF"; walk_at "svF")
  | (with_reducible apply sv_for; walk_at "ei"; walk_at "es"; walk_at "svF")
  | walk_at "sv")
local macro_rules | `(tactic| walk_at "sv") => `(tactic| first
  | with_reducible exact sv_next | with_reducible exact sv_break | with_reducible exact sv_cont | with_reducible exact sv_never | with_reducible exact sv_retN
  | (with_reducible apply sv_seq; walk_at "sv"; walk_at "sv")
  | (with_reducible apply sv_asgL; walk_at "el")
  | (with_reducible apply sv_asg; walk_at "ed")
  | (with_reducible apply sv_if; walk_at "et"; walk_at "sv"; walk_at "sv")
  | (with_reducible apply sv_for; walk_at "ei"; walk_at "es"; walk_at "sv")
  | (with_reducible apply sv_par; walk_at "ea")
  | (with_reducible apply sv_app; walk_at "ed")
  | (with_reducible apply sv_ret; walk_at "ed")
  | (with_reducible apply sv_asgT; walk_at "ed"; walk_at "es")
  | (with_reducible apply sv_drop; walk_at "ed"))
structure Bq (mg : Str → Option Value) : Prop where
  range : mg "range" = none
  len : mg "len" = none
  list : mg "list" = none
section
variable {P : Program} {w : World} {K : PySem.W.Frag} {mg : Str → Option Value} {base : Heap} {C : Addr} {T : List (Addr × Str)} {cls : Str → Addr}
theorem takeM_go (n : Int) : takeM [.box, .int n] = M.bnd (M.req (0 < n ∧ n < 2 ^ 100)) fun _ => M.bnd (M.all fun v : Int => 0 ≤ v ∧ v < n) fun v => M.ret (.int v) := rfl
theorem oneM_go (ds : List D) : oneM [.box, .lst ds] = M.bnd (M.req (ds ≠ [] ∧ ds.length ≤ 1000)) fun _ => M.all fun d => d ∈ ds := rfl
def hueM : List D → M D
  | [.box] => M.bnd (M.all fun c : Nat => c = 97 ∨ c = 98 ∨ c = 99) fun c => M.ret (.str ⟨#[c]⟩)
  | _ => M.fail
theorem len_hue {ds : List D} {Q : _ → Prop} (h : (hueM ds).run Q) : ds.length = 1 := by
  unfold hueM at h
  split at h
  · rfl
  · exact h.elim
abbrev N_hue : List Str := ["_law_box_here"]
theorem sc_hue : FnScope N_hue ["_law_box_here"] (defScope sHue) := ⟨rfl, rfl, rfl, by decide +kernel, rfl, by decide +kernel, by decide +kernel⟩
theorem ok_hue {f fO : Addr} {fd dO : FuncData} (F : Fun K "_law_hue" "_law_hue" sHue f fd) (oO : Df P w K mg base 2 "_law_one" ["_law_box_here", "_law_some"] (spD (mkS K C T cls) oneM) fO dO) : FnOk P w K mg base CX0 3 f fd ["_law_box_here"] (spD (mkS K C T cls) hueM) := by
  refine F.ok sc_hue (fun vs H Q E h => ?_) (fun cdv A outer s H vs Q E hr h => ?_)
  · obtain ⟨B, G, ds, _, r, h⟩ := h
    rw [r.length]
    exact len_hue h
  · have hu5 : (A.deeper (envOfC "_law_hue" (defScope sHue) s.heap.objs.size f cdv)).units + 65 < cLine := by
      have := hr.un
      omega
    have hu : (A.deeper (envOfC "_law_hue" (defScope sHue) s.heap.objs.size f cdv)).units + 64 < cLine := by omega
    have hu1 : (A.deeper (envOfC "_law_hue" (defScope sHue) s.heap.objs.size f cdv)).units + 1 < cLine := by omega
    refine ⟨_, (pss_one (ps_ret (pe_call oO.ok (hr.mono (by decide)) (by rfl) oO.gl oO.kp oO.bd .nil pass0 (pa_cons (pv 0) (pa_cons (pe_lst (pa_cons pe_str (pa_cons pe_str (pa_cons pe_str (pa_cons pe_str (pa_cons pe_str (pa_cons pe_str pa_nil))))))) pa_nil))))), ?_⟩
    refine run_D (X := E) (S := mkS K C T cls) (N := N_hue) (by walk_at "sv") ?_ h
    intro ds Q hq
    unfold hueM at hq
    split at hq
    · refine ⟨by decide, ⟨(fun z => nomatch z), by decide⟩, fun d hd => ?_⟩
      simp only [List.mem_cons, List.not_mem_nil, or_false] at hd
      rcases hd with rfl | rfl | rfl | rfl | rfl | rfl
      · exact hq 97 (by decide)
      · exact hq 97 (by decide)
      · exact hq 97 (by decide)
      · exact hq 98 (by decide)
      · exact hq 98 (by decide)
      · exact hq 99 (by decide)
    · exact hq.elim
def signM : List D → M D
  | [.box] => M.bnd (M.all fun c : Nat => c = 112 ∨ c = 113 ∨ c = 114) fun c => M.ret (.str ⟨#[c]⟩)
  | _ => M.fail
theorem len_sign {ds : List D} {Q : _ → Prop} (h : (signM ds).run Q) : ds.length = 1 := by
  unfold signM at h
  split at h
  · rfl
  · exact h.elim
abbrev N_sign : List Str := ["_law_box_here"]
theorem sc_sign : FnScope N_sign ["_law_box_here"] (defScope sSign) := ⟨rfl, rfl, rfl, by decide +kernel, rfl, by decide +kernel, by decide +kernel⟩
theorem ok_sign {f fO : Addr} {fd dO : FuncData} (F : Fun K "_law_sign" "_law_sign" sSign f fd) (oO : Df P w K mg base 2 "_law_one" ["_law_box_here", "_law_some"] (spD (mkS K C T cls) oneM) fO dO) : FnOk P w K mg base CX0 3 f fd ["_law_box_here"] (spD (mkS K C T cls) signM) := by
  refine F.ok sc_sign (fun vs H Q E h => ?_) (fun cdv A outer s H vs Q E hr h => ?_)
  · obtain ⟨B, G, ds, _, r, h⟩ := h
    rw [r.length]
    exact len_sign h
  · have hu5 : (A.deeper (envOfC "_law_sign" (defScope sSign) s.heap.objs.size f cdv)).units + 65 < cLine := by
      have := hr.un
      omega
    have hu : (A.deeper (envOfC "_law_sign" (defScope sSign) s.heap.objs.size f cdv)).units + 64 < cLine := by omega
    have hu1 : (A.deeper (envOfC "_law_sign" (defScope sSign) s.heap.objs.size f cdv)).units + 1 < cLine := by omega
    refine ⟨_, (pss_one (ps_ret (pe_call oO.ok (hr.mono (by decide)) (by rfl) oO.gl oO.kp oO.bd .nil pass0 (pa_cons (pv 0) (pa_cons (pe_lst (pa_cons pe_str (pa_cons pe_str (pa_cons pe_str (pa_cons pe_str pa_nil))))) pa_nil))))), ?_⟩
    refine run_D (X := E) (S := mkS K C T cls) (N := N_sign) (by walk_at "sv") ?_ h
    intro ds Q hq
    unfold signM at hq
    split at hq
    · refine ⟨by decide, ⟨(fun z => nomatch z), by decide⟩, fun d hd => ?_⟩
      simp only [List.mem_cons, List.not_mem_nil, or_false] at hd
      rcases hd with rfl | rfl | rfl | rfl
      · exact hq 112 (by decide)
      · exact hq 112 (by decide)
      · exact hq 113 (by decide)
      · exact hq 114 (by decide)
    · exact hq.elim
def arrowM : List D → M D
  | [.box, .int n] => M.bnd (M.req (0 < n ∧ n < 2 ^ 100)) fun _ => M.bnd (M.all fun k : Ks => AK n k) fun k => M.ret (tieD k)
  | _ => M.fail
theorem len_arrow {ds : List D} {Q : _ → Prop} (h : (arrowM ds).run Q) : ds.length = 2 := by
  unfold arrowM at h
  split at h
  · rfl
  · exact h.elim
abbrev N_arrow : List Str := ["_law_box_here", "_law_many"]
theorem sc_arrow : FnScope N_arrow ["_law_box_here", "_law_many"] (defScope sArrow) := ⟨rfl, rfl, rfl, by decide +kernel, rfl, by decide +kernel, by decide +kernel⟩
theorem ok_arrow {f fT fU : Addr} {fd dT dU : FuncData} (F : Fun K "_law_arrow" "_law_arrow" sArrow f fd) (oU : Df P w K mg base 3 "_law_hue" ["_law_box_here"] (spD (mkS K C T cls) hueM) fU dU) (oT : Df P w K mg base 1 "_law_take" ["_law_box_here", "_law_many"] (spD (mkS K C T cls) takeM) fT dT) : FnOk P w K mg base CX0 4 f fd ["_law_box_here", "_law_many"] (spD (mkS K C T cls) arrowM) := by
  refine F.ok sc_arrow (fun vs H Q E h => ?_) (fun cdv A outer s H vs Q E hr h => ?_)
  · obtain ⟨B, G, ds, _, r, h⟩ := h
    rw [r.length]
    exact len_arrow h
  · have hu5 : (A.deeper (envOfC "_law_arrow" (defScope sArrow) s.heap.objs.size f cdv)).units + 65 < cLine := by
      have := hr.un
      omega
    have hu : (A.deeper (envOfC "_law_arrow" (defScope sArrow) s.heap.objs.size f cdv)).units + 64 < cLine := by omega
    have hu1 : (A.deeper (envOfC "_law_arrow" (defScope sArrow) s.heap.objs.size f cdv)).units + 1 < cLine := by omega
    refine ⟨_, (pss_one (ps_ret (pe_tup (pa_cons (pe_call oU.ok (hr.mono (by decide)) (by rfl) oU.gl oU.kp oU.bd .nil pass0 (pa_cons (pv 0) pa_nil)) (pa_cons (pe_call oT.ok (hr.mono (by decide)) (by rfl) oT.gl oT.kp oT.bd .nil pass0 (pa_cons (pv 0) (pa_cons (pv 1) pa_nil))) (pa_cons (pe_call oT.ok (hr.mono (by decide)) (by rfl) oT.gl oT.kp oT.bd .nil pass0 (pa_cons (pv 0) (pa_cons (pv 1) pa_nil))) pa_nil)))))), ?_⟩
    refine run_D (X := E) (S := mkS K C T cls) (N := N_arrow) (by walk_at "sv") ?_ h
    intro ds Q hq
    unfold arrowM at hq
    split at hq
    · rename_i n
      exact fun c hc => ⟨hq.1, fun x hx => ⟨hq.1, fun y hy => ⟨by show 3 ≤ 100000; decide, hq.2 [.inr ⟨#[c]⟩, .inl x, .inl y] ⟨c, x, y, rfl, hc, hx.1, hx.2, hy.1, hy.2⟩⟩⟩⟩
    · exact hq.elim
structure WebK (n : Int) (As Ms : List Ks) : Prop where
  n0 : 0 ≤ n
  ka : ∀ k ∈ As, AK n k
  km : ∀ k ∈ Ms, MK n k
  sa : SrtK As As
  sm : SrtK Ms Ms
  la : As.length ≤ 19500
  lm : Ms.length ≤ 19500
def webM : List D → M D
  | [.box, .int lo, .int hi] => M.bnd (M.req (0 ≤ lo ∧ lo ≤ hi ∧ hi ≤ 30)) fun _ => M.bnd (M.all fun p : Int × List Ks × List Ks => lo ≤ p.1 ∧ p.1 ≤ hi ∧ WebK p.1 p.2.1 p.2.2 ∧ (p.2.1.length : Int) ≤ 2 * p.1 + 3 ∧ (p.2.2.length : Int) ≤ p.1 + 2) fun p => M.ret (mwD p.1 p.2.1 p.2.2)
  | _ => M.fail
theorem SrtK.self {l u : List Ks} (h : SrtK l u) : SrtK u u := ⟨fun _ h => h, fun _ h => h, h.nd, h.ris⟩
theorem SrtK.len {l u : List Ks} (h : SrtK l u) : u.length ≤ l.length := List.Nodup.length_le_of_subset h.nd fun k hk => h.of k hk
theorem paired_len {α β : Type} {R : α → β → Prop} : ∀ {l : List α} {m : List β}, Paired R l m → m.length = l.length
  | _, _, .nil => rfl
  | _, _, .cons _ t => congrArg (· + 1) (paired_len t)
theorem ties_all {l : List D} {P : Ks → Prop} (h : ∀ d ∈ l, ∃ k, d = tieD k ∧ P k) : ∃ ks : List Ks, l = ks.map tieD ∧ ∀ k ∈ ks, P k := by
  induction l with
  | nil => exact ⟨[], rfl, fun k hk => nomatch hk⟩
  | cons d l ih =>
    obtain ⟨k, rfl, hk⟩ := h d (List.mem_cons_self ..)
    obtain ⟨ks, rfl, hks⟩ := ih fun x hx => h x (List.mem_cons_of_mem _ hx)
    refine ⟨k :: ks, rfl, fun x hx => ?_⟩
    rcases List.mem_cons.mp hx with rfl | hx
    · exact hk
    · exact hks x hx
theorem len_web {ds : List D} {Q : _ → Prop} (h : (webM ds).run Q) : ds.length = 3 := by
  unfold webM at h
  split at h
  · rfl
  · exact h.elim
abbrev N_web : List Str := ["_law_box_here", "_law_low", "_law_high", "_law_many", "_law_crowd", "_law_arrows", "_law_k", "_law_marks"]
theorem sc_web : FnScope N_web ["_law_box_here", "_law_low", "_law_high"] (defScope sWeb) := ⟨rfl, rfl, rfl, by decide +kernel, rfl, by decide +kernel, by decide +kernel⟩
theorem ok_web {f fT fO fA fS fU : Addr} {fd dT dO dA dS dU : FuncData} (F : Fun K "_law_web" "_law_web" sWeb f fd) (b : Bq mg) (oO : Df P w K mg base 2 "_law_one" ["_law_box_here", "_law_some"] (spD (mkS K C T cls) oneM) fO dO) (oT : Df P w K mg base 1 "_law_take" ["_law_box_here", "_law_many"] (spD (mkS K C T cls) takeM) fT dT) (oA : Df P w K mg base 4 "_law_arrow" ["_law_box_here", "_law_many"] (spD (mkS K C T cls) arrowM) fA dA) (oS : Df P w K mg base 3 "_law_sign" ["_law_box_here"] (spD (mkS K C T cls) signM) fS dS) (oU : Df P w K mg base 1 "_law_unlike" ["_law_some"] (spL (mkS K C T cls) unlM) fU dU) : FnOk P w K mg base CX0 5 f fd ["_law_box_here", "_law_low", "_law_high"] (spD (mkS K C T cls) webM) := by
  refine F.ok sc_web (fun vs H Q E h => ?_) (fun cdv A outer s H vs Q E hr h => ?_)
  · obtain ⟨B, G, ds, _, r, h⟩ := h
    rw [r.length]
    exact len_web h
  · have hu5 : (A.deeper (envOfC "_law_web" (defScope sWeb) s.heap.objs.size f cdv)).units + 65 < cLine := by
      have := hr.un
      omega
    have hu : (A.deeper (envOfC "_law_web" (defScope sWeb) s.heap.objs.size f cdv)).units + 64 < cLine := by omega
    have hu1 : (A.deeper (envOfC "_law_web" (defScope sWeb) s.heap.objs.size f cdv)).units + 1 < cLine := by omega
    refine ⟨_, (pss_cons (ps_set (i := 3) sc_web.nd rfl (.inr rfl) (pe_op op_add (pv 1) (pe_call oT.ok (hr.mono (by decide)) (by rfl) oT.gl oT.kp oT.bd .nil pass0 (pa_cons (pv 0) (pa_cons (pe_op op_add (pe_op op_sub (pv 2) (pv 1)) pe_int) pa_nil)))))
      (pss_cons (ps_if (pt_cmpR op_eq (pv 3) pe_int (nomark _)) (pss_one (ps_ret (pe_tup (pa_cons pe_int (pa_cons (pe_lst pa_nil) (pa_cons (pe_lst pa_nil) pa_nil)))))) pss_nil)
      (pss_cons (ps_set (i := 4) sc_web.nd rfl (.inl rfl) (pe_call oO.ok (hr.mono (by decide)) (by rfl) oO.gl oO.kp oO.bd .nil pass0 (pa_cons (pv 0) (pa_cons (pe_lst (pa_cons (pv 3) (pa_cons (pv 3) (pa_cons (pe_op op_mul pe_int (pv 3)) (pa_cons pe_int pa_nil))))) pa_nil))))
      (pss_cons (ps_setLc (i := 5) (own := [("_law_k", 6)]) (g := gName 6) (tt := tYes) rfl sc_web.nd rfl rfl (sw_true rfl rfl rfl (by decide +kernel)) (pi_range1 (by rfl) b.range (pa_cons (pe_call oT.ok (hr.mono (by decide)) (by rfl) oT.gl oT.kp oT.bd .nil pass0 (pa_cons (pv 0) (pa_cons (pe_op op_add (pv 4) pe_int) pa_nil))) pa_nil)) (blkOk_by (N := N_web) (sc := defScope sWeb) (by decide +kernel)) (fun _ _ _ _ _ => (pg_name (i := 6) sc_web.nd rfl (.inl rfl))) (fun _ _ _ _ _ => pts_nil) (fun _ _ _ _ _ => (pe_call oA.ok (hr.mono (by decide)) (by rfl) oA.gl oA.kp oA.bd .nil pass0 (pa_cons (pv 0) (pa_cons (pv 3) pa_nil)))))
      (pss_cons (ps_setLc (i := 7) (own := [("_law_k", 6)]) (g := gName 6) (tt := tYes) rfl sc_web.nd rfl rfl (sw_true rfl rfl rfl (by decide +kernel)) (pi_range1 (by rfl) b.range (pa_cons (pe_call oO.ok (hr.mono (by decide)) (by rfl) oO.gl oO.kp oO.bd .nil pass0 (pa_cons (pv 0) (pa_cons (pe_lst (pa_cons pe_int (pa_cons pe_int (pa_cons pe_int (pa_cons pe_int (pa_cons (pv 3) pa_nil)))))) pa_nil))) pa_nil)) (blkOk_by (N := N_web) (sc := defScope sWeb) (by decide +kernel)) (fun _ _ _ _ _ => (pg_name (i := 6) sc_web.nd rfl (.inl rfl))) (fun _ _ _ _ _ => pts_nil) (fun _ _ _ _ _ => (pe_tup (pa_cons (pe_call oS.ok (hr.mono (by decide)) (by rfl) oS.gl oS.kp oS.bd .nil pass0 (pa_cons (pv 0) pa_nil)) (pa_cons (pe_call oT.ok (hr.mono (by decide)) (by rfl) oT.gl oT.kp oT.bd .nil pass0 (pa_cons (pv 0) (pa_cons (pv 3) pa_nil))) pa_nil)))))
      (pss_one (ps_ret (pe_tup (pa_cons (pv 3) (pa_cons (pe_call oU.ok (hr.mono (by decide)) (by rfl) oU.gl oU.kp oU.bd .nil pass0 (pa_cons (pv 5) pa_nil)) (pa_cons (pe_call oU.ok (hr.mono (by decide)) (by rfl) oU.gl oU.kp oU.bd .nil pass0 (pa_cons (pv 7) pa_nil)) pa_nil))))))))))), ?_⟩
    refine run_D (X := E) (S := mkS K C T cls) (N := N_web) (by walk_at "sv") ?_ h
    intro ds Q hq
    unfold webM at hq
    split at hq
    · rename_i lo hi
      have e : startE N_web.length [.box, .int lo, .int hi] = [some (.f (.box)), some (.f (.int lo)), some (.f (.int hi)), none, none, none, none, none] := rfl
      rw [e]
      simp only [takeM_go, oneM_go, run_bnd, run_ret, run_opt, run_req, run_all, run_choose, run_ite, then_nx, then_rt, then_rl, then_er, then_ct, then_bk, outD_rt, outD_rl, outD_nx, outL_rl, outX_rt, outX_rl, outX_nx, outX_er, mask_nil, mask_cons, mk0_f, mk0_o, mk0_od, mk0_ot, mk0_n, peek_nil, peek_cons, pk_f, pk_o, pk_od, pk_ot, pk_n, dOf_int, dOf_bl, dOf_str, dOf_non, opI0_int, opI_int, unI_int, asB_bl, asI_int, asL_lst, asT_tup, asW_web, eqS_int, eqS_str, ixL_lst, ixT_tup, ixQ_lst, ixQ_tup, lenD_lst, lenD_tup, listD_lst, listD_tup, catD_lst, rng1_int, rng2_int, sName_go, sTup_go, sCons_go, sNil_go, bTup_go, bCons_go, bNil_go, two_go, List.set_cons_zero, List.set_cons_succ, List.getElem?_cons_zero, List.getElem?_cons_succ, Option.join_some, atI_0, atI_1, atI_2, decide_eq_true_eq, wipeE, List.map_cons, List.map_nil, step_nx, step_ct, step_bk, step_rt, step_rl, step_er, vOf_int, vOf_str]
      obtain ⟨⟨hlo, hlh, hh⟩, hq⟩ := hq
      refine ⟨⟨by omega, by omega⟩, fun v hv => ?_⟩
      split
      · rename_i h0
        exact ⟨by decide, by decide, by show 3 ≤ 100000; decide, hq (0, [], []) ⟨by show lo ≤ 0; omega, by show 0 ≤ hi; omega, ⟨Int.le_refl _, (fun k hk => nomatch hk), (fun k hk => nomatch hk), ⟨fun _ h => h, fun _ h => h, .nil, .nil⟩, ⟨fun _ h => h, fun _ h => h, .nil, .nil⟩, by decide, by decide⟩, by show (0 : Int) ≤ 2 * 0 + 3; decide, by show (0 : Int) ≤ 0 + 2; decide⟩⟩
      · rename_i h0
        have hn : 0 < lo + v ∧ lo + v ≤ 30 ∧ lo ≤ lo + v ∧ lo + v ≤ hi := by omega
        generalize lo + v = n at hn hq ⊢
        refine ⟨.inl ⟨by decide, by decide⟩, by show 4 ≤ 100000; decide, ⟨(fun z => nomatch z), by show 4 ≤ 1000; decide⟩, fun c hc => ?_⟩
        obtain ⟨ci, rfl, c0, c1⟩ : ∃ ci : Int, c = .int ci ∧ 0 ≤ ci ∧ ci ≤ 19500 ∧ ci ≤ 2 * n + 3 := by
          simp only [List.mem_cons, List.not_mem_nil, or_false] at hc
          rcases hc with rfl | rfl | rfl | rfl
          · exact ⟨_, rfl, by omega, by omega, by omega⟩
          · exact ⟨_, rfl, by omega, by omega, by omega⟩
          · exact ⟨_, rfl, by omega, by omega, by omega⟩
          · exact ⟨_, rfl, by omega, by omega, by omega⟩
        refine ⟨⟨by omega, by omega⟩, fun m hm => ⟨⟨by omega, by omega⟩, by rw [rngD_len]; omega, ?_⟩⟩
        refine ex_ret (M.sel_map (R := fun _ d => ∃ k, d = tieD k ∧ AK n k) fun d hd => ?_) fun as has => ?_
        · exact ⟨⟨by omega, by omega⟩, fun k hk => ⟨_, rfl, k, rfl, hk⟩⟩
        have hal := paired_len has
        rw [rngD_len] at hal
        obtain ⟨ka, rfl, hka⟩ := ties_all (P := AK n) (Paired.right (P := fun d => ∃ k, d = tieD k ∧ AK n k) (fun _ _ h => h) has)
        rw [List.length_map] at hal
        refine ⟨by show 5 ≤ 100000; decide, ⟨(fun z => nomatch z), by show 5 ≤ 1000; decide⟩, fun c hc => ?_⟩
        obtain ⟨di, rfl, d0, d1⟩ : ∃ ci : Int, c = .int ci ∧ 0 ≤ ci ∧ ci ≤ 19500 ∧ ci ≤ n + 2 := by
          simp only [List.mem_cons, List.not_mem_nil, or_false] at hc
          rcases hc with rfl | rfl | rfl | rfl | rfl
          · exact ⟨_, rfl, by omega, by omega, by omega⟩
          · exact ⟨_, rfl, by omega, by omega, by omega⟩
          · exact ⟨_, rfl, by omega, by omega, by omega⟩
          · exact ⟨_, rfl, by omega, by omega, by omega⟩
          · exact ⟨_, rfl, by omega, by omega, by omega⟩
        refine ⟨⟨by omega, by omega⟩, by rw [rngD_len]; omega, ?_⟩
        refine ex_ret (M.sel_map (R := fun _ d => ∃ k, d = tieD k ∧ MK n k) fun d hd => ?_) fun bs hbs => ?_
        · exact fun c hc => ⟨⟨by omega, by omega⟩, fun x hx => ⟨by show 2 ≤ 100000; decide, _, rfl, [.inr ⟨#[c]⟩, .inl x], rfl, c, x, rfl, hc, hx.1, hx.2⟩⟩
        have hbl := paired_len hbs
        rw [rngD_len] at hbl
        obtain ⟨kb, rfl, hkb⟩ := ties_all (P := MK n) (Paired.right (P := fun d => ∃ k, d = tieD k ∧ MK n k) (fun _ _ h => h) hbs)
        rw [List.length_map] at hbl
        refine ⟨ka, ⟨rfl, ⟨3, fun k hk => (hka k hk).tie (by omega)⟩, by omega⟩, fun ua ha => ⟨kb, ⟨rfl, ⟨2, fun k hk => (hkb k hk).tie (by omega)⟩, by omega⟩, fun ub hb => ?_⟩⟩
        have la := ha.len
        have lb := hb.len
        exact ⟨by show 3 ≤ 100000; decide, hq (n, ua, ub) ⟨by omega, by omega, ⟨by omega, fun k hk => hka k (ha.of k hk), fun k hk => hkb k (hb.of k hk), ha.self, hb.self, by show ua.length ≤ 19500; omega, by show ub.length ≤ 19500; omega⟩, by show (ua.length : Int) ≤ 2 * n + 3; omega, by show (ub.length : Int) ≤ n + 2; omega⟩⟩
    · exact hq.elim
end
end Dv
namespace Dv
open PySem PySem.Spec PyProof.Rows L2 RZ Sg Tm Wb
local macro_rules | `(tactic| walk_at "r2") => `(tactic| first | with_reducible exact r_I0 | with_reducible exact r_I | with_reducible exact r_eq | with_reducible exact r_ne | with_reducible exact r_isN | with_reducible exact r_notN | with_reducible exact r_ixL | with_reducible exact r_ixT | with_reducible exact r_ixQ | with_reducible exact r_eqD | with_reducible exact r_neD | with_reducible exact r_inD | with_reducible exact r_notInD | with_reducible exact r_isB | with_reducible exact r_notB)
local macro_rules | `(tactic| walk_at "r2l") => `(tactic| first | with_reducible exact r_cat)
local macro_rules | `(tactic| walk_at "rc") => `(tactic| first | with_reducible exact r_len | with_reducible exact r_all)
local macro_rules | `(tactic| walk_at "rcl") => `(tactic| first | with_reducible exact r_list)
local macro_rules | `(tactic| walk_at "eo") => `(tactic| first | with_reducible exact eo_none | (with_reducible apply eo_some; walk_at "ed"))
local macro_rules | `(tactic| walk_at "ea") => `(tactic| first | with_reducible exact ea_nil | (with_reducible apply ea_star; walk_at "ed"; walk_at "ea") | (with_reducible apply ea_cons; walk_at "ed"; walk_at "ea"))
local macro_rules | `(tactic| walk_at "et") => `(tactic| first
  | with_reducible exact et_yes
  | (with_reducible apply et_test; walk_at "ed") | (with_reducible apply et_B; walk_at "ed") | (with_reducible apply et_not; walk_at "et")
  | (with_reducible apply et_and; walk_at "et"; walk_at "et") | (with_reducible apply et_or; walk_at "et"; walk_at "et"))
local macro_rules | `(tactic| walk_at "eg") => `(tactic| first | with_reducible exact eg_name | (with_reducible apply eg_tup; walk_at "egs"))
local macro_rules | `(tactic| walk_at "egs") => `(tactic| first | with_reducible exact eg_nil | (with_reducible apply eg_cons; walk_at "eg"; walk_at "egs"))
local macro_rules | `(tactic| walk_at "es") => `(tactic| first | with_reducible exact es_name | (with_reducible apply es_tup; walk_at "ess"))
local macro_rules | `(tactic| walk_at "ess") => `(tactic| first | with_reducible exact es_nil | (with_reducible apply es_cons; walk_at "es"; walk_at "ess"))
local macro_rules | `(tactic| walk_at "ei") => `(tactic| first | (with_reducible apply ei_list; walk_at "ed") | (with_reducible apply ei_tup; walk_at "ed") | (with_reducible apply ei_rng1; walk_at "ea") | (with_reducible apply ei_rng2; walk_at "ea") | (with_reducible apply ei_str; walk_at "ed"))
local macro_rules | `(tactic| walk_at "el") => `(tactic| first
  | (with_reducible apply el_lst; walk_at "ea")
  | (focus (with_reducible apply el_lc; rotate_left; walk_at "ei"; walk_at "eg"; walk_at "et"; walk_at "ed"; decide))
  | (with_reducible apply el_op; walk_at "r2l"; walk_at "ed"; walk_at "ed")
  | (with_reducible apply el_cb; walk_at "rcl"; walk_at "ea")
  | (with_reducible apply el_sl; walk_at "ed"; walk_at "eo"; walk_at "eo")
  | (with_reducible apply el_call; walk_at "ea")
  | walk_at "el+"
  | (with_reducible apply el_meth; decide; walk_at "ed"; walk_at "ea"))
local macro_rules | `(tactic| walk_at "ed") => `(tactic| first
  | with_reducible exact ed_var | with_reducible exact ed_c
  | (with_reducible apply ed_op; walk_at "r2"; walk_at "ed"; walk_at "ed")
  | (with_reducible apply ed_call; walk_at "ea")
  | (with_reducible apply ed_callX; walk_at "ea")
  | (with_reducible apply ed_tup; walk_at "ea")
  | (with_reducible apply ed_if; walk_at "et"; walk_at "ed"; walk_at "ed")
  | (with_reducible apply ed_cb; walk_at "rc"; walk_at "ea")
  | (with_reducible apply ed_un r_U; walk_at "ed")
  | (with_reducible apply ed_chain; walk_at "r2"; walk_at "r2"; walk_at "ed"; walk_at "ed"; walk_at "ed")
  | (with_reducible apply ed_andV; walk_at "ed"; walk_at "ed") | (with_reducible apply ed_orV; walk_at "ed"; walk_at "ed")
  | (with_reducible apply ed_meth; decide; walk_at "ed"; walk_at "ea")
  | walk_at "ed+"
  | (with_reducible apply EvL.d; walk_at "el"))
local macro_rules | `(tactic| walk_at "svF") => `(tactic| first
  | (with_reducible apply sv_seq; walk_at "svF"; walk_at "svF")
  | (with_reducible apply sv_asg; walk_at "ed")
  | (with_reducible apply sv_if; walk_at "et"; walk_at "svF"; walk_at "svF")
  | (with_reducible apply sv_for; walk_at "ei"; walk_at "es"; walk_at "svF")
  | walk_at "sv")
local macro_rules | `(tactic| walk_at "sv") => `(tactic| first
  | with_reducible exact sv_next | with_reducible exact sv_break | with_reducible exact sv_cont | with_reducible exact sv_never | with_reducible exact sv_retN
  | (with_reducible apply sv_seq; walk_at "sv"; walk_at "sv")
  | (with_reducible apply sv_asgL; walk_at "el")
  | (with_reducible apply sv_asg; walk_at "ed")
  | (with_reducible apply sv_if; walk_at "et"; walk_at "sv"; walk_at "sv")
  | (with_reducible apply sv_for; walk_at "ei"; walk_at "es"; walk_at "sv")
  | (with_reducible apply sv_par; walk_at "ea")
  | (with_reducible apply sv_app; walk_at "ed")
  | (with_reducible apply sv_ret; walk_at "ed")
  | (with_reducible apply sv_asgT; walk_at "ed"; walk_at "es")
  | (with_reducible apply sv_drop; walk_at "ed"))
local macro_rules | `(tactic| walk_at "ed+") => `(tactic| first | (with_reducible apply ed_chain; walk_at "r2"; walk_at "r2"; walk_at "ed"; walk_at "ed"; walk_at "ed") | (with_reducible apply ed_isi; walk_at "ed"))
section
variable {P : Program} {w : World} {K : PySem.W.Frag} {mg : Str → Option Value} {base : Heap} {C : Addr} {T : List (Addr × Str)} {cls : Str → Addr}
theorem sv_raise {X : XK} {te : TE} {m : Env → M D} {c : Addr} {w f : Str} (hc : cls w = c) (hf : f ≠ "word") (h : EvD (mkS K C T cls) te m) : SvD (mkS K C T cls) X (fun _ σ H => tMkO c (spE c f w) [] (tCons te tNil) σ H fun k d H' => X k d H') (fun ρ => M.bnd (m (peek ρ)) fun d => M.bnd (M.opt (vOf d)) fun v => M.ret (.er ⟨w, f, v⟩)) := fun B H0 G0 σ H ρ E ⟨G, A, r⟩ q => by
  subst hc
  obtain ⟨G1, k, er, c0, back⟩ := r.peek
  refine h B σ H G1 (peek ρ) _ k er ((m (peek ρ)).mono (fun d hd v H1 G2 k1 c1 r1 => ?_) q)
  obtain ⟨u, hu, hd⟩ := M.run_opt hd
  rw [rp_vOf hu r1]
  refine mkE (te := tC u) (σ := σ) (H := H1) (H1 := H1) (v := u) (fun Q' q => q) fun dd H' nd hdd sm => ?_
  obtain ⟨k2, c2⟩ := old_ok k1 (fun a o _ _ e => sm a o e) (fun a e => FrA.sub (show Sub H1 H' from sm) e) (fun b q e => (k1.bx b q e).sub sm) (tabs_sub sm k1.tb)
  have c3 := (c0.trans c1).trans c2
  exact (show RsE B H0 G0 X ⟨w, f, u⟩ from hd) dd H' G2 k2 c3 ((c0.trans c1).fr _ (FrA.of nd)) (by rw [xdF_f hf]; exact hdd)
theorem pe_atK {X : Cx} {e : Ecs} {T : List (Addr × Str)} {g c PT : Addr} {fd : FuncData} {k : Nat} {params : Arguments} {body : Expr} {scope : Scope} {t : XK → TE} {p lpos pos : Pos} (hK : X.K = K) (F : Fun K "_law_at" "_law_at" sAt g fd) (hm : X.mg "_law_at" = some (.ref g)) (hb : Binds K fd ["_law_ask"] []) (G : AtG X.mg e) (hg : Gl X "_law_at") (TB : LamX.TabB X.base X.mg c PT) (hcode : X.env.code = .ref c) (hmT : (PT, X.env.qual ++ "<lambda>") ∈ T)
    (hu : ∀ p ∈ T, p.1 = PT → p.2 = X.env.qual ++ "<lambda>") (hr : Room (k + 2) X.A) (L : LamX.LamS X.env.scope scope) (hdef : defaultsOf params X.env = ([], [])) (hbind : ∀ (q : Str) (cl : List (Str × Addr)) (pm cv ctv : Value), bindArgs (PySem.W.kla_fn "<lambda>" q params body scope cl pm cv ctv) ⟨[], []⟩ = pure [])
    (hbody : ∀ (A : Around) (outer : List PySem.Env) (s : Shared) (H : Hp) (E : XK) (f c' : Addr), Room k (A.deeper (LamX.lamEnv X scope s.heap.objs.size f c')) → PE (LamX.lamCx X A outer s H E scope f c') body (t E)) :
    PE X (.Call (.Name "_law_at" p) [.Lambda params body scope lpos] [] pos) (LamX.tLam T (TAt K e) t) := by
  subst hK
  exact pe_at F hm hb G hg TB hcode hmT hu hr L hdef hbind hbody
local macro_rules | `(tactic| walk_at "svX") => `(tactic| first
  | (with_reducible apply sv_seq; walk_at "svX"; walk_at "svX")
  | (with_reducible apply sv_if; walk_at "et"; walk_at "svX"; walk_at "svX")
  | (with_reducible apply sv_for; walk_at "ei"; walk_at "es"; walk_at "svX")
  | (with_reducible apply sv_raise rfl; decide; walk_at "ed")
  | walk_at "sv")
def AtOk (K : PySem.W.Frag) (cls : Str → Addr) (e : Ecs) (x : Exn) : Prop := ∃ fI, AtC K e (cls x.w) x.f ∧ ErrC K (cls x.w) fI x.f ∧ x.f ≠ "word"
def atM (K : PySem.W.Frag) (cls : Str → Addr) (e : Ecs) : Rx → M D
  | .ok _ => M.ret .non
  | .er x => M.bnd (M.req (AtOk K cls e x)) fun _ => M.bnd (M.opt (dOf x.v)) fun d => M.ret (.tup [.str x.w, d])
theorem bx_ext {H H' : Hp} {b q : Addr} (s : LamX.ExtN H H') (h : BxAt H b q) : BxAt H' b q := bx_extN s h
theorem ed_at {e : Ecs} {t : XK → TE} {m : Env → M Rx} (h : EvX (mkS K C T cls) t m) : EvD (mkS K C T cls) (LamX.tLam T (TAt K e) t) (fun ρ => M.bnd (m ρ) (atM K cls e)) := fun B σ H G ρ Q k er q => by
  refine ⟨k.tb, fun H1 x1 t1 E1 Q1 hE hQ => ?_⟩
  have k1 : Ok B H1 G := ⟨fun a o g => x1 a o (k.sub a o g) (fun ps z => by subst z; exact k.nt a ps g), k.nm, fun b q e => bx_ext x1 (k.bx b q e), t1, k.nt⟩
  have c1 : Ch B H G H1 G := ⟨fun a o _ n g => x1 a o g n, fun a f o g => by
    by_cases z : ∃ ps, o = .tbl ps
    · exact z
    · exact f o (x1 a o g fun ps e => z ⟨ps, e⟩), Sub.refl G, fun _ _ g => .inl g⟩
  refine h B σ H1 G ρ Q1 E1 k1 er ((m ρ).mono (fun r hr => ?_) q)
  cases r with
  | ok d => exact fun v H2 G2 k2 c2 r2 => hQ v H2 ((show Rs1 _ B H G Q .non from hr) .non H2 G2 k2 (c1.trans c2) .non)
  | er x =>
    obtain ⟨⟨fI, a1, a2, a3⟩, hr⟩ := hr
    obtain ⟨d, hd, hr⟩ := M.run_opt hr
    refine fun dd H2 G2 k2 c2 n2 e2 => hE _ _ _ ⟨cls x.w, fI, dd, x.f, x.w, x.v, rfl, a1, a2, rfl, by rw [xdF_f a3] at e2; exact e2, a3, fun p hp => ?_⟩
    obtain ⟨k3, c3⟩ := k2.put hp (.tup [.str x.w, x.v]) (fun _ z => nomatch z)
    exact (show Rs1 _ B H G Q (.tup [.str x.w, d]) from hr) _ _ _ k3 ((c1.trans c2).trans c3) (.tup (SqT.of upd_same) (.cons (.str _) (.cons (rp_dOf hd) .nil)))
end
end Dv
namespace Dv
open PySem PySem.Spec PyProof.Rows L2 Sg
variable {S : Base} {B : Bo S} {X : XK}
structure SrtP (l u : List Ks) : Prop where
  perm : u.Perm l
  ris : u.Pairwise fun p q => TS.code 128 (p.map numK) ≤ TS.code 128 (q.map numK)
def srtM : List D → M (List D)
  | [.lst es] => M.bnd (M.choose fun l : List Ks => es = l.map tieD ∧ (∃ d, ∀ k ∈ l, TieK 128 d k) ∧ l.length < 19600) fun l => M.bnd (M.all fun u => SrtP l u) fun u => M.ret (u.map tieD)
  | _ => M.fail
theorem r_sort {P : Program} {w : World} : RCL S (rSortX S.K P w) srtM := fun B H G vs ds Q k r h => by
  unfold srtM at h
  split at h
  · obtain ⟨l, ⟨rfl, ⟨d, hd⟩, h64⟩, h⟩ := h
    cases r with
    | cons r1 r2 =>
      cases r2
      obtain ⟨a, ks, rfl, h1, h2, h3⟩ := list_of (l := l) r1
      subst h3
      rw [List.length_map] at h64
      refine ⟨a, ks, d, 128, rfl, .inr ⟨SqL.of (k.sub _ _ h1), h64⟩, fun p hp => sub_tup k.sub (h2 p hp), fun p hp => hd _ (List.mem_map.mpr ⟨p, hp, rfl⟩), fun L' p pm pw _ np => ?_⟩
      exact Rs2.lay k (show Rs2 S B H G Q ((L'.map (·.2)).map tieD) from h _ ⟨pm.map _, by rw [List.pairwise_map]; exact pw⟩) (rp_refs fun z hz => h2 z (pm.mem_iff.mp hz)) np
  · exact h.elim
section
variable {Y : Cx} {K : PySem.W.Frag} {P : Program} {w : World}
end
theorem ed_bmL {r : V → List V → Hp → VK → Prop} {f : List D → List D → M D} {ta : TE} {t : TA} {ma : Env → M D} {m : Env → M (List D)} (hr : ∀ B H G a xs ds vs es Q, Ok B H G → G a = some (.lst xs) → RpA S B G xs ds → RpA S B G vs es → (f ds es).run (Rs1 S B H G Q) → r (.ref a) vs H Q) (ha : EvD S ta ma) (h : EvA S t m) : EvD S (tBM S.K "list" r ta t) (fun ρ => M.bnd (ma ρ) fun d => M.bnd (asL d) fun l => M.bnd (m ρ) fun es => f l es) := fun B σ H G ρ Q k er q =>
  ha B σ H G ρ _ k er ((ma ρ).mono (fun d hd v H1 G1 k1 c1 r1 => by
    obtain ⟨l, rfl, hd⟩ := asL_run hd
    cases r1 with
    | lst hx hr1 =>
      refine ⟨.inl ⟨rfl, _, SqL.of (k1.sub _ _ hx)⟩, ?_⟩
      refine h B σ H1 G1 ρ _ k1 (er.mono c1.ext) ((m ρ).mono (fun es he vs H2 G2 k2 c2 r2 => ?_) hd)
      exact hr B H2 G2 _ _ l vs es Q k2 (c2.ext _ _ hx) (hr1.mono c2.ext) r2 ((f l es).mono (fun y hy => hy.after (c1.trans c2)) he)) q)
def idxM : List D → List D → M D
  | ds, [.int x] => M.bnd (M.choose fun p : List Int × Nat => ds = p.1.map D.int ∧ p.1[p.2]? = some x ∧ ∀ m, m < p.2 → p.1[m]? ≠ some x) fun p => M.ret (.int (p.2 : Int))
  | _, _ => M.fail
theorem ints_of {G : Hp} : ∀ {xs : List V} {js : List Int}, RpA S B G xs (js.map D.int) → xs = js.map V.int
  | _, [], h => by cases h; rfl
  | _, j :: js, h => by
    cases h with
    | cons a b => cases a; rw [ints_of b]; rfl
theorem ed_index {ta tb : TE} {ma mb : Env → M D} (ha : EvD S ta ma) (hb : EvD S tb mb) : EvD S (tBM S.K "list" (rIndex S.K) ta (tCons tb tNil)) (fun ρ => M.bnd (ma ρ) fun d => M.bnd (asL d) fun l => M.bnd (M.bnd (mb ρ) fun x => M.bnd (M.ret []) fun xs => M.ret (x :: xs)) fun es => idxM l es) :=
  ed_bmL (f := idxM) (fun B H G a xs ds vs es Q k hx hr h2 h => by
    unfold idxM at h
    split at h
    · obtain ⟨⟨js, j⟩, ⟨rfl, hj, hn⟩, h⟩ := h
      rename_i x
      cases h2 with
      | cons a1 a2 =>
        cases a1
        cases a2
        rw [ints_of hr] at hx
        refine ⟨_, _, _, j, .int x, rfl, rfl, SqL.of (k.sub _ _ hx), rfl, ?_, ?_, ?_, ?_, Rs1.now k h (.int _)⟩
        · refine List.all_eq_true.mpr fun v hv => ?_
          obtain ⟨i, _, rfl⟩ := List.mem_map.mp hv
          rfl
        · rw [List.getElem?_map, hj]; rfl
        · show decide (x = x) = true
          exact decide_eq_true rfl
        · intro m z hm hz
          rw [List.getElem?_map] at hz
          cases e : js[m]? with
          | none => rw [e] at hz; cases hz
          | some y =>
            rw [e] at hz
            cases hz
            refine decide_eq_false fun z => hn m hm ?_
            rw [e, ← z]
    · exact h.elim) ha (ea_cons hb ea_nil)
def maxM : List D → M D
  | [.int i, .int j] => M.ret (.int (max i j))
  | _ => M.fail
theorem r_max : RCD S (fun xs H Q => ∃ i j, xs = [.int i, .int j] ∧ Q (.int (if j > i then j else i)) H) maxM := fun B H G vs ds Q k r h => by
  unfold maxM at h
  split at h
  · rename_i i j
    cases r with
    | cons a b =>
      cases b with
      | cons b c =>
        cases a; cases b; cases c
        refine ⟨_, _, rfl, ?_⟩
        rw [show (if j > i then j else i) = max i j by split <;> omega]
        exact Rs1.now k h (.int _)
  · exact h.elim
def minM : List D → M D
  | [.int i, .int j] => M.ret (.int (min i j))
  | _ => M.fail
theorem r_min : RCD S (fun xs H Q => ∃ i j, xs = [.int i, .int j] ∧ Q (.int (if j < i then j else i)) H) minM := fun B H G vs ds Q k r h => by
  unfold minM at h
  split at h
  · rename_i i j
    cases r with
    | cons a b =>
      cases b with
      | cons b c =>
        cases a; cases b; cases c
        refine ⟨_, _, rfl, ?_⟩
        rw [show (if j < i then j else i) = min i j by split <;> omega]
        exact Rs1.now k h (.int _)
  · exact h.elim
theorem maxM_go (i j : Int) : maxM [.int i, .int j] = M.ret (.int (max i j)) := rfl
theorem ed_disp2 {a b c d : Str} : EvD S (tDisp [(tC (.str a), tC (.str b)), (tC (.str c), tC (.str d))]) (fun _ => M.bnd (M.req (a ≠ c)) fun _ => M.ret (.dk [(.inr a, .str b), (.inr c, .str d)])) := fun B σ H G ρ Q k er q p hp => by
  obtain ⟨hac, q⟩ := q
  refine ⟨upd_same, [(.inr a, .str b), (.inr c, .str d)], rfl, by show 2 ≤ 15; decide, ?_⟩
  rw [upd_upd]
  have e : mergeK [] [(.inr a, V.str b), (.inr c, V.str d)] = [(.inr a, .str b), (.inr c, .str d)] := by
    simp [mergeK, putK, hac]
  rw [e]
  obtain ⟨k1, c1⟩ := k.put hp (.dK [(.inr a, .str b), (.inr c, .str d)]) (fun _ z => nomatch z)
  exact (show Rs1 S B H G Q (.dk [(.inr a, .str b), (.inr c, .str d)]) from q) _ _ _ k1 c1 (.dk upd_same rfl (.cons (.str _) (.cons (.str _) .nil)))
def keyOf : D → Option Key
  | .int i => some (.inl i)
  | .str x => some (.inr x)
  | _ => none
def valD (es : List (Key × D)) (k : Key) : Option D := (es.find? fun kv => decide (kv.1 = k)).map (·.2)
theorem val_of {G : Hp} {k : Key} : ∀ {kvs : List (Key × V)} {es : List (Key × D)}, kvs.map (·.1) = es.map (·.1) → RpA S B G (kvs.map (·.2)) (es.map (·.2)) → (valV kvs k = none ∧ valD es k = none) ∨ ∃ v d, valV kvs k = some v ∧ valD es k = some d ∧ Rp S B G v d
  | [], [], _, _ => .inl ⟨rfl, rfl⟩
  | [], _ :: _, h, _ => by cases h
  | _ :: _, [], h, _ => by cases h
  | (k1, v) :: kvs, (k2, d) :: es, h, r => by
    simp only [List.map_cons, List.cons.injEq] at h
    obtain ⟨rfl, h⟩ := h
    cases r with
    | cons r1 r2 =>
      have ih := val_of (k := k) h r2
      unfold valV valD at ih ⊢
      by_cases e : k1 = k
      · right
        simp only [List.find?_cons, e, decide_true, Option.map_some]
        exact ⟨v, d, rfl, rfl, r1⟩
      · simp only [List.find?_cons, decide_eq_false e]
        exact ih
def getM : D → D → D → M D
  | .dk es, y, z => M.bnd (M.opt (keyOf y)) fun k => M.ret ((valD es k).getD z)
  | _, _, _ => M.fail
theorem rp_keyOf {G : Hp} {v : V} {d : D} {k : Key} (h : keyOf d = some k) (r : Rp S B G v d) : v = kV k := by
  cases r <;> first
    | (cases h; rfl)
    | cases h
def asK : D → M D
  | .dk es => M.ret (.dk es)
  | _ => M.fail
theorem asK_run {d : D} {Q : D → Prop} (h : (asK d).run Q) : ∃ es, d = .dk es ∧ Q (.dk es) := by
  cases d <;> first | exact ⟨_, rfl, h⟩ | exact h.elim
theorem ed_dget2 {td ty tx : TE} {md my mx : Env → M D} (hd : EvD S td md) (hy : EvD S ty my) (hx : EvD S tx mx) : EvD S (tDGet2 td ty tx) (fun ρ => M.bnd (md ρ) fun d => M.bnd (asK d) fun d => M.bnd (my ρ) fun y => M.bnd (mx ρ) fun z => getM d y z) := fun B σ H G ρ Q k er q =>
  hd B σ H G ρ _ k er ((md ρ).mono (fun d hd v H1 G1 k1 c1 r1 => by
    obtain ⟨es, rfl, hd⟩ := asK_run hd
    cases r1 with
    | dk ha he hr =>
      refine ⟨_, rfl, .inl ⟨_, .inl (k1.sub _ _ ha)⟩, ?_⟩
      refine hy B σ H1 G1 ρ _ k1 (er.mono c1.ext) ((my ρ).mono (fun y hy v2 H2 G2 k2 c2 r2 => ?_) hd)
      refine hx B σ H2 G2 ρ _ k2 (er.mono (c1.trans c2).ext) ((mx ρ).mono (fun z hz v3 H3 G3 k3 c3 r3 => ?_) hy)
      obtain ⟨kk, hk, hz⟩ := M.run_opt hz
      dsimp only at hz
      have c13 := (c1.trans c2).trans c3
      rw [rp_keyOf hk r2]
      refine ⟨_, .inl ⟨_, kk, .inl (k3.sub _ _ ((c2.trans c3).ext _ _ ha)), rfl, rfl⟩, ?_⟩
      rcases val_of (k := kk) he (hr.mono (c2.trans c3).ext) with ⟨e1, e2⟩ | ⟨v, d, e1, e2, e3⟩
      · rw [e1]; rw [e2] at hz
        exact (show Rs1 S B H G Q z from hz) _ H3 G3 k3 c13 r3
      · rw [e1]; rw [e2] at hz
        exact (show Rs1 S B H G Q d from hz) _ H3 G3 k3 c13 e3) q)
theorem getM_go (es : List (Key × D)) (x : Str) (z : D) : getM (.dk es) (.str x) z = M.ret ((valD es (.inr x)).getD z) := rfl
theorem asK_go (es : List (Key × D)) : asK (.dk es) = M.ret (.dk es) := rfl
def thX (f : D → M Rx) : Rx → M Rx
  | .ok d => f d
  | .er x => M.ret (.er x)
theorem ex_opL {r : R2} {f : D → D → M D} {ta : XK → TE} {tb : TE} {ma : Env → M Rx} {mb : Env → M D} (hr : R2D S r f) (ha : EvX S ta ma) (hb : EvD S tb mb) : EvX S (fun E => tOp r (ta E) tb) (fun ρ => M.bnd (ma ρ) (thX fun x => M.bnd (mb ρ) fun y => M.bnd (f x y) fun z => M.ret (.ok z))) := fun B σ H G ρ Q X k er q =>
  ha B σ H G ρ _ X k er ((ma ρ).mono (fun x hx => by
    cases x with
    | er e => exact hx
    | ok d => exact fun v H1 G1 k1 c1 r1 => hb B σ H1 G1 ρ _ k1 (er.mono c1.ext) ((mb ρ).mono (fun e he v2 H2 G2 k2 c2 r2 => hr B H2 G2 v v2 d e Q k2 (r1.mono c2.ext) r2 ((f d e).mono (fun z hz => Rs1.after (c1.trans c2) hz) he)) hx)) q)
theorem ex_callI {f : List D → M Rx} {i : Int} {t : TA} {m : Env → M (List D)} (h : EvA S t m) : EvX S (fun E => tCall (spX S f) [.int i] E t) (fun ρ => M.bnd (m ρ) fun l => f (l ++ [.int i])) := fun B σ H G ρ Q X k er q =>
  h B σ H G ρ _ k er ((m ρ).mono (fun l hl vs H1 G1 k1 c1 r1 => ⟨B, G1, _, k1, r1.append (.cons (.int i) .nil), (f _).mono (fun z hz => hz.after c1) hl⟩) q)
theorem sv_ins {i j : Nat} {te : TE} {m : Env → M D} (h : EvD S te m) : SvD S X (tDrop (tBM S.K "list" (fun x vs H Q => ∃ (l : Addr) (xs : List V) (i : Int) (y : V), x = .ref l ∧ vs = [.int i, y] ∧ H l = some (.lst xs) ∧ xs.length < sizeLine ∧ 0 ≤ i ∧ i < 2 ^ 63 ∧ Q .non (upd H l (.lst (xs.take i.toNat ++ [y] ++ xs.drop i.toNat)))) (tVar i) (tCons te (tCons (tVar j) tNil)))) (fun ρ => M.bnd (ownL ρ i) fun ds => M.bnd (M.req (ds.length < 100000)) fun _ => M.bnd (m (peek ρ)) fun d => M.bnd (asI d) fun a => M.bnd (M.req (0 ≤ a ∧ a < 2 ^ 63)) fun _ => M.bnd (M.opt ((mask ρ)[j]?.join)) fun d => M.ret (.nx (ρ.set i (some (.o (ds.take a.toNat ++ [d] ++ ds.drop a.toNat)))))) := fun B H0 G0 σ H ρ E ⟨G, A, r⟩ q => by
  obtain ⟨ds, e, hl, q⟩ := ownL_run q
  obtain ⟨h1, h2, h3, o, h4, h5⟩ := r.ow i _ e rfl
  cases o <;> first
    | exact h5.elim
    | (rename_i xs
       refine ⟨_, h1, .inl ⟨rfl, _, SqL.of h4⟩, ?_⟩
       obtain ⟨Gp, kp, er, c0, back⟩ := r.peek
       refine h B σ H Gp (peek ρ) _ kp er ((m (peek ρ)).mono (fun d hd v H1 G1 k1 c1 r1 => ?_) q)
       obtain ⟨G', r', _⟩ := back H1 G1 k1 c1
       cases r1 <;> first
         | exact hd.elim
         | (rename_i a
            obtain ⟨⟨a0, a1⟩, hd⟩ := hd
            obtain ⟨y, hy, hd⟩ := M.run_opt hd
            have ey : (mask ρ)[j]? = some (some y) := by
              cases e : (mask ρ)[j]? with
              | none => rw [e] at hy; cases hy
              | some z => rw [e] at hy; cases z with
                | none => cases hy
                | some z => cases hy; rfl
            obtain ⟨u, hu, ru⟩ := r'.mask.get j y ey
            obtain ⟨_, _, _, o', h4', h5'⟩ := r'.ow i _ e rfl
            have h6 := c1.ch _ (.lst xs) (r.nb h2) (fun _ z => nomatch z) h4
            rw [h6] at h4'
            cases h4'
            refine ⟨u, hu, _, xs, a, u, rfl, rfl, h6, ?_, a0, a1, (show ∀ σ H, Rs S B H0 G0 σ H _ → E.nx σ H from hd) _ _ ⟨G', A, r'.put (s' := .o (ds.take a.toNat ++ [y] ++ ds.drop a.toNat)) e rfl rfl (((RpA.take _ h5').append (.cons ru .nil)).append (RpA.drop _ h5'))⟩⟩
            rw [RpA.length h5]
            exact Nat.lt_of_lt_of_le hl (by decide)))
section
variable {Y : Cx} {K : PySem.W.Frag} {o e : Expr} {es : List Expr} {to : TE} {t : TA} {name : Str} {apos cpos : Pos} {T id : String} {r : V → List V → Hp → VK → Prop}
theorem pe_bmK (hK : Y.K = K) (pa : PlainAttrs T) (slot : Slot T name id) (hty : typeOf (.builtin id) = pure (.type "method_descriptor")) (hm : MtR Y id r) (ho : PE Y o to) (ha : PA Y (e :: es) t)
    (hbase : attributeBase o name Y.env (eval o Y.env) = eval o Y.env := by rfl)
    (hfew : ((backTo cpos (starEach (e :: es) Y.env)).all (fun x => !x.1) && (backToKw cpos (keywordEach [] Y.env)).all (fun x => x.1.isSome)
      && decide ((e :: es).length + ([] : List Keyword).length + (if ([] : List Keyword).isEmpty then 0 else 1) < 30)) = true := by rfl)
    (hline : (apos.endLine == cpos.line) = true := by rfl) (hs : starEach (e :: es) Y.env = (false, eval e Y.env) :: starEach es Y.env := by rfl) (hplain : (backTo cpos (starEach es Y.env)).any (·.1) = false := by rfl) :
    PE Y (.Call (.Attribute o name apos) (e :: es) [] cpos) (tBM K T r to t) := by
  subst hK
  exact pe_bm pa slot hty hm ho ha hbase hfew hline hs hplain
theorem dv_max (hc : Y.calm = true) : CallR Y (.builtin "max") (fun xs H Q => ∃ i j, xs = [.int i, .int j] ∧ Q (.int (if j > i then j else i)) H) := call_max2 hc
end
theorem own_0 (l : List D) (ρ : Ev) : ownL (some (.o l) :: ρ) 0 = M.ret l := rfl
theorem own_S (s : Option Sl) (ρ : Ev) (i : Nat) : ownL (s :: ρ) (i + 1) = ownL ρ i := by
  unfold ownL
  rw [List.getElem?_cons_succ]
def idxI : List Int → Int → Nat
  | [], _ => 0
  | a :: l, x => if a = x then 0 else idxI l x + 1
theorem rp_rg {G : Hp} (lo hi : Int) : RpA S B G (rgV lo hi) (rngD lo (hi - lo).toNat) := by
  unfold rgV rngD
  generalize List.range (hi - lo).toNat = l
  induction l with
  | nil => exact .nil
  | cons a l ih => exact .cons (.int _) ih
theorem el_listRg {ta : TE} {ma : Env → M D} (ha : EvD S ta ma) : EvL S (tLstRg (tRg1 ta)) (fun ρ => M.bnd (ma ρ) fun d => M.bnd (asI d) fun n => M.bnd (M.req (-(2 ^ 62) ≤ n ∧ n ≤ 100000)) fun _ => M.ret (rngD 0 n.toNat)) := fun B σ H G ρ Q k er q =>
  ha B σ H G ρ _ k er ((ma ρ).mono (fun d hd v H1 G1 k1 c1 r1 => by
    cases r1 <;> first
      | exact hd.elim
      | (rename_i n
         obtain ⟨⟨h1, h2⟩, hd⟩ := hd
         refine ⟨n, rfl, ⟨by decide, by decide, h1, by omega, by omega⟩, fun p hp => ?_⟩
         have := rp_rg (S := S) (B := B) (G := G1) 0 n
         rw [Int.sub_zero] at this
         exact Rs2.lay k1 (Rs2.after c1 (show Rs2 S B H G Q (rngD 0 n.toNat) from hd)) this hp)) q)
theorem seq_cut {m : M Ou} {h : Ev → M Ou} {P : Ou → Prop} (I : Ev → Prop) (h1 : m.run fun o => ∃ ρ, o = .nx ρ ∧ I ρ) (h2 : ∀ ρ, I ρ → (h ρ).run P) : (M.bnd m (thenM h)).run P := m.mono (fun o ⟨ρ, e, hi⟩ => by
  subst e
  exact h2 ρ hi) h1
end Dv
namespace Dv
open PySem PySem.Spec PyProof.Rows L2 RZ Sg Tm Wb
local macro_rules | `(tactic| walk_at "r2") => `(tactic| first | with_reducible exact r_I0 | with_reducible exact r_I | with_reducible exact r_eq | with_reducible exact r_ne | with_reducible exact r_isN | with_reducible exact r_notN | with_reducible exact r_ixL | with_reducible exact r_ixT | with_reducible exact r_ixQ | with_reducible exact r_eqD | with_reducible exact r_neD | with_reducible exact r_inD | with_reducible exact r_notInD | with_reducible exact r_isB | with_reducible exact r_notB)
local macro_rules | `(tactic| walk_at "r2l") => `(tactic| first | with_reducible exact r_cat)
local macro_rules | `(tactic| walk_at "rc") => `(tactic| first | with_reducible exact r_len | with_reducible exact r_all)
local macro_rules | `(tactic| walk_at "rcl") => `(tactic| first | with_reducible exact r_list)
local macro_rules | `(tactic| walk_at "eo") => `(tactic| first | with_reducible exact eo_none | (with_reducible apply eo_some; walk_at "ed"))
local macro_rules | `(tactic| walk_at "ea") => `(tactic| first | with_reducible exact ea_nil | (with_reducible apply ea_star; walk_at "ed"; walk_at "ea") | (with_reducible apply ea_cons; walk_at "ed"; walk_at "ea"))
local macro_rules | `(tactic| walk_at "et") => `(tactic| first
  | with_reducible exact et_yes
  | (with_reducible apply et_test; walk_at "ed") | (with_reducible apply et_B; walk_at "ed") | (with_reducible apply et_not; walk_at "et")
  | (with_reducible apply et_and; walk_at "et"; walk_at "et") | (with_reducible apply et_or; walk_at "et"; walk_at "et"))
local macro_rules | `(tactic| walk_at "eg") => `(tactic| first | with_reducible exact eg_name | (with_reducible apply eg_tup; walk_at "egs"))
local macro_rules | `(tactic| walk_at "egs") => `(tactic| first | with_reducible exact eg_nil | (with_reducible apply eg_cons; walk_at "eg"; walk_at "egs"))
local macro_rules | `(tactic| walk_at "es") => `(tactic| first | with_reducible exact es_name | (with_reducible apply es_tup; walk_at "ess"))
local macro_rules | `(tactic| walk_at "ess") => `(tactic| first | with_reducible exact es_nil | (with_reducible apply es_cons; walk_at "es"; walk_at "ess"))
local macro_rules | `(tactic| walk_at "ei") => `(tactic| first | (with_reducible apply ei_list; walk_at "ed") | (with_reducible apply ei_tup; walk_at "ed") | (with_reducible apply ei_rng1; walk_at "ea") | (with_reducible apply ei_rng2; walk_at "ea") | (with_reducible apply ei_str; walk_at "ed"))
local macro_rules | `(tactic| walk_at "el") => `(tactic| first
  | (with_reducible apply el_lst; walk_at "ea")
  | (focus (with_reducible apply el_lc; rotate_left; walk_at "ei"; walk_at "eg"; walk_at "et"; walk_at "ed"; decide))
  | (with_reducible apply el_op; walk_at "r2l"; walk_at "ed"; walk_at "ed")
  | (with_reducible apply el_cb; walk_at "rcl"; walk_at "ea")
  | (with_reducible apply el_sl; walk_at "ed"; walk_at "eo"; walk_at "eo")
  | (with_reducible apply el_call; walk_at "ea")
  | walk_at "el+"
  | (with_reducible apply el_meth; decide; walk_at "ed"; walk_at "ea"))
local macro_rules | `(tactic| walk_at "ed") => `(tactic| first
  | with_reducible exact ed_var | with_reducible exact ed_c
  | (with_reducible apply ed_op; walk_at "r2"; walk_at "ed"; walk_at "ed")
  | (with_reducible apply ed_call; walk_at "ea")
  | (with_reducible apply ed_callX; walk_at "ea")
  | (with_reducible apply ed_tup; walk_at "ea")
  | (with_reducible apply ed_if; walk_at "et"; walk_at "ed"; walk_at "ed")
  | (with_reducible apply ed_cb; walk_at "rc"; walk_at "ea")
  | (with_reducible apply ed_un r_U; walk_at "ed")
  | (with_reducible apply ed_chain; walk_at "r2"; walk_at "r2"; walk_at "ed"; walk_at "ed"; walk_at "ed")
  | (with_reducible apply ed_andV; walk_at "ed"; walk_at "ed") | (with_reducible apply ed_orV; walk_at "ed"; walk_at "ed")
  | (with_reducible apply ed_meth; decide; walk_at "ed"; walk_at "ea")
  | walk_at "ed+"
  | (with_reducible apply EvL.d; walk_at "el"))
local macro_rules | `(tactic| walk_at "svF") => `(tactic| first
  | (with_reducible apply sv_seq; walk_at "svF"; walk_at "svF")
  | (with_reducible apply sv_asg; walk_at "ed")
  | (with_reducible apply sv_if; walk_at "et"; walk_at "svF"; walk_at "svF")
  | (with_reducible apply sv_for; walk_at "ei"; walk_at "es"; walk_at "svF")
  | walk_at "sv")
local macro_rules | `(tactic| walk_at "sv") => `(tactic| first
  | with_reducible exact sv_next | with_reducible exact sv_break | with_reducible exact sv_cont | with_reducible exact sv_never | with_reducible exact sv_retN
  | (with_reducible apply sv_seq; walk_at "sv"; walk_at "sv")
  | (with_reducible apply sv_asgL; walk_at "el")
  | (with_reducible apply sv_asg; walk_at "ed")
  | (with_reducible apply sv_if; walk_at "et"; walk_at "sv"; walk_at "sv")
  | (with_reducible apply sv_for; walk_at "ei"; walk_at "es"; walk_at "sv")
  | (with_reducible apply sv_par; walk_at "ea")
  | (with_reducible apply sv_app; walk_at "ed")
  | (with_reducible apply sv_ret; walk_at "ed")
  | (with_reducible apply sv_asgT; walk_at "ed"; walk_at "es")
  | (with_reducible apply sv_drop; walk_at "ed"))
local macro_rules | `(tactic| walk_at "ed+") => `(tactic| first | (with_reducible apply ed_chain; walk_at "r2"; walk_at "r2"; walk_at "ed"; walk_at "ed"; walk_at "ed") | (with_reducible apply ed_mk2; walk_at "ea"; walk_at "ea"))
theorem srtK_eq {d : Nat} {l u v : List Ks} (hu : SrtK l u) (hv : SrtK l v) (ht : ∀ k ∈ l, TieK 128 d k) : u = v := by
  have e : ∀ m : List Ks, (m.map fun k => ((0, k) : TK)).map (·.2) = m := fun m => by
    rw [List.map_map]
    exact List.map_id _
  have := same_keys (B := 128) (d := d) (U := u.map fun k => ((0, k) : TK)) (V := v.map fun k => ((0, k) : TK)) (fun p hp => by
    obtain ⟨k, hk, rfl⟩ := List.mem_map.mp hp
    exact ht k (hu.of k hk)) (fun p hp => by
    obtain ⟨k, hk, rfl⟩ := List.mem_map.mp hp
    exact ht k (hv.of k hk)) (by rw [e]; exact hu.nd) (by rw [e]; exact hv.nd) (by rw [List.pairwise_map]; exact hu.ris) (by rw [List.pairwise_map]; exact hv.ris) (fun k => by
    rw [e, e]
    exact ⟨fun h => hv.all k (hu.of k h), fun h => hu.all k (hv.of k h)⟩)
  rw [e, e] at this
  exact this
theorem WebK.self {n : Int} {As Ms : List Ks} (h : WebK n As Ms) (hn : n ≤ 81) {u v : List Ks} (hu : SrtK As u) (hv : SrtK Ms v) : u = As ∧ v = Ms :=
  ⟨srtK_eq hu h.sa fun k hk => (h.ka k hk).tie (by omega), srtK_eq hv h.sm fun k hk => (h.km k hk).tie (by omega)⟩
section
variable {P : Program} {w : World} {K : PySem.W.Frag} {mg : Str → Option Value} {base : Heap} {C : Addr} {T : List (Addr × Str)} {cls : Str → Addr}
def madeM : List D → M D
  | [.tup [.int n, .lst es, .lst fs]] => mkM n es fs
  | _ => M.fail
end
end Dv
namespace Dv
open PySem PySem.Spec PyProof.Rows L2 RZ Sg Tm Wb
section
variable {P : Program} {w : World} {K : PySem.W.Frag} {mg : Str → Option Value} {base : Heap} {C : Addr} {T : List (Addr × Str)} {cls : Str → Addr}
def mk0M : List D → M D
  | [.int n] => M.bnd (M.req (0 ≤ n ∧ n ≤ 81)) fun _ => M.ret (.web n [] [])
  | _ => M.fail
end
end Dv
namespace Dv
open PySem PySem.Spec PyProof.Rows L2 RZ Sg Tm Wb
local macro_rules | `(tactic| walk_at "r2") => `(tactic| first | with_reducible exact r_I0 | with_reducible exact r_I | with_reducible exact r_eq | with_reducible exact r_ne | with_reducible exact r_isN | with_reducible exact r_notN | with_reducible exact r_ixL | with_reducible exact r_ixT | with_reducible exact r_ixQ | with_reducible exact r_eqD | with_reducible exact r_neD | with_reducible exact r_inD | with_reducible exact r_notInD | with_reducible exact r_isB | with_reducible exact r_notB)
local macro_rules | `(tactic| walk_at "r2l") => `(tactic| first | with_reducible exact r_cat)
local macro_rules | `(tactic| walk_at "rc") => `(tactic| first | with_reducible exact r_len | with_reducible exact r_all)
local macro_rules | `(tactic| walk_at "rcl") => `(tactic| first | with_reducible exact r_list)
local macro_rules | `(tactic| walk_at "eo") => `(tactic| first | with_reducible exact eo_none | (with_reducible apply eo_some; walk_at "ed"))
local macro_rules | `(tactic| walk_at "ea") => `(tactic| first | with_reducible exact ea_nil | (with_reducible apply ea_star; walk_at "ed"; walk_at "ea") | (with_reducible apply ea_cons; walk_at "ed"; walk_at "ea"))
local macro_rules | `(tactic| walk_at "et") => `(tactic| first
  | with_reducible exact et_yes
  | (with_reducible apply et_test; walk_at "ed") | (with_reducible apply et_B; walk_at "ed") | (with_reducible apply et_not; walk_at "et")
  | (with_reducible apply et_and; walk_at "et"; walk_at "et") | (with_reducible apply et_or; walk_at "et"; walk_at "et"))
local macro_rules | `(tactic| walk_at "eg") => `(tactic| first | with_reducible exact eg_name | (with_reducible apply eg_tup; walk_at "egs"))
local macro_rules | `(tactic| walk_at "egs") => `(tactic| first | with_reducible exact eg_nil | (with_reducible apply eg_cons; walk_at "eg"; walk_at "egs"))
local macro_rules | `(tactic| walk_at "es") => `(tactic| first | with_reducible exact es_name | (with_reducible apply es_tup; walk_at "ess"))
local macro_rules | `(tactic| walk_at "ess") => `(tactic| first | with_reducible exact es_nil | (with_reducible apply es_cons; walk_at "es"; walk_at "ess"))
local macro_rules | `(tactic| walk_at "ei") => `(tactic| first | (with_reducible apply ei_list; walk_at "ed") | (with_reducible apply ei_tup; walk_at "ed") | (with_reducible apply ei_rng1; walk_at "ea") | (with_reducible apply ei_rng2; walk_at "ea") | (with_reducible apply ei_str; walk_at "ed"))
local macro_rules | `(tactic| walk_at "el") => `(tactic| first
  | (with_reducible apply el_lst; walk_at "ea")
  | (focus (with_reducible apply el_lc; rotate_left; walk_at "ei"; walk_at "eg"; walk_at "et"; walk_at "ed"; decide))
  | (with_reducible apply el_op; walk_at "r2l"; walk_at "ed"; walk_at "ed")
  | (with_reducible apply el_cb; walk_at "rcl"; walk_at "ea")
  | (with_reducible apply el_sl; walk_at "ed"; walk_at "eo"; walk_at "eo")
  | (with_reducible apply el_call; walk_at "ea")
  | walk_at "el+"
  | (with_reducible apply el_meth; decide; walk_at "ed"; walk_at "ea"))
local macro_rules | `(tactic| walk_at "ed") => `(tactic| first
  | with_reducible exact ed_var | with_reducible exact ed_c
  | (with_reducible apply ed_op; walk_at "r2"; walk_at "ed"; walk_at "ed")
  | (with_reducible apply ed_call; walk_at "ea")
  | (with_reducible apply ed_callX; walk_at "ea")
  | (with_reducible apply ed_tup; walk_at "ea")
  | (with_reducible apply ed_if; walk_at "et"; walk_at "ed"; walk_at "ed")
  | (with_reducible apply ed_cb; walk_at "rc"; walk_at "ea")
  | (with_reducible apply ed_un r_U; walk_at "ed")
  | (with_reducible apply ed_chain; walk_at "r2"; walk_at "r2"; walk_at "ed"; walk_at "ed"; walk_at "ed")
  | (with_reducible apply ed_andV; walk_at "ed"; walk_at "ed") | (with_reducible apply ed_orV; walk_at "ed"; walk_at "ed")
  | (with_reducible apply ed_meth; decide; walk_at "ed"; walk_at "ea")
  | walk_at "ed+"
  | (with_reducible apply EvL.d; walk_at "el"))
local macro_rules | `(tactic| walk_at "svF") => `(tactic| first
  | (with_reducible apply sv_seq; walk_at "svF"; walk_at "svF")
  | (with_reducible apply sv_asg; walk_at "ed")
  | (with_reducible apply sv_if; walk_at "et"; walk_at "svF"; walk_at "svF")
  | (with_reducible apply sv_for; walk_at "ei"; walk_at "es"; walk_at "svF")
  | walk_at "sv")
local macro_rules | `(tactic| walk_at "sv") => `(tactic| first
  | with_reducible exact sv_next | with_reducible exact sv_break | with_reducible exact sv_cont | with_reducible exact sv_never | with_reducible exact sv_retN
  | (with_reducible apply sv_seq; walk_at "sv"; walk_at "sv")
  | (with_reducible apply sv_asgL; walk_at "el")
  | (with_reducible apply sv_asg; walk_at "ed")
  | (with_reducible apply sv_if; walk_at "et"; walk_at "sv"; walk_at "sv")
  | (with_reducible apply sv_for; walk_at "ei"; walk_at "es"; walk_at "sv")
  | (with_reducible apply sv_par; walk_at "ea")
  | (with_reducible apply sv_app; walk_at "ed")
  | (with_reducible apply sv_ret; walk_at "ed")
  | (with_reducible apply sv_asgT; walk_at "ed"; walk_at "es")
  | (with_reducible apply sv_drop; walk_at "ed"))
local macro_rules | `(tactic| walk_at "rc") => `(tactic| first | with_reducible exact r_len | with_reducible exact r_all | with_reducible exact r_max | with_reducible exact r_min)
local macro_rules | `(tactic| walk_at "rcl") => `(tactic| first | with_reducible exact r_list | with_reducible exact r_sort)
local macro_rules | `(tactic| walk_at "el+") => `(tactic| (with_reducible apply el_listRg; walk_at "ed"))
local macro_rules | `(tactic| walk_at "edm") => `(tactic| first | (with_reducible apply ed_index; walk_at "ed"; walk_at "ed") | (with_reducible apply ed_dget2; walk_at "ed"; walk_at "ed"; walk_at "ed") | with_reducible exact ed_disp2 | (with_reducible apply ed_chain; walk_at "r2"; walk_at "r2"; walk_at "ed"; walk_at "ed"; walk_at "ed"))
local macro_rules | `(tactic| walk_at "ed+") => `(tactic| walk_at "edm")
local macro_rules | `(tactic| walk_at "ex") => `(tactic| first | (with_reducible apply ex_callI; walk_at "ea") | (with_reducible apply ex_call; walk_at "ea") | (with_reducible apply ex_opL; walk_at "r2"; walk_at "ex"; walk_at "ed"))
local macro_rules | `(tactic| walk_at "svM") => `(tactic| first
  | (with_reducible apply sv_seq; walk_at "svM"; walk_at "svM")
  | (with_reducible apply sv_ins; walk_at "ed")
  | (with_reducible apply sv_asg; walk_at "ed")
  | (with_reducible apply sv_asgX; walk_at "ex")
  | (with_reducible apply sv_retX; walk_at "ex")
  | (with_reducible apply sv_if; walk_at "et"; walk_at "svM"; walk_at "svM")
  | (with_reducible apply sv_for; walk_at "ei"; walk_at "es"; walk_at "svM")
  | walk_at "sv")
local macro_rules | `(tactic| walk_at "svO") => `(tactic| first
  | (with_reducible apply sv_seq; walk_at "svO"; walk_at "svO")
  | (with_reducible apply sv_asgL; walk_at "el")
  | (with_reducible apply sv_ins; walk_at "ed")
  | (with_reducible apply sv_for; walk_at "ei"; walk_at "es"; walk_at "svO")
  | with_reducible exact sv_retV
  | walk_at "sv")
section
variable {P : Program} {w : World} {K : PySem.W.Frag} {mg : Str → Option Value} {base : Heap} {C : Addr} {T : List (Addr × Str)} {cls : Str → Addr}
end
end Dv
namespace Dv
open PySem PySem.Spec PyProof.Rows L2 RZ Sg Tm Wb
local macro_rules | `(tactic| walk_at "r2") => `(tactic| first | with_reducible exact r_I0 | with_reducible exact r_I | with_reducible exact r_eq | with_reducible exact r_ne | with_reducible exact r_isN | with_reducible exact r_notN | with_reducible exact r_ixL | with_reducible exact r_ixT | with_reducible exact r_ixQ | with_reducible exact r_eqD | with_reducible exact r_neD | with_reducible exact r_inD | with_reducible exact r_notInD | with_reducible exact r_isB | with_reducible exact r_notB)
local macro_rules | `(tactic| walk_at "r2l") => `(tactic| first | with_reducible exact r_cat)
local macro_rules | `(tactic| walk_at "rc") => `(tactic| first | with_reducible exact r_len | with_reducible exact r_all)
local macro_rules | `(tactic| walk_at "rcl") => `(tactic| first | with_reducible exact r_list)
local macro_rules | `(tactic| walk_at "eo") => `(tactic| first | with_reducible exact eo_none | (with_reducible apply eo_some; walk_at "ed"))
local macro_rules | `(tactic| walk_at "ea") => `(tactic| first | with_reducible exact ea_nil | (with_reducible apply ea_star; walk_at "ed"; walk_at "ea") | (with_reducible apply ea_cons; walk_at "ed"; walk_at "ea"))
local macro_rules | `(tactic| walk_at "et") => `(tactic| first
  | with_reducible exact et_yes
  | (with_reducible apply et_test; walk_at "ed") | (with_reducible apply et_B; walk_at "ed") | (with_reducible apply et_not; walk_at "et")
  | (with_reducible apply et_and; walk_at "et"; walk_at "et") | (with_reducible apply et_or; walk_at "et"; walk_at "et"))
local macro_rules | `(tactic| walk_at "eg") => `(tactic| first | with_reducible exact eg_name | (with_reducible apply eg_tup; walk_at "egs"))
local macro_rules | `(tactic| walk_at "egs") => `(tactic| first | with_reducible exact eg_nil | (with_reducible apply eg_cons; walk_at "eg"; walk_at "egs"))
local macro_rules | `(tactic| walk_at "es") => `(tactic| first | with_reducible exact es_name | (with_reducible apply es_tup; walk_at "ess"))
local macro_rules | `(tactic| walk_at "ess") => `(tactic| first | with_reducible exact es_nil | (with_reducible apply es_cons; walk_at "es"; walk_at "ess"))
local macro_rules | `(tactic| walk_at "ei") => `(tactic| first | (with_reducible apply ei_list; walk_at "ed") | (with_reducible apply ei_tup; walk_at "ed") | (with_reducible apply ei_rng1; walk_at "ea") | (with_reducible apply ei_rng2; walk_at "ea") | (with_reducible apply ei_str; walk_at "ed"))
local macro_rules | `(tactic| walk_at "el") => `(tactic| first
  | (with_reducible apply el_lst; walk_at "ea")
  | (focus (with_reducible apply el_lc; rotate_left; walk_at "ei"; walk_at "eg"; walk_at "et"; walk_at "ed"; decide))
  | (with_reducible apply el_op; walk_at "r2l"; walk_at "ed"; walk_at "ed")
  | (with_reducible apply el_cb; walk_at "rcl"; walk_at "ea")
  | (with_reducible apply el_sl; walk_at "ed"; walk_at "eo"; walk_at "eo")
  | (with_reducible apply el_call; walk_at "ea")
  | walk_at "el+"
  | (with_reducible apply el_meth; decide; walk_at "ed"; walk_at "ea"))
local macro_rules | `(tactic| walk_at "ed") => `(tactic| first
  | with_reducible exact ed_var | with_reducible exact ed_c
  | (with_reducible apply ed_op; walk_at "r2"; walk_at "ed"; walk_at "ed")
  | (with_reducible apply ed_call; walk_at "ea")
  | (with_reducible apply ed_callX; walk_at "ea")
  | (with_reducible apply ed_tup; walk_at "ea")
  | (with_reducible apply ed_if; walk_at "et"; walk_at "ed"; walk_at "ed")
  | (with_reducible apply ed_cb; walk_at "rc"; walk_at "ea")
  | (with_reducible apply ed_un r_U; walk_at "ed")
  | (with_reducible apply ed_chain; walk_at "r2"; walk_at "r2"; walk_at "ed"; walk_at "ed"; walk_at "ed")
  | (with_reducible apply ed_andV; walk_at "ed"; walk_at "ed") | (with_reducible apply ed_orV; walk_at "ed"; walk_at "ed")
  | (with_reducible apply ed_meth; decide; walk_at "ed"; walk_at "ea")
  | walk_at "ed+"
  | (with_reducible apply EvL.d; walk_at "el"))
local macro_rules | `(tactic| walk_at "svF") => `(tactic| first
  | (with_reducible apply sv_seq; walk_at "svF"; walk_at "svF")
  | (with_reducible apply sv_asg; walk_at "ed")
  | (with_reducible apply sv_if; walk_at "et"; walk_at "svF"; walk_at "svF")
  | (with_reducible apply sv_for; walk_at "ei"; walk_at "es"; walk_at "svF")
  | walk_at "sv")
local macro_rules | `(tactic| walk_at "sv") => `(tactic| first
  | with_reducible exact sv_next | with_reducible exact sv_break | with_reducible exact sv_cont | with_reducible exact sv_never | with_reducible exact sv_retN
  | (with_reducible apply sv_seq; walk_at "sv"; walk_at "sv")
  | (with_reducible apply sv_asgL; walk_at "el")
  | (with_reducible apply sv_asg; walk_at "ed")
  | (with_reducible apply sv_if; walk_at "et"; walk_at "sv"; walk_at "sv")
  | (with_reducible apply sv_for; walk_at "ei"; walk_at "es"; walk_at "sv")
  | (with_reducible apply sv_par; walk_at "ea")
  | (with_reducible apply sv_app; walk_at "ed")
  | (with_reducible apply sv_ret; walk_at "ed")
  | (with_reducible apply sv_asgT; walk_at "ed"; walk_at "es")
  | (with_reducible apply sv_drop; walk_at "ed"))
local macro_rules | `(tactic| walk_at "rc") => `(tactic| first | with_reducible exact r_len | with_reducible exact r_all | with_reducible exact r_max | with_reducible exact r_min)
local macro_rules | `(tactic| walk_at "rcl") => `(tactic| first | with_reducible exact r_list | with_reducible exact r_sort)
local macro_rules | `(tactic| walk_at "el+") => `(tactic| (with_reducible apply el_listRg; walk_at "ed"))
local macro_rules | `(tactic| walk_at "edm") => `(tactic| first | (with_reducible apply ed_index; walk_at "ed"; walk_at "ed") | (with_reducible apply ed_dget2; walk_at "ed"; walk_at "ed"; walk_at "ed") | with_reducible exact ed_disp2 | (with_reducible apply ed_chain; walk_at "r2"; walk_at "r2"; walk_at "ed"; walk_at "ed"; walk_at "ed"))
local macro_rules | `(tactic| walk_at "ed+") => `(tactic| walk_at "edm")
local macro_rules | `(tactic| walk_at "ex") => `(tactic| first | (with_reducible apply ex_callI; walk_at "ea") | (with_reducible apply ex_call; walk_at "ea") | (with_reducible apply ex_opL; walk_at "r2"; walk_at "ex"; walk_at "ed"))
local macro_rules | `(tactic| walk_at "svM") => `(tactic| first
  | (with_reducible apply sv_seq; walk_at "svM"; walk_at "svM")
  | (with_reducible apply sv_ins; walk_at "ed")
  | (with_reducible apply sv_asg; walk_at "ed")
  | (with_reducible apply sv_asgX; walk_at "ex")
  | (with_reducible apply sv_retX; walk_at "ex")
  | (with_reducible apply sv_if; walk_at "et"; walk_at "svM"; walk_at "svM")
  | (with_reducible apply sv_for; walk_at "ei"; walk_at "es"; walk_at "svM")
  | walk_at "sv")
theorem AK.mono {n m : Int} {k : Ks} (h : AK n k) (hn : n ≤ m) : AK m k := by
  obtain ⟨c, x, y, e, hc, x0, x1, y0, y1⟩ := h
  exact ⟨c, x, y, e, hc, x0, by omega, y0, by omega⟩
theorem MK.mono {n m : Int} {k : Ks} (h : MK n k) (hn : n ≤ m) : MK m k := by
  obtain ⟨c, x, e, hc, x0, x1⟩ := h
  exact ⟨c, x, e, hc, x0, by omega⟩
section
variable {P : Program} {w : World} {K : PySem.W.Frag} {mg : Str → Option Value} {base : Heap} {C : Addr} {T : List (Addr × Str)} {cls : Str → Addr}
end
end Dv
namespace Dv
open PySem PySem.Spec PyProof.Rows L2 Sg
variable {S : Base} {B : Bo S} {X : XK}
def dgM : D → D → M D
  | .dk es, y => M.bnd (M.opt (keyOf y)) fun k => M.opt (valD es k)
  | _, _ => M.fail
theorem dg_run {d y : D} {Q : D → Prop} (h : (dgM d y).run Q) : ∃ es k z, d = .dk es ∧ keyOf y = some k ∧ valD es k = some z ∧ Q z := by
  cases d <;> first
    | exact h.elim
    | (obtain ⟨k, hk, h⟩ := M.run_opt h
       obtain ⟨z, hz, h⟩ := M.run_opt h
       exact ⟨_, k, z, rfl, hk, hz, h⟩)
theorem ed_dget {td ty : TE} {md my : Env → M D} (hd : EvD S td md) (hy : EvD S ty my) : EvD S (tDGet td ty) (fun ρ => M.bnd (md ρ) fun d => M.bnd (my ρ) fun y => dgM d y) := fun B σ H G ρ Q k er q =>
  hd B σ H G ρ _ k er ((md ρ).mono (fun d hd v H1 G1 k1 c1 r1 => hy B σ H1 G1 ρ _ k1 (er.mono c1.ext) ((my ρ).mono (fun y hy v2 H2 G2 k2 c2 r2 => by
    obtain ⟨es, kk, z, rfl, hk, hz, hq⟩ := dg_run hy
    cases r1 with
    | dk ha he hr =>
      rcases val_of (k := kk) he (hr.mono c2.ext) with ⟨e1, e2⟩ | ⟨v, d, e1, e2, e3⟩
      · rw [hz] at e2; cases e2
      · rw [hz] at e2
        cases e2
        refine ⟨_, v, rfl, ?_, (show Rs1 S B H G Q z from hq) v H2 G2 k2 (c1.trans c2) e3⟩
        rw [rp_keyOf hk r2, ← e1]
        exact DGet.k (k2.sub _ _ (c2.ext _ _ ha))) hd)) q)
def dinM (n : Bool) : D → D → M D
  | y, .dk es => M.bnd (M.opt (keyOf y)) fun k => M.ret (.bl (if n then !(valD es k).isSome else (valD es k).isSome))
  | _, _ => M.fail
theorem din_run {n : Bool} {d y : D} {Q : D → Prop} (h : (dinM n y d).run Q) : ∃ es k, d = .dk es ∧ keyOf y = some k ∧ Q (.bl (if n then !(valD es k).isSome else (valD es k).isSome)) := by
  cases d <;> first
    | exact h.elim
    | (obtain ⟨k, hk, h⟩ := M.run_opt h
       exact ⟨_, k, rfl, hk, h⟩)
theorem val_some {G : Hp} {k : Key} {kvs : List (Key × V)} {es : List (Key × D)} (h : kvs.map (·.1) = es.map (·.1)) (r : RpA S B G (kvs.map (·.2)) (es.map (·.2))) : (valV kvs k).isSome = (valD es k).isSome := by
  rcases val_of (k := k) h r with ⟨e1, e2⟩ | ⟨v, d, e1, e2, _⟩ <;> rw [e1, e2] <;> rfl
theorem ed_din {td ty : TE} {md my : Env → M D} (hy : EvD S ty my) (hd : EvD S td md) : EvD S (tDIn ty td) (fun ρ => M.bnd (my ρ) fun y => M.bnd (md ρ) fun d => dinM false y d) := fun B σ H G ρ Q k er q =>
  hy B σ H G ρ _ k er ((my ρ).mono (fun y hy v H1 G1 k1 c1 r1 => hd B σ H1 G1 ρ _ k1 (er.mono c1.ext) ((md ρ).mono (fun d hd v2 H2 G2 k2 c2 r2 => by
    obtain ⟨es, kk, rfl, hk, hq⟩ := din_run hd
    cases r2 with
    | dk ha he hr =>
      refine ⟨_, _, rfl, by rw [rp_keyOf hk r1]; exact DGet.k (k2.sub _ _ ha), ?_⟩
      rw [val_some he hr]
      exact (show Rs1 S B H G Q _ from hq) _ H2 G2 k2 (c1.trans c2) (.bl _)) hy)) q)
theorem ed_dnin {td ty : TE} {md my : Env → M D} (hy : EvD S ty my) (hd : EvD S td md) : EvD S (tDNotIn ty td) (fun ρ => M.bnd (my ρ) fun y => M.bnd (md ρ) fun d => dinM true y d) := fun B σ H G ρ Q k er q =>
  hy B σ H G ρ _ k er ((my ρ).mono (fun y hy v H1 G1 k1 c1 r1 => hd B σ H1 G1 ρ _ k1 (er.mono c1.ext) ((md ρ).mono (fun d hd v2 H2 G2 k2 c2 r2 => by
    obtain ⟨es, kk, rfl, hk, hq⟩ := din_run hd
    cases r2 with
    | dk ha he hr =>
      refine ⟨_, _, rfl, by rw [rp_keyOf hk r1]; exact DGet.k (k2.sub _ _ ha), ?_⟩
      rw [val_some he hr]
      exact (show Rs1 S B H G Q _ from hq) _ H2 G2 k2 (c1.trans c2) (.bl _)) hy)) q)
def lenK : List D → M D
  | [.dk es] => M.ret (.int es.length)
  | _ => M.fail
theorem r_lenK : RCD S (fun xs H Q => ∃ a kvs, xs = [V.ref a] ∧ H a = some (.dK kvs) ∧ Q (.int kvs.length) H) lenK := fun B H G vs ds Q k r h => by
  unfold lenK at h
  split at h
  · rename_i es
    cases r with
    | cons a b =>
      cases b
      cases a with
      | dk ha he hr =>
        rename_i kvs
        refine ⟨_, _, rfl, k.sub _ _ ha, ?_⟩
        have e := congrArg List.length he
        rw [List.length_map, List.length_map] at e
        rw [e]
        exact Rs1.now k h (.int _)
  · exact h.elim
def Rs3 (S : Base) (B : Bo S) (H G : Hp) (Q : VK) (es : List (Key × D)) : Prop := ∀ p kvs H' G', FrA H p → Ok B H' G' → Ch B H G H' G' → H' p = some (.dK kvs) → G' p = none → kvs.map (·.1) = es.map (·.1) → RpA S B G' (kvs.map (·.2)) (es.map (·.2)) → Q (.ref p) H'
def EvK (S : Base) (te : TE) (m : Env → M (List (Key × D))) : Prop := ∀ B σ H G ρ Q, Ok B H G → Er S B G σ ρ → (m ρ).run (Rs3 S B H G Q) → te σ H Q
theorem ek_new : EvK S tDNewK (fun _ => M.ret []) := fun B σ H G ρ Q k er q p hp => by
  obtain ⟨k2, c2⟩ := k.lay hp (.dK [])
  exact (show Rs3 S B H G Q [] from q) p [] _ _ (FrA.of hp) k2 c2 upd_same (k.sub.free hp) rfl .nil
theorem sv_asgK {te : TE} {m : Env → M (List (Key × D))} {i : Nat} (h : EvK S te m) : SvD S X (tAsg te (gName i)) (fun ρ => M.bnd (m (mask ρ)) fun es => M.ret (.nx (ρ.set i (some (.od es))))) := fun B H0 G0 σ H ρ E ⟨G, A, r⟩ q =>
  h B σ H G (mask ρ) _ r.ok r.mask ((m (mask ρ)).mono (fun es hd p kvs H1 G1 n k1 c1 h1 g1 e1 r1 => by
    have r' := r.step k1 c1
    exact (show ∀ σ H, Rs S B H0 G0 σ H (ρ.set i (some (.od es))) → E.nx σ H from hd) _ _ ⟨G1, _, r'.own (s := .od es) rfl (r.ch.fr _ n) h1 g1 ⟨e1, r1⟩ (fun j t e w z => by
      obtain ⟨_, _, _, o, ho, hw⟩ := r.ow j t e w
      exact n.ne ho (plainO.nt hw.pl) z) i⟩) q)
def putD (es : List (Key × D)) (k : Key) (d : D) : List (Key × D) :=
  if (es.any fun kv => decide (kv.1 = k)) = true then es.map (fun kv => if kv.1 = k then (kv.1, d) else kv) else es ++ [(k, d)]
theorem put_of {G : Hp} {k : Key} {v : V} {d : D} (rv : Rp S B G v d) {kvs : List (Key × V)} {es : List (Key × D)} (h : kvs.map (·.1) = es.map (·.1)) (r : RpA S B G (kvs.map (·.2)) (es.map (·.2))) : (putK kvs k v).map (·.1) = (putD es k d).map (·.1) ∧ RpA S B G ((putK kvs k v).map (·.2)) ((putD es k d).map (·.2)) := by
  have ha : (kvs.any fun kv => decide (kv.1 = k)) = (es.any fun kv => decide (kv.1 = k)) := by
    have e1 : ∀ l : List (Key × V), (l.any fun kv => decide (kv.1 = k)) = ((l.map (·.1)).any fun x => decide (x = k)) := fun l => by rw [List.any_map]; rfl
    have e2 : ∀ l : List (Key × D), (l.any fun kv => decide (kv.1 = k)) = ((l.map (·.1)).any fun x => decide (x = k)) := fun l => by rw [List.any_map]; rfl
    rw [e1, e2, h]
  unfold putK putD
  rw [ha]
  split
  · rename_i hh
    clear ha hh
    induction kvs generalizing es with
    | nil =>
      cases es with
      | nil => exact ⟨rfl, .nil⟩
      | cons _ _ => cases h
    | cons p kvs ih =>
      cases es with
      | nil => cases h
      | cons q es =>
        simp only [List.map_cons, List.cons.injEq] at h
        cases r with
        | cons r1 r2 =>
          obtain ⟨i1, i2⟩ := ih h.2 r2
          simp only [List.map_cons, h.1]
          by_cases e : q.1 = k
          · simp only [if_pos e]
            exact ⟨by rw [i1], .cons rv i2⟩
          · simp only [if_neg e]
            exact ⟨by rw [i1, h.1], .cons r1 i2⟩
  · simp only [List.map_append, List.map_cons, List.map_nil]
    exact ⟨by rw [h], r.append (.cons rv .nil)⟩
theorem putD_len (es : List (Key × D)) (k : Key) (d : D) : (putD es k d).length ≤ es.length + 1 := by
  unfold putD
  split
  · rw [List.length_map]; omega
  · rw [List.length_append]; exact Nat.le_refl _
def dcM (f : D → M (Option (Key × D))) : List D → List (Key × D) → M (List (Key × D))
  | [], acc => M.ret acc
  | d :: ds, acc => M.bnd (f d) fun o => match o with
    | some (k, v) => dcM f ds (putD acc k v)
    | none => dcM f ds acc
def dcF (b : D → Env → M Env) (mt : Env → M Bool) (mk mv : Env → M D) (ρ : Env) (d : D) : M (Option (Key × D)) :=
  M.bnd (b d ρ) fun ρ' => M.bnd (mt ρ') fun t => if t = true then M.bnd (mk ρ') fun y => M.bnd (mv ρ') fun z => M.bnd (M.opt (keyOf y)) fun k => M.ret (some (k, z)) else M.ret none
theorem ek_dc {wi : TI} {g : TG} {tt : TT} {tk tv : TE} {vs js : List Nat} {mi : Env → M (List D)} {b : D → Env → M Env} {mt : Env → M Bool} {mk mv : Env → M D} (hj : ∀ j ∈ js, j ∈ vs) (hi : EiD S wi mi) (hg : EgD S g b js) (ht : EvT S tt mt) (hk : EvD S tk mk) (hv : EvD S tv mv) :
    EvK S (tDc wi g tt tk tv vs) (fun ρ => M.bnd (mi ρ) fun ds => M.bnd (M.req (ds.length ≤ 100000)) fun _ => dcM (dcF b mt mk mv (wipeE ρ vs)) ds []) := fun B σ H G ρ Q k er q =>
  hi B σ H G ρ _ k er ((mi ρ).mono (fun ds hd J H1 G1 k1 c1 wk Dl nD => by
    have nDH : FrA H Dl := c1.fr _ (FrA.of nD)
    have nb : ∀ q, B.bq ≠ some (Dl, q) := fun q e => k.ne e nDH rfl
    have aw := k.away nDH
    refine ⟨fun i m L => m = ds.length - i ∧ i ≤ ds.length ∧ ∃ GL acc done, Ok B L GL ∧ Ch B H1 G1 L GL ∧ L Dl = some (.dK acc) ∧ GL Dl = none ∧ acc.map (·.1) = done.map (·.1) ∧ RpA S B GL (acc.map (·.2)) (done.map (·.2)) ∧ done.length ≤ i ∧ (dcM (dcF b mt mk mv (wipeE ρ vs)) (ds.drop i) done).run (Rs3 S B H G Q), ⟨_, rfl, Nat.zero_le _, ?_⟩, ?_⟩
    · obtain ⟨k2, c2⟩ := k1.lay nD (.dK [])
      exact ⟨G1, [], [], k2, c2, upd_same, k1.sub.free nD, rfl, .nil, Nat.le_refl _, hd.2⟩
    · rintro i m L ⟨rfl, hi', GL, acc, done, kL, cL, hD, gD, eD, rD, hdl, hr⟩
      rcases Nat.lt_or_ge i ds.length with hlt | hge
      · refine .inr ⟨wk.go i L GL kL cL.ext hlt, fun L' => (i + 1) ≤ ds.length ∧ ∃ GL acc done, Ok B L' GL ∧ Ch B H1 G1 L' GL ∧ L' Dl = some (.dK acc) ∧ GL Dl = none ∧ acc.map (·.1) = done.map (·.1) ∧ RpA S B GL (acc.map (·.2)) (done.map (·.2)) ∧ done.length ≤ i + 1 ∧ (dcM (dcF b mt mk mv (wipeE ρ vs)) (ds.drop (i + 1)) done).run (Rs3 S B H G Q), fun L' hL => ⟨_, by omega, rfl, hL.1, hL.2⟩, fun x L' y => ?_⟩
        obtain ⟨GY, kY, cY, rY⟩ := wk.yl i L GL x L' kL cL.ext hlt y
        obtain ⟨hDY, gDY⟩ := cY.mine hD gD rfl nb
        have eDr : ds.drop i = ds[i] :: ds.drop (i + 1) := List.drop_eq_getElem_cons hlt
        rw [eDr] at hr
        have cHY := cL.trans cY
        refine hg B (wipe σ vs) L' GY (wipeE ρ vs) x ds[i] _ kY ((er.mono (c1.trans cHY).ext).wipe vs) rY (M.mono _ (fun ρ' hρ σ' er' ag => ?_) hr)
        refine ⟨by rw [ag.wipe hj, wipe_idem], ?_⟩
        refine ht B σ' L' GY ρ' _ kY er' (M.mono _ (fun t htt L3 G3 k3 c3 => ?_) hρ)
        obtain ⟨hD3, gD3⟩ := c3.mine hDY gDY rfl nb
        cases t with
        | false => exact ⟨hlt, G3, acc, done, k3, cHY.trans c3, hD3, gD3, eD, rD.mono (cY.trans c3).ext, by omega, htt⟩
        | true =>
          refine hk B σ' L3 G3 ρ' _ k3 (er'.mono c3.ext) (M.mono _ (fun y' hy v4 L4 G4 k4 c4 r4 => ?_) htt)
          obtain ⟨hD4, gD4⟩ := c4.mine hD3 gD3 rfl nb
          refine hv B σ' L4 G4 ρ' _ k4 (er'.mono (c3.trans c4).ext) (M.mono _ (fun z' hz v5 L5 G5 k5 c5 r5 => ?_) hy)
          obtain ⟨hD5, gD5⟩ := c5.mine hD4 gD4 rfl nb
          obtain ⟨kk, hkk, hz⟩ := M.run_opt hz
          have ra := rD.mono (((cY.trans c3).trans c4).trans c5).ext
          obtain ⟨pe, pr⟩ := put_of (k := kk) r5 eD ra
          refine ⟨acc, kk, rp_keyOf hkk r4, hD5, ?_, hlt, G5, putK acc kk v5, putD done kk z', k5.upd gD5 (fun u e => by rw [hD5] at e; cases e; rfl) aw, (((cHY.trans c3).trans c4).trans c5).upd (FrA.of nD), upd_same, gD5, pe, pr, ?_, hz⟩
          · have e := congrArg List.length eD
            rw [List.length_map, List.length_map] at e
            rw [e]
            have := hd.1
            exact Nat.lt_of_lt_of_le (show done.length < 100000 by omega) (by decide)
          · have := putD_len done kk z'
            omega
      · obtain rfl : i = ds.length := by omega
        refine .inl ⟨wk.st L GL kL cL.ext, ?_⟩
        rw [List.drop_length] at hr
        exact (show Rs3 S B H G Q done from hr) Dl acc L GL nDH kL (c1.trans cL) hD gD eD rD) q)
def ownK (ρ : Ev) (i : Nat) : M (List (Key × D)) := match ρ[i]? with
  | some (some (.od es)) => M.ret es
  | _ => M.fail
theorem ownK_run {ρ : Ev} {i : Nat} {Q : List (Key × D) → Prop} (h : (ownK ρ i).run Q) : ∃ es, ρ[i]? = some (some (.od es)) ∧ Q es := by
  unfold ownK at h
  split at h
  · exact ⟨_, by assumption, h⟩
  · exact h.elim
theorem sv_dput {i : Nat} {ty tv : TE} {my mv : Env → M D} (hy : EvD S ty my) (hv : EvD S tv mv) : SvD S X (sDPut (tVar i) ty tv) (fun ρ => M.bnd (mv (peek ρ)) fun v => M.bnd (M.req (scD v = true)) fun _ => M.bnd (ownK ρ i) fun es => M.bnd (M.req (es.length < 100000)) fun _ => M.bnd (my (peek ρ)) fun y => M.bnd (M.opt (keyOf y)) fun k => M.ret (.nx (ρ.set i (some (.od (putD es k v)))))) := fun B H0 G0 σ H ρ E ⟨G, A, r⟩ q => by
  obtain ⟨Gp, kp, er, c0, back⟩ := r.peek
  refine hv B σ H Gp (peek ρ) _ kp er ((mv (peek ρ)).mono (fun d hd v H1 G1 k1 c1 r1 => ?_) q)
  obtain ⟨G', r', s1, _⟩ := back H1 G1 k1 c1
  obtain ⟨hsc, hd⟩ := hd
  obtain ⟨es, e, hl, hd⟩ := ownK_run hd
  obtain ⟨Gp2, kp2, er2, c02, back2⟩ := r'.peek
  refine ⟨_, (r'.ow i _ e rfl).1, ?_⟩
  refine hy B σ H1 Gp2 (peek ρ) _ kp2 er2 ((my (peek ρ)).mono (fun y hh v2 H2 G2 k2 c2 r2 => ?_) hd)
  obtain ⟨kk, hk, hh⟩ := M.run_opt hh
  obtain ⟨G'', r'', s2, _⟩ := back2 H2 G2 k2 c2
  obtain ⟨_, h2, h3, o, h4, h5⟩ := r''.ow i _ e rfl
  cases o <;> first
    | exact h5.elim
    | (rename_i kvs
       have el := congrArg List.length h5.1
       rw [List.length_map, List.length_map] at el
       refine ⟨_, _, rfl, by rw [rp_keyOf hk r2]; exact DPut.k h4 (by rw [el]; exact Nat.lt_of_lt_of_le hl (by decide)), ?_⟩
       exact (show ∀ σ H, Rs S B H0 G0 σ H _ → E.nx σ H from hh) _ _ ⟨G'', A, r''.put (s' := .od (putD es kk d)) e rfl rfl (put_of (k := kk) (rp_sc hsc r1) h5.1 h5.2)⟩)
end Dv
namespace Dv
open PySem PySem.Spec PyProof.Rows L2 Sg
variable {S : Base} {B : Bo S} {X : XK}
def max1M : List D → M D
  | [.lst es] => M.bnd (M.choose fun js : List Int => es = js.map D.int ∧ 0 < js.length) fun js => M.bnd (M.all fun m => m ∈ js ∧ ∀ y, y ∈ js → y ≤ m) fun m => M.ret (.int m)
  | _ => M.fail
def min1M : List D → M D
  | [.lst es] => M.bnd (M.choose fun js : List Int => es = js.map D.int ∧ 0 < js.length) fun js => M.bnd (M.all fun m => m ∈ js ∧ ∀ y, y ∈ js → m ≤ y) fun m => M.ret (.int m)
  | _ => M.fail
theorem r_max1 : RCD S (rMax S.K) max1M := fun B H G vs ds Q k r h => by
  unfold max1M at h
  split at h
  · obtain ⟨js, ⟨rfl, hl⟩, h⟩ := h
    cases r with
    | cons a b =>
      cases b
      cases a with
      | lst ha hr =>
        rw [ints_of hr] at ha
        exact ⟨_, js, rfl, SqL.of (k.sub _ _ ha), hl, fun m h1 h2 => Rs1.now k (show Rs1 S B H G Q (.int m) from h m ⟨h1, h2⟩) (.int m)⟩
  · exact h.elim
theorem r_min1 : RCD S (rMin S.K) min1M := fun B H G vs ds Q k r h => by
  unfold min1M at h
  split at h
  · obtain ⟨js, ⟨rfl, hl⟩, h⟩ := h
    cases r with
    | cons a b =>
      cases b
      cases a with
      | lst ha hr =>
        rw [ints_of hr] at ha
        exact ⟨_, js, rfl, SqL.of (k.sub _ _ ha), hl, fun m h1 h2 => Rs1.now k (show Rs1 S B H G Q (.int m) from h m ⟨h1, h2⟩) (.int m)⟩
  · exact h.elim
def intM : List D → M D
  | [.int i] => M.ret (.int i)
  | [.bl b] => M.ret (.int (if b then 1 else 0))
  | _ => M.fail
theorem r_int : RCD S (fun xs H Q => (∃ i, xs = [V.int i] ∧ Q (.int i) H) ∨ ∃ k, xs = [V.bl k] ∧ Q (.int (if k then 1 else 0)) H) intM := fun B H G vs ds Q k r h => by
  unfold intM at h
  split at h
  · cases r with
    | cons a b => cases b; cases a; exact .inl ⟨_, rfl, Rs1.now k h (.int _)⟩
  · cases r with
    | cons a b => cases b; cases a; exact .inr ⟨_, rfl, Rs1.now k h (.int _)⟩
  · exact h.elim
def tupM : List D → M D
  | [.lst l] => M.ret (.tup l)
  | [.tup l] => M.ret (.tup l)
  | _ => M.fail
theorem r_tup : RCD S (fun xs H Q => ∃ p ys, xs = [V.ref p] ∧ ((SqL S.K H p ys ∧ ∀ l, H l = none → Q (.ref l) (upd H l (.tup ys))) ∨ (SqT S.K H p ys ∧ Q (.ref p) H))) tupM := fun B H G vs ds Q k r h => by
  unfold tupM at h
  split at h
  · cases r with
    | cons a b =>
      cases b
      cases a with
      | lst ha hr =>
        refine ⟨_, _, rfl, .inl ⟨SqL.of (k.sub _ _ ha), fun p hp => ?_⟩⟩
        obtain ⟨k2, c2⟩ := k.put hp (.tup _) (fun _ z => nomatch z)
        exact (show Rs1 S B H G Q (.tup _) from h) _ _ _ k2 c2 (.tup (SqT.of upd_same) (hr.mono c2.ext))
  · cases r with
    | cons a b =>
      cases b
      cases a with
      | tup ha hr => exact ⟨_, _, rfl, .inr ⟨sub_tup k.sub ha, Rs1.now k h (.tup ha hr)⟩⟩
  · exact h.elim
section
variable {Y : Cx} {K : PySem.W.Frag}
end
def enD : Nat → List D → List D
  | _, [] => []
  | i, d :: l => .tup [.int i, d] :: enD (i + 1) l
theorem enD_len : ∀ (l : List D) (i : Nat), (enD i l).length = l.length
  | [], _ => rfl
  | _ :: l, i => congrArg (· + 1) (enD_len l (i + 1))
theorem enD_get : ∀ (l : List D) (i j : Nat), (enD i l)[j]? = (l[j]?).map fun d => .tup [.int (i + j : Nat), d]
  | [], i, j => by simp [enD]
  | d :: l, i, 0 => rfl
  | d :: l, i, j + 1 => by
    show (enD (i + 1) l)[j]? = _
    rw [enD_get l (i + 1) j, List.getElem?_cons_succ, show i + 1 + j = i + (j + 1) by omega]
theorem wk_en {a : Addr} {xs : List V} {G : Hp} {ds : List D} (ha : G a = some (.lst xs)) (r : RpA S B G xs ds) : WkD S B (Ite S.K a) G (enD 0 ds) := by
  have hl := r.length
  refine ⟨fun i L GL k s h => ?_, fun L GL k s => ?_, fun i L GL x L' k s h y => ?_⟩
  · rw [enD_len] at h
    exact ⟨xs, _, SqL.of (k.sub _ _ (s _ _ ha)), List.getElem?_eq_getElem (by omega)⟩
  · rw [enD_len]
    exact ⟨xs, SqL.of (k.sub _ _ (s _ _ ha)), by omega⟩
  · obtain ⟨T, v, rfl, hT, rfl, hv⟩ := y
    rw [enD_len] at h
    have hx := hv xs (SqL.of (k.sub _ _ (s _ _ ha)))
    obtain ⟨d, h1, h2⟩ := r.getV hx
    obtain ⟨k2, c2⟩ := k.put hT (.tup [.int (i : Nat), v]) (fun _ z => nomatch z)
    refine ⟨_, k2, c2, ?_⟩
    have e : (enD 0 ds)[i]'(by rw [enD_len]; exact h) = .tup [.int (i : Nat), d] := by
      have e1 := enD_get ds 0 i
      rw [h1, List.getElem?_eq_getElem (by rw [enD_len]; exact h)] at e1
      rw [Option.some.inj e1, Nat.zero_add]
    rw [e]
    exact .tup (SqT.of upd_same) (.cons (.int _) (.cons ((h2.mono s).mono c2.ext) .nil))
def enM : List D → M (List D)
  | [.lst l] => M.ret (enD 0 l)
  | _ => M.fail
theorem enM_go (l : List D) : enM [.lst l] = M.ret (enD 0 l) := rfl
theorem ei_en {ta : TA} {m : Env → M (List D)} (h : EvA S ta m) : EiD S (iEnA S.K ta) (fun ρ => M.bnd (m ρ) enM) := fun B σ H G ρ R k er q =>
  h B σ H G ρ _ k er ((m ρ).mono (fun ds hd vs H1 G1 k1 c1 r1 => by
    unfold enM at hd
    split at hd
    · cases r1 with
      | cons a b =>
        cases b
        cases a with
        | lst ha hr => exact ⟨_, _, rfl, .inl ⟨SqL.of (k1.sub _ _ ha), hd _ H1 G1 k1 c1 (wk_en ha hr)⟩⟩
    · exact hd.elim) q)
theorem pi_enK {X : Cx} {K : PySem.W.Frag} (hK : X.K = K) {e : Expr} {ta : TA} {p pos tpos : Pos} {elts : List Expr} {kk : Nat} (hg : Gl X "enumerate") (hm : X.mg "enumerate" = none) (ha : PA X [e] ta) (hs : starEach [e] X.env = [(false, eval e X.env)] := by rfl) :
    PI X (.Tuple elts kk tpos) (.Call (.Name "enumerate" p) [e] [] pos) (iEnA K ta) := by subst hK; exact pi_enA hg hm ha hs
end Dv
namespace Nq
open PySem PySem.W PySem.Calls PyProof.Rows Builtin L2
section
variable {prog : Program} {w : World} {A : Around} {E : Value → Shared → Prop} {s : Shared} {K : Frag} {x y C L f : Addr} {h₀ : Heap} {m : Str → Option Value} {ox oy : Obj} {od od' : Option Obj} {name : Str} {id : String}
end
def rNeI (C : Addr) (R : Addr → Addr → Hp → Prop) : R2 := fun x y H Q => DIns C R x y H ∧ ∀ H', Ext H H' → Q (.bl false) H'
section
variable {X : Cx} {n : Nat}
end
end Nq
namespace Dv
open PySem PySem.Spec PyProof.Rows L2 Sg
variable {S : Base} {B : Bo S} {X : XK}
def sLst (n : Nat) (bs : List D → Ev → M Ev) : D → Ev → M Ev
  | .lst ds, ρ => M.bnd (M.req (ds.length = n)) fun _ => bs ds ρ
  | _, _ => M.fail
def srtI : List D → M (List D)
  | [.lst es] => M.bnd (M.choose fun js : List Int => es = js.map D.int ∧ js.length < 64) fun js => M.bnd (M.all fun us : List Int => us.Perm js ∧ us.Pairwise (· ≤ ·)) fun us => M.ret (us.map D.int)
  | _ => M.fail
section
variable {Y : Cx} {K : PySem.W.Frag} {pos : Pos}
end
theorem M.sel_fltM {α β γ : Type} {f : α → M (Option γ)} {g : β → α} {p : β → Bool} {h : β → γ} : ∀ {l : List β}, (∀ b ∈ l, (f (g b)).run fun o => o = if p b = true then some (h b) else none) → (M.sel f (l.map g)).run fun bs => bs = (l.filter p).map h
  | [], _ => rfl
  | b :: l, hh => (f (g b)).mono (fun o e => by
      refine (M.sel f (l.map g)).mono (fun bs hbs => ?_) (M.sel_fltM fun x hx => hh x (List.mem_cons_of_mem _ hx))
      subst e hbs
      rw [List.filter_cons]
      cases p b <;> rfl) (hh b (List.mem_cons_self ..))
end Dv
namespace Dv
open PySem PySem.Spec PyProof.Rows L2 Sg
variable {S : Base} {B : Bo S} {X : XK}
theorem RpA.last {G : Hp} {xs : List V} {ds : List D} (r : RpA S B G xs ds) : RpA S B G xs.dropLast ds.dropLast := by
  rw [List.dropLast_eq_take, List.dropLast_eq_take, r.length]
  exact r.take _
def repD : D → D → M (List D)
  | .lst l, .int k => M.bnd (M.req (0 ≤ k ∧ k ≤ 1000 ∧ l.length ≤ 100)) fun _ => M.ret (List.replicate k.toNat l).flatten
  | _, _ => M.fail
end Dv
namespace Dv
open PySem PySem.Spec PyProof.Rows L2 Sg
variable {S : Base} {B : Bo S} {X : XK}
inductive Ry where
  | ok (ds : List D) | er (x : Exn)
def RsY (S : Base) (B : Bo S) (H G : Hp) (Q : VK) (X : XK) : Ry → Prop
  | .ok ds => Rs2 S B H G Q ds
  | .er x => RsE B H G X x
theorem RsY.after {H G H1 G1 : Hp} {Q : VK} {r : Ry} (c : Ch B H G H1 G1) (h : RsY S B H G Q X r) : RsY S B H1 G1 Q X r := by
  cases r with
  | ok d => exact Rs2.after c h
  | er x => exact RsE.after c h
def spY (S : Base) (f : List D → M Ry) : Sp := fun vs H Q X => ∃ B G ds, Ok B H G ∧ RpA S B G vs ds ∧ (f ds).run (RsY S B H G Q X)
def okY (ρ : Ev) (i : Nat) : Ry → M Ou
  | .ok ds => M.ret (.nx (ρ.set i (some (.o ds))))
  | .er _ => M.fail
def toX : Ry → M Rx
  | .ok ds => M.ret (.ok (.lst ds))
  | .er x => M.ret (.er x)
theorem ex_callY {f : List D → M Ry} {t : TA} {m : Env → M (List D)} (h : EvA S t m) : EvX S (fun E => tCall (spY S f) [] E t) (fun ρ => M.bnd (m ρ) fun l => M.bnd (f l) toX) := fun B σ H G ρ Q X k er q =>
  h B σ H G ρ _ k er ((m ρ).mono (fun l hl vs H1 G1 k1 c1 r1 => ⟨B, G1, l, k1, by rw [List.append_nil]; exact r1, (f l).mono (fun y hy => by
    cases y with
    | er x => exact RsE.after c1 hy
    | ok ds => exact Rs1.frz k1 (Rs1.after c1 (show Rs1 S B H G Q (.lst ds) from hy))) hl⟩) q)
def outY (P : Ry → Prop) : Ou → Prop
  | .rl l => P (.ok l)
  | .er x => P (.er x)
  | _ => False
theorem run_Y {N : List Str} {t : TS} {g : Ev → M Ou} {f : List D → M Ry} (h : SvD S X t g) (ref : ∀ ds P, (f ds).run P → (g (startE N.length ds)).run (outY P)) {vs : List V} {H : Hp} {Q : VK} (sp : spY S f vs H Q X) : t { nx := fun _ H' => Q .non H', rt := Q } (L2.start N vs) H := by
  obtain ⟨B, G, ds, k, r, q⟩ := sp
  refine h B H G _ H _ _ (start_rs k r) (M.mono _ (fun o ho => ?_) (ref ds _ q))
  cases o with
  | rl l => exact fun p xs H' G' a k' c b d r' => (show Rs2 S B H G Q l from ho) p xs H' G' a k' c b d r'
  | er x => exact ho
  | nx ρ => exact ho.elim
  | rt d => exact ho.elim
  | bk ρ => exact ho.elim
  | ct ρ => exact ho.elim
end Dv
namespace Dv
open PySem PySem.Spec PyProof.Rows L2 Sg
variable {S : Base} {B : Bo S} {X : XK}
def inT : D → D → M D
  | .int i, .tup l => M.bnd (M.choose fun js : List Int => l = js.map D.int) fun js => M.ret (.bl (decide (i ∈ js)))
  | _, _ => M.fail
end Dv
namespace Dv
open PySem PySem.Spec PyProof.Rows L2 Sg
variable {S : Base} {B : Bo S} {X : XK}
def timesS (z : Str) (k : Int) : Str := ⟨(List.replicate k.toNat z.cps).foldl (· ++ ·) #[]⟩
def rMulS : R2 := fun x y H Q => ∃ z k, x = .str z ∧ y = .int k ∧ 2 ≤ k ∧ k ≤ 1000 ∧ 1 ≤ z.length ∧ z.length ≤ 1000 ∧ Q (.str (timesS z k)) H
def mulS : D → D → M D
  | .str z, .int k => M.bnd (M.req (2 ≤ k ∧ k ≤ 1000 ∧ 1 ≤ z.length ∧ z.length ≤ 1000)) fun _ => M.ret (.str (timesS z k))
  | _, _ => M.fail
theorem r_mulS : R2D S rMulS mulS := fun B H G x y d e Q k rx ry h => by
  unfold mulS at h
  split at h
  · obtain ⟨⟨h1, h2, h3, h4⟩, h⟩ := h
    cases rx
    cases ry
    exact ⟨_, _, rfl, rfl, h1, h2, h3, h4, Rs1.now k h (.str _)⟩
  · exact h.elim
def rAddS : R2 := fun x y H Q => ∃ i j, x = .str i ∧ y = .str j ∧ i.length + j.length ≤ sizeLine ∧ Q (.str (i ++ j)) H
theorem op_addS {Y : Cx} : OpR Y (binaryOp .Add) rAddS := op_add_str
def addS : D → D → M D
  | .str z, .str y => M.bnd (M.req (z.length + y.length ≤ 100000)) fun _ => M.ret (.str (z ++ y))
  | _, _ => M.fail
theorem addS_go (z y : Str) : addS (.str z) (.str y) = M.bnd (M.req (z.length + y.length ≤ 100000)) fun _ => M.ret (.str (z ++ y)) := rfl
theorem r_addS : R2D S rAddS addS := fun B H G x y d e Q k rx ry h => by
  unfold addS at h
  split at h
  · cases rx
    cases ry
    exact ⟨_, _, rfl, rfl, small h.1, Rs1.now k h.2 (.str _)⟩
  · exact h.elim
def asS : D → M Str
  | .str z => M.ret z
  | _ => M.fail
theorem asS_str (z : Str) : asS (.str z) = M.ret z := rfl
theorem ed_slS {te : TE} {tl th : TO} {me : Env → M D} {ml mh : Env → M (Option Int)} (h : EvD S te me) (h1 : EvO S tl ml) (h2 : EvO S th mh) : EvD S (tSl rSlS te tl th) (fun ρ => M.bnd (me ρ) fun d => M.bnd (ml ρ) fun lo => M.bnd (mh ρ) fun hi => M.bnd (asS d) fun z => M.bnd (M.req (z.length ≤ 100000)) fun _ => M.ret (.str (cutS z lo hi))) := fun B σ H G ρ Q k er q =>
  h B σ H G ρ _ k er ((me ρ).mono (fun d hd v H1 G1 k1 c1 r1 => h1 B σ H1 G1 ρ _ k1 (er.mono c1.ext) ((ml ρ).mono (fun lo hlo H2 G2 k2 c2 => h2 B σ H2 G2 ρ _ k2 (er.mono (c1.trans c2).ext) ((mh ρ).mono (fun hi hhi H3 G3 k3 c3 => by
    cases r1 <;> first
      | exact hhi.elim
      | exact ⟨_, rfl, small hhi.1, (show Rs1 S B H G Q (.str _) from hhi.2) _ H3 G3 k3 ((c1.trans c2).trans c3) (.str _)⟩) hlo)) hd)) q)
def signsD (z : Str) : List D := z.cps.toList.map fun c => D.str ⟨#[c]⟩
theorem rp_signs {G : Hp} : ∀ l : List Nat, RpA S B G (l.map fun c => V.str ⟨#[c]⟩) (l.map fun c => D.str ⟨#[c]⟩)
  | [] => .nil
  | _ :: l => .cons (.str _) (rp_signs l)
def listS : List D → M (List D)
  | [.str z] => M.bnd (M.req (z.length ≤ 1000)) fun _ => M.ret (signsD z)
  | _ => M.fail
theorem r_listS : RCL S rListS listS := fun B H G vs ds Q k r h => by
  unfold listS at h
  split at h
  · cases r with
    | cons r1 r2 =>
      cases r2
      cases r1
      exact ⟨_, rfl, h.1, fun p hp => Rs2.lay k h.2 (rp_signs _) hp⟩
  · exact h.elim
def splitM : D → D → M (List D)
  | .str z, .str y => M.bnd (M.req ((y.length == 0) = false ∧ z.length ≤ 10000)) fun _ => M.ret ((Txt.split z y).map D.str)
  | _, _ => M.fail
theorem splitM_go (z y : Str) : splitM (.str z) (.str y) = M.bnd (M.req ((y.length == 0) = false ∧ z.length ≤ 10000)) fun _ => M.ret ((Txt.split z y).map D.str) := rfl
theorem rp_strs {G : Hp} : ∀ l : List Str, RpA S B G (l.map V.str) (l.map D.str)
  | [] => .nil
  | _ :: l => .cons (.str _) (rp_strs l)
theorem el_split {to te : TE} {mo me : Env → M D} (h : EvD S to mo) (h1 : EvD S te me) : EvL S (tM1 rSplitAny to te) (fun ρ => M.bnd (mo ρ) fun d => M.bnd (asS d) fun z => M.bnd (me ρ) fun e => splitM (.str z) e) := fun B σ H G ρ Q k er q =>
  h B σ H G ρ _ k er ((mo ρ).mono (fun d hd v H1 G1 k1 c1 r1 => by
    cases r1 <;> first
      | exact hd.elim
      | (rename_i z
         refine ⟨⟨z, rfl⟩, h1 B σ H1 G1 ρ _ k1 (er.mono c1.ext) ((me ρ).mono (fun e he v2 H2 G2 k2 c2 r2 => ?_) hd)⟩
         cases r2 <;> first
           | exact he.elim
           | (rename_i y
              refine .inl ⟨z, y, rfl, rfl, he.1.1, by rw [sizeLine_eq]; have := he.1.2; omega, fun p hp => ?_⟩
              exact Rs2.lay k2 (Rs2.after (c1.trans c2) he.2) (rp_strs _) hp))) q)
theorem sv_augI {g : Int → Int → Int} {i : Nat} {te : TE} {m : Env → M D} (h : EvD S te m) : SvD S X (tAug i te (ipI g)) (fun ρ => M.bnd (M.opt ((mask ρ)[i]?.join)) fun d => M.bnd (asI d) fun a => M.bnd (m (mask ρ)) fun e => M.bnd (asI e) fun b => M.ret (.nx (ρ.set i (some (.f (.int (g a b))))))) := fun B H0 G0 σ H ρ E ⟨G, A, r⟩ q => by
  obtain ⟨d, hd, q⟩ := M.run_opt q
  have e' : (mask ρ)[i]? = some (some d) := by
    cases h1 : (mask ρ)[i]? with
    | none => rw [h1] at hd; cases hd
    | some o => rw [h1] at hd; rw [show o = some d from hd]
  obtain ⟨v, h1, h2⟩ := r.mask.get i d e'
  refine ⟨v, h1, ?_⟩
  cases h2 <;> first
    | exact q.elim
    | (rename_i a
       refine h B σ H G (mask ρ) _ r.ok r.mask ((m (mask ρ)).mono (fun e he v2 H2 G2 k2 c2 r2 => ?_) q)
       cases r2 <;> first
         | exact he.elim
         | (rename_i b
            exact ⟨a, b, rfl, rfl, (show ∀ σ H, Rs S B H0 G0 σ H (ρ.set i (some (.f (.int (g a b))))) → E.nx σ H from he) _ _ ⟨G2, A, (r.step k2 c2).set (.int _) i⟩⟩))
end Dv
namespace Dv
open PySem PySem.Spec PyProof.Rows L2 Sg
variable {S : Base} {B : Bo S} {X : XK}
def jnL (c : Nat) : List (List Nat) → List Nat
  | [] => []
  | [x] => x
  | x :: r => x ++ c :: jnL c r
theorem jn_cons (c : Nat) (x y : List Nat) (r : List (List Nat)) : jnL c (x :: y :: r) = x ++ c :: jnL c (y :: r) := rfl
theorem app_free {c : Nat} : ∀ {x y a b : List Nat}, c ∉ x → c ∉ y → x ++ c :: a = y ++ c :: b → x = y ∧ a = b
  | [], [], _, _, _, _, h => by injection h with _ h; exact ⟨rfl, h⟩
  | [], v :: y, _, _, _, hy, h => by injection h with h _; exact absurd (by rw [h]; exact List.mem_cons_self ..) hy
  | u :: x, [], _, _, hx, _, h => by injection h with h _; exact absurd (by rw [← h]; exact List.mem_cons_self ..) hx
  | u :: x, v :: y, _, _, hx, hy, h => by
    injection h with h1 h2
    obtain ⟨e, e2⟩ := app_free (fun z => hx (List.mem_cons_of_mem _ z)) (fun z => hy (List.mem_cons_of_mem _ z)) h2
    exact ⟨by rw [h1, e], e2⟩
theorem jn_inj {c : Nat} : ∀ {us ws : List (List Nat)}, us ≠ [] → ws ≠ [] → (∀ u ∈ us, c ∉ u) → (∀ u ∈ ws, c ∉ u) → jnL c us = jnL c ws → us = ws
  | [], _, h, _, _, _, _ => absurd rfl h
  | _, [], _, h, _, _, _ => absurd rfl h
  | [x], [y], _, _, _, _, h => by rw [show x = y from h]
  | [x], y :: z :: r, _, _, h1, _, h => by
    have h : x = y ++ c :: jnL c (z :: r) := h
    exact absurd (by rw [h]; exact List.mem_append_right _ (List.mem_cons_self ..)) (h1 x (List.mem_cons_self ..))
  | x :: z :: r, [y], _, _, _, h1, h => by
    have h : x ++ c :: jnL c (z :: r) = y := h
    exact absurd (by rw [← h]; exact List.mem_append_right _ (List.mem_cons_self ..)) (h1 y (List.mem_cons_self ..))
  | x :: z :: r, y :: v :: s, _, _, h1, h2, h => by
    obtain ⟨e1, e2⟩ := app_free (h1 x (List.mem_cons_self ..)) (h2 y (List.mem_cons_self ..)) (show x ++ c :: jnL c (z :: r) = y ++ c :: jnL c (v :: s) from h)
    rw [e1, jn_inj (us := z :: r) (ws := v :: s) (fun z => nomatch z) (fun z => nomatch z) (fun u hu => h1 u (List.mem_cons_of_mem _ hu)) (fun u hu => h2 u (List.mem_cons_of_mem _ hu)) e2]
theorem join_l (c : Nat) : ∀ ws : List Str, (Str.join ⟨#[c]⟩ ws).cps.toList = jnL c (ws.map fun w => w.cps.toList)
  | [] => rfl
  | [x] => rfl
  | x :: y :: r => by
    show (x ++ ⟨#[c]⟩ ++ Str.join ⟨#[c]⟩ (y :: r) : Str).cps.toList = _
    rw [List.map_cons, List.map_cons, jn_cons]
    have ih := join_l c (y :: r)
    rw [List.map_cons] at ih
    rw [← ih]
    show ((x.cps ++ #[c]) ++ (Str.join ⟨#[c]⟩ (y :: r)).cps).toList = _
    simp
theorem str_cps {x y : Str} (h : x.cps.toList = y.cps.toList) : x = y := Str.ext' (Array.toList_inj.mp h)
theorem split_join {c : Nat} {ws : List Str} (h : ws ≠ []) (hc : ∀ w ∈ ws, c ∉ w.cps.toList) : Txt.split (Str.join ⟨#[c]⟩ ws) ⟨#[c]⟩ = ws := by
  have e := StrLaws.join_split (Str.join ⟨#[c]⟩ ws) ⟨#[c]⟩
  have e2 := congrArg (fun z : Str => z.cps.toList) e
  rw [join_l, join_l] at e2
  have hp := PyProof.Rows.split_pos (Str.join ⟨#[c]⟩ ws) ⟨#[c]⟩
  have := jn_inj (c := c) (us := (Txt.split (Str.join ⟨#[c]⟩ ws) ⟨#[c]⟩).map fun w => w.cps.toList) (ws := ws.map fun w => w.cps.toList) (fun z => by rw [List.map_eq_nil_iff] at z; rw [z] at hp; exact absurd hp (by decide)) (fun z => h (List.map_eq_nil_iff.mp z)) (fun u hu => by
    obtain ⟨w, hw, rfl⟩ := List.mem_map.mp hu
    exact StrLaws.split_free _ c w hw) (fun u hu => by
    obtain ⟨w, hw, rfl⟩ := List.mem_map.mp hu
    exact hc w hw) e2
  have inj : ∀ {a b : List Str}, (a.map fun w => w.cps.toList) = (b.map fun w => w.cps.toList) → a = b := by
    intro a
    induction a with
    | nil => intro b hb; cases b with | nil => rfl | cons _ _ => cases hb
    | cons x a ih =>
      intro b hb
      cases b with
      | nil => cases hb
      | cons y b =>
        rw [List.map_cons, List.map_cons] at hb
        injection hb with h1 h2
        rw [str_cps h1, ih h2]
  exact inj this
def joinM (z : Str) : D → M D
  | .lst ds => M.bnd (M.choose fun ys : List Str => ds = ys.map D.str ∧ (ys.map (·.length)).sum + ys.length * z.length ≤ 16777216) fun ys => M.ret (.str (Str.join z ys))
  | _ => M.fail
theorem joinM_go (z : Str) (ds : List D) : joinM z (.lst ds) = M.bnd (M.choose fun ys : List Str => ds = ys.map D.str ∧ (ys.map (·.length)).sum + ys.length * z.length ≤ 16777216) fun ys => M.ret (.str (Str.join z ys)) := rfl
theorem strs_rp {G : Hp} {xs : List V} {ys : List Str} (h : RpA S B G xs (ys.map D.str)) : xs = ys.map V.str := by
  induction ys generalizing xs with
  | nil => cases h; rfl
  | cons y ys ih => cases h with | cons a b => cases a; rw [ih b]; rfl
theorem ed_join {to te : TE} {mo me : Env → M D} (h : EvD S to mo) (h1 : EvD S te me) : EvD S (tM1 (fun x xs H Q => ∃ a p, ∃ ys : List Str, x = .str a ∧ xs = [.ref p] ∧ (SqL S.K H p (ys.map V.str) ∨ SqT S.K H p (ys.map V.str)) ∧
      (ys.map (·.length)).sum + ys.length * a.length ≤ 16777216 ∧ Q (.str (Txt.join a ys)) H) to te) (fun ρ => M.bnd (mo ρ) fun d => M.bnd (asS d) fun z => M.bnd (me ρ) fun e => joinM z e) := fun B σ H G ρ Q k er q =>
  h B σ H G ρ _ k er ((mo ρ).mono (fun d hd v H1 G1 k1 c1 r1 => by
    cases r1 <;> first
      | exact hd.elim
      | (rename_i z
         refine ⟨⟨z, rfl⟩, h1 B σ H1 G1 ρ _ k1 (er.mono c1.ext) ((me ρ).mono (fun e he v2 H2 G2 k2 c2 r2 => ?_) hd)⟩
         cases r2 <;> first
           | exact he.elim
           | (rename_i hg hr
              obtain ⟨ys, ⟨rfl, hz⟩, he⟩ := he
              obtain rfl := strs_rp hr
              refine ⟨z, _, ys, rfl, rfl, .inl (SqL.of (k2.sub _ _ hg)), hz, ?_⟩
              rw [show Txt.join z ys = Str.join z ys from StrLaws.glued_eq_join z ys]
              exact (show Rs1 S B H G Q (.str (Str.join z ys)) from he) _ H2 G2 k2 (c1.trans c2) (.str _)))) q)
theorem pe_joinK {Y : Cx} {K : PySem.W.Frag} {o e : Expr} {to te : TE} {apos pos : Pos} (hK : Y.K = K) (ho : PE Y o to) (he : PE Y e te) (hs : starEach [e] Y.env = [(false, eval e Y.env)] := by rfl) (hbase : attributeBase o "join" Y.env (eval o Y.env) = eval o Y.env := by rfl) (hline : (apos.endLine == pos.line) = true := by rfl) :
    PE Y (.Call (.Attribute o "join" apos) [e] [] pos) (tM1 (fun x xs H Q => ∃ a p, ∃ ys : List Str, x = .str a ∧ xs = [.ref p] ∧ (SqL K H p (ys.map V.str) ∨ SqT K H p (ys.map V.str)) ∧
      (ys.map (·.length)).sum + ys.length * a.length ≤ 16777216 ∧ Q (.str (Txt.join a ys)) H) to te) := by
  subst hK
  exact pe_join ho he hs hbase hline
end Dv
namespace Dv
open PySem PySem.Spec PyProof.Rows L2 Sg
variable {S : Base} {B : Bo S} {X : XK}
def M.cat {α β : Type} (f : α → M (List β)) : List α → M (List β)
  | [] => M.ret []
  | a :: l => M.bnd (f a) fun xs => M.bnd (M.cat f l) fun ys => M.ret (xs ++ ys)
def lcF2 (b : D → Env → M Env) (mt : Env → M Bool) (mi1 : Env → M (List D)) (b1 : D → Env → M Env) (mt1 : Env → M Bool) (me : Env → M D) (vs1 : List Nat) (ρ : Env) (d : D) : M (List D) :=
  M.bnd (b d ρ) fun ρ' => M.bnd (mt ρ') fun t => if t = true then M.bnd (mi1 ρ') fun es => M.bnd (M.req (es.length ≤ 300)) fun _ => M.sel (lcF b1 mt1 me (wipeE ρ' vs1)) es else M.ret []
end Dv
namespace Sg
open PySem PySem.Spec PyProof.Rows L2
def tcN : List Int → Int
  | [a, b, c] => a * 16384 + b * 128 + c
  | [a, b] => a * 16384 + b * 128
  | _ => 0
def tc (k : List Key) : Int := tcN (k.map numK)
def CK (k : List Key) : Prop := (∃ (c : Nat) (x y : Int), k = [.inr ⟨#[c]⟩, .inl x, .inl y] ∧ 97 ≤ c ∧ c ≤ 99 ∧ 0 ≤ x ∧ x < 128 ∧ 0 ≤ y ∧ y < 128) ∨ ∃ (c : Nat) (x : Int), k = [.inr ⟨#[c]⟩, .inl x] ∧ 112 ≤ c ∧ c ≤ 114 ∧ 0 ≤ x ∧ x < 128
theorem tc_a (c : Nat) (x y : Int) : tc [.inr ⟨#[c]⟩, .inl x, .inl y] = (c : Int) * 16384 + x * 128 + y := rfl
theorem tc_m (c : Nat) (x : Int) : tc [.inr ⟨#[c]⟩, .inl x] = (c : Int) * 16384 + x * 128 := rfl
def ccN : List Int → Int
  | [] => 0
  | t :: r => t * 2097152 ^ r.length + ccN r
def cc (ks : List (List Key)) : Int := ccN (ks.map tc)
def itemsOf (h : Heap) : Value → List Value
  | .ref a => match h.get? a with
    | some o => match o.data with
      | .seq xs _ => xs.toList
      | _ => []
    | none => []
  | _ => []
def cvOf (h : Heap) (v : Value) : Int := ccN ((itemsOf h v).map fun x => tcN (numsOf h x))
section
variable {P : Program} {w : World} {A : Around} {E : Value → Shared → Prop} {s : Shared}
structure ChAt (P : Program) (w : World) (h : Heap) (a : Addr) (ks : List TK) : Prop where
  ob : ∃ o xs n, h.get? a = some o ∧ o.cls = .type "tuple" ∧ o.data = .seq xs n ∧ xs.toList = refsV ks
  key : ∀ p ∈ ks, IsTupleKey (mixKind P w) h p.2 p.1
  ck : ∀ p ∈ ks, CK p.2
theorem ChAt.keep {h h' : Heap} {a : Addr} {ks : List TK} (c : ChAt P w h a ks) (k : ∀ b o, h.get? b = some o → o.cls = .type "tuple" → h'.get? b = some o) : ChAt P w h' a ks := by
  obtain ⟨o, xs, n, ho, hc, r⟩ := c.ob
  refine ⟨⟨o, xs, n, k _ _ ho hc, hc, r⟩, fun p hp => ?_, c.ck⟩
  obtain ⟨o, its, n, ho, hc, r⟩ := c.key p hp
  exact ⟨o, its, n, k _ _ ho hc, hc, r⟩
abbrev CH := Addr × List TK
abbrev crefs (L : List CH) : List V := L.map fun p => V.ref p.1
abbrev crefsV (L : List CH) : List Value := L.map fun p => Value.ref p.1
abbrev ccOf (p : CH) : Int := cc (p.2.map (·.2))
end
section
variable {X : Cx} {pins : List (Addr × Obj)} {σ : L2.St} {H : Hp} {s : Shared}
structure ChH (K : PySem.W.Frag) (H : Hp) (d : Nat) (p : CH) : Prop where
  tp : SqT K H p.1 (refs p.2)
  key : ∀ q ∈ p.2, SqT K H q.1 (q.2.map kV)
  ck : ∀ q ∈ p.2, CK q.2
  len : p.2.length = d
def rSortC (K : PySem.W.Frag) : List V → Hp → VK → Prop := fun vs H Q => ∃ a L d, vs = [V.ref a] ∧ SqL K H a (crefs L) ∧ L.length ≤ 1000 ∧ 0 < d ∧ (∀ p ∈ L, ChH K H d p) ∧
  ∀ L' p, L'.Perm L → L'.Pairwise (fun p q => ccOf p ≤ ccOf q) → H p = none → Q (.ref p) (upd H p (.lst (crefs L')))
end
end Sg
namespace Dv
open PySem PySem.Spec PyProof.Rows L2 Sg
variable {S : Base} {B : Bo S} {X : XK}
theorem RsG.frz {H0 G0 H G : Hp} {σ : L2.St} {ρ : Ev} {A : Nat → Addr} (r : RsG S B H0 G0 σ H ρ G A) {i : Nat} {s : Sl} (e : ρ[i]? = some (some s)) (w : s.owned = true) : ∃ G', RsG S B H0 G0 σ H (ρ.set i (some (.f s.data))) G' A := by
  obtain ⟨h1, h2, h3, o, h4, h5⟩ := r.ow i s e w
  have hs : Dv.Sub G (L2.upd G (A i) o) := sub_new h3
  refine ⟨L2.upd G (A i) o, r.aw, ⟨fun a u q => ?_, fun b q z => ?_, r.ok.bx, r.ok.tb, fun a ps q => ?_⟩, ⟨r.ch.ch, r.ch.fr, r.ch.ext.trans hs, fun a u q => ?_⟩, by rw [List.length_set]; exact r.len, fun j d q => ?_, fun j t q w' => ?_, fun j j' t t' q1 q2 w1 w2 ne => ?_⟩
  · by_cases z : a = A i
    · subst z; rw [upd_same] at q; cases q; exact h4
    · rw [upd_ne z] at q; exact r.ok.sub a u q
  · rw [upd_ne (r.away h2 b q z).1]
    exact r.ok.nm b q z
  · by_cases z : a = A i
    · subst z; rw [upd_same] at q; cases q; exact plainO.nt h5.pl ps rfl
    · rw [upd_ne z] at q; exact r.ok.nt a ps q
  · by_cases z : a = A i
    · subst z; exact .inr h2
    · rw [upd_ne z] at q; exact r.ch.new a u q
  · rcases get_set q with ⟨rfl, z⟩ | ⟨n, q⟩
    · cases z
      exact ⟨_, h1, Ow.rp upd_same (h5.mono hs)⟩
    · obtain ⟨u, k1, k2⟩ := r.fz j d q
      exact ⟨u, k1, k2.mono hs⟩
  · rcases get_set q with ⟨rfl, z⟩ | ⟨n, q⟩
    · cases z; cases w'
    · obtain ⟨k1, k2, k3, o', k4, k5⟩ := r.ow j t q w'
      exact ⟨k1, k2, by rw [upd_ne (r.dj j i t s q e w' w n)]; exact k3, o', k4, k5.mono hs⟩
  · rcases get_set q1 with ⟨rfl, z⟩ | ⟨n, q1⟩
    · cases z; cases w1
    · rcases get_set q2 with ⟨rfl, z⟩ | ⟨n2, q2⟩
      · cases z; cases w2
      · exact r.dj j j' t t' q1 q2 w1 w2 ne
theorem RpA.rev {G : Hp} : ∀ {xs : List V} {ds : List D}, RpA S B G xs ds → RpA S B G xs.reverse ds.reverse
  | _, _, .nil => .nil
  | _, _, .cons h r => by
    rw [List.reverse_cons, List.reverse_cons]
    exact (RpA.rev r).append (.cons h .nil)
def catT : D → D → M D
  | .tup a, .tup b => M.bnd (M.req (a.length + b.length ≤ 100000)) fun _ => M.ret (.tup (a ++ b))
  | _, _ => M.fail
def chD (c : List Ks) : D := .tup (c.map tieD)
def srtC : List D → M (List D)
  | [.lst es] => M.bnd (M.choose fun p : List (List Ks) × Nat => es = p.1.map chD ∧ 0 < p.2 ∧ (∀ c ∈ p.1, c.length = p.2 ∧ ∀ k ∈ c, CK k) ∧ p.1.length ≤ 1000) fun p => M.bnd (M.all fun u : List (List Ks) => u.Perm p.1 ∧ u.Pairwise fun a b => cc a ≤ cc b) fun u => M.ret (u.map chD)
  | _ => M.fail
def okYD : Ry → M D
  | .ok ds => M.ret (.lst ds)
  | .er _ => M.fail
end Dv
namespace Tm
open PySem PySem.Spec PyProof.Rows L2 Sg
section
variable {X : Cx} {pins : List (Addr × Obj)} {σ : L2.St} {H : Hp} {s : Shared}
def tGetS (K : PySem.W.Frag) (td ty : TE) : TE := fun σ H Q => td σ H fun x H1 => ty σ H1 fun y H2 => ∃ a b kvs k v, x = .ref a ∧ y = .ref b ∧ Rd H2 a (.dT kvs) ∧ SqT K H2 b (k.map kV) ∧ valV kvs k = some v ∧ Q v H2
def tDcT (wi : TI) (g : TG) (tt : TT) (tk tv : TE) (vs : List Nat) : TE := fun σ H Q => wi σ H fun J H1 => ∀ Dd, H1 Dd = none → ∃ W : Nat → Nat → Hp → Prop, (∃ m, W 0 m (upd H1 Dd (.dT []))) ∧ ∀ i m L, W i m L →
  (J.stop i L ∧ Q (.ref Dd) L) ∨ (J.go i L ∧ ∃ Nx : Hp → Prop, (∀ L', Nx L' → ∃ m', m' < m ∧ W (i + 1) m' L') ∧ ∀ x L', J.yld i L x L' → g x (wipe σ vs) L' fun σ2 L2 => wipe σ2 vs = wipe σ vs ∧ tt σ2 L2 fun t L3 =>
    if t = true then tk σ2 L3 fun y L4 => tv σ2 L4 fun z L5 => ∃ kvs k b, y = .ref b ∧ L5 b = some (.tup (k.map kV)) ∧ L5 Dd = some (.dT kvs) ∧ kvs.length < sizeLine ∧ Nx (upd L5 Dd (.dT (putK kvs k z))) else Nx L3)
end
end Tm
namespace Dv
open PySem PySem.Spec PyProof.Rows L2 Sg
variable {S : Base} {B : Bo S} {X : XK}
theorem putK_new {kvs : List (Ks × V)} {k : Ks} {v : V} (h : k ∉ kvs.map (·.1)) : putK kvs k v = kvs ++ [(k, v)] := by
  unfold putK
  have e : (kvs.any fun kv => decide (kv.1 = k)) = false := by
    cases he : kvs.any fun kv => decide (kv.1 = k) with
    | false => rfl
    | true =>
      obtain ⟨p, hp, hk⟩ := List.any_eq_true.mp he
      exact absurd (List.mem_map.mpr ⟨p, hp, of_decide_eq_true hk⟩) h
  rw [e]
  rfl
def ownT (ρ : Ev) (i : Nat) : M (List (Ks × D)) := match ρ[i]? with
  | some (some (.ot es)) => M.ret es
  | _ => M.fail
def asTie (l : List D) : M Ks := M.choose fun k : Ks => l = k.map kDd
def RsT (S : Base) (B : Bo S) (H G : Hp) (Q : VK) (es : List (Ks × D)) : Prop := ∀ p kvs H' G', FrA H p → Ok B H' G' → Ch B H G H' G' → H' p = some (.dT kvs) → G' p = none → kvs.map (·.1) = es.map (·.1) → RpA S B G' (kvs.map (·.2)) (es.map (·.2)) → Q (.ref p) H'
def spT (S : Base) (f : List D → M (List (Ks × D))) : Sp := fun vs H Q _ => ∃ B G ds, Ok B H G ∧ RpA S B G vs ds ∧ (f ds).run (RsT S B H G Q)
def valT (es : List (Ks × D)) (k : Ks) : Option D := (es.find? fun kv => decide (kv.1 = k)).map (·.2)
def dgT : D → D → M D
  | .dt es, .tup l => M.bnd (asTie l) fun k => M.opt (valT es k)
  | _, _ => M.fail
theorem el_rev {te : TE} {m : Env → M D} (h : EvD S te m) : EvL S (tRevL S.K te) (fun ρ => M.bnd (m ρ) fun d => M.bnd (asL d) fun l => M.ret l.reverse) := fun B σ H G ρ Q k er q =>
  h B σ H G ρ _ k er ((m ρ).mono (fun d hd v H1 G1 k1 c1 r1 => by
    obtain ⟨l, rfl, hd⟩ := asL_run hd
    cases r1 with
    | lst ha hr => exact ⟨_, _, rfl, SqL.of (k1.sub _ _ ha), fun p hp => Rs2.lay k1 (Rs2.after c1 hd) (RpA.rev hr) hp⟩) q)
theorem pe_revK {Y : Cx} {K : PySem.W.Frag} (hK : Y.K = K) {e : Expr} {te : TE} {k : Nat} {p1 p2 p3 pos : Pos} (he : PE Y e te) : PE Y (.Subscript e (.Slice none none (some (.UnaryOp .USub (.Constant (.int 1) k p1) p2)) p3) pos) (tRevL K te) := by subst hK; exact pe_revL he
end Dv
namespace Dv
open PySem PySem.Spec PyProof.Rows L2 Sg
variable {S : Base} {B : Bo S} {X : XK}
def intsM (l : List D) : M (List Int) := M.choose fun ns : List Int => l = ns.map D.int
def sumM : List D → M D
  | [.lst l] => M.bnd (intsM l) fun ns => M.ret (.int ns.sum)
  | _ => M.fail
end Dv
namespace Bt
open PySem
def bitsN (l : List Nat) : Nat := (l.map fun p => 2 ^ p).sum
def lotN (n : Nat) (P : Nat → Bool) : Nat := bitsN ((List.range n).filter P)
theorem bitsN_app (a b : List Nat) : bitsN (a ++ b) = bitsN a + bitsN b := by
  unfold bitsN
  rw [List.map_append, List.sum_append_nat]
theorem lot_succ (n : Nat) (P : Nat → Bool) : lotN (n + 1) P = lotN n P + (if P n = true then 2 ^ n else 0) := by
  unfold lotN
  rw [List.range_succ, List.filter_append, bitsN_app]
  congr 1
  by_cases h : P n = true
  · simp [h, bitsN]
  · simp [h, bitsN]
theorem lot_lt : ∀ (n : Nat) (P : Nat → Bool), lotN n P < 2 ^ n
  | 0, P => by show (0 : Nat) < 2 ^ 0; decide
  | n + 1, P => by
    rw [lot_succ, Nat.pow_succ]
    have := lot_lt n P
    split <;> omega
theorem rise_range : ∀ {l : List Nat} (n : Nat), l.Pairwise (· < ·) → (∀ x ∈ l, x < n) → l = (List.range n).filter (fun k => decide (k ∈ l))
  | l, n, hp, hb => by
    have hq : ((List.range n).filter (fun k => decide (k ∈ l))).Pairwise (· < ·) := List.Pairwise.filter _ List.pairwise_lt_range
    have hm : ∀ x, x ∈ l ↔ x ∈ (List.range n).filter (fun k => decide (k ∈ l)) := fun x => by
      simp only [List.mem_filter, List.mem_range, decide_eq_true_eq]
      exact ⟨fun h => ⟨hb x h, h⟩, fun h => h.2⟩
    exact (uniq l _ hp hq hm)
where
  uniq : ∀ (a b : List Nat), a.Pairwise (· < ·) → b.Pairwise (· < ·) → (∀ x, x ∈ a ↔ x ∈ b) → a = b
    | [], [], _, _, _ => rfl
    | [], y :: b, _, _, h => absurd ((h y).mpr (.head _)) (by simp)
    | x :: a, [], _, _, h => absurd ((h x).mp (.head _)) (by simp)
    | x :: a, y :: b, ha, hb, h => by
      have ha' := List.pairwise_cons.mp ha
      have hb' := List.pairwise_cons.mp hb
      have e : x = y := by
        have h1 : x ∈ y :: b := (h x).mp (.head _)
        have h2 : y ∈ x :: a := (h y).mpr (.head _)
        rcases List.mem_cons.mp h1 with e | e
        · exact e
        · rcases List.mem_cons.mp h2 with f | f
          · exact f.symm
          · have := ha'.1 y f
            have := hb'.1 x e
            omega
      subst e
      congr 1
      refine uniq a b ha'.2 hb'.2 fun z => ⟨fun hz => ?_, fun hz => ?_⟩
      · rcases List.mem_cons.mp ((h z).mp (.tail _ hz)) with e | e
        · have := ha'.1 z hz
          omega
        · exact e
      · rcases List.mem_cons.mp ((h z).mpr (.tail _ hz)) with e | e
        · have := hb'.1 z hz
          omega
        · exact e
theorem bits_lt {l : List Nat} {n : Nat} (hp : l.Pairwise (· < ·)) (hb : ∀ x ∈ l, x < n) : bitsN l < 2 ^ n := by
  have e : bitsN l = lotN n (fun k => decide (k ∈ l)) := congrArg bitsN (rise_range n hp hb)
  rw [e]
  exact lot_lt n _
def ptsN (b : Nat) : List Nat := (List.range (Builtin.Int.intBits (b : Int))).filter (fun k => b.testBit k)
def meetN (b : Nat) (near : Nat → Nat) (o : Nat) : Nat := bitsN ((ptsN b).filter fun k => decide (near k &&& o ≠ 0))
end Bt
namespace Dv
open PySem PySem.Spec PyProof.Rows L2 Sg Tm
variable {S : Base} {B : Bo S} {X : XK}
def nbM (f : List D → M (List D)) : List (Ks × D) → M (List (Ks × D))
  | [] => M.ret []
  | (k, d) :: es => M.bnd (asL d) fun l => M.bnd (f l) fun r => M.bnd (nbM f es) fun rest => M.ret ((k, .lst r) :: rest)
end Dv
namespace Dv
open PySem PySem.Spec PyProof.Rows L2 Sg Tm
end Dv
namespace Dv
open PySem PySem.Spec PyProof.Rows L2 Sg
variable {S : Base} {B : Bo S} {X : XK}
def zpD (a b : List D) : List D := List.zipWith (fun d e => D.tup [d, e]) a b
def zpM : List D → M (List D)
  | [.lst a, .lst b] => M.ret (zpD a b)
  | _ => M.fail
theorem RsG.add {H0 G0 H G : Hp} {σ : L2.St} {ρ : Ev} {A : Nat → Addr} (r : RsG S B H0 G0 σ H ρ G A) {p : Addr} {o : HO} (hp : G p = none) (h2 : FrA H0 p) (h4 : H p = some o) (pl : plainO o = true) (nw : ∀ i t, ρ[i]? = some (some t) → t.owned = true → A i ≠ p) : RsG S B H0 G0 σ H ρ (L2.upd G p o) A := by
  have hs : Dv.Sub G (L2.upd G p o) := sub_new hp
  refine ⟨r.aw, ⟨fun a u q => ?_, fun b q z => ?_, r.ok.bx, r.ok.tb, fun a ps q => ?_⟩, ⟨r.ch.ch, r.ch.fr, r.ch.ext.trans hs, fun a u q => ?_⟩, r.len, fun j d q => ?_, fun j t q w' => ?_, r.dj⟩
  · by_cases z : a = p
    · subst z; rw [upd_same] at q; cases q; exact h4
    · rw [upd_ne z] at q; exact r.ok.sub a u q
  · rw [upd_ne (r.away h2 b q z).1]
    exact r.ok.nm b q z
  · by_cases z : a = p
    · subst z; rw [upd_same] at q; cases q; exact plainO.nt pl ps rfl
    · rw [upd_ne z] at q; exact r.ok.nt a ps q
  · by_cases z : a = p
    · subst z; exact .inr h2
    · rw [upd_ne z] at q; exact r.ch.new a u q
  · obtain ⟨u, k1, k2⟩ := r.fz j d q
    exact ⟨u, k1, k2.mono hs⟩
  · obtain ⟨k1, k2, k3, o', k4, k5⟩ := r.ow j t q w'
    exact ⟨k1, k2, by rw [upd_ne (nw j t q w')]; exact k3, o', k4, k5.mono hs⟩
def hpOff (H : Hp) (p : Addr) : Hp := fun a => if a = p then none else H a
def RsMu (S : Base) (B : Bo S) (H G : Hp) (p : Addr) (Q : VK) (ds : List D) : Prop := ∀ xs H' G', Ok B H' G' → Ch B (hpOff H p) G H' G' → H' p = some (.lst xs) → G' p = none → RpA S B G' xs ds → Q .non H'
def spMu (S : Base) (f : List D → List D → M (List D)) : Sp := fun vs H Q _ => ∃ B G d0 d1 d3 v0 v1 v3 p xs ds, vs = [v0, v1, .ref p, v3] ∧ Ok B H G ∧ Rp S B G v0 d0 ∧ Rp S B G v1 d1 ∧ Rp S B G v3 d3 ∧ H p = some (.lst xs) ∧ G p = none ∧ (∀ b q, B.bq = some (b, q) → b ≠ p ∧ q ≠ p) ∧ RpA S B G xs ds ∧ (f [d0, d1, d3] ds).run (RsMu S B H G p Q)
def SvP (S : Base) (i : Nat) (ts : TS) (g : Ev → M Ev) : Prop := ∀ B H0 G0 σ H ρ E G A, RsG S B H0 G0 σ H ρ G A → (g ρ).run (fun ρ' => ∀ σ' H' G' A', RsG S B H0 G0 σ' H' ρ' G' A' → A' i = A i → E.nx σ' H') → ts E σ H
def loopP (b : D → Ev → M Ev) (g : Ev → M Ev) : List D → Ev → M Ev
  | [], ρ => M.ret ρ
  | d :: ds, ρ => M.bnd (b d ρ) fun ρ1 => M.bnd (g ρ1) fun ρ2 => loopP b g ds ρ2
def oD : Option (List D) → D
  | none => .non
  | some ds => .lst ds
def RsO (S : Base) (B : Bo S) (H G : Hp) (Q : VK) : Option (List D) → Prop
  | none => ∀ H' G', Ok B H' G' → Ch B H G H' G' → Q .non H'
  | some ds => Rs2 S B H G Q ds
def spO (S : Base) (f : List D → M (Option (List D))) : Sp := fun vs H Q _ => ∃ B G ds, Ok B H G ∧ RpA S B G vs ds ∧ (f ds).run (RsO S B H G Q)
def outO (P : Option (List D) → Prop) : Ou → Prop
  | .rt d => d = .non ∧ P none
  | .rl l => P (some l)
  | _ => False
end Dv
namespace Dv
open PySem PySem.Spec PyProof.Rows L2 Sg
variable {S : Base} {B : Bo S} {X : XK}
def noOwn : Option Sl → Bool
  | some t => !t.owned
  | none => true
def FreshV (H G : Hp) (x : V) : Option (List D) → Prop
  | none => x = .non
  | some ds => ∃ p xs, x = .ref p ∧ FrA H p ∧ G p = some (.lst xs) ∧ xs.length = ds.length
theorem no_owned {ρ : Ev} (no : ρ.all noOwn = true) {i : Nat} {t : Sl} (e : ρ[i]? = some (some t)) : ¬ t.owned = true := fun w => by
  have := List.all_eq_true.mp no _ (List.mem_of_getElem? e)
  have this : (!t.owned) = true := this
  rw [w] at this
  cases this
end Dv
namespace Dv
open PySem PySem.Spec PyProof.Rows L2 Sg
variable {S : Base} {B : Bo S} {X : XK}
def nD (ls : List (List Int)) : D := .lst (ls.map fun l => .lst (l.map D.int))
structure Nest (Hb H G : Hp) (p : Addr) (rs : List Addr) (ls : List (List Int)) : Prop where
  at_ : H p = some (.lst (rs.map V.ref))
  len : rs.length = ls.length
  inn : ∀ k (h : k < rs.length) (h' : k < ls.length), H rs[k] = some (.lst (ls[k].map V.int))
  nd : (p :: rs).Nodup
  fr : ∀ a ∈ p :: rs, FrA Hb a
  gn : ∀ a ∈ p :: rs, G a = none
theorem Nest.lst {Hb H G : Hp} {p : Addr} {rs : List Addr} {ls : List (List Int)} (n : Nest Hb H G p rs ls) : ∀ a ∈ p :: rs, ∃ xs, H a = some (.lst xs) := fun a h => by
  rcases List.mem_cons.mp h with rfl | h
  · exact ⟨_, n.at_⟩
  · obtain ⟨k, hk, rfl⟩ := List.getElem_of_mem h
    exact ⟨_, n.inn k hk (by rw [← n.len]; exact hk)⟩
theorem Nest.to {Hb H G H' G' : Hp} {p : Addr} {rs : List Addr} {ls : List (List Int)} (n : Nest Hb H G p rs ls) (h : ∀ a ∈ p :: rs, H' a = H a ∧ G' a = none) : Nest Hb H' G' p rs ls :=
  ⟨(h p (List.mem_cons_self ..)).1.trans n.at_, n.len, fun k hk hk' => (h _ (List.mem_cons_of_mem _ (List.getElem_mem hk))).1.trans (n.inn k hk hk'), n.nd, n.fr, fun a ha => (h a ha).2⟩
structure NsG (B : Bo S) (Hb Gb : Hp) (i : Nat) (σ : L2.St) (H : Hp) (ρ : Ev) (ls : List (List Int)) (G : Hp) (p : Addr) (rs : List Addr) : Prop where
  r : ∃ A, RsG S B Hb Gb σ H ρ G A
  no : ρ.all noOwn = true
  sl : σ[i]? = some (some (.ref p))
  ri : ρ[i]? = some none
  n : Nest Hb H G p rs ls
section
variable {Hb Gb H G H' G' : Hp} {i : Nat} {σ : L2.St} {ρ : Ev} {ls : List (List Int)} {p : Addr} {rs : List Addr}
theorem NsG.step (s : NsG B Hb Gb i σ H ρ ls G p rs) (k : Ok B H' G') (c : Ch B H G H' G') : NsG B Hb Gb i σ H' ρ ls G' p rs := by
  obtain ⟨A, r⟩ := s.r
  refine ⟨⟨A, r.step k c⟩, s.no, s.sl, s.ri, s.n.to fun a ha => ?_⟩
  obtain ⟨xs, hx⟩ := s.n.lst a ha
  obtain ⟨h1, h2⟩ := c.mine hx (s.n.gn a ha) rfl (r.nb (s.n.fr a ha))
  exact ⟨h1.trans hx.symm, h2⟩
def addN (M : List Addr) (H G : Hp) : Hp := fun a => if a ∈ M then H a else G a
def rmN (M : List Addr) (G : Hp) : Hp := fun a => if a ∈ M then none else G a
theorem add_in {M : List Addr} {a : Addr} (h : a ∈ M) : addN M H G a = H a := if_pos h
theorem add_out {M : List Addr} {a : Addr} (h : a ∉ M) : addN M H G a = G a := if_neg h
theorem rm_in {M : List Addr} {a : Addr} (h : a ∈ M) : rmN M G a = none := if_pos h
theorem rm_out {M : List Addr} {a : Addr} (h : a ∉ M) : rmN M G a = G a := if_neg h
theorem add_sub {M : List Addr} (h : ∀ a ∈ M, G a = none) : Sub G (addN M H G) := fun a o e => by
  by_cases z : a ∈ M
  · rw [h a z] at e; cases e
  · rw [add_out z]; exact e
theorem rpa_nums {G : Hp} : ∀ (l : List Int), RpA S B G (l.map V.int) (l.map D.int)
  | [] => .nil
  | a :: l => .cons (.int a) (rpa_nums l)
theorem rpa_refs {G : Hp} : ∀ {rs : List Addr} {ls : List (List Int)}, rs.length = ls.length → (∀ k (h : k < rs.length) (h' : k < ls.length), G rs[k] = some (.lst (ls[k].map V.int))) → RpA S B G (rs.map V.ref) (ls.map fun l => .lst (l.map D.int))
  | [], [], _, _ => .nil
  | r :: rs, l :: ls, hl, h => .cons (.lst (h 0 (Nat.succ_pos _) (Nat.succ_pos _)) (rpa_nums l)) (rpa_refs (Nat.succ.inj hl) fun k h1 h2 => h (k + 1) (Nat.succ_lt_succ h1) (Nat.succ_lt_succ h2))
theorem NsG.look (s : NsG B Hb Gb i σ H ρ ls G p rs) : Ok B H (addN (p :: rs) H G) ∧ Er S B (addN (p :: rs) H G) σ ((mask ρ).set i (some (nD ls))) ∧ ∀ H' G1, Ok B H' G1 → Ch B H (addN (p :: rs) H G) H' G1 → NsG B Hb Gb i σ H' ρ ls (rmN (p :: rs) G1) p rs := by
  obtain ⟨A, r⟩ := s.r
  have sub := add_sub (H := H) s.n.gn
  have hi : i < ρ.length := by
    have := s.ri
    by_cases z : i < ρ.length
    · exact z
    · rw [List.getElem?_eq_none (by omega)] at this
      cases this
  refine ⟨⟨fun a o e => ?_, fun b q e => ?_, r.ok.bx, r.ok.tb, fun a ps e => ?_⟩, ⟨?_, fun j d e => ?_⟩, fun H' G1 k c => ?_⟩
  · by_cases z : a ∈ p :: rs
    · rw [add_in z] at e; exact e
    · rw [add_out z] at e; exact r.ok.sub a o e
  · by_cases z : b ∈ p :: rs
    · exact absurd rfl (r.away (s.n.fr b z) b q e).1
    · rw [add_out z]; exact r.ok.nm b q e
  · by_cases z : a ∈ p :: rs
    · obtain ⟨xs, hx⟩ := s.n.lst a z
      rw [add_in z, hx] at e; cases e
    · rw [add_out z] at e; exact r.ok.nt a ps e
  · rw [List.length_set]; exact r.mask.len
  · by_cases z : i = j
    · subst z
      rw [List.getElem?_set_self (by unfold mask; rw [List.length_map]; exact hi)] at e
      cases e
      refine ⟨_, s.sl, .lst (by rw [add_in (List.mem_cons_self ..)]; exact s.n.at_) (rpa_refs s.n.len fun k h1 h2 => ?_)⟩
      rw [add_in (List.mem_cons_of_mem _ (List.getElem_mem h1))]
      exact s.n.inn k h1 h2
    · rw [List.getElem?_set_ne z] at e
      obtain ⟨v, h1, h2⟩ := r.mask.get j d e
      exact ⟨v, h1, h2.mono sub⟩
  · have keep : ∀ a ∈ p :: rs, G1 a = H a := fun a z => by
      obtain ⟨xs, hx⟩ := s.n.lst a z
      rw [hx]
      exact c.ext a _ (by rw [add_in z]; exact hx)
    have up : Sub G (rmN (p :: rs) G1) := fun a o e => by
      by_cases z : a ∈ p :: rs
      · rw [s.n.gn a z] at e; cases e
      · rw [rm_out z]; exact c.ext a o (sub a o e)
    have dn : ∀ a o, rmN (p :: rs) G1 a = some o → a ∉ p :: rs ∧ G1 a = some o := fun a o e => by
      by_cases z : a ∈ p :: rs
      · rw [rm_in z] at e; cases e
      · rw [rm_out z] at e; exact ⟨z, e⟩
    refine ⟨⟨A, r.aw, ⟨fun a o e => k.sub a o (dn a o e).2, fun b q e => ?_, k.bx, k.tb, fun a ps e => k.nt a ps (dn a _ e).2⟩, ⟨fun a o h1 h2 h3 => c.ch a o h1 h2 (r.ch.ch a o h1 h2 h3), fun a h => r.ch.fr a (c.fr a h), r.ch.ext.trans up, fun a o e => ?_⟩, r.len, fun j d e => ?_, fun j t e w => absurd w (no_owned s.no e), fun j j' t t' e1 e2 w1 w2 _ => absurd w1 (no_owned s.no e1)⟩, s.no, s.sl, s.ri, s.n.to fun a ha => ⟨?_, rm_in ha⟩⟩
    · by_cases z : b ∈ p :: rs
      · exact rm_in z
      · rw [rm_out z]; exact k.nm b q e
    · obtain ⟨z, e⟩ := dn a o e
      rcases c.new a o e with e | e
      · rw [add_out z] at e; exact r.ch.new a o e
      · exact .inr (r.ch.fr a e)
    · obtain ⟨v, h1, h2⟩ := r.fz j d e
      exact ⟨v, h1, h2.mono up⟩
    · obtain ⟨xs, hx⟩ := s.n.lst a ha
      rw [hx]
      exact k.sub a _ ((keep a ha).trans hx)
theorem all_set {j : Nat} {d : D} (h : ρ.all noOwn = true) : (ρ.set j (some (.f d))).all noOwn = true := by
  rw [List.all_eq_true] at h ⊢
  intro x hx
  rcases List.mem_or_eq_of_mem_set hx with hx | rfl
  · exact h x hx
  · rfl
theorem NsG.set (s : NsG B Hb Gb i σ H ρ ls G p rs) {v : V} {d : D} (h : Rp S B G v d) {j : Nat} (hj : j ≠ i) : NsG B Hb Gb i (σ.set j (some v)) H (ρ.set j (some (.f d))) ls G p rs := by
  obtain ⟨A, r⟩ := s.r
  exact ⟨⟨A, r.set h j⟩, all_set s.no, by rw [List.getElem?_set_ne hj]; exact s.sl, by rw [List.getElem?_set_ne hj]; exact s.ri, s.n⟩
theorem NsG.ok (s : NsG B Hb Gb i σ H ρ ls G p rs) : Ok B H G := by
  obtain ⟨A, r⟩ := s.r
  exact r.ok
theorem NsG.ch (s : NsG B Hb Gb i σ H ρ ls G p rs) : Ch B Hb Gb H G := by
  obtain ⟨A, r⟩ := s.r
  exact r.ch
theorem NsG.mask (s : NsG B Hb Gb i σ H ρ ls G p rs) : Er S B G σ (mask ρ) := by
  obtain ⟨A, r⟩ := s.r
  exact r.mask
theorem NsG.here (s : NsG B Hb Gb i σ H ρ ls G p rs) : NsG B Hb G i σ H ρ ls G p rs := by
  obtain ⟨A, r⟩ := s.r
  exact ⟨⟨A, r.here⟩, s.no, s.sl, s.ri, s.n⟩
theorem NsG.rebase {G1 : Hp} (s : NsG B Hb G1 i σ H ρ ls G p rs) (h : Sub Gb G1) (n : ∀ a o, G1 a = some o → Gb a = some o ∨ FrA Hb a) : NsG B Hb Gb i σ H ρ ls G p rs := by
  obtain ⟨A, r⟩ := s.r
  exact ⟨⟨A, r.rebase h n⟩, s.no, s.sl, s.ri, s.n⟩
end
inductive Oq where
  | nx (ρ : Ev) (ls : List (List Int)) | rt (d : D) | rn (ls : List (List Int))
def FinQ (S : Base) (B : Bo S) (Hb Gb : Hp) (i : Nat) (p : Addr) (E : Ends) : Oq → Prop
  | .nx ρ ls => ∀ σ H G rs, NsG B Hb Gb i σ H ρ ls G p rs → E.nx σ H
  | .rt d => ∀ v H G, Ok B H G → Ch B Hb Gb H G → Rp S B G v d → E.rt v H
  | .rn ls => ∀ H G rs, Ok B H G → Ch B Hb Gb H G → Nest Hb H G p rs ls → E.rt (.ref p) H
def SvQ (S : Base) (i : Nat) (ts : TS) (g : Ev → List (List Int) → M Oq) : Prop := ∀ (B : Bo S) Hb Gb σ H ρ ls G p rs E, NsG B Hb Gb i σ H ρ ls G p rs → (g ρ ls).run (FinQ S B Hb Gb i p E) → ts E σ H
def thenQ (g : Ev → List (List Int) → M Oq) : Oq → M Oq
  | .nx ρ ls => g ρ ls
  | .rt d => M.ret (.rt d)
  | .rn ls => M.ret (.rn ls)
def KpG (i : Nat) (g : TG) : Prop := ∀ v σ H (Q Q' : L2.St → Hp → Prop), g v σ H Q → (∀ σ1 H1, σ1[i]? = σ[i]? → Q σ1 H1 → Q' σ1 H1) → g v σ H Q'
def KpGs (i : Nat) (g : TGs) : Prop := ∀ v σ H (Q Q' : L2.St → Hp → Prop), g v σ H Q → (∀ σ1 H1, σ1[i]? = σ[i]? → Q σ1 H1 → Q' σ1 H1) → g v σ H Q'
theorem NsG.tgt {Hb Gb H G : Hp} {i : Nat} {σ : L2.St} {ρ : Ev} {ls : List (List Int)} {p : Addr} {rs : List Addr} (s : NsG B Hb Gb i σ H ρ ls G p rs) {g : TG} {b : D → Ev → M Ev} (hg : EgS S g b) (hk : KpG i g) {v : V} {d : D} (rp : Rp S B G v d) {Q : L2.St → Hp → Prop} (q : (b d ρ).run fun ρ1 => (ρ1.all noOwn = true ∧ ρ1[i]? = some none) ∧ ∀ σ1, NsG B Hb Gb i σ1 H ρ1 ls G p rs → Q σ1 H) : g v σ H Q := by
  obtain ⟨A, r⟩ := s.r
  refine hk _ _ _ _ _ (hg B Hb Gb σ H ρ G A v d (fun σ1 H1 => ∃ ρ1, RsG S B Hb Gb σ1 H1 ρ1 G A ∧ H1 = H ∧ (ρ1.all noOwn = true ∧ ρ1[i]? = some none) ∧ ∀ σ1, NsG B Hb Gb i σ1 H ρ1 ls G p rs → Q σ1 H) r rp ((b d ρ).mono (fun ρ1 h1 σ1 r1 => ⟨ρ1, r1, rfl, h1.1, h1.2⟩) q)) ?_
  rintro σ1 H1 e ⟨ρ1, r1, rfl, ⟨n1, n2⟩, q⟩
  exact q σ1 ⟨⟨A, r1⟩, n1, e.trans s.sl, n2, s.n⟩
def loopQ (i : Nat) (b : D → Ev → M Ev) (g : Ev → List (List Int) → M Oq) : List D → Ev → List (List Int) → M Oq
  | [], ρ, ls => M.ret (.nx ρ ls)
  | d :: ds, ρ, ls => M.bnd (b d ρ) fun ρ1 => M.bnd (M.req (ρ1.all noOwn = true ∧ ρ1[i]? = some none)) fun _ => M.bnd (g ρ1 ls) (thenQ (loopQ i b g ds))
theorem NsG.put {Hb Gb H G : Hp} {i : Nat} {σ : L2.St} {ρ : Ev} {ls : List (List Int)} {p : Addr} {rs : List Addr} (s : NsG B Hb Gb i σ H ρ ls G p rs) {k : Nat} (h : k < rs.length) (l : List Int) : NsG B Hb Gb i σ (L2.upd H rs[k] (.lst (l.map V.int))) ρ (ls.set k l) G p rs := by
  obtain ⟨A, r⟩ := s.r
  have hm : rs[k] ∈ p :: rs := List.mem_cons_of_mem _ (List.getElem_mem h)
  have h' : k < ls.length := by rw [← s.n.len]; exact h
  have nd := List.nodup_cons.mp s.n.nd
  refine ⟨⟨A, r.aw, r.ok.upd (s.n.gn _ hm) (fun u e => ?_) (r.away (s.n.fr _ hm)), r.ch.upd (s.n.fr _ hm), r.len, r.fz, fun j t e w => absurd w (no_owned s.no e), fun j j' t t' e1 e2 w1 w2 _ => absurd w1 (no_owned s.no e1)⟩, s.no, s.sl, s.ri, ⟨?_, by rw [List.length_set]; exact s.n.len, fun k2 h2 h2' => ?_, s.n.nd, s.n.fr, s.n.gn⟩⟩
  · rw [s.n.inn k h h'] at e
    cases e
    rfl
  · rw [upd_ne fun z => nd.1 (by rw [z]; exact List.getElem_mem h)]
    exact s.n.at_
  · by_cases z : k2 = k
    · subst z
      rw [upd_same, List.getElem_set_self]
    · have ne : rs[k2] ≠ rs[k] := fun e => z (by
        have := nd.2
        rw [List.Nodup, List.pairwise_iff_getElem] at this
        rcases Nat.lt_trichotomy k2 k with l | l | l
        · exact absurd e (this k2 k h2 h l)
        · exact l
        · exact absurd e.symm (this k k2 h h2 l))
      rw [upd_ne ne]
      rw [List.length_set] at h2'
      rw [s.n.inn k2 h2 h2', List.getElem_set_ne (fun w => z w.symm)]
theorem NsG.swap {Hb Gb H G : Hp} {i : Nat} {σ : L2.St} {ρ : Ev} {ls : List (List Int)} {p r : Addr} {rs : List Addr} (s : NsG B Hb Gb i σ H ρ ls G p rs) {l : List Int} (h1 : H r = some (.lst (l.map V.int))) (h2 : G r = none) (h3 : FrA Hb r) (h4 : r ∉ p :: rs) {k : Nat} (h : k < rs.length) : NsG B Hb Gb i σ (L2.upd H p (.lst ((rs.set k r).map V.ref))) ρ (ls.set k l) G p (rs.set k r) := by
  obtain ⟨A, rg⟩ := s.r
  have hm : p ∈ p :: rs := List.mem_cons_self ..
  have nd := List.nodup_cons.mp s.n.nd
  have ne : r ≠ p := fun z => h4 (by rw [z]; exact hm)
  have hr : ∀ a, a ∈ p :: rs.set k r → a ∈ p :: rs ∨ a = r := fun a ha => by
    rcases List.mem_cons.mp ha with h | h
    · exact .inl (h ▸ hm)
    · exact (List.mem_or_eq_of_mem_set h).imp (List.mem_cons_of_mem _) id
  refine ⟨⟨A, rg.aw, rg.ok.upd (s.n.gn _ hm) (fun u e => ?_) (rg.away (s.n.fr _ hm)), rg.ch.upd (s.n.fr _ hm), rg.len, rg.fz, fun j t e w => absurd w (no_owned s.no e), fun j j' t t' e1 e2 w1 w2 _ => absurd w1 (no_owned s.no e1)⟩, s.no, s.sl, s.ri, ⟨upd_same, by rw [List.length_set, List.length_set, s.n.len], fun j hj hj' => ?_, ?_, fun a ha => ?_, fun a ha => ?_⟩⟩
  · rw [s.n.at_] at e
    cases e
    rfl
  · rw [List.length_set] at hj hj'
    by_cases z : k = j
    · subst z
      rw [List.getElem_set_self, List.getElem_set_self, upd_ne ne]
      exact h1
    · rw [List.getElem_set_ne z, List.getElem_set_ne z, upd_ne fun w => nd.1 (by rw [← w]; exact List.getElem_mem hj)]
      exact s.n.inn j hj hj'
  · refine List.nodup_cons.mpr ⟨fun z => ?_, ?_⟩
    · rcases List.mem_or_eq_of_mem_set z with z | z
      · exact nd.1 z
      · exact ne z.symm
    · have out : r ∉ rs := fun z => h4 (List.mem_cons_of_mem _ z)
      have pw := nd.2
      rw [List.Nodup, List.pairwise_iff_getElem] at pw ⊢
      intro a b ha hb hab
      rw [List.length_set] at ha hb
      rw [List.getElem_set, List.getElem_set]
      split
      · split
        · omega
        · exact fun e => out (e ▸ List.getElem_mem hb)
      · split
        · exact fun e => out (e ▸ List.getElem_mem ha)
        · exact pw a b ha hb hab
  · rcases hr a ha with h | rfl
    · exact s.n.fr a h
    · exact h3
  · rcases hr a ha with h | rfl
    · exact s.n.gn a h
    · exact h2
def RsN (S : Base) (B : Bo S) (H G : Hp) (Q : VK) (ls : List (List Int)) : Prop := ∀ p rs H' G', Ok B H' G' → Ch B H G H' G' → Nest H H' G' p rs ls → Q (.ref p) H'
def EvN (S : Base) (te : TE) (m : Env → M (List (List Int))) : Prop := ∀ (B : Bo S) σ H G ρ Q, Ok B H G → Er S B G σ ρ → (m ρ).run (RsN S B H G Q) → te σ H Q
def spN (S : Base) (f : List D → M (List (List Int))) : Sp := fun vs H Q _ => ∃ (B : Bo S) (G : Hp) (ds : List D), Ok B H G ∧ RpA S B G vs ds ∧ (f ds).run (RsN S B H G Q)
theorem Nest.back {Hb Hb' H G : Hp} {p : Addr} {rs : List Addr} {ls : List (List Int)} (n : Nest Hb H G p rs ls) (h : ∀ a, FrA Hb a → FrA Hb' a) : Nest Hb' H G p rs ls := ⟨n.at_, n.len, n.inn, n.nd, fun a ha => h a (n.fr a ha), n.gn⟩
def outQ (i : Nat) : Oq → M Ou
  | .nx ρ _ => M.ret (.nx ρ)
  | .rt d => M.ret (.rt d)
  | .rn _ => M.fail
theorem NsG.enter {H0 G0 H G H1 G1 : Hp} {σ : L2.St} {ρ : Ev} {A : Nat → Addr} {i : Nat} {p : Addr} {rs : List Addr} {ls : List (List Int)} (r : RsG S B H0 G0 σ H ρ G A) (no : ρ.all noOwn = true) (hi : i < ρ.length) (k1 : Ok B H1 G1) (c1 : Ch B H G H1 G1) (n : Nest H H1 G1 p rs ls) : NsG B H0 G0 i (σ.set i (some (.ref p))) H1 (ρ.set i none) ls G1 p rs := by
  have r1 := r.step k1 c1
  have own : ∀ (j : Nat) (s : Sl), (ρ.set i none)[j]? = some (some s) → i ≠ j ∧ ρ[j]? = some (some s) := fun j s e => by
    by_cases z : i = j
    · subst z
      rw [List.getElem?_set_self hi] at e
      cases e
    · rw [List.getElem?_set_ne z] at e
      exact ⟨z, e⟩
  refine ⟨⟨A, r1.aw, r1.ok, r1.ch, by rw [List.length_set, List.length_set, r.len], fun j d e => ?_, fun j s e w => absurd w (no_owned no (own j s e).2), fun j j' s t e1 e2 w1 w2 _ => absurd w1 (no_owned no (own j s e1).2)⟩, ?_, List.getElem?_set_self (by rw [← r.len]; exact hi), List.getElem?_set_self hi, n.back r.ch.fr⟩
  · obtain ⟨z, e⟩ := own j _ e
    rw [List.getElem?_set_ne z]
    exact r1.fz j d e
  · rw [List.all_eq_true] at no ⊢
    intro x hx
    rcases List.mem_or_eq_of_mem_set hx with hx | rfl
    · exact no x hx
    · rfl
def spQ (S : Base) (f : List D → List (List Int) → M D) : Sp := fun vs H Q _ => ∃ (B : Bo S) (G : Hp) (d0 d1 : D) (v0 v1 : V) (p : Addr) (rs : List Addr) (ls : List (List Int)), vs = [v0, v1, .ref p] ∧ Ok B H G ∧ Rp S B G v0 d0 ∧ Rp S B G v1 d1 ∧ Nest (rmN (p :: rs) H) H G p rs ls ∧ (∀ a ∈ p :: rs, ∀ b q, B.bq = some (b, q) → b ≠ a ∧ q ≠ a) ∧ (f [d0, d1] ls).run (fun d => ∀ v H' G', Ok B H' G' → Ch B (rmN (p :: rs) H) G H' G' → Rp S B G' v d → Q v H')
end Dv
namespace PySem.W
open PySem PySem.Calls PyProof.Rows
end PySem.W
namespace L2
open PySem PySem.Spec PyProof.Rows PySem.W
section
variable {X : Cx}
def tTlR (K : PySem.W.Frag) (te : TE) : TE := fun σ H Q => te σ H fun x H1 => ∃ a xs, x = .ref a ∧ SqL K H1 a xs ∧ ∀ p, H1 p = none → Q (.ref p) (upd H1 p (.lst (xs.drop 1).reverse))
end
end L2
namespace Dv
open PySem PySem.Spec PyProof.Rows L2 Sg
variable {S : Base}
end Dv
namespace Lc
open PySem PySem.Spec PyProof.Rows L2
abbrev TC := L2.St → Hp → Addr → (Hp → Prop) → Prop
def tcLast (te : TE) : TC := fun σ H D Nx => te σ H fun y H1 => ∃ acc, H1 D = some (.lst acc) ∧ acc.length < sizeLine ∧ Nx (upd H1 D (.lst (acc ++ [y])))
def tcLoop (J : It) (g : TG) (tt : TT) (ws : List Nat) (tc : TC) (σ : L2.St) (D : Addr) (H0 : Hp) (Nx : Hp → Prop) : Prop :=
  ∃ W : Nat → Nat → Hp → Prop, (∃ m, W 0 m H0) ∧ ∀ i m H, W i m H → (J.stop i H ∧ Nx H) ∨ (J.go i H ∧ ∃ Ny : Hp → Prop, (∀ H', Ny H' → ∃ m', m' < m ∧ W (i + 1) m' H') ∧
    ∀ x H', J.yld i H x H' → g x (wipe σ ws) H' fun σ2 H2 => wipe σ2 ws = wipe σ ws ∧ tt σ2 H2 fun b H3 => if b = true then tc σ2 H3 D Ny else Ny H3)
def tcWalk (wi : TI) (g : TG) (tt : TT) (ws : List Nat) (tc : TC) : TC := fun σ H D Nx => wi σ H fun J H1 => tcLoop J g tt ws tc σ D H1 Nx
def tLcN (wi : TI) (g : TG) (tt : TT) (ws : List Nat) (tc : TC) : TE := fun σ H Q => wi σ H fun J H1 => ∀ D, H1 D = none → tcLoop J g tt ws tc σ D (upd H1 D (.lst [])) fun H2 => Q (.ref D) H2
def Tail (Y : Cx) (D : Addr) (vs : List Nat) (code : Sem PySem.Fin → Sem PySem.Fin) (tc : TC) : Prop :=
  ∀ (pins : List (Addr × Obj)) (s : Shared) (σ : L2.St) (H : Hp) (Nx : Hp → Prop) (k : Sem PySem.Fin) (Q : PySem.Fin → Shared → Prop) (E : Value → Shared → Prop), Inv Y pins σ H s → tc σ H D Nx →
    (∀ s' H', Inv Y pins (wipe σ vs) H' s' → Nx H' → wpAny (model Y.prog Y.w) Y.A k Q E s') → wpAny (model Y.prog Y.w) Y.A (code k) Q E s
section
variable {Y : Cx} {D : Addr}
def TurnIs (C : Expr) (n : Nat) (tg : Expr) (ifs : List Expr) (D : Addr) (env : PySem.Env) (p : Pos) (code : Sem PySem.Fin → Sem PySem.Fin) : Prop :=
  ∀ it : Value, compTurn C n it (.ref D) env = (do
    standAt p
    match ← pyNext it with
    | none => pure (.done .next)
    | some v =>
      letOwnedTupleGo tg it v
      assign tg env v
      let mut ok := true
      for c in ifs do
        if ok then ok ← isTrue c env (eval c env)
      if ok then code (again (.compLoop C n it (.ref D) env)) else again (.compLoop C n it (.ref D) env))
def StartIs (Y : Cx) (C : Expr) (n : Nat) (D : Addr) : Prop := ∀ (it : Value) (R : Result → Shared → Prop) (s : Shared), codeAny (model Y.prog Y.w) Y.A (.compLoop C n it (.ref D) Y.env) R s →
  wpAny (model Y.prog Y.w) Y.A (pyIter it) (fun it' s' => codeAny (model Y.prog Y.w) Y.A (.compLoop C n it' (.ref D) Y.env) R s') (notedBy (model Y.prog Y.w) Y.A Y.env fun x s' => R (.error x) s') s → codeAny (model Y.prog Y.w) Y.A (.compStart C n it (.ref D) Y.env) R s
end
section
variable {X : Cx}
end
abbrev cWalk (C iter : Expr) (n : Nat) (D : Addr) (env : PySem.Env) : Sem PySem.Fin → Sem PySem.Fin := fun k => (do
  let x ← eval iter env
  standAt iter.pos
  let x ← foldedSetIterable iter env x
  let _ ← runOwn (.compStart C n (← holding [x] (pyIter x)) (.ref D) env) env
  k)
abbrev cLast (elt : Expr) (D : Addr) (env : PySem.Env) : Sem PySem.Fin → Sem PySem.Fin := fun k => (do let _ ← call (.builtin "list.append") [.ref D, ← eval elt env]) >>= fun _ => k
section
variable {elt t0 i0 t1 i1 t2 i2 : Expr} {f0 f1 f2 : List Expr} {scope : Scope} {pos : Pos} {D : Addr} {env : PySem.Env}
end
section
variable {X : Cx}
end
end Lc
namespace Dv
open PySem PySem.Spec PyProof.Rows L2 Sg
variable {S : Base} {B : Bo S} {X : XK}
def EvC (S : Base) (tc : Lc.TC) (n : Nat) (f : Env → M (List D)) : Prop := ∀ (B : Bo S) (σ : L2.St) (H G : Hp) (ρ : Env) (Dl : Addr) (acc : List V) (done : List D) (Nx : Hp → Prop) (H0 G0 : Hp), Ok B H G → Er S B G σ ρ → Ch B H0 G0 H G → FrA H0 Dl → (∀ q, B.bq ≠ some (Dl, q)) → (∀ b q, B.bq = some (b, q) → b ≠ Dl ∧ q ≠ Dl) →
  H Dl = some (.lst acc) → G Dl = none → RpA S B G acc done → done.length + n ≤ 100000 → (f ρ).run (fun rest => rest.length ≤ n → ∀ L GL acc', Ok B L GL → Ch B H0 G0 L GL → Dv.Sub G GL → L Dl = some (.lst acc') → GL Dl = none → RpA S B GL acc' (done ++ rest) → Nx L) → tc σ H Dl Nx
def lcC (b : D → Env → M Env) (mt : Env → M Bool) (f : Env → M (List D)) (ρ : Env) (d : D) : M (List D) := M.bnd (b d ρ) fun ρ' => M.bnd (mt ρ') fun t => if t = true then f ρ' else M.ret []
end Dv
namespace Dv
open PySem PySem.Spec PyProof.Rows L2 Sg
variable {S : Base} {B : Bo S} {X : XK}
end Dv
namespace Dv
open PySem PySem.Spec PyProof.Rows L2 Sg
variable {S : Base} {B : Bo S} {X : XK}
def anyB : List D → M D
  | [.lst l] => M.bnd (M.choose fun bs : List Bool => l = bs.map D.bl) fun bs => M.ret (.bl (bs.any id))
  | _ => M.fail
end Dv
namespace Dv
open PySem PySem.Spec PyProof.Rows L2 Sg
variable {S : Base} {B : Bo S} {X : XK}
end Dv
namespace Dv
open PySem PySem.Spec PyProof.Rows L2 Sg
variable {S : Base} {B : Bo S} {X : XK}
def EvU (S : Base) (i : Nat) (te : TE) (m : Ev → List (List Int) → M D) : Prop := ∀ (B : Bo S) Hb Gb σ H ρ ls G p rs Q, NsG B Hb Gb i σ H ρ ls G p rs → (m ρ ls).run (fun d => ∀ v H' G', Ok B H' G' → Ch B (rmN (p :: rs) H) G H' G' → Rp S B G' v d → Q v H') → te σ H Q
theorem NsG.gone {Hb Gb H G H' G' : Hp} {i : Nat} {σ : L2.St} {ρ : Ev} {ls : List (List Int)} {p : Addr} {rs : List Addr} (s : NsG B Hb Gb i σ H ρ ls G p rs) (k : Ok B H' G') (c : Ch B (rmN (p :: rs) H) G H' G') : ∃ A, RsG S B Hb Gb σ H' ρ G' A := by
  obtain ⟨A, r⟩ := s.r
  refine ⟨A, r.aw, k, ⟨fun a o nb nt e => ?_, fun a h => ?_, r.ch.ext.trans c.ext, fun a o e => ?_⟩, r.len, fun j d e => ?_, fun j t e w => absurd w (no_owned s.no e), fun j j' t t' e1 e2 w1 w2 _ => absurd w1 (no_owned s.no e1)⟩
  · have z : a ∉ p :: rs := fun z => by
      obtain ⟨ps, h⟩ := s.n.fr a z o e
      exact nt ps h
    exact c.ch a o nb nt (by rw [rm_out z]; exact r.ch.ch a o nb nt e)
  · have h2 := c.fr a h
    by_cases z : a ∈ p :: rs
    · exact s.n.fr a z
    · exact r.ch.fr a fun o e => h2 o (by rw [rm_out z]; exact e)
  · rcases c.new a o e with e | h
    · exact r.ch.new a o e
    · refine .inr ?_
      by_cases z : a ∈ p :: rs
      · exact s.n.fr a z
      · exact r.ch.fr a fun o e => h o (by rw [rm_out z]; exact e)
  · obtain ⟨v, h1, h2⟩ := r.fz j d e
    exact ⟨v, h1, h2.mono c.ext⟩
def SvX (S : Base) (X : XK) (i : Nat) (ts : TS) (g : Ev → List (List Int) → M Ou) : Prop := ∀ (B : Bo S) H0 G0 σ H ρ ls G p rs E, NsG B H0 G0 i σ H ρ ls G p rs → (g ρ ls).run (Fin S X B H0 G0 E) → ts E σ H
def thenX (h : Ev → List (List Int) → M Ou) : Oq → M Ou
  | .nx ρ ls => h ρ ls
  | .rt d => M.ret (.rt d)
  | .rn _ => M.fail
theorem Nest.rp {Hb H G : Hp} {p : Addr} {rs : List Addr} {ls : List (List Int)} (n : Nest Hb H G p rs ls) : Rp S B (addN (p :: rs) H G) (.ref p) (nD ls) := by
  refine .lst (by rw [add_in (List.mem_cons_self ..)]; exact n.at_) (rpa_refs n.len fun k h1 h2 => ?_)
  rw [add_in (List.mem_cons_of_mem _ (List.getElem_mem h1))]
  exact n.inn k h1 h2
theorem EvN.d {te : TE} {m : Env → M (List (List Int))} (h : EvN S te m) : EvD S te (fun ρ => M.bnd (m ρ) fun ls => M.ret (nD ls)) := fun B σ H G ρ Q k er q =>
  h B σ H G ρ _ k er ((m ρ).mono (fun ls hl p rs H1 G1 k1 c1 n => by
    have sub := add_sub (H := H1) n.gn
    refine (show Rs1 S B H G Q (nD ls) from hl) (.ref p) H1 (addN (p :: rs) H1 G1) ⟨fun a o e => ?_, fun b q e => ?_, k1.bx, k1.tb, fun a ps e => ?_⟩ ⟨c1.ch, c1.fr, c1.ext.trans sub, fun a o e => ?_⟩ n.rp
    · by_cases z : a ∈ p :: rs
      · rw [add_in z] at e; exact e
      · rw [add_out z] at e; exact k1.sub a o e
    · by_cases z : b ∈ p :: rs
      · exact absurd rfl ((k.away (n.fr b z)) b q e).1
      · rw [add_out z]; exact k1.nm b q e
    · by_cases z : a ∈ p :: rs
      · obtain ⟨xs, hx⟩ := n.lst a z
        rw [add_in z, hx] at e; cases e
      · rw [add_out z] at e; exact k1.nt a ps e
    · by_cases z : a ∈ p :: rs
      · exact .inr (n.fr a z)
      · rw [add_out z] at e; exact c1.new a o e) q)
theorem Nest.step {Hb H G H' G' : Hp} {p : Addr} {rs : List Addr} {ls : List (List Int)} (n : Nest Hb H G p rs ls) (c : Ch B H G H' G') (nb : ∀ a ∈ p :: rs, ∀ q, B.bq ≠ some (a, q)) : Nest Hb H' G' p rs ls := n.to fun a ha => by
  obtain ⟨xs, hx⟩ := n.lst a ha
  obtain ⟨h1, h2⟩ := c.mine hx (n.gn a ha) rfl (nb a ha)
  exact ⟨h1.trans hx.symm, h2⟩
def lcN (b : D → Env → M Env) (mt : Env → M Bool) (me : Env → M (List D)) (ρ : Env) (d : D) : M (Option (List Int)) := M.bnd (b d ρ) fun ρ' => M.bnd (mt ρ') fun t => if t = true then M.bnd (me ρ') fun ds => M.bnd (intsM ds) fun l => M.ret (some l) else M.ret none
end Dv
namespace Dv
open PySem PySem.Spec PyProof.Rows L2 Sg
variable {S : Base} {B : Bo S} {X : XK}
def wD (ls : List (List D)) : D := .lst (ls.map D.lst)
structure WNest (S : Base) (B : Bo S) (Hb H G : Hp) (p : Addr) (rs : List Addr) (ls : List (List D)) : Prop where
  at_ : H p = some (.lst (rs.map V.ref))
  len : rs.length = ls.length
  inn : ∀ k (h : k < rs.length) (h' : k < ls.length), ∃ xs, H rs[k] = some (.lst xs) ∧ RpA S B G xs ls[k]
  nd : (p :: rs).Nodup
  fr : ∀ a ∈ p :: rs, FrA Hb a
  gn : ∀ a ∈ p :: rs, G a = none
theorem WNest.lst {Hb H G : Hp} {p : Addr} {rs : List Addr} {ls : List (List D)} (n : WNest S B Hb H G p rs ls) : ∀ a ∈ p :: rs, ∃ xs, H a = some (.lst xs) := fun a h => by
  rcases List.mem_cons.mp h with rfl | h
  · exact ⟨_, n.at_⟩
  · obtain ⟨k, hk, rfl⟩ := List.getElem_of_mem h
    obtain ⟨xs, h1, _⟩ := n.inn k hk (by rw [← n.len]; exact hk)
    exact ⟨xs, h1⟩
theorem WNest.to {Hb H G H' G' : Hp} {p : Addr} {rs : List Addr} {ls : List (List D)} (n : WNest S B Hb H G p rs ls) (s : Sub G G') (h : ∀ a ∈ p :: rs, H' a = H a ∧ G' a = none) : WNest S B Hb H' G' p rs ls :=
  ⟨(h p (List.mem_cons_self ..)).1.trans n.at_, n.len, fun k hk hk' => by
    obtain ⟨xs, h1, h2⟩ := n.inn k hk hk'
    exact ⟨xs, (h _ (List.mem_cons_of_mem _ (List.getElem_mem hk))).1.trans h1, h2.mono s⟩, n.nd, n.fr, fun a ha => (h a ha).2⟩
theorem WNest.back {Hb Hb' H G : Hp} {p : Addr} {rs : List Addr} {ls : List (List D)} (n : WNest S B Hb H G p rs ls) (h : ∀ a, FrA Hb a → FrA Hb' a) : WNest S B Hb' H G p rs ls := ⟨n.at_, n.len, n.inn, n.nd, fun a ha => h a (n.fr a ha), n.gn⟩
structure WsG (B : Bo S) (Hb Gb : Hp) (i : Nat) (σ : L2.St) (H : Hp) (ρ : Ev) (ls : List (List D)) (G : Hp) (p : Addr) (rs : List Addr) : Prop where
  r : ∃ A, RsG S B Hb Gb σ H ρ G A
  no : ρ.all noOwn = true
  sl : σ[i]? = some (some (.ref p))
  ri : ρ[i]? = some none
  n : WNest S B Hb H G p rs ls
section
variable {Hb Gb H G H' G' : Hp} {i : Nat} {σ : L2.St} {ρ : Ev} {ls : List (List D)} {p : Addr} {rs : List Addr}
theorem WsG.step (s : WsG B Hb Gb i σ H ρ ls G p rs) (k : Ok B H' G') (c : Ch B H G H' G') : WsG B Hb Gb i σ H' ρ ls G' p rs := by
  obtain ⟨A, r⟩ := s.r
  refine ⟨⟨A, r.step k c⟩, s.no, s.sl, s.ri, s.n.to c.ext fun a ha => ?_⟩
  obtain ⟨xs, hx⟩ := s.n.lst a ha
  obtain ⟨h1, h2⟩ := c.mine hx (s.n.gn a ha) rfl (r.nb (s.n.fr a ha))
  exact ⟨h1.trans hx.symm, h2⟩
theorem WsG.set (s : WsG B Hb Gb i σ H ρ ls G p rs) {v : V} {d : D} (h : Rp S B G v d) {j : Nat} (hj : j ≠ i) : WsG B Hb Gb i (σ.set j (some v)) H (ρ.set j (some (.f d))) ls G p rs := by
  obtain ⟨A, r⟩ := s.r
  exact ⟨⟨A, r.set h j⟩, all_set s.no, by rw [List.getElem?_set_ne hj]; exact s.sl, by rw [List.getElem?_set_ne hj]; exact s.ri, s.n⟩
theorem WsG.ok (s : WsG B Hb Gb i σ H ρ ls G p rs) : Ok B H G := by
  obtain ⟨A, r⟩ := s.r
  exact r.ok
theorem WsG.ch (s : WsG B Hb Gb i σ H ρ ls G p rs) : Ch B Hb Gb H G := by
  obtain ⟨A, r⟩ := s.r
  exact r.ch
theorem WsG.mask (s : WsG B Hb Gb i σ H ρ ls G p rs) : Er S B G σ (mask ρ) := by
  obtain ⟨A, r⟩ := s.r
  exact r.mask
theorem WsG.here (s : WsG B Hb Gb i σ H ρ ls G p rs) : WsG B Hb G i σ H ρ ls G p rs := by
  obtain ⟨A, r⟩ := s.r
  exact ⟨⟨A, r.here⟩, s.no, s.sl, s.ri, s.n⟩
theorem WsG.rebase {G1 : Hp} (s : WsG B Hb G1 i σ H ρ ls G p rs) (h : Sub Gb G1) (n : ∀ a o, G1 a = some o → Gb a = some o ∨ FrA Hb a) : WsG B Hb Gb i σ H ρ ls G p rs := by
  obtain ⟨A, r⟩ := s.r
  exact ⟨⟨A, r.rebase h n⟩, s.no, s.sl, s.ri, s.n⟩
theorem WNest.frz (n : WNest S B Hb H G p rs ls) (k : Ok B H G) (c : Ch B Hb Gb H G) (aw : ∀ a ∈ p :: rs, ∀ b q, B.bq = some (b, q) → b ≠ a) : Ok B H (addN (p :: rs) H G) ∧ Ch B Hb Gb H (addN (p :: rs) H G) ∧ Rp S B (addN (p :: rs) H G) (.ref p) (wD ls) := by
  have sub := add_sub (H := H) n.gn
  refine ⟨⟨fun a o e => ?_, fun b q e => ?_, k.bx, k.tb, fun a ps e => ?_⟩, ⟨c.ch, c.fr, c.ext.trans sub, fun a o e => ?_⟩, .lst (by rw [add_in (List.mem_cons_self ..)]; exact n.at_) ?_⟩
  · by_cases z : a ∈ p :: rs
    · rw [add_in z] at e; exact e
    · rw [add_out z] at e; exact k.sub a o e
  · by_cases z : b ∈ p :: rs
    · exact absurd rfl (aw b z b q e)
    · rw [add_out z]; exact k.nm b q e
  · by_cases z : a ∈ p :: rs
    · obtain ⟨xs, hx⟩ := n.lst a z
      rw [add_in z, hx] at e; cases e
    · rw [add_out z] at e; exact k.nt a ps e
  · by_cases z : a ∈ p :: rs
    · exact .inr (n.fr a z)
    · rw [add_out z] at e; exact c.new a o e
  · have go : ∀ (qs : List Addr) (ms : List (List D)), qs.length = ms.length → (∀ k (h : k < qs.length) (h' : k < ms.length), ∃ xs, addN (p :: rs) H G qs[k] = some (.lst xs) ∧ RpA S B (addN (p :: rs) H G) xs ms[k]) → RpA S B (addN (p :: rs) H G) (qs.map V.ref) (ms.map D.lst) := by
      intro qs
      induction qs with
      | nil =>
        intro ms hl _
        cases ms with
        | nil => exact .nil
        | cons _ _ => cases hl
      | cons q qs ih =>
        intro ms hl h
        cases ms with
        | nil => cases hl
        | cons m ms =>
          obtain ⟨xs, h1, h2⟩ := h 0 (Nat.succ_pos _) (Nat.succ_pos _)
          exact .cons (.lst h1 h2) (ih ms (Nat.succ.inj hl) fun k h3 h4 => h (k + 1) (Nat.succ_lt_succ h3) (Nat.succ_lt_succ h4))
    refine go rs ls n.len fun k h1 h2 => ?_
    obtain ⟨xs, h3, h4⟩ := n.inn k h1 h2
    exact ⟨xs, by rw [add_in (List.mem_cons_of_mem _ (List.getElem_mem h1))]; exact h3, h4.mono sub⟩
end
inductive Owl where
  | nx (ρ : Ev) (ls : List (List D)) | rn (ls : List (List D))
def FinW (S : Base) (B : Bo S) (Hb Gb : Hp) (i : Nat) (p : Addr) (E : Ends) : Owl → Prop
  | .nx ρ ls => ∀ σ H G rs, WsG (S := S) B Hb Gb i σ H ρ ls G p rs → E.nx σ H
  | .rn ls => ∀ H G rs, Ok B H G → Ch B Hb Gb H G → WNest S B Hb H G p rs ls → E.rt (.ref p) H
def SvW (S : Base) (i : Nat) (ts : TS) (g : Ev → List (List D) → M Owl) : Prop := ∀ (B : Bo S) Hb Gb σ H ρ ls G p rs E, WsG B Hb Gb i σ H ρ ls G p rs → (g ρ ls).run (FinW S B Hb Gb i p E) → ts E σ H
def thenW (g : Ev → List (List D) → M Owl) : Owl → M Owl
  | .nx ρ ls => g ρ ls
  | .rn ls => M.ret (.rn ls)
theorem WsG.tgt {Hb Gb H G : Hp} {i : Nat} {σ : L2.St} {ρ : Ev} {ls : List (List D)} {p : Addr} {rs : List Addr} (s : WsG B Hb Gb i σ H ρ ls G p rs) {g : TG} {b : D → Ev → M Ev} (hg : EgS S g b) (hk : KpG i g) {v : V} {d : D} (rp : Rp S B G v d) {Q : L2.St → Hp → Prop} (q : (b d ρ).run fun ρ1 => (ρ1.all noOwn = true ∧ ρ1[i]? = some none) ∧ ∀ σ1, WsG B Hb Gb i σ1 H ρ1 ls G p rs → Q σ1 H) : g v σ H Q := by
  obtain ⟨A, r⟩ := s.r
  refine hk _ _ _ _ _ (hg B Hb Gb σ H ρ G A v d (fun σ1 H1 => ∃ ρ1, RsG S B Hb Gb σ1 H1 ρ1 G A ∧ H1 = H ∧ (ρ1.all noOwn = true ∧ ρ1[i]? = some none) ∧ ∀ σ1, WsG B Hb Gb i σ1 H ρ1 ls G p rs → Q σ1 H) r rp ((b d ρ).mono (fun ρ1 h1 σ1 r1 => ⟨ρ1, r1, rfl, h1.1, h1.2⟩) q)) ?_
  rintro σ1 H1 e ⟨ρ1, r1, rfl, ⟨n1, n2⟩, q⟩
  exact q σ1 ⟨⟨A, r1⟩, n1, e.trans s.sl, n2, s.n⟩
def loopW (i : Nat) (b : D → Ev → M Ev) (g : Ev → List (List D) → M Owl) : List D → Ev → List (List D) → M Owl
  | [], ρ, ls => M.ret (.nx ρ ls)
  | d :: ds, ρ, ls => M.bnd (b d ρ) fun ρ1 => M.bnd (M.req (ρ1.all noOwn = true ∧ ρ1[i]? = some none)) fun _ => M.bnd (g ρ1 ls) (thenW (loopW i b g ds))
theorem WsG.put {Hb Gb H G : Hp} {i : Nat} {σ : L2.St} {ρ : Ev} {ls : List (List D)} {p : Addr} {rs : List Addr} (s : WsG B Hb Gb i σ H ρ ls G p rs) {k : Nat} (h : k < rs.length) {xs : List V} {l : List D} (hx : RpA S B G xs l) : WsG B Hb Gb i σ (L2.upd H rs[k] (.lst xs)) ρ (ls.set k l) G p rs := by
  obtain ⟨A, r⟩ := s.r
  have hm : rs[k] ∈ p :: rs := List.mem_cons_of_mem _ (List.getElem_mem h)
  have h' : k < ls.length := by rw [← s.n.len]; exact h
  have nd := List.nodup_cons.mp s.n.nd
  refine ⟨⟨A, r.aw, r.ok.upd (s.n.gn _ hm) (fun u e => ?_) (r.away (s.n.fr _ hm)), r.ch.upd (s.n.fr _ hm), r.len, r.fz, fun j t e w => absurd w (no_owned s.no e), fun j j' t t' e1 e2 w1 w2 _ => absurd w1 (no_owned s.no e1)⟩, s.no, s.sl, s.ri, ⟨?_, by rw [List.length_set]; exact s.n.len, fun k2 h2 h2' => ?_, s.n.nd, s.n.fr, s.n.gn⟩⟩
  · obtain ⟨ys, h3, _⟩ := s.n.inn k h h'
    rw [h3] at e
    cases e
    rfl
  · rw [upd_ne fun z => nd.1 (by rw [z]; exact List.getElem_mem h)]
    exact s.n.at_
  · by_cases z : k2 = k
    · subst z
      exact ⟨xs, upd_same, by rw [List.getElem_set_self]; exact hx⟩
    · have ne : rs[k2] ≠ rs[k] := fun e => z (by
        have := nd.2
        rw [List.Nodup, List.pairwise_iff_getElem] at this
        rcases Nat.lt_trichotomy k2 k with l | l | l
        · exact absurd e (this k2 k h2 h l)
        · exact l
        · exact absurd e.symm (this k k2 h h2 l))
      rw [List.length_set] at h2'
      obtain ⟨ys, h3, h4⟩ := s.n.inn k2 h2 h2'
      exact ⟨ys, by rw [upd_ne ne]; exact h3, by rw [List.getElem_set_ne (fun w => z w.symm)]; exact h4⟩
def RsW (S : Base) (B : Bo S) (H G : Hp) (Q : VK) (ls : List (List D)) : Prop := ∀ p rs H' G', Ok B H' G' → Ch B H G H' G' → WNest S B H H' G' p rs ls → Q (.ref p) H'
def EvW (S : Base) (te : TE) (m : Env → M (List (List D))) : Prop := ∀ (B : Bo S) σ H G ρ Q, Ok B H G → Er S B G σ ρ → (m ρ).run (RsW S B H G Q) → te σ H Q
theorem EvN.w {te : TE} {m : Env → M (List (List Int))} (h : EvN S te m) : EvW S te (fun ρ => M.bnd (m ρ) fun ls => M.ret (ls.map fun l => l.map D.int)) := fun B σ H G ρ Q k er q =>
  h B σ H G ρ _ k er ((m ρ).mono (fun ls hl p rs H1 G1 k1 c1 n => (show RsW S B H G Q _ from hl) p rs H1 G1 k1 c1 ⟨n.at_, by rw [List.length_map]; exact n.len, fun j h1 h2 => by
    rw [List.length_map] at h2
    exact ⟨_, n.inn j h1 h2, by rw [List.getElem_map]; exact rpa_nums _⟩, n.nd, n.fr, n.gn⟩) q)
theorem WsG.enter {H0 G0 H G H1 G1 : Hp} {σ : L2.St} {ρ : Ev} {A : Nat → Addr} {i : Nat} {p : Addr} {rs : List Addr} {ls : List (List D)} (r : RsG S B H0 G0 σ H ρ G A) (no : ρ.all noOwn = true) (hi : i < ρ.length) (k1 : Ok B H1 G1) (c1 : Ch B H G H1 G1) (n : WNest S B H H1 G1 p rs ls) : WsG B H0 G0 i (σ.set i (some (.ref p))) H1 (ρ.set i none) ls G1 p rs := by
  have r1 := r.step k1 c1
  have own : ∀ (j : Nat) (s : Sl), (ρ.set i none)[j]? = some (some s) → i ≠ j ∧ ρ[j]? = some (some s) := fun j s e => by
    by_cases z : i = j
    · subst z
      rw [List.getElem?_set_self hi] at e
      cases e
    · rw [List.getElem?_set_ne z] at e
      exact ⟨z, e⟩
  refine ⟨⟨A, r1.aw, r1.ok, r1.ch, by rw [List.length_set, List.length_set, r.len], fun j d e => ?_, fun j s e w => absurd w (no_owned no (own j s e).2), fun j j' s t e1 e2 w1 w2 _ => absurd w1 (no_owned no (own j s e1).2)⟩, ?_, List.getElem?_set_self (by rw [← r.len]; exact hi), List.getElem?_set_self hi, n.back r.ch.fr⟩
  · obtain ⟨z, e⟩ := own j _ e
    rw [List.getElem?_set_ne z]
    exact r1.fz j d e
  · rw [List.all_eq_true] at no ⊢
    intro x hx
    rcases List.mem_or_eq_of_mem_set hx with hx | rfl
    · exact no x hx
    · rfl
def outW : Owl → M Ou
  | .nx ρ _ => M.ret (.nx ρ)
  | .rn ls => M.ret (.rt (wD ls))
end Dv
namespace Dv
open PySem PySem.Spec PyProof.Rows L2 Sg
variable {S : Base} {B : Bo S} {X : XK}
inductive Rz where
  | ok (o : Option (List D)) | er (x : Exn)
theorem RsO.after {H G H1 G1 : Hp} {Q : VK} {o : Option (List D)} (c : Ch B H G H1 G1) (h : RsO S B H G Q o) : RsO S B H1 G1 Q o := by
  cases o with
  | none => exact fun H' G' k' c' => h H' G' k' (c.trans c')
  | some ds => exact Rs2.after c h
def RsZ (S : Base) (B : Bo S) (H G : Hp) (Q : VK) (X : XK) : Rz → Prop
  | .ok o => RsO S B H G Q o
  | .er x => RsE B H G X x
theorem RsZ.after {H G H1 G1 : Hp} {Q : VK} {r : Rz} (c : Ch B H G H1 G1) (h : RsZ S B H G Q X r) : RsZ S B H1 G1 Q X r := by
  cases r with
  | ok d => exact RsO.after c h
  | er x => exact RsE.after c h
def spZ (S : Base) (f : List D → M Rz) : Sp := fun vs H Q X => ∃ B G ds, Ok B H G ∧ RpA S B G vs ds ∧ (f ds).run (RsZ S B H G Q X)
def okZ (ρ : Ev) (i : Nat) : Rz → M Ou
  | .ok none => M.ret (.nx (ρ.set i (some (.f .non))))
  | .ok (some ds) => M.ret (.nx (ρ.set i (some (.o ds))))
  | .er _ => M.fail
def zD : Rz → M D
  | .ok o => M.ret (oD o)
  | .er _ => M.fail
def zX : Rz → M Rx
  | .ok o => M.ret (.ok (oD o))
  | .er x => M.ret (.er x)
def outZ (P : Rz → Prop) : Ou → Prop
  | .rt d => d = .non ∧ P (.ok none)
  | .rl l => P (.ok (some l))
  | .er x => P (.er x)
  | _ => False
end Dv
namespace Dv
open PySem PySem.Spec PyProof.Rows L2 Sg
variable {S : Base} {B : Bo S} {X : XK}
def spEr (S : Base) (f : D → Prop) (n : Nat) (x : Exn) : Sp := fun vs H _ X => ∃ (B : Bo S) (G : Hp) (d : D) (ds : List D), Ok B H G ∧ RpA S B G vs (d :: ds) ∧ ds.length + 1 = n ∧ f d ∧ RsE B H G X x
def doorM (c : Prop) [Decidable c] (x : Exn) : M Rx := if c then M.ret (.er x) else M.bnd (M.all fun _ : D => True) fun d => M.ret (.ok d)
end Dv
namespace Dv
open PySem PySem.Spec PyProof.Rows L2 Sg
variable {S : Base} {B : Bo S} {X : XK}
def ixS : D → D → M D
  | .str z, .int i => M.bnd (M.req (z.length ≤ 100000)) fun _ => M.bnd (M.opt (atI z.cps.toList i)) fun c => M.ret (.str ⟨#[c]⟩)
  | _, _ => M.fail
theorem ixS_go (z : Str) (i : Int) : ixS (.str z) (.int i) = M.bnd (M.req (z.length ≤ 100000)) fun _ => M.bnd (M.opt (atI z.cps.toList i)) fun c => M.ret (.str ⟨#[c]⟩) := rfl
theorem r_ixS : R2D S rIxS ixS := fun B H G x y d e Q k rx ry h => by
  unfold ixS at h
  split at h
  · cases rx
    cases ry
    obtain ⟨hz, h⟩ := h
    obtain ⟨c, hc, h⟩ := M.run_opt h
    exact ⟨_, _, c, rfl, rfl, by rw [sizeLine_eq]; omega, hc, (show Rs1 S B H G Q (.str ⟨#[c]⟩) from h) _ H G k Ch.refl (.str _)⟩
  · exact h.elim
def inTS : D → D → M D
  | .str z, .tup l => M.bnd (M.choose fun zs : List Str => l = zs.map D.str) fun zs => M.ret (.bl (decide (z ∈ zs)))
  | _, _ => M.fail
theorem strs_rp' {G : Hp} {xs : List V} {ys : List Str} (h : RpA S B G xs (ys.map D.str)) : xs = ys.map V.str := by
  induction ys generalizing xs with
  | nil => cases h; rfl
  | cons y ys ih => cases h with | cons a b => cases a; rw [ih b]; rfl
theorem inV_strs (z : Str) (zs : List Str) : inV (.str z) (zs.map V.str) = decide (z ∈ zs) := by
  unfold inV
  rw [List.any_map]
  induction zs with
  | nil => rfl
  | cons y zs ih =>
    rw [List.any_cons, ih]
    show ((y == z) || _) = _
    by_cases e : y = z
    · subst e
      simp
    · rw [show (y == z) = false from beq_false_of_ne e]
      by_cases m : z ∈ zs
      · simp [m]
      · rw [decide_eq_false m, decide_eq_false (fun h => (List.mem_cons.mp h).elim (fun h => e h.symm) m)]
        rfl
theorem op_inK {X : Cx} {K : PySem.W.Frag} (e : X.K = K) : OpR X (compareOp .In) (rIn K false) := e ▸ op_in_seq
theorem r_inTS : R2D S (rIn S.K false) inTS := fun B H G x y d e Q k rx ry h => by
  unfold inTS at h
  split at h
  · obtain ⟨zs, rfl, h⟩ := h
    cases rx
    cases ry with
    | tup ha hr =>
      obtain rfl := strs_rp' hr
      refine ⟨_, zs.map V.str, rfl, .inr ?_, rfl, ?_, ?_⟩
      · rcases ha with (hg | ⟨o, hg⟩) | hg
        · exact .inl (.inl (k.sub _ _ hg))
        · exact .inl (.inr ⟨o, k.sub _ _ hg⟩)
        · exact .inr hg
      · rw [List.all_map]
        exact List.all_eq_true.mpr fun _ _ => rfl
      · rw [if_neg (by decide), inV_strs]
        exact (show Rs1 S B H G Q (.bl _) from h) _ H G k Ch.refl (.bl _)
  · exact h.elim
end Dv
namespace Dv
open PySem PySem.Spec PyProof.Rows L2 Sg Tm
variable {S : Base} {B : Bo S} {X : XK}
theorem RsG.gone {H0 G0 H G : Hp} {σ : L2.St} {ρ : Ev} {A : Nat → Addr} (r : RsG S B H0 G0 σ H ρ G A) (j : Nat) (o : Option V) : RsG S B H0 G0 (σ.set j o) H (ρ.set j none) G A := by
  refine ⟨r.aw, r.ok, r.ch, by rw [List.length_set, List.length_set, r.len], fun i e q => ?_, fun i s q w => ?_, fun i i' s t q1 q2 w1 w2 => ?_⟩
  · rcases get_set q with ⟨rfl, z⟩ | ⟨n, q⟩
    · cases z
    · obtain ⟨u, h1, h2⟩ := r.fz i e q
      exact ⟨u, by rw [List.getElem?_set, if_neg n.symm]; exact h1, h2⟩
  · rcases get_set q with ⟨rfl, z⟩ | ⟨n, q⟩
    · cases z
    · obtain ⟨h1, h2⟩ := r.ow i s q w
      exact ⟨by rw [List.getElem?_set, if_neg n.symm]; exact h1, h2⟩
  · rcases get_set q1 with ⟨rfl, z⟩ | ⟨n1, q1⟩
    · cases z
    · rcases get_set q2 with ⟨rfl, z⟩ | ⟨n2, q2⟩
      · cases z
      · exact r.dj i i' s t q1 q2 w1 w2
def EvXs (S : Base) (t : (L2.St → XK) → TE) (m : Env → M Rx) : Prop := ∀ B σ H G ρ Q X, Ok B H G → Er S B G σ ρ → (m ρ).run (RsX S B H G Q (X σ)) → t X σ H Q
theorem exs_call {f : List D → M Rx} {t : TA} {m : Env → M (List D)} (h : EvA S t m) : EvXs S (fun E => tCallS (spX S f) E t) (fun ρ => M.bnd (m ρ) f) := fun B σ H G ρ Q X k er q =>
  h B σ H G ρ _ k er ((m ρ).mono (fun l hl vs H1 G1 k1 c1 r1 => ⟨B, G1, l, k1, r1, (f l).mono (fun z hz => hz.after c1) hl⟩) q)
def thD (f : List D → M D) : Rx → M Rx
  | .ok d => M.bnd (f [d]) fun d => M.ret (.ok d)
  | .er x => M.ret (.er x)
def tTry (K : PySem.W.Frag) (te : (L2.St → XK) → TE) (cs : List Value) (i j : Nat) (f : Str) : TS := fun D σ H => tAsg (te (WE (wM K (fun _ _ _ _ => False) D [(cs, j, fun a cls d => tAsg (tXfA K a cls d f (tVar j)) (gName i))]))) (gName i) D σ H
def tryO (ρ : Ev) (i j : Nat) (w f : Str) : Rx → M Ou
  | .ok d => M.ret (.nx (ρ.set i (some (.f d))))
  | .er ⟨w', f', .int n⟩ => M.bnd (M.req (w' = w ∧ f' = f ∧ j < ρ.length ∧ i ≠ j)) fun _ => M.ret (.nx ((ρ.set i (some (.f (.int n)))).set j none))
  | .er _ => M.fail
structure TryC (K : PySem.W.Frag) (C : Addr) (cs : List Value) (f : Str) : Prop where
  hm : PySem.W.exmAny K (.ref C) cs = some true
  xf : XfC K C
  nf : PySem.W.findIn K (.ref C) f = some none
  nw : f ≠ "word"
theorem sv_try {te : (L2.St → XK) → TE} {m : Env → M Rx} {i j : Nat} {w f : Str} {cs : List Value} (hc : TryC S.K (S.cls w) cs f) (h : EvXs S te m) : SvD S X (tTry S.K te cs i j f) (fun ρ => M.bnd (m (mask ρ)) (tryO ρ i j w f)) := fun B H0 G0 σ H ρ E ⟨G, A, r⟩ q =>
  h B σ H G (mask ρ) _ _ r.ok r.mask ((m (mask ρ)).mono (fun d hd => by
    cases d with
    | ok d => exact fun v H1 G1 k1 c1 r1 => (show ∀ σ H, Rs S B H0 G0 σ H (ρ.set i (some (.f d))) → E.nx σ H from hd) _ _ ⟨G1, A, (r.step k1 c1).set r1 i⟩
    | er x =>
      obtain ⟨w', f', v⟩ := x
      cases v with
      | int n =>
        obtain ⟨⟨rfl, rfl, hj, ij⟩, hd⟩ := hd
        intro dd H1 G1 k1 c1 nd e1
        refine ⟨true, hc.hm, fun _ a na => ?_, (fun z => nomatch z)⟩
        have hl : j < σ.length := by rw [← r.len]; exact hj
        have e1 : H1 dd = some (.xd ([("word", .str w'), (f', .int n)] : List (Str × V))) := by rw [e1]; exact congrArg (fun z => some (HO.xd z)) (xdF_f (x := ⟨w', f', .int n⟩) hc.nw)
        refine ⟨.ref a, set_get hl, rfl, S.cls w', dd, _, .int n, rfl, hc.xf, hc.nf, rfl, e1, by rw [lookup_put, if_neg hc.nw, lookup_put, if_pos rfl], ?_⟩
        have r1 : RsG S B H0 G0 (((σ.set j (some (.ref a))).set i (some (.int n))).set j none) H1 ((((ρ.set j none).set i (some (.f (.int n)))).set j none)) G1 A := (((r.step k1 c1).gone j (some (.ref a))).set (.int n) i).gone j none
        have e2 : (((ρ.set j none).set i (some (Sl.f (.int n)))).set j none) = (ρ.set i (some (Sl.f (.int n)))).set j none := by
          rw [List.set_comm _ _ ij.symm, List.set_set]
        rw [e2] at r1
        exact (show ∀ σ H, Rs S B H0 G0 σ H ((ρ.set i (some (.f (.int n)))).set j none) → E.nx σ H from hd) _ _ ⟨G1, A, r1⟩
      | _ => exact (show False from hd).elim) q)
theorem PS.nox' {X : Cx} {s : Stmt} {t : TS} (h : PS X.nox s t) : PS X s t := ⟨fun pins u σ H D I hw =>
  wpAny_mono (h.run pins u σ H D (I.wish _) hw) (fun _ _ q => q.unwish) fun _ _ z => False.elim z⟩
theorem ps_tryK {X : Cx} {K : PySem.W.Frag} {i j : Nat} {te : (L2.St → XK) → TE} {body : List Stmt} {x n : Str} {c : Value} {np hp pos : Pos} {b0 : Stmt} {suite : List Stmt} {f : Str} (hK : X.K = K) (hs : X.stack = X.env :: X.outer) (hf : X.env.frame = some X.env.locals) (hN : X.N.Nodup)
    (hb : ∀ (W : WX) (pn : List (Addr × Obj)) (xe : Value → Shared → Prop), Takes (X.nox.tr pn xe) W → PSs (X.nox.tr pn xe) body (tAsg (te (WE W)) (gName i)))
    (hc : Names X.nox x c) (hj : X.N[j]? = some n) (hln : X.env.kindOf n = some .local)
    (hsu : ∀ (a : Addr) (oe : Obj) (cls : Value) (d : Option Addr) (pn : List (Addr × Obj)), Zc cls d oe → (∃ vs, oe.data = .fields vs) → PSs (X.nox.suite a ((a, oe) :: pn)) (b0 :: suite) (tAsg (tXfA K a cls d f (tVar j)) (gName i))) :
    PS X (.Try body [.ExceptHandler (some (.Name x np)) (some n) (b0 :: suite) hp] [] [] pos) (tTry K te [c] i j f) := by
  subst hK
  exact PS.nox' (ps_tryM (X := X.nox) (tb := fun W => tAsg (te (WE W)) (gName i)) (l := [([c], j, _)]) hs hf hN L2.takes0 (fun W pn xe tk _ => hb W pn xe tk) (.cons (test_one hc) hj hln hsu .nil))
end Dv
namespace Nq
open PySem PySem.W PySem.Calls PyProof.Rows Builtin L2
section
variable {prog : Program} {w : World} {A : Around} {E : Value → Shared → Prop} {s : Shared} {K : Frag} {x C f : Addr} {ox : Obj} {od : Option Obj}
end
def spLen (R : Addr → Int → Hp → Prop) : Sp := fun vs H Q _ => ∃ x n, vs = [.ref x] ∧ R x n H ∧ Q (.int n) H
def rLenI (C : Addr) (R : Addr → Int → Hp → Prop) : List V → Hp → VK → Prop := fun vs H Q => ∃ x n dx fs, vs = [.ref x] ∧ H x = some (.ins C dx fs) ∧ R x n H ∧ 0 ≤ n ∧ n < 2 ^ 62 ∧ Q (.int n) H
section
variable {X : Cx} {n : Nat}
end
end Nq
namespace Nq
open PySem PySem.W PySem.Calls PyProof.Rows Builtin L2
def rStrI (C : Addr) (sp : Sp) (E : XK) : List V → Hp → VK → Prop := fun vs H Q => ∃ x dx fs, vs = [.ref x] ∧ H x = some (.ins C dx fs) ∧ sp [.ref x] H (fun v H' => (∃ z, v = .str z) ∧ Q v H') E
section
variable {X : Cx} {n : Nat}
theorem call_strI {CX : CXT} {K : Frag} {C f : Addr} {fd : FuncData} {ps : List Str} {sp : Sp} {E : XK} (hK : X.K = K) (F : FnOk X.prog X.w K X.mg X.base CX n f fd ps sp) (e : findIn K (.ref C) "__str__" = some (some (.ref f))) (hf : isFn K (.ref f) = true)
    (hb : Binds K fd ps []) (hx : Passes CX X E) (hr : Room (n + 2) X.A) : CallR X (.type "str") (rStrI C sp E) := by
  subst hK
  rintro pins s σ H vs us Q I r ⟨a, dx, fs, rfl, ha, q⟩
  rw [Vals.ref1 r]
  obtain ⟨_, J, _⟩ := ins_get I.hok ha
  obtain ⟨_, J, _⟩ := J.look
  have sb : L2.Sub X (n + 2) X.A := ⟨hr, rfl⟩
  have sb1 := sb.in1.in1
  refine kso_call (by have := sb1.room.un; omega) I.kIn J e hf ?_
  have ev : Env0 X.prog X.w X.K X.mg X.base X.A.in1.in1 X.stack s H := by
    have z := I.env0
    exact ⟨by rw [sb1.fr]; exact z.frames, z.mod, z.bs, z.bsz, z.funs, z.frf, z.hok, z.bare⟩
  have one : Vals [V.ref a] [Value.ref a] := .cons rfl .nil
  have bd := hb s [.ref a] I.kIn (by simpa using F.len _ _ _ _ q)
  refine wpAny_call (codeAny_mono (F.run X.A.in1.in1 X.stack s H ⟨[.ref a], []⟩ [.ref a] [.ref a] _ E sb1.room ev (by simpa using bd) one q) fun r s' g => ?_)
  cases r with
  | error z => exact hx pins σ H s z s' I g
  | ok fl =>
    cases fl with
    | ret z =>
      obtain ⟨zz, H', I', rz, ⟨y, ez⟩, eq⟩ := I.after g
      subst ez
      obtain ⟨t, rfl⟩ := rz
      exact ⟨.str y, H', I', ⟨_, rfl⟩, eq⟩
    | next => exact False.elim g
    | brk => exact False.elim g
    | cont => exact False.elim g
end
end Nq
namespace Dv
open PySem PySem.Spec PyProof.Rows L2 Sg Tm
variable {S : Base} {B : Bo S} {X : XK}
def fmtM : D → M D
  | .str y => M.bnd (M.req (y.length ≤ 100000)) fun _ => M.ret (.str y)
  | .int i => M.bnd (M.req (-(2 ^ 1000) < i ∧ i < 2 ^ 1000)) fun _ => M.ret (.str (toString i))
  | _ => M.fail
theorem fmtM_str (y : Str) : fmtM (.str y) = M.bnd (M.req (y.length ≤ 100000)) fun _ => M.ret (.str y) := rfl
theorem fmtM_int (i : Int) : fmtM (.int i) = M.bnd (M.req (-(2 ^ 1000) < i ∧ i < 2 ^ 1000)) fun _ => M.ret (.str (toString i)) := rfl
theorem ed_fmt {te : TE} {m : Env → M D} (h : EvD S te m) : EvD S (tFmt te) (fun ρ => M.bnd (m ρ) fmtM) := fun B σ H G ρ Q k er q =>
  h B σ H G ρ _ k er ((m ρ).mono (fun d hd v H1 G1 k1 c1 r1 => by
    unfold fmtM at hd
    split at hd
    · cases r1
      exact .inl ⟨_, rfl, by rw [sizeLine_eq]; have := hd.1; omega, Rs1.now k1 (Rs1.after c1 hd.2) (.str _)⟩
    · cases r1
      rename_i i
      refine .inr ⟨i, rfl, ?_, Rs1.now k1 (Rs1.after c1 hd.2) (.str _)⟩
      have h2 := hd.1
      have : i.natAbs < 2 ^ 1000 := by omega
      by_cases z : i.natAbs = 0
      · rw [z]; decide
      · have := (Nat.log2_lt z).mpr this
        omega
    · exact hd.elim) q)
def EvJ (S : Base) (ts : List TE) (mj : Env → Str → M Str) : Prop := ∀ B σ H G ρ acc (Q : Str → Hp → Prop), Ok B H G → Er S B G σ ρ → (mj ρ acc).run (fun out => ∀ H' G', Ok B H' G' → Ch B H G H' G' → Q out H') → tJs ts acc σ H Q
theorem ej_nil : EvJ S [] (fun _ acc => M.ret acc) := fun B σ H G ρ acc Q k er q => q H G k Ch.refl
theorem ej_cons {te : TE} {ts : List TE} {m : Env → M D} {mj : Env → Str → M Str} (h : EvD S te m) (hr : EvJ S ts mj) : EvJ S (te :: ts) (fun ρ acc => M.bnd (m ρ) fun d => M.bnd (asS d) fun y => M.bnd (M.req ((acc ++ y).length ≤ 100000)) fun _ => mj ρ (acc ++ y)) := fun B σ H G ρ acc Q k er q =>
  h B σ H G ρ _ k er ((m ρ).mono (fun d hd v H1 G1 k1 c1 r1 => by
    cases r1 <;> first
      | exact hd.elim
      | exact ⟨_, rfl, by rw [sizeLine_eq]; have := hd.1; omega, hr B σ H1 G1 ρ _ Q k1 (er.mono c1.ext) ((mj ρ _).mono (fun out ho H' G' k' c' => ho H' G' k' (c1.trans c')) hd.2)⟩) q)
def tFs (ts : List TE) : TE := fun σ H Q => tJs ts Str.empty σ H fun out H1 => Q (.str out) H1
theorem ed_fs {ts : List TE} {mj : Env → Str → M Str} (h : EvJ S ts mj) : EvD S (tFs ts) (fun ρ => M.bnd (mj ρ Str.empty) fun out => M.ret (.str out)) := fun B σ H G ρ Q k er q =>
  h B σ H G ρ _ _ k er ((mj ρ _).mono (fun out ho H' G' k' c' => (show Rs1 S B H G Q (.str out) from ho) _ H' G' k' c' (.str _)) q)
theorem pe_fs {X : Cx} {v1 v2 : Expr} {rest : List Expr} {ts : List TE} {pos : Pos} (h : PJ X (v1 :: v2 :: rest) ts) : PE X (.JoinedStr (v1 :: v2 :: rest) pos) (tFs ts) := pe_joined h
def strO (f : List D → M D) : List D → M D := fun ds => M.bnd (M.req (∃ n As Ms, ds = [.web n As Ms])) fun _ => M.bnd (f ds) fun d => M.bnd (asS d) fun z => M.ret (.str z)
theorem r_strO {f : List D → M D} {E : XK} : RCD S (Nq.rStrI S.C (spD S f) E) (strO f) := fun B H G vs ds Q k r h => by
  obtain ⟨⟨n, As, Ms, rfl⟩, h⟩ := h
  cases r with
  | cons a b =>
    cases b
    cases a with
    | web hw =>
      obtain ⟨dx, fs, h1, h2⟩ := S.ins hw
      refine ⟨_, dx, fs, rfl, k.sub _ _ h1, B, G, _, k, .cons (.web hw) .nil, (f _).mono (fun d hd v H' G' k' c' r' => ?_) h⟩
      cases r' <;> first
        | exact hd.elim
        | exact ⟨⟨_, rfl⟩, (show Rs1 S B H G Q (.str _) from hd) _ H' G' k' c' (.str _)⟩
end Dv
namespace Dv
open PySem PySem.Spec PyProof.Rows L2 Sg
variable {S : Base} {B : Bo S} {X : XK}
end Dv
namespace Dv
open PySem PySem.Spec PyProof.Rows L2 Sg Tm
variable {S : Base} {B : Bo S} {X : XK}
def strIM : List D → M D
  | [.int i] => M.bnd (M.req (-(2 ^ 1000) < i ∧ i < 2 ^ 1000)) fun _ => M.ret (.str (toString i))
  | _ => M.fail
theorem strIM_go (i : Int) : strIM [.int i] = M.bnd (M.req (-(2 ^ 1000) < i ∧ i < 2 ^ 1000)) fun _ => M.ret (.str (toString i)) := rfl
theorem r_strI : RCD S (fun xs H Q => ∃ i, xs = [V.int i] ∧ i.natAbs.log2 < 1920 ∧ Q (.str (toString i)) H) strIM := fun B H G vs ds Q k r h => by
  unfold strIM at h
  split at h
  · cases r with
    | cons a b =>
      cases b
      cases a
      rename_i i
      refine ⟨i, rfl, ?_, Rs1.now k h.2 (.str _)⟩
      have h2 := h.1
      have : i.natAbs < 2 ^ 1000 := by omega
      by_cases z : i.natAbs = 0
      · rw [z]; decide
      · have := (Nat.log2_lt z).mpr this
        omega
  · exact h.elim
def partM (z : Str) : D → M D
  | .str y => M.bnd (M.req ((y.length == 0) = false ∧ z.length ≤ 100000)) fun _ => M.ret (.tup [.str (Txt.partition z y).1, .str (Txt.partition z y).2.1, .str (Txt.partition z y).2.2])
  | _ => M.fail
theorem partM_go (z y : Str) : partM z (.str y) = M.bnd (M.req ((y.length == 0) = false ∧ z.length ≤ 100000)) fun _ => M.ret (.tup [.str (Txt.partition z y).1, .str (Txt.partition z y).2.1, .str (Txt.partition z y).2.2]) := rfl
theorem ed_part {to te : TE} {mo me : Env → M D} (h : EvD S to mo) (h1 : EvD S te me) : EvD S (tM1 (fun x xs H Q => ∃ a b, x = V.str a ∧ xs = [V.str b] ∧ (b.length == 0) = false ∧ a.length ≤ sizeLine ∧
    ∀ p, H p = none → Q (.ref p) (upd H p (.tup [.str (Txt.partition a b).1, .str (Txt.partition a b).2.1, .str (Txt.partition a b).2.2]))) to te) (fun ρ => M.bnd (mo ρ) fun d => M.bnd (asS d) fun z => M.bnd (me ρ) fun e => partM z e) := fun B σ H G ρ Q k er q =>
  h B σ H G ρ _ k er ((mo ρ).mono (fun d hd v H1 G1 k1 c1 r1 => by
    cases r1 <;> first
      | exact hd.elim
      | (rename_i z
         refine ⟨⟨z, rfl⟩, h1 B σ H1 G1 ρ _ k1 (er.mono c1.ext) ((me ρ).mono (fun e he v2 H2 G2 k2 c2 r2 => ?_) hd)⟩
         cases r2 <;> first
           | exact he.elim
           | (rename_i y
              refine ⟨z, y, rfl, rfl, he.1.1, by rw [sizeLine_eq]; have := he.1.2; omega, fun p hp => ?_⟩
              obtain ⟨k3, c3⟩ := k2.put hp (.tup [.str (Txt.partition z y).1, .str (Txt.partition z y).2.1, .str (Txt.partition z y).2.2]) (fun _ z => nomatch z)
              exact (show Rs1 S B H G Q (.tup [.str (Txt.partition z y).1, .str (Txt.partition z y).2.1, .str (Txt.partition z y).2.2]) from he.2) _ _ _ k3 ((c1.trans c2).trans c3) (.tup (SqT.of upd_same) (.cons (.str _) (.cons (.str _) (.cons (.str _) .nil))))))) q)
theorem ed_dget1 {td ty : TE} {md my : Env → M D} (hd : EvD S td md) (hy : EvD S ty my) : EvD S (tDGet1 td ty) (fun ρ => M.bnd (md ρ) fun d => M.bnd (asK d) fun d => M.bnd (my ρ) fun y => getM d y .non) := fun B σ H G ρ Q k er q =>
  hd B σ H G ρ _ k er ((md ρ).mono (fun d hd v H1 G1 k1 c1 r1 => by
    obtain ⟨es, rfl, hd⟩ := asK_run hd
    cases r1 with
    | dk ha he hr =>
      refine ⟨_, rfl, .inl ⟨_, .inl (k1.sub _ _ ha)⟩, ?_⟩
      refine hy B σ H1 G1 ρ _ k1 (er.mono c1.ext) ((my ρ).mono (fun y hy v2 H2 G2 k2 c2 r2 => ?_) hd)
      obtain ⟨kk, hk, hz⟩ := M.run_opt hy
      dsimp only at hz
      rw [rp_keyOf hk r2]
      refine ⟨_, .inl ⟨_, kk, .inl (k2.sub _ _ (c2.ext _ _ ha)), rfl, rfl⟩, ?_⟩
      rcases val_of (k := kk) he (hr.mono c2.ext) with ⟨e1, e2⟩ | ⟨v, d, e1, e2, e3⟩
      · rw [e1]; rw [e2] at hz
        exact (show Rs1 S B H G Q .non from hz) _ H2 G2 k2 (c1.trans c2) .non
      · rw [e1]; rw [e2] at hz
        exact (show Rs1 S B H G Q d from hz) _ H2 G2 k2 (c1.trans c2) e3) q)
theorem rc_strle {A : Around} {s : Shared} (p q : Nat) (t u : Tok) : Ob.RcOp .LtE A s (.str ⟨#[p]⟩ t) (.str ⟨#[q]⟩ u) (decide (p ≤ q)) := fun prog w E Q h => by
  refine PySem.P.le_str ?_
  have e : (!decide (([q] : List Nat) < [p])) = decide (p ≤ q) := by
    rw [lt_one]
    by_cases c : q < p
    · rw [decide_eq_true (Int.ofNat_lt.mpr c), decide_eq_false (by omega)]
      rfl
    · rw [decide_eq_false (fun z => c (Int.ofNat_lt.mp z)), decide_eq_true (by omega)]
      rfl
  exact e ▸ h
def leKs (k k' : Ks) : Bool := if k' = [] then false else decide (tc k ≤ tc k')
def rLeC (K : PySem.W.Frag) : R2 := fun x y H Q => ∃ (a b : Addr) (k k' : Ks), x = .ref a ∧ y = .ref b ∧ SqT K H a (k.map kV) ∧ SqT K H b (k'.map kV) ∧ CK k ∧ (k' = [] ∨ CK k') ∧ Q (.bl (leKs k k')) H
theorem op_leC {X : Cx} {K : PySem.W.Frag} (hK : X.K = K) (hu : X.A.units < cLine) : OpR X (compareOp .LtE) (rLeC K) := by
  subst hK
  intro pins s σ H x y v u Q I rx ry h
  obtain ⟨a, b, k, k', rfl, rfl, ha, hb, c, c', q⟩ := h
  cases rx
  cases ry
  obtain ⟨its, r1, ta, _⟩ := I.tuple ha
  obtain ⟨its', r2, tb, _⟩ := I.tuple hb
  have eqs : ∀ (p q : Nat), ((⟨#[p]⟩ : Str) == ⟨#[q]⟩) = decide (p = q) := fun p q => by
    rw [Bool.eq_iff_iff, beq_iff_eq, decide_eq_true_eq]
    exact ⟨fun z => by injection z with z; injection z with z; injection z, fun z => by rw [z]⟩
  have eqi : ∀ (p q : Int), (p == q) = decide (p = q) := fun p q => by
    rw [Bool.eq_iff_iff, beq_iff_eq, decide_eq_true_eq]
  have fin : ∀ (e r : Nat → Bool), (∀ j (h1 : j < its.toArray.size) (h2 : j < its'.toArray.size), SeqAt.EqAt X.A.in1 s its.toArray[j] its'.toArray[j] (e j)) → (∀ j (h1 : j < its.toArray.size) (h2 : j < its'.toArray.size), e j = false → Ob.RcOp .LtE X.A.in1 s its.toArray[j] its'.toArray[j] (r j)) → Ob.lexAt e r (decide (its.toArray.size ≤ its'.toArray.size)) 0 (min its.toArray.size its'.toArray.size) = leKs k k' → wpAny (model X.prog X.w) X.A (compareOp .LtE (.ref a) (.ref b)) (EP X pins σ Q) X.xe s := fun e r h1 h2 h3 => by
    have R := Ob.RcOp.tuples_le (A := X.A) (s := s) (e := e) (r := r) ta tb hu h1 h2
    exact R X.prog X.w X.xe (EP X pins σ Q) ⟨.bl _, H, I, by rw [h3]; rfl, q⟩
  rcases c with ⟨p, x, y, rfl, hh⟩ | ⟨p, x, rfl, hh⟩
  · rcases c' with rfl | ⟨p', x', y', rfl, hh'⟩ | ⟨p', x', rfl, hh'⟩
    · cases r1 with
      | cons a1 r1 => cases r1 with
        | cons a2 r1 => cases r1 with
          | cons a3 r1 =>
            cases r1
            obtain ⟨t1, rfl⟩ := a1
            obtain ⟨t2, rfl⟩ := a2
            obtain ⟨t3, rfl⟩ := a3
            cases r2
            exact fin (fun _ => true) (fun _ => true) (fun j _ h2 => absurd h2 (Nat.not_lt_zero _)) (fun j _ h2 => absurd h2 (Nat.not_lt_zero _)) rfl
    · cases r1 with
      | cons a1 r1 => cases r1 with
        | cons a2 r1 => cases r1 with
          | cons a3 r1 =>
            cases r1
            obtain ⟨t1, rfl⟩ := a1
            obtain ⟨t2, rfl⟩ := a2
            obtain ⟨t3, rfl⟩ := a3
            cases r2 with
            | cons b1 r2 => cases r2 with
              | cons b2 r2 => cases r2 with
                | cons b3 r2 =>
                  cases r2
                  obtain ⟨u1, rfl⟩ := b1
                  obtain ⟨u2, rfl⟩ := b2
                  obtain ⟨u3, rfl⟩ := b3
                  refine fin (fun j => match j with | 0 => decide (p = p') | 1 => decide (x = x') | _ => decide (y = y')) (fun j => match j with | 0 => decide (p ≤ p') | 1 => decide (x ≤ x') | _ => decide (y ≤ y')) (fun j h1 h2 => ?_) (fun j h1 h2 _ => ?_) ?_
                  · match j, h1, h2 with
                    | 0, _, _ => rw [← eqs]; exact SeqAt.EqAt.str_str _ _ _ _
                    | 1, _, _ => rw [← eqi]; exact SeqAt.EqAt.int_int _ _ _ _
                    | 2, _, _ => rw [← eqi]; exact SeqAt.EqAt.int_int _ _ _ _
                  · match j, h1, h2 with
                    | 0, _, _ => exact rc_strle _ _ _ _
                    | 1, _, _ => exact Ob.RcOp.le_int _ _ _ _
                    | 2, _, _ => exact Ob.RcOp.le_int _ _ _ _
                  · unfold leKs
                    rw [if_neg (fun z => nomatch z), tc_a, tc_a]
                    show Ob.lexAt _ _ (decide (3 ≤ 3)) 0 3 = _
                    simp only [Ob.lexAt_succ, Ob.lexAt_zero, decide_eq_true_eq]
                    by_cases h0 : p = p'
                    · rw [if_pos h0]
                      by_cases h1 : x = x'
                      · rw [if_pos h1]
                        by_cases h2 : y = y'
                        · rw [if_pos h2]
                          exact decide_eq_decide.mpr (by omega)
                        · rw [if_neg h2]
                          exact decide_eq_decide.mpr (by omega)
                      · rw [if_neg h1]
                        exact decide_eq_decide.mpr (by omega)
                    · rw [if_neg h0]
                      exact decide_eq_decide.mpr (by omega)
    · cases r1 with
      | cons a1 r1 => cases r1 with
        | cons a2 r1 => cases r1 with
          | cons a3 r1 =>
            cases r1
            obtain ⟨t1, rfl⟩ := a1
            obtain ⟨t2, rfl⟩ := a2
            obtain ⟨t3, rfl⟩ := a3
            cases r2 with
            | cons b1 r2 => cases r2 with
              | cons b2 r2 => 
                  cases r2
                  obtain ⟨u1, rfl⟩ := b1
                  obtain ⟨u2, rfl⟩ := b2
                  refine fin (fun j => match j with | 0 => decide (p = p') | _ => decide (x = x')) (fun j => match j with | 0 => decide (p ≤ p') | _ => decide (x ≤ x')) (fun j h1 h2 => ?_) (fun j h1 h2 _ => ?_) ?_
                  · match j, h1, h2 with
                    | 0, _, _ => rw [← eqs]; exact SeqAt.EqAt.str_str _ _ _ _
                    | 1, _, _ => rw [← eqi]; exact SeqAt.EqAt.int_int _ _ _ _
                  · match j, h1, h2 with
                    | 0, _, _ => exact rc_strle _ _ _ _
                    | 1, _, _ => exact Ob.RcOp.le_int _ _ _ _
                  · unfold leKs
                    rw [if_neg (fun z => nomatch z), tc_a, tc_m]
                    show Ob.lexAt _ _ (decide (3 ≤ 2)) 0 2 = _
                    simp only [Ob.lexAt_succ, Ob.lexAt_zero, decide_eq_true_eq]
                    by_cases h0 : p = p'
                    · rw [if_pos h0]
                      by_cases h1 : x = x'
                      · rw [if_pos h1]
                        exact decide_eq_decide.mpr (by omega)
                      · rw [if_neg h1]
                        exact decide_eq_decide.mpr (by omega)
                    · rw [if_neg h0]
                      exact decide_eq_decide.mpr (by omega)
  · rcases c' with rfl | ⟨p', x', y', rfl, hh'⟩ | ⟨p', x', rfl, hh'⟩
    · cases r1 with
      | cons a1 r1 => cases r1 with
        | cons a2 r1 => 
            cases r1
            obtain ⟨t1, rfl⟩ := a1
            obtain ⟨t2, rfl⟩ := a2
            cases r2
            exact fin (fun _ => true) (fun _ => true) (fun j _ h2 => absurd h2 (Nat.not_lt_zero _)) (fun j _ h2 => absurd h2 (Nat.not_lt_zero _)) rfl
    · cases r1 with
      | cons a1 r1 => cases r1 with
        | cons a2 r1 => 
            cases r1
            obtain ⟨t1, rfl⟩ := a1
            obtain ⟨t2, rfl⟩ := a2
            cases r2 with
            | cons b1 r2 => cases r2 with
              | cons b2 r2 => cases r2 with
                | cons b3 r2 =>
                  cases r2
                  obtain ⟨u1, rfl⟩ := b1
                  obtain ⟨u2, rfl⟩ := b2
                  obtain ⟨u3, rfl⟩ := b3
                  refine fin (fun j => match j with | 0 => decide (p = p') | _ => decide (x = x')) (fun j => match j with | 0 => decide (p ≤ p') | _ => decide (x ≤ x')) (fun j h1 h2 => ?_) (fun j h1 h2 _ => ?_) ?_
                  · match j, h1, h2 with
                    | 0, _, _ => rw [← eqs]; exact SeqAt.EqAt.str_str _ _ _ _
                    | 1, _, _ => rw [← eqi]; exact SeqAt.EqAt.int_int _ _ _ _
                  · match j, h1, h2 with
                    | 0, _, _ => exact rc_strle _ _ _ _
                    | 1, _, _ => exact Ob.RcOp.le_int _ _ _ _
                  · unfold leKs
                    rw [if_neg (fun z => nomatch z), tc_m, tc_a]
                    show Ob.lexAt _ _ (decide (2 ≤ 3)) 0 2 = _
                    simp only [Ob.lexAt_succ, Ob.lexAt_zero, decide_eq_true_eq]
                    by_cases h0 : p = p'
                    · rw [if_pos h0]
                      by_cases h1 : x = x'
                      · rw [if_pos h1]
                        exact decide_eq_decide.mpr (by omega)
                      · rw [if_neg h1]
                        exact decide_eq_decide.mpr (by omega)
                    · rw [if_neg h0]
                      exact decide_eq_decide.mpr (by omega)
    · cases r1 with
      | cons a1 r1 => cases r1 with
        | cons a2 r1 => 
            cases r1
            obtain ⟨t1, rfl⟩ := a1
            obtain ⟨t2, rfl⟩ := a2
            cases r2 with
            | cons b1 r2 => cases r2 with
              | cons b2 r2 => 
                  cases r2
                  obtain ⟨u1, rfl⟩ := b1
                  obtain ⟨u2, rfl⟩ := b2
                  refine fin (fun j => match j with | 0 => decide (p = p') | _ => decide (x = x')) (fun j => match j with | 0 => decide (p ≤ p') | _ => decide (x ≤ x')) (fun j h1 h2 => ?_) (fun j h1 h2 _ => ?_) ?_
                  · match j, h1, h2 with
                    | 0, _, _ => rw [← eqs]; exact SeqAt.EqAt.str_str _ _ _ _
                    | 1, _, _ => rw [← eqi]; exact SeqAt.EqAt.int_int _ _ _ _
                  · match j, h1, h2 with
                    | 0, _, _ => exact rc_strle _ _ _ _
                    | 1, _, _ => exact Ob.RcOp.le_int _ _ _ _
                  · unfold leKs
                    rw [if_neg (fun z => nomatch z), tc_m, tc_m]
                    show Ob.lexAt _ _ (decide (2 ≤ 2)) 0 2 = _
                    simp only [Ob.lexAt_succ, Ob.lexAt_zero, decide_eq_true_eq]
                    by_cases h0 : p = p'
                    · rw [if_pos h0]
                      by_cases h1 : x = x'
                      · rw [if_pos h1]
                        exact decide_eq_decide.mpr (by omega)
                      · rw [if_neg h1]
                        exact decide_eq_decide.mpr (by omega)
                    · rw [if_neg h0]
                      exact decide_eq_decide.mpr (by omega)
end Dv
namespace PySem
theorem draws_shift {prog : Program} {w : World} {A : Around} {it : Addr} {fp : List Addr} {n : Nat} {P : Nat → Value → Prop} {St : Nat → Heap → Prop} (D : Draws prog w A it fp n P St) : Draws prog w A it fp (n + 1) (fun j v => ∃ i, j = i + 1 ∧ P i v) (fun j h => ∃ i, j = i + 1 ∧ St i h) where
  live := fun j h ⟨i, _, st⟩ => D.live i h st
  frame := fun j h h' ⟨i, e, st⟩ hk => ⟨i, e, D.frame i h h' st hk⟩
  item := fun j s Q E hj ⟨i, e, st⟩ hQ => by
    subst e
    exact D.item i s Q E (by omega) st fun x h' tk p st' sb => hQ x h' tk ⟨i, rfl, p⟩ ⟨i + 1, rfl, st'⟩ sb
  done := fun s Q E ⟨i, e, st⟩ hE => by
    obtain rfl : n = i := by omega
    exact D.done s Q E st hE
end PySem
namespace Sg
open PySem PySem.Spec PyProof.Rows L2
def IteS (K : PySem.W.Frag) (a : Addr) : It :=
  ⟨fun i H => ∃ xs x, SqL K H a xs ∧ xs[i]? = some x, fun i H v H' => ∃ T x, v = .ref T ∧ H T = none ∧ H' = upd H T (.tup [.int ((i + 1 : Nat)), x]) ∧ ∀ xs, SqL K H a xs → xs[i]? = some x, fun i H => ∃ xs, SqL K H a xs ∧ xs.length ≤ i⟩
theorem turn_enumS {P : Program} {w : World} {K : PySem.W.Frag} {elts : List Expr} {kk : Nat} {tpos : Pos} (a e it : Addr) (hne : e ≠ it) (hea : e ≠ a) (hia : a ≠ it) :
    Turn P w K (.Tuple elts kk tpos) (IteS K a) [e, it] e (fun i h => (∃ old, IsEnum h e it ((i + 1 : Nat) : Int) old) ∧ h.IsListIter it a i) where
  mem := by simp
  obj := fun i h st b hb => by
    obtain ⟨⟨old, he⟩, ⟨o, ho, hc, hd⟩⟩ := st
    have z : b = e ∨ b = it := by simpa using hb
    rcases z with rfl | rfl
    · exact ⟨_, he, fun v q => nomatch q⟩
    · exact ⟨o, ho, fun v q => by rw [hd] at q; cases q⟩
  keep := fun i h h' st k => let ⟨⟨old, he⟩, hi⟩ := st; ⟨⟨old, k e (by simp) _ he⟩, hi.at fun o q => k it (by simp) o q⟩
  item := by
    intro X hP hw hK hc i pins s σ H E I hf st hg
    subst hP hw hK
    obtain ⟨⟨old, he⟩, hit⟩ := st
    obtain ⟨xs, x, hq, hx⟩ := hg
    obtain ⟨us, rv, pl, hz⟩ := I.list hq
    obtain ⟨u, hu, ru⟩ := rv.get hx
    have hel : e < s.heap.objs.size := Heap.lt_size he
    have hil : it < s.heap.objs.size := by
      obtain ⟨_, q, _⟩ := hit
      exact Heap.lt_size q
    have hiu : i < us.toArray.size := by
      have := (List.getElem?_eq_some_iff.mp hu).1
      simpa using this
    refine wpAny_pyNext_enum_itemD (i := i + 1) (draws_shift (Draws.list (show X.A.in1.handled = none from by rw [show X.A.in1.handled = X.A.handled from rfl]; exact I.ok.hd hc) it a hia us.toArray)) he ⟨i, rfl, hit, pl.isList⟩ (Nat.succ_lt_succ hiu) hne (by simp [hne, hea]) fun v h' tk hPv ho hst' hT hsz hk => ?_
    have ev : v = u := by
      obtain ⟨j, ej, q⟩ := hPv
      obtain rfl : i = j := by omega
      have q2 : us.toArray[i]? = some u := by simpa using hu
      exact Option.some.inj (q.symm.trans q2)
    subst ev
    have hst2 : h'.IsListIter it a (i + 1) := by
      obtain ⟨j, ej, q, _⟩ := hst'
      obtain rfl : i + 1 = j := by omega
      exact q
    refine ⟨_, rfl, wpAny_letOwnedTupleGo_enum (s := { s with heap := h', toks := tk + 1 }) ho fun h2 he' sb => ?_⟩
    have hT2 : h2.get? s.heap.objs.size = some { cls := .type "tuple", data := .seq #[.int ((i + 1 : Nat)) tk, v] } := (sb.2 _ (Nat.ne_of_gt hel)).trans hT
    have new : ObjOk X.prog X.w (upd H s.heap.objs.size (.tup [.int ((i + 1 : Nat)), x])) h2 s.heap.objs.size (.tup [.int ((i + 1 : Nat)), x]) := ⟨by show 2 ≤ sizeLine; decide, [.int ((i + 1 : Nat)) tk, v], .cons ⟨_, rfl⟩ (.cons ru .nil), ⟨_, hT2, rfl, _, rfl⟩⟩
    have J := I.turnedNew (t' := tk + 1) (ch := [e, it]) (h' := h2) (fun b ob hb q => (sb.2 b (fun z => hb (by simp [z]))).trans (hk b ob (fun z => hb (by simp [z])) (fun z => hb (by simp [z])) q)) hf (Nat.le_refl _) new
    refine ⟨.ref s.heap.objs.size, _, J, rfl, ⟨_, x, rfl, I.hok.fresh (Nat.le_refl _), rfl, fun ys hy => by rw [I.list_inj hy hq]; exact hx⟩, ⟨⟨v, ?_⟩, hst2.at fun o q => (sb.2 it (Ne.symm hne)).trans q⟩, fun b hb => ?_⟩
    · rw [show ((i + 1 + 1 : Nat) : Int) = ((i + 1 : Nat) : Int) + 1 by omega]
      exact he'
    · have lt : b < s.heap.objs.size := by
        have z : b = e ∨ b = it := by simpa using hb
        rcases z with rfl | rfl
        · exact hel
        · exact hil
      rw [upd_ne (Nat.ne_of_lt lt)]
      exact (hf b hb).1
  done := by
    intro X hP hw hK hc i pins s σ H E I hf st hg
    subst hP hw hK
    obtain ⟨⟨old, he⟩, hit⟩ := st
    obtain ⟨xs, hq, hx⟩ := hg
    obtain ⟨us, rv, pl, hz⟩ := I.list hq
    obtain ⟨f0, f1, f2, f3, f4, f5⟩ := hf it (by simp)
    have hn : us.toArray[i]? = none := by
      have := rv.length
      simp
      omega
    have hh : X.A.in1.handled = none := by
      rw [show X.A.in1.handled = X.A.handled from rfl]
      exact I.ok.hd hc
    have D : Draws X.prog X.w X.A.in1 it [it, a] i (fun _ _ => False) (fun j h => j = i ∧ h.IsListIter it a i ∧ h.IsList a us.toArray) := {
      live := fun j h st => let ⟨o, ho, _⟩ := st.2.1; ⟨o, ho⟩
      frame := fun j h h' st k => ⟨st.1, st.2.1.at fun o q => k it (by simp) o q, st.2.2.at fun o q => k a (by simp) o q⟩
      item := fun j s Q E hj st _ => absurd (st.1 ▸ hj) (Nat.lt_irrefl _)
      done := fun s Q E st hE => wpAny_nextOf_list_end hh st.2.1 st.2.2 hn hE }
    exact wpAny_pyNext_enum_endD D he ⟨rfl, hit, pl.isList⟩ fun h' eb => ⟨rfl, I.turned (t' := s.toks) (fun b o hb q => eb b o hb q) f0 f1 f3 f4 f5⟩
  self := fun A i s Q E st h => let ⟨⟨_, he⟩, _⟩ := st; wpAny_pyIter_enum he h
theorem type_kw {M : Model} {A : Around} {E : Value → Shared → Prop} {s : Shared} {env : Env} {pos : Pos} {T : String} {e : Expr} {rest : List Expr} {kws : List Keyword} {Q : Value → Shared → Prop}
    (h : wpAny M A (spliced (backTo pos (starEach (e :: rest) env))) (fun vs s₁ => wpAny M A (evalAll ((backToKw pos (keywordEach kws env)).map (·.2)))
      (fun kvs s₂ => wpAny M A (call (.type T) vs (((backToKw pos (keywordEach kws env)).filterMap (·.1)).zip kvs)) Q E s₂) E s₁) E s)
    (he : backTo pos (starEach (e :: rest) env) = (false, eval e env) :: backTo pos (starEach rest env))
    (hplain : (backTo pos (starEach (e :: rest) env)).any (·.1) = false)
    (hall : (backToKw pos (keywordEach kws env)).all (·.1.isSome) = true)
    (hkw : (backToKw pos (keywordEach kws env)).any (·.1.isNone) = false) :
    wpAny M A (callWith pos (.type T) [] (backTo pos (starEach (e :: rest) env)) (backToKw pos (keywordEach kws env))) Q E s := by
  have h0 : wpAny M A (evalArgs (.type T) true (backTo pos (starEach (e :: rest) env)) (backToKw pos (keywordEach kws env))) (fun a s₁ => wpAny M A (call (.type T) ([] ++ a.pos) a.kw) Q E s₁) E s := by
    rw [he] at h ⊢
    exact evalArgs_kwB hall h
  unfold callWith
  refine wpAny_bind (wpAny_holding (wpAny_mono h0 (fun a s₁ h₁ => wpAny_bind (wpAny_standAt ?_)) fun _ _ x => x))
  simp only [hplain, hkw, Bool.or_false]
  refine wpAny_bind (wpAny_pure ?_)
  exact wpAny_bind (wpAny_mono h₁ (fun r s₂ hr => wpAny_bind (wpAny_holding (wpAny_point (wpAny_pure hr)))) fun _ _ x => x)
def iEnS (K : PySem.W.Frag) (ta tk : TA) : TI := fun σ H R => ta σ H fun vs G => tk σ G fun zs J => ∃ a xs, vs = [.ref a] ∧ zs = [.int 1] ∧ SqL K J a xs ∧ R (IteS K a) J
set_option maxHeartbeats 400000 in
theorem pi_enS {X : Cx} {K : PySem.W.Frag} (hK : X.K = K) {e : Expr} {ta tk : TA} {p pos tpos : Pos} {kws : List Keyword} {elts : List Expr} {kk : Nat} (hg : Gl X "enumerate") (hm : X.mg "enumerate" = none) (ha : PA X [e] ta) (hk : PK X kws tk)
    (he : backTo pos (starEach [e] X.env) = (false, eval e X.env) :: backTo pos (starEach [] X.env) := by rfl) (hpl : (backTo pos (starEach [e] X.env)).any (·.1) = false := by rfl)
    (hall : (backToKw pos (keywordEach kws X.env)).all (·.1.isSome) = true := by rfl) (hnone : (backToKw pos (keywordEach kws X.env)).any (·.1.isNone) = false := by rfl) (hks : (backToKw pos (keywordEach kws X.env)).filterMap (·.1) = (["start"] : List Str) := by rfl) :
    PI X (.Tuple elts kk tpos) (.Call (.Name "enumerate" p) [e] kws pos) (iEnS K ta tk) := by
  subst hK
  refine ⟨fun pins s σ H R I h => wpAny_Call_Name_kw (ld_blt I hg hm boot_enumerate (type_kw (thn (ha.run pos pins s σ H _ I h) fun us s1 ⟨vs, G, I1, r1, q1⟩ => thn (hk.run pos pins s1 σ G _ I1 q1) fun ws s2 ⟨zs, J, I2, r2, q2⟩ => ?_) he hpl hall hnone))⟩
  obtain ⟨a, xs, ex, ez, hq, q⟩ := q2
  subst ex ez
  obtain ⟨u, rfl, ru⟩ := vals1 r1
  obtain ⟨u2, rfl, ⟨t2, ru2⟩⟩ := vals1 r2
  cases ru
  subst ru2
  rw [hks]
  obtain ⟨its, rv, pl, hz⟩ := I2.list hq
  have lt : a < s2.heap.objs.size := by
    obtain ⟨o, ho, _⟩ := id pl.isList
    exact Heap.lt_size ho
  refine enum_begins_start (k := 1) (begins_list a its.toArray) pl.isList (by decide) (by decide) fun h' he hit hsz hk => wpAny_pyIter_enum he ?_
  have fresh : ∀ b, b ∈ [s2.heap.objs.size + 1, s2.heap.objs.size] → FpOk X pins J b := fun b hb => by
    have z : b = s2.heap.objs.size + 1 ∨ b = s2.heap.objs.size := by simpa using hb
    have le : s2.heap.objs.size ≤ b := by
      rcases z with z | z
      · rw [z]
        exact Nat.le_succ _
      · rw [z]
        exact Nat.le_refl _
    exact I2.fpOk le (I2.hok.fresh le)
  exact ⟨s2.heap.objs.size + 1, [s2.heap.objs.size + 1, s2.heap.objs.size], _, _, J, rfl, I2.kept (t' := s2.toks) hk, turn_enumS a (s2.heap.objs.size + 1) s2.heap.objs.size (Nat.succ_ne_self _) (Nat.ne_of_gt (Nat.lt_succ_of_lt lt)) (Nat.ne_of_lt lt), ⟨⟨.none, he⟩, ⟨_, hit, rfl, rfl⟩⟩, fresh, q⟩
end Sg
namespace Dv
open PySem PySem.Spec PyProof.Rows L2 Sg Tm
variable {S : Base} {B : Bo S} {X : XK}
theorem wk_enS {a : Addr} {xs : List V} {G : Hp} {ds : List D} (ha : G a = some (.lst xs)) (r : RpA S B G xs ds) : WkD S B (IteS S.K a) G (enD 1 ds) := by
  have hl := r.length
  refine ⟨fun i L GL k s h => ?_, fun L GL k s => ?_, fun i L GL x L' k s h y => ?_⟩
  · rw [enD_len] at h
    exact ⟨xs, _, SqL.of (k.sub _ _ (s _ _ ha)), List.getElem?_eq_getElem (by omega)⟩
  · rw [enD_len]
    exact ⟨xs, SqL.of (k.sub _ _ (s _ _ ha)), by omega⟩
  · obtain ⟨T, v, rfl, hT, rfl, hv⟩ := y
    rw [enD_len] at h
    have hx := hv xs (SqL.of (k.sub _ _ (s _ _ ha)))
    obtain ⟨d, h1, h2⟩ := r.getV hx
    obtain ⟨k2, c2⟩ := k.put hT (.tup [.int ((i + 1 : Nat)), v]) (fun _ z => nomatch z)
    refine ⟨_, k2, c2, ?_⟩
    have e : (enD 1 ds)[i]'(by rw [enD_len]; exact h) = .tup [.int ((i + 1 : Nat)), d] := by
      have e1 := enD_get ds 1 i
      rw [h1, List.getElem?_eq_getElem (by rw [enD_len]; exact h)] at e1
      rw [Option.some.inj e1, Nat.add_comm 1 i]
    rw [e]
    exact .tup (SqT.of upd_same) (.cons (.int _) (.cons ((h2.mono s).mono c2.ext) .nil))
def enSM : List D → List D → M (List D)
  | [.lst l], [.int i] => M.bnd (M.req (i = 1)) fun _ => M.ret (enD 1 l)
  | _, _ => M.fail
theorem enSM_go (l : List D) (i : Int) : enSM [.lst l] [.int i] = M.bnd (M.req (i = 1)) fun _ => M.ret (enD 1 l) := rfl
theorem ei_enS {ta tk : TA} {m mk : Env → M (List D)} (h : EvA S ta m) (h2 : EvA S tk mk) : EiD S (iEnS S.K ta tk) (fun ρ => M.bnd (m ρ) fun l => M.bnd (mk ρ) fun z => enSM l z) := fun B σ H G ρ R k er q =>
  h B σ H G ρ _ k er ((m ρ).mono (fun ds hd vs H1 G1 k1 c1 r1 => h2 B σ H1 G1 ρ _ k1 (er.mono c1.ext) ((mk ρ).mono (fun zs hz ws H2 G2 k2 c2 r2 => by
    have hy : (enSM ds zs).run _ := hz
    clear hz
    unfold enSM at hy
    split at hy
    · obtain ⟨rfl, hz⟩ := hy
      cases r1 with
      | cons a b =>
        cases b
        cases a with
        | lst ha hr =>
          cases r2 with
          | cons a2 b2 =>
            cases b2
            cases a2
            exact ⟨_, _, rfl, rfl, SqL.of (k2.sub _ _ (c2.ext _ _ ha)), hz _ H2 G2 k2 (c1.trans c2) (wk_enS (c2.ext _ _ ha) (hr.mono c2.ext))⟩
    · exact hy.elim) hd)) q)
def leM : D → D → M D
  | .tup ds, .tup es => M.bnd (M.choose fun p : Ks × Ks => .tup ds = tieD p.1 ∧ .tup es = tieD p.2 ∧ CK p.1 ∧ (p.2 = [] ∨ CK p.2)) fun p => M.ret (.bl (leKs p.1 p.2))
  | _, _ => M.fail
theorem leM_run {k k' : Ks} {Q : D → Prop} (c : CK k) (c' : k' = [] ∨ CK k') (q : Q (.bl (leKs k k'))) : (leM (tieD k) (tieD k')).run Q := ⟨(k, k'), ⟨rfl, rfl, c, c'⟩, q⟩
theorem r_leC : R2D S (rLeC S.K) leM := fun B H G x y d e Q k rx ry h => by
  unfold leM at h
  split at h
  · obtain ⟨⟨p, p'⟩, ⟨e1, e2, c, c'⟩, h⟩ := h
    dsimp only at e1 e2 c c' h
    rw [e1] at rx
    rw [e2] at ry
    obtain ⟨a, rfl, ha⟩ := tie_of rx
    obtain ⟨b, rfl, hb⟩ := tie_of ry
    exact ⟨a, b, p, p', rfl, rfl, sub_tup k.sub ha, sub_tup k.sub hb, c, c', Rs1.now k h (.bl _)⟩
  · exact h.elim
end Dv
namespace Dv
open PySem PySem.Spec PyProof.Rows L2 Sg Tm
variable {S : Base} {B : Bo S} {X : XK}
theorem Rs1.frzK {H G : Hp} {Q : VK} {es : List (Key × D)} (k0 : Ok B H G) (h : Rs1 S B H G Q (.dk es)) : Rs3 S B H G Q es := fun p kvs H' G' n k c h1 h2 ek r => by
  have hs : Sub G' (upd G' p (.dK kvs)) := sub_new h2
  refine h (.ref p) H' (upd G' p (.dK kvs)) ⟨fun a u e => ?_, fun b q e => ?_, k.bx, k.tb, fun a ps e => ?_⟩ ⟨c.ch, c.fr, c.ext.trans hs, fun a u e => ?_⟩ (.dk upd_same ek (r.mono hs))
  · by_cases z : a = p
    · subst z; rw [upd_same] at e; rw [h1]; exact e
    · rw [upd_ne z] at e; exact k.sub a u e
  · rw [upd_ne (k0.ne e n)]; exact k.nm b q e
  · by_cases z : a = p
    · subst z; rw [upd_same] at e; cases e
    · rw [upd_ne z] at e; exact k.nt a ps e
  · by_cases z : a = p
    · subst z; exact .inr n
    · rw [upd_ne z] at e; exact c.new a u e
theorem EvK.d {te : TE} {m : Env → M (List (Key × D))} (h : EvK S te m) : EvD S te (fun ρ => M.bnd (m ρ) fun es => M.ret (.dk es)) := fun B σ H G ρ Q k er q =>
  h B σ H G ρ Q k er ((m ρ).mono (fun ds hd => Rs1.frzK k hd) q)
theorem ts_all : ∀ n : _root_.Fin 100, ((toString (n.1 : Int) : Str)).cps.toList.all (fun d => decide (48 ≤ d ∧ d ≤ 57)) = true := by decide +kernel
theorem ts_inj' : ∀ m n : _root_.Fin 100, ((toString (m.1 : Int) : Str)) = (toString (n.1 : Int) : Str) → m = n := by decide +kernel
theorem ts_dig {i : Int} (h0 : 0 ≤ i) (h1 : i < 100) : ∀ d ∈ ((toString i : Str)).cps.toList, 48 ≤ d ∧ d ≤ 57 := by
  have h := ts_all ⟨i.toNat, by omega⟩
  rw [show ((i.toNat : Nat) : Int) = i by omega] at h
  exact fun d hd => of_decide_eq_true (List.all_eq_true.mp h d hd)
theorem ts_inj {i j : Int} (h0 : 0 ≤ i) (h1 : i < 100) (g0 : 0 ≤ j) (g1 : j < 100) (e : (toString i : Str) = (toString j : Str)) : i = j := by
  have h := ts_inj' ⟨i.toNat, by omega⟩ ⟨j.toNat, by omega⟩
  rw [show ((i.toNat : Nat) : Int) = i by omega, show ((j.toNat : Nat) : Int) = j by omega] at h
  have := congrArg (fun z : _root_.Fin 100 => z.1) (h e)
  dsimp only at this
  omega
end Dv
namespace Dv
open PySem PySem.Spec PyProof.Rows L2 Sg Tm
variable {S : Base} {B : Bo S} {X : XK}
def leKy : Key → Key → Bool
  | .inl a, .inl b => decide (a ≤ b)
  | .inr y, .inr z => !decide (z.cps.toList < y.cps.toList)
  | _, _ => true
def lexK : Ks → Ks → Bool
  | [], _ => true
  | _ :: _, [] => false
  | a :: k, b :: k' => if a = b then lexK k k' else leKy a b
def SameK : Key → Key → Prop
  | .inl _, .inl _ => True
  | .inr _, .inr _ => True
  | _, _ => False
def AllK : Ks → Ks → Prop
  | a :: k, b :: k' => SameK a b ∧ AllK k k'
  | _, _ => True
def rLeG (K : PySem.W.Frag) : R2 := fun x y H Q => ∃ (a b : Addr) (k k' : Ks), x = .ref a ∧ y = .ref b ∧ SqT K H a (k.map kV) ∧ SqT K H b (k'.map kV) ∧ AllK k k' ∧ Q (.bl (lexK k k')) H
def eqF (k k' : Ks) : Nat → Bool := fun j => decide (k[j]? = k'[j]?)
def leF (k k' : Ks) : Nat → Bool := fun j => match k[j]?, k'[j]? with | some a, some b => leKy a b | _, _ => true
theorem lex_at : ∀ (k k' p p' : Ks), p.length = p'.length → Ob.lexAt (eqF (p ++ k) (p' ++ k')) (leF (p ++ k) (p' ++ k')) (decide ((p ++ k).length ≤ (p' ++ k').length)) p.length (min k.length k'.length) = lexK k k'
  | [], k', p, p', hl => by
    rw [List.length_nil, Nat.zero_min]
    show decide _ = true
    rw [List.length_append, List.length_append, hl, List.length_nil]
    exact decide_eq_true (by omega)
  | a :: k, [], p, p', hl => by
    rw [List.length_nil, Nat.min_zero]
    show decide _ = false
    rw [List.length_append, List.length_append, hl, List.length_nil, List.length_cons]
    exact decide_eq_false (by omega)
  | a :: k, b :: k', p, p', hl => by
    have h1 : (p ++ a :: k)[p.length]? = some a := by rw [List.getElem?_append_right (Nat.le_refl _), Nat.sub_self]; rfl
    have h2 : (p' ++ b :: k')[p.length]? = some b := by rw [hl, List.getElem?_append_right (Nat.le_refl _), Nat.sub_self]; rfl
    rw [List.length_cons, List.length_cons, show min (k.length + 1) (k'.length + 1) = min k.length k'.length + 1 by omega, Ob.lexAt_succ]
    have e : eqF (p ++ a :: k) (p' ++ b :: k') p.length = decide (a = b) := by
      unfold eqF
      rw [h1, h2, Bool.eq_iff_iff, decide_eq_true_eq, decide_eq_true_eq]
      exact ⟨Option.some.inj, fun h => by rw [h]⟩
    have r : leF (p ++ a :: k) (p' ++ b :: k') p.length = leKy a b := by
      unfold leF
      rw [h1, h2]
    rw [e, r]
    unfold lexK
    by_cases ab : a = b
    · rw [if_pos (decide_eq_true ab), if_pos ab]
      have ih := lex_at k k' (p ++ [a]) (p' ++ [b]) (by rw [List.length_append, List.length_append, hl]; rfl)
      rw [List.append_assoc, List.append_assoc, show (p ++ [a]).length = p.length + 1 by rw [List.length_append]; rfl] at ih
      exact ih
    · rw [if_neg (by rw [decide_eq_true_eq]; exact ab), if_neg ab]
theorem allK_get : ∀ {k k' : Ks}, AllK k k' → ∀ {j : Nat} {a b : Key}, k[j]? = some a → k'[j]? = some b → SameK a b
  | [], _, _, j, a, b, h, _ => by simp at h
  | _ :: _, [], _, j, a, b, _, h => by simp at h
  | x :: k, y :: k', h, 0, a, b, e1, e2 => by
    simp at e1 e2
    subst e1; subst e2
    exact h.1
  | x :: k, y :: k', h, j + 1, a, b, e1, e2 => allK_get h.2 (by simpa using e1) (by simpa using e2)
theorem op_leG {X : Cx} {K : PySem.W.Frag} (hK : X.K = K) (hu : X.A.units < cLine) : OpR X (compareOp .LtE) (rLeG K) := by
  subst hK
  intro pins s σ H x y v u Q I rx ry h
  obtain ⟨a, b, k, k', rfl, rfl, ha, hb, al, q⟩ := h
  cases rx
  cases ry
  obtain ⟨its, r1, ta, _⟩ := I.tuple ha
  obtain ⟨its', r2, tb, _⟩ := I.tuple hb
  have l1 := r1.length
  have l2 := r2.length
  rw [List.length_map] at l1 l2
  have at1 : ∀ j (h : j < its.toArray.size), ∃ c, k[j]? = some c ∧ RelV (kV c) its.toArray[j] := fun j h => by
    have hj : j < k.length := by rw [List.size_toArray] at h; omega
    obtain ⟨v, hv, rv⟩ := r1.get (i := j) (x := kV k[j]) (by rw [List.getElem?_map, List.getElem?_eq_getElem hj]; rfl)
    refine ⟨k[j], List.getElem?_eq_getElem hj, ?_⟩
    have hj' : j < its.length := by omega
    rw [List.getElem?_eq_getElem hj'] at hv
    have : its.toArray[j] = v := by rw [← Option.some.inj hv]; simp
    rw [this]
    exact rv
  have at2 : ∀ j (h : j < its'.toArray.size), ∃ c, k'[j]? = some c ∧ RelV (kV c) its'.toArray[j] := fun j h => by
    have hj : j < k'.length := by rw [List.size_toArray] at h; omega
    obtain ⟨v, hv, rv⟩ := r2.get (i := j) (x := kV k'[j]) (by rw [List.getElem?_map, List.getElem?_eq_getElem hj]; rfl)
    refine ⟨k'[j], List.getElem?_eq_getElem hj, ?_⟩
    have hj' : j < its'.length := by omega
    rw [List.getElem?_eq_getElem hj'] at hv
    have : its'.toArray[j] = v := by rw [← Option.some.inj hv]; simp
    rw [this]
    exact rv
  have R := Ob.RcOp.tuples_le (A := X.A) (s := s) (e := eqF k k') (r := leF k k') ta tb hu (fun j h1 h2 => ?_) (fun j h1 h2 ne => ?_)
  · have e := lex_at k k' [] [] rfl
    rw [List.nil_append, List.nil_append] at e
    refine R X.prog X.w X.xe (EP X pins σ Q) ⟨.bl _, H, I, ?_, q⟩
    rw [List.size_toArray, List.size_toArray, ← l1, ← l2]
    show Value.bool _ = _
    rw [← e]
    rfl
  · obtain ⟨c, e1, v1⟩ := at1 j h1
    obtain ⟨c', e2, v2⟩ := at2 j h2
    have sm := allK_get al e1 e2
    unfold eqF
    rw [e1, e2]
    generalize its.toArray[j] = z1 at v1
    generalize its'.toArray[j] = z2 at v2
    match c, c', sm with
    | .inl m, .inl n, _ =>
      obtain ⟨t, rfl⟩ := v1
      obtain ⟨t', rfl⟩ := v2
      have : decide (some (Sum.inl m : Key) = some (.inl n)) = (m == n) := by
        rw [Bool.eq_iff_iff, decide_eq_true_eq, beq_iff_eq]
        exact ⟨fun h => by injection h with h; injection h, fun h => by rw [h]⟩
      rw [this]
      exact SeqAt.EqAt.int_int _ _ _ _
    | .inr m, .inr n, _ =>
      obtain ⟨t, rfl⟩ := v1
      obtain ⟨t', rfl⟩ := v2
      have : decide (some (Sum.inr m : Key) = some (.inr n)) = (m == n) := by
        rw [Bool.eq_iff_iff, decide_eq_true_eq, beq_iff_eq]
        exact ⟨fun h => by injection h with h; injection h, fun h => by rw [h]⟩
      rw [this]
      exact SeqAt.EqAt.str_str _ _ _ _
  · obtain ⟨c, e1, v1⟩ := at1 j h1
    obtain ⟨c', e2, v2⟩ := at2 j h2
    have sm := allK_get al e1 e2
    unfold leF
    rw [e1, e2]
    generalize its.toArray[j] = z1 at v1
    generalize its'.toArray[j] = z2 at v2
    match c, c', sm with
    | .inl m, .inl n, _ =>
      obtain ⟨t, rfl⟩ := v1
      obtain ⟨t', rfl⟩ := v2
      exact Ob.RcOp.le_int _ _ _ _
    | .inr m, .inr n, _ =>
      obtain ⟨t, rfl⟩ := v1
      obtain ⟨t', rfl⟩ := v2
      exact fun prog w E Q h => PySem.P.le_str h
def leGM : D → D → M D
  | .tup ds, .tup es => M.bnd (M.choose fun p : Ks × Ks => .tup ds = tieD p.1 ∧ .tup es = tieD p.2 ∧ AllK p.1 p.2) fun p => M.ret (.bl (lexK p.1 p.2))
  | _, _ => M.fail
theorem leGM_run {k k' : Ks} {Q : D → Prop} (c : AllK k k') (q : Q (.bl (lexK k k'))) : (leGM (tieD k) (tieD k')).run Q := ⟨(k, k'), ⟨rfl, rfl, c⟩, q⟩
theorem r_leG : R2D S (rLeG S.K) leGM := fun B H G x y d e Q k rx ry h => by
  unfold leGM at h
  split at h
  · obtain ⟨⟨p, p'⟩, ⟨e1, e2, c⟩, h⟩ := h
    dsimp only at e1 e2 c h
    rw [e1] at rx
    rw [e2] at ry
    obtain ⟨a, rfl, ha⟩ := tie_of rx
    obtain ⟨b, rfl, hb⟩ := tie_of ry
    exact ⟨a, b, p, p', rfl, rfl, sub_tup k.sub ha, sub_tup k.sub hb, c, Rs1.now k h (.bl _)⟩
  · exact h.elim
def rInSS : R2 := fun x y H Q => ∃ (c : Nat) (z : Str), x = .str ⟨#[c]⟩ ∧ y = .str z ∧ Q (.bl (decide (c ∈ z.cps.toList))) H
theorem op_inSS {X : Cx} : OpR X (compareOp .In) rInSS := by
  intro pins s σ H x y v u Q I rx ry h
  obtain ⟨c, z, rfl, rfl, q⟩ := h
  obtain ⟨t, rfl⟩ := rx
  obtain ⟨t', rfl⟩ := ry
  refine in_str ⟨.bl _, H, I, ?_, q⟩
  rw [StrLaws.found_one]
  rfl
def inSS : D → D → M D
  | .str y, .str z => M.bnd (M.choose fun c : Nat => y = ⟨#[c]⟩) fun c => M.ret (.bl (decide (c ∈ z.cps.toList)))
  | _, _ => M.fail
theorem inSS_run {c : Nat} {z : Str} {Q : D → Prop} (q : Q (.bl (decide (c ∈ z.cps.toList)))) : (inSS (.str ⟨#[c]⟩) (.str z)).run Q := ⟨c, rfl, q⟩
theorem r_inSS : R2D S rInSS inSS := fun B H G x y d e Q k rx ry h => by
  unfold inSS at h
  split at h
  · obtain ⟨c, rfl, h⟩ := h
    cases rx
    cases ry
    exact ⟨c, _, rfl, rfl, Rs1.now k h (.bl _)⟩
  · exact h.elim
def lenS : List D → M D
  | [.str z] => M.bnd (M.req (z.length ≤ 100000)) fun _ => M.ret (.int z.length)
  | _ => M.fail
theorem lenS_go (z : Str) : lenS [.str z] = M.bnd (M.req (z.length ≤ 100000)) fun _ => M.ret (.int z.length) := rfl
theorem r_lenS : RCD S (fun xs H Q => ∃ z, xs = [V.str z] ∧ z.length ≤ sizeLine ∧ Q (.int z.length) H) lenS := fun B H G vs ds Q k r h => by
  unfold lenS at h
  split at h
  · cases r with
    | cons a b =>
      cases b
      cases a
      exact ⟨_, rfl, by rw [sizeLine_eq]; have := h.1; omega, Rs1.now k h.2 (.int _)⟩
  · exact h.elim
def intS : List D → M D
  | [.str z] => M.bnd (M.choose fun n : Int => PySem.intText? z = some n ∧ z.length ≤ 640) fun n => M.ret (.int n)
  | _ => M.fail
theorem r_intS : RCD S (fun xs H Q => ∃ a n, xs = [V.str a] ∧ PySem.intText? a = some n ∧ a.length ≤ 640 ∧ Q (.int n) H) intS := fun B H G vs ds Q k r h => by
  unfold intS at h
  split at h
  · obtain ⟨n, ⟨h1, h2⟩, h⟩ := h
    cases r with
    | cons a b =>
      cases b
      cases a
      exact ⟨_, n, rfl, h1, h2, Rs1.now k h (.int _)⟩
  · exact h.elim
theorem intS_all : ∀ n : _root_.Fin 100, PySem.intText? (toString (n.1 : Int) : Str) = some (n.1 : Int) := by decide +kernel
def onceS (z : Str) (k : Int) : Str := if k = 1 then z else Str.empty
def rOnceS : R2 := fun x y H Q => ∃ z k, x = .str z ∧ y = .int k ∧ 0 ≤ k ∧ k ≤ 1 ∧ 1 ≤ z.length ∧ z.length ≤ 1000 ∧ Q (.str (onceS z k)) H
theorem op_onceS {Y : Cx} : OpR Y (binaryOp .Mult) rOnceS := by
  intro pins s σ H x y v u Q I rx ry h
  obtain ⟨z, k, rfl, rfl, k1, k2, z1, z2, q⟩ := h
  obtain ⟨t, rfl⟩ := rx
  obtain ⟨t', rfl⟩ := ry
  by_cases z0 : k < 1
  · refine PySem.P.mul_str ?_ (fun h => absurd z0 h) (fun h => absurd z0 h) ?_
    · rw [decide_eq_false (by omega), decide_eq_false (by omega)]
      rfl
    · rw [if_pos z0]
      have e : onceS z k = Str.empty := by
        unfold onceS
        rw [if_neg (by omega)]
      rw [e] at q
      exact ⟨by decide, .str Str.empty, H, I.tok _, ⟨_, rfl⟩, q⟩
  · have k1 : k = 1 := by omega
    subst k1
    refine PySem.P.mul_str ?_ (fun _ h => ?_) (fun _ h => ?_) ?_
    · rfl
    · cases h
    · cases h
    · rw [if_neg z0, if_pos (show ((1 : Int) == 1 || z.length == 0) = true from rfl)]
      exact ⟨.str z, H, I, ⟨_, rfl⟩, q⟩
def onceM : D → D → M D
  | .str z, .int k => M.bnd (M.req (0 ≤ k ∧ k ≤ 1 ∧ 1 ≤ z.length ∧ z.length ≤ 1000)) fun _ => M.ret (.str (onceS z k))
  | _, _ => M.fail
theorem onceM_go (z : Str) (k : Int) : onceM (.str z) (.int k) = M.bnd (M.req (0 ≤ k ∧ k ≤ 1 ∧ 1 ≤ z.length ∧ z.length ≤ 1000)) fun _ => M.ret (.str (onceS z k)) := rfl
theorem r_onceS : R2D S rOnceS onceM := fun B H G x y d e Q k rx ry h => by
  unfold onceM at h
  split at h
  · obtain ⟨⟨h1, h2, h3, h4⟩, h⟩ := h
    cases rx
    cases ry
    exact ⟨_, _, rfl, rfl, h1, h2, h3, h4, Rs1.now k h (.str _)⟩
  · exact h.elim
end Dv
namespace Dv
open PySem PySem.Spec PyProof.Rows L2 Sg Tm
variable {S : Base} {B : Bo S} {X : XK}
def thStr (f : List D → M D) : Rx → M Rx
  | .ok d => M.bnd (strO f [d]) fun d => M.ret (.ok d)
  | .er x => M.ret (.er x)
theorem exs_str {f : List D → M D} {E0 : XK} {te : (L2.St → XK) → TE} {m : Env → M Rx} (h : EvXs S te m) : EvXs S (fun E => tCB (Nq.rStrI S.C (spD S f) E0) (tCons (te E) tNil)) (fun ρ => M.bnd (m ρ) (thStr f)) := fun B σ H G ρ Q X k er q =>
  h B σ H G ρ _ X k er ((m ρ).mono (fun r hr => by
    cases r with
    | ok d => exact fun v H1 G1 k1 c1 r1 => r_strO B H1 G1 [v] [d] Q k1 (.cons r1 .nil) ((strO f [d]).mono (fun z hz => Rs1.after c1 hz) hr)
    | er x => exact hr) q)
end Dv
namespace Dv
open PySem PySem.Spec PyProof.Rows L2 RZ Sg Tm Wb
local macro_rules | `(tactic| walk_at "r2") => `(tactic| first | with_reducible exact r_I0 | with_reducible exact r_I | with_reducible exact r_eq | with_reducible exact r_ne | with_reducible exact r_isN | with_reducible exact r_notN | with_reducible exact r_ixL | with_reducible exact r_ixT | with_reducible exact r_ixQ | with_reducible exact r_eqD | with_reducible exact r_neD | with_reducible exact r_inD | with_reducible exact r_notInD | with_reducible exact r_isB | with_reducible exact r_notB)
local macro_rules | `(tactic| walk_at "r2l") => `(tactic| first | with_reducible exact r_cat)
local macro_rules | `(tactic| walk_at "rc") => `(tactic| first | with_reducible exact r_len | with_reducible exact r_all)
local macro_rules | `(tactic| walk_at "rcl") => `(tactic| first | with_reducible exact r_list)
local macro_rules | `(tactic| walk_at "eo") => `(tactic| first | with_reducible exact eo_none | (with_reducible apply eo_some; walk_at "ed"))
local macro_rules | `(tactic| walk_at "ea") => `(tactic| first | with_reducible exact ea_nil | (with_reducible apply ea_star; walk_at "ed"; walk_at "ea") | (with_reducible apply ea_cons; walk_at "ed"; walk_at "ea"))
local macro_rules | `(tactic| walk_at "et") => `(tactic| first
  | with_reducible exact et_yes
  | (with_reducible apply et_test; walk_at "ed") | (with_reducible apply et_B; walk_at "ed") | (with_reducible apply et_not; walk_at "et")
  | (with_reducible apply et_and; walk_at "et"; walk_at "et") | (with_reducible apply et_or; walk_at "et"; walk_at "et"))
local macro_rules | `(tactic| walk_at "eg") => `(tactic| first | with_reducible exact eg_name | (with_reducible apply eg_tup; walk_at "egs"))
local macro_rules | `(tactic| walk_at "egs") => `(tactic| first | with_reducible exact eg_nil | (with_reducible apply eg_cons; walk_at "eg"; walk_at "egs"))
local macro_rules | `(tactic| walk_at "es") => `(tactic| first | with_reducible exact es_name | (with_reducible apply es_tup; walk_at "ess"))
local macro_rules | `(tactic| walk_at "ess") => `(tactic| first | with_reducible exact es_nil | (with_reducible apply es_cons; walk_at "es"; walk_at "ess"))
local macro_rules | `(tactic| walk_at "ei") => `(tactic| first | (with_reducible apply ei_list; walk_at "ed") | (with_reducible apply ei_tup; walk_at "ed") | (with_reducible apply ei_rng1; walk_at "ea") | (with_reducible apply ei_rng2; walk_at "ea") | (with_reducible apply ei_str; walk_at "ed"))
local macro_rules | `(tactic| walk_at "el") => `(tactic| first
  | (with_reducible apply el_lst; walk_at "ea")
  | (focus (with_reducible apply el_lc; rotate_left; walk_at "ei"; walk_at "eg"; walk_at "et"; walk_at "ed"; decide))
  | (with_reducible apply el_op; walk_at "r2l"; walk_at "ed"; walk_at "ed")
  | (with_reducible apply el_cb; walk_at "rcl"; walk_at "ea")
  | (with_reducible apply el_sl; walk_at "ed"; walk_at "eo"; walk_at "eo")
  | (with_reducible apply el_call; walk_at "ea")
  | walk_at "el+"
  | (with_reducible apply el_meth; decide; walk_at "ed"; walk_at "ea"))
local macro_rules | `(tactic| walk_at "ed") => `(tactic| first
  | with_reducible exact ed_var | with_reducible exact ed_c
  | (with_reducible apply ed_op; walk_at "r2"; walk_at "ed"; walk_at "ed")
  | (with_reducible apply ed_call; walk_at "ea")
  | (with_reducible apply ed_callX; walk_at "ea")
  | (with_reducible apply ed_tup; walk_at "ea")
  | (with_reducible apply ed_if; walk_at "et"; walk_at "ed"; walk_at "ed")
  | (with_reducible apply ed_cb; walk_at "rc"; walk_at "ea")
  | (with_reducible apply ed_un r_U; walk_at "ed")
  | (with_reducible apply ed_chain; walk_at "r2"; walk_at "r2"; walk_at "ed"; walk_at "ed"; walk_at "ed")
  | (with_reducible apply ed_andV; walk_at "ed"; walk_at "ed") | (with_reducible apply ed_orV; walk_at "ed"; walk_at "ed")
  | (with_reducible apply ed_meth; decide; walk_at "ed"; walk_at "ea")
  | walk_at "ed+"
  | (with_reducible apply EvL.d; walk_at "el"))
local macro_rules | `(tactic| walk_at "svF") => `(tactic| first
  | (with_reducible apply sv_seq; walk_at "svF"; walk_at "svF")
  | (with_reducible apply sv_asg; walk_at "ed")
  | (with_reducible apply sv_if; walk_at "et"; walk_at "svF"; walk_at "svF")
  | (with_reducible apply sv_for; walk_at "ei"; walk_at "es"; walk_at "svF")
  | walk_at "sv")
local macro_rules | `(tactic| walk_at "sv") => `(tactic| first
  | with_reducible exact sv_next | with_reducible exact sv_break | with_reducible exact sv_cont | with_reducible exact sv_never | with_reducible exact sv_retN
  | (with_reducible apply sv_seq; walk_at "sv"; walk_at "sv")
  | (with_reducible apply sv_asgL; walk_at "el")
  | (with_reducible apply sv_asg; walk_at "ed")
  | (with_reducible apply sv_if; walk_at "et"; walk_at "sv"; walk_at "sv")
  | (with_reducible apply sv_for; walk_at "ei"; walk_at "es"; walk_at "sv")
  | (with_reducible apply sv_par; walk_at "ea")
  | (with_reducible apply sv_app; walk_at "ed")
  | (with_reducible apply sv_ret; walk_at "ed")
  | (with_reducible apply sv_asgT; walk_at "ed"; walk_at "es")
  | (with_reducible apply sv_drop; walk_at "ed"))
local macro_rules | `(tactic| walk_at "rc") => `(tactic| first | with_reducible exact r_len | with_reducible exact r_all | with_reducible exact r_max | with_reducible exact r_min)
local macro_rules | `(tactic| walk_at "rcl") => `(tactic| first | with_reducible exact r_list | with_reducible exact r_sort)
local macro_rules | `(tactic| walk_at "el+") => `(tactic| (with_reducible apply el_listRg; walk_at "ed"))
local macro_rules | `(tactic| walk_at "edm") => `(tactic| first | (with_reducible apply ed_index; walk_at "ed"; walk_at "ed") | (with_reducible apply ed_dget2; walk_at "ed"; walk_at "ed"; walk_at "ed") | with_reducible exact ed_disp2 | (with_reducible apply ed_chain; walk_at "r2"; walk_at "r2"; walk_at "ed"; walk_at "ed"; walk_at "ed"))
local macro_rules | `(tactic| walk_at "ed+") => `(tactic| walk_at "edm")
local macro_rules | `(tactic| walk_at "ex") => `(tactic| first | (with_reducible apply ex_callI; walk_at "ea") | (with_reducible apply ex_call; walk_at "ea") | (with_reducible apply ex_opL; walk_at "r2"; walk_at "ex"; walk_at "ed"))
local macro_rules | `(tactic| walk_at "svM") => `(tactic| first
  | (with_reducible apply sv_seq; walk_at "svM"; walk_at "svM")
  | (with_reducible apply sv_ins; walk_at "ed")
  | (with_reducible apply sv_asg; walk_at "ed")
  | (with_reducible apply sv_asgX; walk_at "ex")
  | (with_reducible apply sv_retX; walk_at "ex")
  | (with_reducible apply sv_if; walk_at "et"; walk_at "svM"; walk_at "svM")
  | (with_reducible apply sv_for; walk_at "ei"; walk_at "es"; walk_at "svM")
  | walk_at "sv")
local macro_rules | `(tactic| walk_at "rc") => `(tactic| first | with_reducible exact r_len | with_reducible exact r_lenK | with_reducible exact r_all | with_reducible exact r_max | with_reducible exact r_min | with_reducible exact r_max1 | with_reducible exact r_min1 | with_reducible exact r_int | with_reducible exact r_tup)
local macro_rules | `(tactic| walk_at "ei") => `(tactic| first | (with_reducible apply ei_list; walk_at "ed") | (with_reducible apply ei_tup; walk_at "ed") | (with_reducible apply ei_rng1; walk_at "ea") | (with_reducible apply ei_rng2; walk_at "ea") | (with_reducible apply ei_str; walk_at "ed") | (with_reducible apply ei_en; walk_at "ea"))
local macro_rules | `(tactic| walk_at "edk") => `(tactic| first | (with_reducible apply ed_mk2; walk_at "ea"; walk_at "ea") | (with_reducible apply ed_dget; walk_at "ed"; walk_at "ed") | (with_reducible apply ed_din; walk_at "ed"; walk_at "ed") | (with_reducible apply ed_dnin; walk_at "ed"; walk_at "ed") | walk_at "edm")
local macro_rules | `(tactic| walk_at "ed+") => `(tactic| walk_at "edk")
local macro_rules | `(tactic| walk_at "ek") => `(tactic| first | with_reducible exact ek_new | (focus (with_reducible apply ek_dc; rotate_left; walk_at "ei"; walk_at "eg"; walk_at "et"; walk_at "ed"; walk_at "ed"; decide)))
local macro_rules | `(tactic| walk_at "svN") => `(tactic| first
  | (with_reducible apply sv_seq; walk_at "svN"; walk_at "svN")
  | (with_reducible apply sv_ins; walk_at "ed")
  | (with_reducible apply sv_asgK; walk_at "ek")
  | (with_reducible apply sv_asg; walk_at "ed")
  | (with_reducible apply sv_asgX; walk_at "ex")
  | (with_reducible apply sv_dropX; walk_at "ex")
  | (with_reducible apply sv_retX; walk_at "ex")
  | (with_reducible apply sv_dput; walk_at "ed"; walk_at "ed")
  | (with_reducible apply sv_raise rfl; decide; walk_at "ed")
  | (with_reducible apply sv_if; walk_at "et"; walk_at "svN"; walk_at "svN")
  | (with_reducible apply sv_for; walk_at "ei"; walk_at "es"; walk_at "svN")
  | walk_at "sv")
section
open PySem PySem.Spec PyProof.Rows L2 RZ Sg Tm Wb
def mvK (f : Int → Int) (k : Ks) : Ks := k.map fun x => match x with | .inl i => .inl (f i) | .inr c => .inr c
def inK (p : Int → Bool) (k : Ks) : Bool := k.all fun x => match x with | .inl i => p i | .inr _ => true
def nuK (g : (Int → Bool) × (Int → Int)) (l : List Ks) : List Ks := (l.filter (inK g.1)).map (mvK g.2)
def revK : Ks → Ks
  | [c, x, y] => [c, y, x]
  | k => k
def kf (js : List Int) : (Int → Bool) × (Int → Int) := (fun i => decide (i ∈ js), fun i => (idxI js i : Int))
def kE : Nat → List Int → List (Key × D)
  | _, [] => []
  | i, j :: l => (.inl j, .int (i : Int)) :: kE (i + 1) l
theorem valD_any (k : Key) : ∀ es : List (Key × D), (es.any fun kv => decide (kv.1 = k)) = (valD es k).isSome
  | [] => rfl
  | p :: es => by
    have ih := valD_any k es
    unfold valD at ih ⊢
    rw [List.any_cons, List.find?_cons]
    by_cases e : p.1 = k
    · simp [e]
    · simp only [decide_eq_false e, Bool.false_or]
      exact ih
theorem putD_new {es : List (Key × D)} {k : Key} {d : D} (h : valD es k = none) : putD es k d = es ++ [(k, d)] := by
  unfold putD
  rw [valD_any, h]
  rfl
theorem valD_cons (p : Key × D) (es : List (Key × D)) (k : Key) : valD (p :: es) k = if p.1 = k then some p.2 else valD es k := by
  unfold valD
  rw [List.find?_cons]
  by_cases e : p.1 = k
  · simp [e]
  · simp [e]
theorem valD_app (p : Key × D) (j : Key) : ∀ l : List (Key × D), valD (l ++ [p]) j = if (valD l j).isSome = true then valD l j else if p.1 = j then some p.2 else none
  | [] => by
    rw [List.nil_append, valD_cons]
    simp [valD]
  | q :: l => by
    rw [List.cons_append, valD_cons, valD_cons, valD_app p j l]
    by_cases e : q.1 = j
    · rw [if_pos e, if_pos e]
      rfl
    · rw [if_neg e, if_neg e]
theorem mk2_go (n : Int) (es fs : List D) : mk2 [.int n] [.lst es, .lst fs] = mkM n es fs := rfl
section
variable {P : Program} {w : World} {K : PySem.W.Frag} {mg : Str → Option Value} {base : Heap} {C : Addr} {T : List (Addr × Str)} {cls : Str → Addr}
end
end
section
open PySem PySem.Spec PyProof.Rows L2 RZ Sg Tm Wb
def rmpM : List D → M Rx
  | [.int n, .int p] => if 0 ≤ p ∧ p < n then M.ret (.ok .non) else M.ret (.er ⟨"BadPoint", "number", .int p⟩)
  | _ => M.fail
def wr (n : Int) : List Int → List Int → List Int
  | _, [] => []
  | done, j :: js => if (0 ≤ j ∧ j < n) ∧ j ∉ done then wr n (done ++ [j]) js else j :: wr n (done ++ [j]) js
def spF (a b p : Int) : Int := if p = max a b then min a b else if p < max a b then p else p - 1
section
variable {P : Program} {w : World} {K : PySem.W.Frag} {mg : Str → Option Value} {base : Heap} {C : Addr} {T : List (Addr × Str)} {cls : Str → Addr}
end
end
section
open PySem PySem.Spec PyProof.Rows L2 RZ Sg Tm Wb
structure Bm (mg : Str → Option Value) : Prop where
  range : mg "range" = none
  max : mg "max" = none
  min : mg "min" = none
section
variable {P : Program} {w : World} {K : PySem.W.Frag} {mg : Str → Option Value} {base : Heap} {C : Addr} {T : List (Addr × Str)} {cls : Str → Addr}
end
end
section
open PySem PySem.Spec PyProof.Rows L2 RZ Sg Tm Wb
local macro_rules | `(tactic| walk_at "r2") => `(tactic| first | with_reducible exact r_I0 | with_reducible exact r_I | with_reducible exact r_eq | with_reducible exact r_ne | with_reducible exact r_isN | with_reducible exact r_notN | with_reducible exact r_ixL | with_reducible exact r_ixT | with_reducible exact r_ixQ | with_reducible exact r_eqD | with_reducible exact r_neD | with_reducible exact r_inD | with_reducible exact r_notInD | with_reducible exact r_mulS | with_reducible exact r_addS)
local macro_rules | `(tactic| walk_at "rcl") => `(tactic| first | with_reducible exact r_list | with_reducible exact r_sort | with_reducible exact r_listS)
local macro_rules | `(tactic| walk_at "el+") => `(tactic| first | (with_reducible apply el_split; walk_at "ed"; walk_at "ed") | (with_reducible apply el_listRg; walk_at "ed"))
local macro_rules | `(tactic| walk_at "ed+") => `(tactic| first | (with_reducible apply ed_slS; walk_at "ed"; walk_at "eo"; walk_at "eo") | walk_at "edk")
local macro_rules | `(tactic| walk_at "svP") => `(tactic| first
  | (with_reducible apply sv_seq; walk_at "svP"; walk_at "svP")
  | (with_reducible apply sv_augI; walk_at "ed")
  | (with_reducible apply sv_asgL; with_reducible apply el_lst; with_reducible exact ea_nil)
  | (with_reducible apply sv_asg; walk_at "ed")
  | (with_reducible apply sv_if; walk_at "et"; walk_at "svP"; walk_at "svP")
  | (with_reducible apply sv_for; walk_at "ei"; walk_at "es"; walk_at "svP")
  | walk_at "sv")
def numD (n : Nat) : List (Key × D) := (List.range n).map fun i : Nat => (Sum.inr (toString (i : Int) : Str), D.int (i : Int))
def nubM : List D → M D
  | [.int n] => M.bnd (M.req (0 ≤ n ∧ n ≤ 100)) fun _ => M.ret (.dk (numD n.toNat))
  | _ => M.fail
theorem nubM_go (n : Int) : nubM [.int n] = M.bnd (M.req (0 ≤ n ∧ n ≤ 100)) fun _ => M.ret (.dk (numD n.toNat)) := rfl
theorem numD_S (n : Nat) : numD (n + 1) = numD n ++ [(Sum.inr (toString (n : Int) : Str), D.int (n : Int))] := by
  unfold numD
  rw [List.range_succ, List.map_append]
  rfl
theorem valD_none {k : Key} : ∀ {es : List (Key × D)}, (∀ p ∈ es, p.1 ≠ k) → valD es k = none
  | [], _ => rfl
  | p :: es, h => by
    rw [valD_cons, if_neg (h p (List.mem_cons_self ..))]
    exact valD_none fun q hq => h q (List.mem_cons_of_mem _ hq)
theorem numD_new {n : Nat} (h : n < 100) : ∀ p ∈ numD n, p.1 ≠ (Sum.inr (toString (n : Int) : Str) : Key) := fun p hp e => by
  unfold numD at hp
  obtain ⟨i, hi, rfl⟩ := List.mem_map.mp hp
  have hi := List.mem_range.mp hi
  have := ts_inj (i := i) (j := n) (by omega) (by omega) (by omega) (by omega) (Sum.inr.inj e)
  omega
theorem numD_run {f : D → M (Option (Key × D))} (hf : ∀ i : Nat, i < 100 → (f (.int i)).run fun o => o = some (Sum.inr (toString (i : Int) : Str), D.int (i : Int))) (n : Nat) (hn : n ≤ 100) : (dcM f (rngD 0 n) []).run fun es => es = numD n := by
  have go : ∀ m, ∀ a, a + m ≤ 100 → (dcM f ((rngD 0 (a + m)).drop a) (numD a)).run fun es => es = numD (a + m) := by
    intro m
    induction m with
    | zero =>
      intro a ha
      rw [Nat.add_zero, List.drop_of_length_le (by rw [rngD_len]; exact Nat.le_refl _)]
      rfl
    | succ m ih =>
      intro a ha
      have hl : a < (rngD 0 (a + (m + 1))).length := by rw [rngD_len]; omega
      rw [List.drop_eq_getElem_cons hl]
      have eg : (rngD 0 (a + (m + 1)))[a]'hl = .int (a : Int) := by
        have e1 : (rngD 0 (a + (m + 1)))[a]? = some (.int (a : Int)) := by
          unfold rngD
          rw [List.getElem?_map, List.getElem?_range (by omega)]
          show some (D.int (0 + (a : Int))) = _
          rw [Int.zero_add]
        rw [List.getElem?_eq_getElem hl] at e1
        exact Option.some.inj e1
      rw [eg]
      refine ex_ret (hf a (by omega)) fun o ho => ?_
      rw [ho]
      show (dcM f _ (putD (numD a) _ _)).run _
      rw [putD_new (valD_none (numD_new (by omega))), ← numD_S]
      have := ih (a + 1) (by omega)
      rw [show a + 1 + m = a + (m + 1) by omega] at this
      exact this
  have := go n 0 (by omega)
  rwa [Nat.zero_add] at this
section
variable {P : Program} {w : World} {K : PySem.W.Frag} {mg : Str → Option Value} {base : Heap} {C : Addr} {T : List (Addr × Str)} {cls : Str → Addr}
local macro_rules | `(tactic| walk_at "rc") => `(tactic| first | with_reducible exact r_strI | with_reducible exact r_len)
local macro_rules | `(tactic| walk_at "svW") => `(tactic| first
  | (with_reducible apply sv_ret; with_reducible apply EvK.d; walk_at "ek")
  | walk_at "sv")
abbrev sNB0 : Stmt := topS 22
theorem len_nub {ds : List D} {Q : _ → Prop} (h : (nubM ds).run Q) : ds.length = 1 := by
  unfold nubM at h
  split at h
  · rfl
  · exact h.elim
abbrev N_nub : List Str := ["bound", "number"]
theorem sc_nub : FnScope N_nub ["bound"] (defScope sNB0) := ⟨rfl, rfl, rfl, by decide +kernel, rfl, by decide +kernel, by decide +kernel⟩
theorem ok_nub {f : Addr} {fd : FuncData} (F : Fun K "numbers_below" "numbers_below" sNB0 f fd) (b : Bq mg) (bs : mg "str" = none) : FnOk P w K mg base CX0 1 f fd ["bound"] (spD (mkS K C T cls) nubM) := by
  refine F.ok sc_nub (fun vs H Q E h => ?_) (fun cdv A outer s H vs Q E hr h => ?_)
  · obtain ⟨B, G, ds, _, r, h⟩ := h
    rw [r.length]
    exact len_nub h
  · have hu5 : (A.deeper (envOfC "numbers_below" (defScope sNB0) s.heap.objs.size f cdv)).units + 65 < cLine := by
      have := hr.un
      omega
    have hu : (A.deeper (envOfC "numbers_below" (defScope sNB0) s.heap.objs.size f cdv)).units + 64 < cLine := by omega
    have hu1 : (A.deeper (envOfC "numbers_below" (defScope sNB0) s.heap.objs.size f cdv)).units + 1 < cLine := by omega
    refine ⟨_, (pss_one (ps_ret (pe_dc (own := [("number", 1)]) (g := gName 1) (tt := tYes) rfl sc_nub.nd (pi_range1 (by rfl) b.range (pa_cons (pv 0) pa_nil)) (blkOk_by (N := N_nub) (sc := defScope sNB0) (by decide +kernel)) (fun _ _ _ _ _ => (pg_name (i := 1) sc_nub.nd rfl (.inl rfl))) (fun _ _ _ _ _ => pts_nil) (fun _ _ _ _ _ => (pe_callTy call_str_int (by rfl) bs PySem.Pv.boot_str (pa_cons (pv 1) pa_nil))) (fun _ _ _ _ _ => (pv 1))))), ?_⟩
    refine run_D (X := E) (S := mkS K C T cls) (N := N_nub) (by walk_at "svW") ?_ h
    intro ds Q hq
    unfold nubM at hq
    split at hq
    · rename_i n
      obtain ⟨⟨n0, n1⟩, hq⟩ := hq
      have e : startE N_nub.length [.int n] = [some (.f (.int n)), none] := rfl
      rw [e]
      simp only [run_bnd, run_ret, run_opt, run_req, run_all, run_choose, run_ite, then_nx, then_rt, then_rl, then_er, then_ct, then_bk, outD_rt, outD_rl, outD_nx, outL_rl, outX_rt, outX_rl, outX_nx, outX_er, mask_nil, mask_cons, mk0_f, mk0_o, mk0_od, mk0_ot, mk0_n, peek_nil, peek_cons, pk_f, pk_o, pk_od, pk_ot, pk_n, dOf_int, dOf_bl, dOf_str, dOf_non, opI0_int, opI_int, unI_int, asB_bl, asI_int, asL_lst, asT_tup, asW_web, eqS_int, eqS_str, ixL_lst, ixT_tup, ixQ_lst, ixQ_tup, lenD_lst, lenD_tup, listD_lst, listD_tup, catD_lst, rng1_int, rng2_int, sName_go, sTup_go, sCons_go, sNil_go, bTup_go, bCons_go, bNil_go, two_go, List.set_cons_zero, List.set_cons_succ, List.getElem?_cons_zero, List.getElem?_cons_succ, Option.join_some, atI_0, atI_1, atI_2, decide_eq_true_eq, wipeE, List.map_cons, List.map_nil, step_nx, step_ct, step_bk, step_rt, step_rl, step_er, vOf_int, vOf_str]
      refine ⟨⟨by omega, by omega⟩, by rw [rngD_len]; omega, ?_⟩
      refine ex_ret (numD_run (fun i hi => ?_) n.toNat (by omega)) fun es he => ?_
      · simp only [dcF, strIM_go, if_true, keyOf, run_bnd, run_ret, run_opt, run_req, run_all, run_choose, run_ite, then_nx, then_rt, then_rl, then_er, then_ct, then_bk, outD_rt, outD_rl, outD_nx, outL_rl, outX_rt, outX_rl, outX_nx, outX_er, mask_nil, mask_cons, mk0_f, mk0_o, mk0_od, mk0_ot, mk0_n, peek_nil, peek_cons, pk_f, pk_o, pk_od, pk_ot, pk_n, dOf_int, dOf_bl, dOf_str, dOf_non, opI0_int, opI_int, unI_int, asB_bl, asI_int, asL_lst, asT_tup, asW_web, eqS_int, eqS_str, ixL_lst, ixT_tup, ixQ_lst, ixQ_tup, lenD_lst, lenD_tup, listD_lst, listD_tup, catD_lst, rng1_int, rng2_int, sName_go, sTup_go, sCons_go, sNil_go, bTup_go, bCons_go, bNil_go, two_go, List.set_cons_zero, List.set_cons_succ, List.getElem?_cons_zero, List.getElem?_cons_succ, Option.join_some, atI_0, atI_1, atI_2, decide_eq_true_eq, wipeE, List.map_cons, List.map_nil, step_nx, step_ct, step_bk, step_rt, step_rl, step_er, vOf_int, vOf_str]
        exact ⟨⟨by omega, by omega⟩, trivial⟩
      · rw [he]
        exact hq
    · exact hq.elim
end
end
section
open PySem PySem.Spec PyProof.Rows L2 RZ Sg Tm Wb
def tieS : Ks → Str
  | [.inr c, .inl a, .inl b] => Str.empty ++ (toString a : Str) ++ c ++ (toString b : Str)
  | [.inr c, .inl a] => Str.empty ++ c ++ (toString a : Str)
  | _ => ""
def webS (n : Int) (As Ms : List Ks) : Str := Str.join " " ((toString n : Str) :: (As.map tieS ++ Ms.map tieS))
theorem ts_len' : ∀ n : _root_.Fin 100, ((toString (n.1 : Int) : Str)).length ≤ 2 := by decide +kernel
theorem ts_len {i : Int} (h0 : 0 ≤ i) (h1 : i < 100) : ((toString i : Str)).length ≤ 2 := by
  have h := ts_len' ⟨i.toNat, by omega⟩
  rwa [show ((i.toNat : Nat) : Int) = i by omega] at h
theorem tieS_len {n : Int} {k : Ks} (h : AK n k ∨ MK n k) (hn : n ≤ 100) : (tieS k).length ≤ 5 := by
  have e0 : (Str.empty).length = 0 := rfl
  rcases h with ⟨c, x, y, rfl, _, x0, x1, y0, y1⟩ | ⟨c, x, rfl, _, x0, x1⟩
  · have lx := ts_len x0 (by omega : x < 100)
    have ly := ts_len y0 (by omega : y < 100)
    have l1 : ((⟨#[c]⟩ : Str)).length = 1 := rfl
    show (Str.empty ++ (toString x : Str) ++ (⟨#[c]⟩ : Str) ++ (toString y : Str)).length ≤ 5
    rw [PySem.Str.length_append, PySem.Str.length_append, PySem.Str.length_append]
    omega
  · have lx := ts_len x0 (by omega : x < 100)
    have l1 : ((⟨#[c]⟩ : Str)).length = 1 := rfl
    show (Str.empty ++ (⟨#[c]⟩ : Str) ++ (toString x : Str)).length ≤ 5
    rw [PySem.Str.length_append, PySem.Str.length_append]
    omega
theorem ties_sum {n : Int} (hn : n ≤ 100) : ∀ {l : List Ks}, (∀ k ∈ l, AK n k ∨ MK n k) → ((l.map tieS).map (·.length)).sum ≤ 5 * l.length
  | [], _ => Nat.le_refl _
  | k :: l, h => by
    have h1 := tieS_len (h k (List.mem_cons_self ..)) hn
    have h2 := ties_sum hn fun k hk => h k (List.mem_cons_of_mem _ hk)
    show (tieS k).length + ((l.map tieS).map (·.length)).sum ≤ 5 * (l.length + 1)
    omega
def strM : List D → M D
  | [.web n As Ms] => M.bnd (M.req (WebK n As Ms ∧ n ≤ 100 ∧ As.length + Ms.length ≤ 1000)) fun _ => M.ret (.str (webS n As Ms))
  | _ => M.fail
def fldA : D → M D
  | .web n As Ms => M.ret (.lst (As.map tieD))
  | _ => M.fail
theorem fldA_go (n : Int) (As Ms : List Ks) : fldA (.web n As Ms) = M.ret (.lst (As.map tieD)) := rfl
def fldM : D → M D
  | .web n As Ms => M.ret (.lst (Ms.map tieD))
  | _ => M.fail
theorem fldM_go (n : Int) (As Ms : List Ks) : fldM (.web n As Ms) = M.ret (.lst (Ms.map tieD)) := rfl
def fldP : D → M D
  | .web n As Ms => M.ret (.int n)
  | _ => M.fail
theorem fldP_go (n : Int) (As Ms : List Ks) : fldP (.web n As Ms) = M.ret (.int n) := rfl
theorem pe_fldK {X : Cx} {K : PySem.W.Frag} {e : Expr} {ta : TE} {f : Str} {pos : Pos} (hK : X.K = K) (he : PE X e ta) (hb : attributeBase e f X.env (eval e X.env) = eval e X.env) : PE X (.Attribute e f pos) (tFld K ta f) := by
  subst hK
  exact pe_fld he hb
section
variable {P : Program} {w : World} {K : PySem.W.Frag} {mg : Str → Option Value} {base : Heap} {C : Addr} {T : List (Addr × Str)} {cls : Str → Addr}
theorem ed_fldA {S : Base} {te : TE} {me : Env → M D} (wt : WT K mg C) (hS : S = mkS K C T cls) (h : EvD S te me) : EvD S (tFld K te "arrow_rows") (fun ρ => M.bnd (me ρ) fldA) := fun B σ H G ρ Q k er q =>
  h B σ H G ρ _ k er ((me ρ).mono (fun d hd v H1 G1 k1 c1 r1 => by
    subst hS
    cases r1 with
    | web hw =>
      obtain ⟨U, V, w1, rfl, rfl⟩ := hw
      obtain ⟨dx, pl, ar, mr, ow, bw, h1, h2, h3, h4, _⟩ := w1.w.ex
      exact ⟨_, C, dx, _, .ref ar, rfl, k1.sub _ _ h1, wt.cl, wt.n2, rfl, (show Rs1 _ B H G Q (.lst ((U.map (·.2)).map tieD)) from hd) _ H1 G1 k1 c1 (.lst h3 (rp_refs w1.qa))⟩
    | _ => exact hd.elim) q)
theorem ed_fldM {S : Base} {te : TE} {me : Env → M D} (wt : WT K mg C) (hS : S = mkS K C T cls) (h : EvD S te me) : EvD S (tFld K te "mark_rows") (fun ρ => M.bnd (me ρ) fldM) := fun B σ H G ρ Q k er q =>
  h B σ H G ρ _ k er ((me ρ).mono (fun d hd v H1 G1 k1 c1 r1 => by
    subst hS
    cases r1 with
    | web hw =>
      obtain ⟨U, V, w1, rfl, rfl⟩ := hw
      obtain ⟨dx, pl, ar, mr, ow, bw, h1, h2, h3, h4, _⟩ := w1.w.ex
      exact ⟨_, C, dx, _, .ref mr, rfl, k1.sub _ _ h1, wt.cl, wt.n3, rfl, (show Rs1 _ B H G Q (.lst ((V.map (·.2)).map tieD)) from hd) _ H1 G1 k1 c1 (.lst h4 (rp_refs w1.qm))⟩
    | _ => exact hd.elim) q)
theorem ed_fldP {S : Base} {te : TE} {me : Env → M D} (wt : WT K mg C) (hS : S = mkS K C T cls) (h : EvD S te me) : EvD S (tCB (fun xs H Q => ∃ p ys, xs = [V.ref p] ∧ (SqL K H p ys ∨ SqT K H p ys) ∧ Q (.int ys.length) H) (tCons (tFld K te "places") tNil)) (fun ρ => M.bnd (me ρ) fldP) := fun B σ H G ρ Q k er q =>
  h B σ H G ρ _ k er ((me ρ).mono (fun d hd v H1 G1 k1 c1 r1 => by
    subst hS
    cases r1 with
    | web hw =>
      obtain ⟨U, V, w1, rfl, rfl⟩ := hw
      obtain ⟨dx, pl, ar, mr, ow, bw, h1, h2, h3, h4, _⟩ := w1.w.ex
      have e : ∀ n : Int, 0 ≤ n → ((rgV 0 n).length : Int) = n := fun n n0 => by
        unfold rgV
        rw [List.length_map, List.length_range]
        omega
      exact ⟨_, C, dx, _, .ref pl, rfl, k1.sub _ _ h1, wt.cl, wt.n1, rfl, pl, rgV 0 _, rfl, .inl (SqL.of (k1.sub _ _ h2)), by rw [e _ w1.n0]; exact Rs1.now k1 (Rs1.after c1 hd) (.int _)⟩
    | _ => exact hd.elim) q)
abbrev sWStr : Stmt := inClass (topS 15) 9
local macro_rules | `(tactic| walk_at "ed+") => `(tactic| first
  | (with_reducible apply ed_fmt; walk_at "ed")
  | (with_reducible apply ed_fs; walk_at "ej")
  | (with_reducible apply ed_fldA; assumption; rfl; walk_at "ed")
  | (with_reducible apply ed_fldM; assumption; rfl; walk_at "ed")
  | (with_reducible apply ed_fldP; assumption; rfl; walk_at "ed")
  | (with_reducible apply ed_join; walk_at "ed"; walk_at "ed")
  | walk_at "edk")
local macro_rules | `(tactic| walk_at "ej") => `(tactic| first | with_reducible exact ej_nil | (with_reducible apply ej_cons; walk_at "ed"; walk_at "ej"))
local macro_rules | `(tactic| walk_at "svS") => `(tactic| first
  | (with_reducible apply sv_seq; walk_at "svS"; walk_at "svS")
  | (with_reducible apply sv_asgL; walk_at "el")
  | (with_reducible apply sv_ret; walk_at "ed")
  | walk_at "sv")
theorem len_str {ds : List D} {Q : _ → Prop} (h : (strM ds).run Q) : ds.length = 1 := by
  unfold strM at h
  split at h
  · rfl
  · exact h.elim
abbrev N_str : List Str := ["self", "arrows", "colour", "start", "end", "marks", "mark", "point"]
theorem sc_str : FnScope N_str ["self"] (defScope sWStr) := ⟨rfl, rfl, rfl, by decide +kernel, rfl, by decide +kernel, by decide +kernel⟩
theorem ok_str {f : Addr} {fd : FuncData} (F : Fun K "__str__" "Web.__str__" sWStr f fd) (wt : WT K mg C) (b : Bq mg) : FnOk P w K mg base CX0 1 f fd ["self"] (spD (mkS K C T cls) strM) := by
  refine F.ok sc_str (fun vs H Q E h => ?_) (fun cdv A outer s H vs Q E hr h => ?_)
  · obtain ⟨B, G, ds, _, r, h⟩ := h
    rw [r.length]
    exact len_str h
  · have hu5 : (A.deeper (envOfC "Web.__str__" (defScope sWStr) s.heap.objs.size f cdv)).units + 65 < cLine := by
      have := hr.un
      omega
    have hu : (A.deeper (envOfC "Web.__str__" (defScope sWStr) s.heap.objs.size f cdv)).units + 64 < cLine := by omega
    have hu1 : (A.deeper (envOfC "Web.__str__" (defScope sWStr) s.heap.objs.size f cdv)).units + 1 < cLine := by omega
    refine ⟨_, (pss_cons (ps_setLc (i := 1) (own := [("colour", 2), ("start", 3), ("end", 4)]) (g := gTup K 3 (gCons (gName 2) (gCons (gName 3) (gCons (gName 4) gNil)))) (tt := tYes) rfl sc_str.nd rfl rfl (sw_true rfl rfl rfl (by decide +kernel)) (di_list (K := K) rfl (pe_fldK (K := K) rfl (pv 0) rfl)) (blkOk_by (N := N_str) (sc := defScope sWStr) (by decide +kernel)) (fun _ _ _ _ _ => (dg_tup (K := K) (n := 3) rfl rfl (pgs_cons (pg_name (i := 2) sc_str.nd rfl (.inl rfl)) (pgs_cons (pg_name (i := 3) sc_str.nd rfl (.inl rfl)) (pgs_cons (pg_name (i := 4) sc_str.nd rfl (.inl rfl)) pgs_nil))))) (fun _ _ _ _ _ => pts_nil) (fun _ _ _ _ _ => (pe_fs (.cons (pe_fmt (pv 3)) (.cons (pe_fmt (pv 2)) (.cons (pe_fmt (pv 4)) .nil))))))
      (pss_cons (ps_setLc (i := 5) (own := [("mark", 6), ("point", 7)]) (g := gTup K 2 (gCons (gName 6) (gCons (gName 7) gNil))) (tt := tYes) rfl sc_str.nd rfl rfl (sw_true rfl rfl rfl (by decide +kernel)) (di_list (K := K) rfl (pe_fldK (K := K) rfl (pv 0) rfl)) (blkOk_by (N := N_str) (sc := defScope sWStr) (by decide +kernel)) (fun _ _ _ _ _ => (dg_tup (K := K) (n := 2) rfl rfl (pgs_cons (pg_name (i := 6) sc_str.nd rfl (.inl rfl)) (pgs_cons (pg_name (i := 7) sc_str.nd rfl (.inl rfl)) pgs_nil)))) (fun _ _ _ _ _ => pts_nil) (fun _ _ _ _ _ => (pe_fs (.cons (pe_fmt (pv 6)) (.cons (pe_fmt (pv 7)) .nil)))))
      (pss_one (ps_ret (pe_joinK (K := K) rfl pe_str (pe_lst (pa_cons (pe_joined1 (pe_fmt (pe_callB (dv_len (K := K) rfl) (by rfl) b.len PySem.boot_len (pa_cons (pe_fldK (K := K) rfl (pv 0) rfl) pa_nil)))) (da_star (K := K) rfl (pv 1) (da_star (K := K) rfl (pv 5) pa_nil))))))))), ?_⟩
    refine run_D (X := E) (S := mkS K C T cls) (N := N_str) (by walk_at "svS") ?_ h
    intro ds Q hq
    unfold strM at hq
    split at hq
    · rename_i n As Ms
      obtain ⟨⟨wk, hn, hl⟩, hq⟩ := hq
      have n0 := wk.n0
      have e : startE N_str.length [.web n As Ms] = [some (.f (.web n As Ms)), none, none, none, none, none, none, none] := rfl
      rw [e]
      simp only [fldA_go, run_bnd, run_ret, run_opt, run_req, run_all, run_choose, run_ite, then_nx, then_rt, then_rl, then_er, then_ct, then_bk, outD_rt, outD_rl, outD_nx, outL_rl, outX_rt, outX_rl, outX_nx, outX_er, mask_nil, mask_cons, mk0_f, mk0_o, mk0_od, mk0_ot, mk0_n, peek_nil, peek_cons, pk_f, pk_o, pk_od, pk_ot, pk_n, dOf_int, dOf_bl, dOf_str, dOf_non, opI0_int, opI_int, unI_int, asB_bl, asI_int, asL_lst, asT_tup, asW_web, eqS_int, eqS_str, ixL_lst, ixT_tup, ixQ_lst, ixQ_tup, lenD_lst, lenD_tup, listD_lst, listD_tup, catD_lst, rng1_int, rng2_int, sName_go, sTup_go, sCons_go, sNil_go, bTup_go, bCons_go, bNil_go, two_go, List.set_cons_zero, List.set_cons_succ, List.getElem?_cons_zero, List.getElem?_cons_succ, Option.join_some, atI_0, atI_1, atI_2, decide_eq_true_eq, wipeE, List.map_cons, List.map_nil, step_nx, step_ct, step_bk, step_rt, step_rl, step_er, vOf_int, vOf_str]
      refine ⟨by rw [List.length_map]; omega, ex_ret (M.sel_fltM (p := fun _ => true) (h := fun k => D.str (tieS k)) fun k hk => ?_) fun bs hbs => ?_⟩
      · obtain ⟨c, x, y, rfl, _, x0, x1, y0, y1⟩ := wk.ka k hk
        have lx := ts_len x0 (by omega : x < 100)
        have ly := ts_len y0 (by omega : y < 100)
        show (lcF _ _ _ _ (.tup [.str ⟨#[c]⟩, .int x, .int y])).run _
        simp only [lcF_go, fmtM_int, fmtM_str, asS_str, if_true, run_bnd, run_ret, run_opt, run_req, run_all, run_choose, run_ite, then_nx, then_rt, then_rl, then_er, then_ct, then_bk, outD_rt, outD_rl, outD_nx, outL_rl, outX_rt, outX_rl, outX_nx, outX_er, mask_nil, mask_cons, mk0_f, mk0_o, mk0_od, mk0_ot, mk0_n, peek_nil, peek_cons, pk_f, pk_o, pk_od, pk_ot, pk_n, dOf_int, dOf_bl, dOf_str, dOf_non, opI0_int, opI_int, unI_int, asB_bl, asI_int, asL_lst, asT_tup, asW_web, eqS_int, eqS_str, ixL_lst, ixT_tup, ixQ_lst, ixQ_tup, lenD_lst, lenD_tup, listD_lst, listD_tup, catD_lst, rng1_int, rng2_int, sName_go, sTup_go, sCons_go, sNil_go, bTup_go, bCons_go, bNil_go, two_go, List.set_cons_zero, List.set_cons_succ, List.getElem?_cons_zero, List.getElem?_cons_succ, Option.join_some, atI_0, atI_1, atI_2, decide_eq_true_eq, wipeE, List.map_cons, List.map_nil, step_nx, step_ct, step_bk, step_rt, step_rl, step_er, vOf_int, vOf_str]
        have l1 : ((⟨#[c]⟩ : Str)).length = 1 := rfl
        have e0 : (Str.empty).length = 0 := rfl
        refine ⟨rfl, ⟨by omega, by omega⟩, ?_, by show 1 ≤ 100000; decide, ?_, ⟨by omega, by omega⟩, ?_, rfl⟩
        · rw [PySem.Str.length_append]; omega
        · rw [PySem.Str.length_append, PySem.Str.length_append]; omega
        · rw [PySem.Str.length_append, PySem.Str.length_append, PySem.Str.length_append]; omega
      have hbs : bs = As.map fun k => D.str (tieS k) := by rw [hbs, List.filter_eq_self.mpr (fun _ _ => rfl)]
      subst hbs
      simp only [fldM_go, run_bnd, run_ret, run_opt, run_req, run_all, run_choose, run_ite, then_nx, then_rt, then_rl, then_er, then_ct, then_bk, outD_rt, outD_rl, outD_nx, outL_rl, outX_rt, outX_rl, outX_nx, outX_er, mask_nil, mask_cons, mk0_f, mk0_o, mk0_od, mk0_ot, mk0_n, peek_nil, peek_cons, pk_f, pk_o, pk_od, pk_ot, pk_n, dOf_int, dOf_bl, dOf_str, dOf_non, opI0_int, opI_int, unI_int, asB_bl, asI_int, asL_lst, asT_tup, asW_web, eqS_int, eqS_str, ixL_lst, ixT_tup, ixQ_lst, ixQ_tup, lenD_lst, lenD_tup, listD_lst, listD_tup, catD_lst, rng1_int, rng2_int, sName_go, sTup_go, sCons_go, sNil_go, bTup_go, bCons_go, bNil_go, two_go, List.set_cons_zero, List.set_cons_succ, List.getElem?_cons_zero, List.getElem?_cons_succ, Option.join_some, atI_0, atI_1, atI_2, decide_eq_true_eq, wipeE, List.map_cons, List.map_nil, step_nx, step_ct, step_bk, step_rt, step_rl, step_er, vOf_int, vOf_str]
      refine ⟨by rw [List.length_map]; omega, ex_ret (M.sel_fltM (p := fun _ => true) (h := fun k => D.str (tieS k)) fun k hk => ?_) fun bs hbs => ?_⟩
      · obtain ⟨c, x, rfl, _, x0, x1⟩ := wk.km k hk
        have lx := ts_len x0 (by omega : x < 100)
        show (lcF _ _ _ _ (.tup [.str ⟨#[c]⟩, .int x])).run _
        simp only [lcF_go, fmtM_int, fmtM_str, asS_str, if_true, run_bnd, run_ret, run_opt, run_req, run_all, run_choose, run_ite, then_nx, then_rt, then_rl, then_er, then_ct, then_bk, outD_rt, outD_rl, outD_nx, outL_rl, outX_rt, outX_rl, outX_nx, outX_er, mask_nil, mask_cons, mk0_f, mk0_o, mk0_od, mk0_ot, mk0_n, peek_nil, peek_cons, pk_f, pk_o, pk_od, pk_ot, pk_n, dOf_int, dOf_bl, dOf_str, dOf_non, opI0_int, opI_int, unI_int, asB_bl, asI_int, asL_lst, asT_tup, asW_web, eqS_int, eqS_str, ixL_lst, ixT_tup, ixQ_lst, ixQ_tup, lenD_lst, lenD_tup, listD_lst, listD_tup, catD_lst, rng1_int, rng2_int, sName_go, sTup_go, sCons_go, sNil_go, bTup_go, bCons_go, bNil_go, two_go, List.set_cons_zero, List.set_cons_succ, List.getElem?_cons_zero, List.getElem?_cons_succ, Option.join_some, atI_0, atI_1, atI_2, decide_eq_true_eq, wipeE, List.map_cons, List.map_nil, step_nx, step_ct, step_bk, step_rt, step_rl, step_er, vOf_int, vOf_str]
        have l1 : ((⟨#[c]⟩ : Str)).length = 1 := rfl
        have e0 : (Str.empty).length = 0 := rfl
        refine ⟨rfl, by show 1 ≤ 100000; decide, ?_, ⟨by omega, by omega⟩, ?_, rfl⟩
        · rw [PySem.Str.length_append]; omega
        · rw [PySem.Str.length_append, PySem.Str.length_append]; omega
      have hbs : bs = Ms.map fun k => D.str (tieS k) := by rw [hbs, List.filter_eq_self.mpr (fun _ _ => rfl)]
      subst hbs
      simp only [fldP_go, fmtM_int, asS_str, joinM_go, run_bnd, run_ret, run_opt, run_req, run_all, run_choose, run_ite, then_nx, then_rt, then_rl, then_er, then_ct, then_bk, outD_rt, outD_rl, outD_nx, outL_rl, outX_rt, outX_rl, outX_nx, outX_er, mask_nil, mask_cons, mk0_f, mk0_o, mk0_od, mk0_ot, mk0_n, peek_nil, peek_cons, pk_f, pk_o, pk_od, pk_ot, pk_n, dOf_int, dOf_bl, dOf_str, dOf_non, opI0_int, opI_int, unI_int, asB_bl, asI_int, asL_lst, asT_tup, asW_web, eqS_int, eqS_str, ixL_lst, ixT_tup, ixQ_lst, ixQ_tup, lenD_lst, lenD_tup, listD_lst, listD_tup, catD_lst, rng1_int, rng2_int, sName_go, sTup_go, sCons_go, sNil_go, bTup_go, bCons_go, bNil_go, two_go, List.set_cons_zero, List.set_cons_succ, List.getElem?_cons_zero, List.getElem?_cons_succ, Option.join_some, atI_0, atI_1, atI_2, decide_eq_true_eq, wipeE, List.map_cons, List.map_nil, step_nx, step_ct, step_bk, step_rt, step_rl, step_er, vOf_int, vOf_str]
      refine ⟨⟨by omega, by omega⟩, ?_, (toString n : Str) :: (As.map tieS ++ Ms.map tieS), ⟨?_, ?_⟩, hq⟩
      · rw [List.append_nil, List.length_cons, List.length_append, List.length_map, List.length_map]
        omega
      · rw [List.append_nil, List.map_cons, List.map_append, List.map_map, List.map_map]
        rfl
      · have h1 := ties_sum hn (l := As ++ Ms) fun k hk => (List.mem_append.mp hk).elim (fun h => .inl (wk.ka k h)) (fun h => .inr (wk.km k h))
        rw [List.map_append] at h1
        rw [List.map_cons, List.sum_cons, List.length_cons, List.length_append, List.length_map, List.length_map]
        rw [List.length_append] at h1
        have l1 : (Str.ofString " ").length = 1 := rfl
        rw [l1]
        have h3 : ((toString n : Str)).length ≤ 3 := by
          by_cases p : n < 100
          · have := ts_len n0 p; omega
          · rw [show n = 100 by omega]; decide +kernel
        omega
    · exact hq.elim
end
end
end Dv
namespace Dv
open PySem PySem.Spec PyProof.Rows L2 RZ Sg Tm Wb
open Classical in
noncomputable def numOf (n : Int) (z : Str) : Option Int := if h : ∃ i : Int, 0 ≤ i ∧ i < n ∧ z = (toString i : Str) then some h.choose else none
theorem numOf_some {n i : Int} {z : Str} (h : numOf n z = some i) : 0 ≤ i ∧ i < n ∧ z = (toString i : Str) := by
  unfold numOf at h
  split at h
  · rename_i e
    rw [← Option.some.inj h]
    exact e.choose_spec
  · cases h
theorem numOf_none {n i : Int} {z : Str} (h : numOf n z = none) (h0 : 0 ≤ i) (h1 : i < n) : z ≠ (toString i : Str) := fun e => by
  unfold numOf at h
  rw [dif_pos ⟨i, h0, h1, e⟩] at h
  cases h
theorem numOf_eq {n i : Int} (h0 : 0 ≤ i) (h1 : i < n) (hn : n ≤ 100) : numOf n (toString i : Str) = some i := by
  cases e : numOf n (toString i : Str) with
  | none => exact absurd rfl (numOf_none e h0 h1)
  | some j =>
    obtain ⟨j0, j1, ej⟩ := numOf_some e
    rw [ts_inj h0 (by omega) j0 (by omega) ej]
theorem tie_val {n : Nat} {i : Int} (h0 : 0 ≤ i) (h1 : i < n) (hn : n ≤ 100) : valD (numD n) (.inr (toString i : Str)) = some (.int i) := by
  induction n with
  | zero => omega
  | succ n ih =>
    rw [numD_S, valD_app]
    by_cases p : i < n
    · rw [ih p (by omega)]
      rfl
    · have e : i = n := by omega
      subst e
      rw [valD_none (numD_new (by omega)), if_neg (by decide), if_pos rfl]
theorem val_num {n : Nat} (hn : n ≤ 100) (z : Str) : valD (numD n) (.inr z) = (numOf n z).map D.int := by
  cases e : numOf n z with
  | some i =>
    obtain ⟨i0, i1, rfl⟩ := numOf_some e
    rw [tie_val i0 i1 hn]
    rfl
  | none =>
    refine valD_none fun p hp ep => ?_
    unfold numD at hp
    obtain ⟨i, hi, rfl⟩ := List.mem_map.mp hp
    have hi := List.mem_range.mp hi
    exact numOf_none e (i := (i : Int)) (by omega) (by omega) (Sum.inr.inj ep).symm
theorem app_l (a b : Str) : (a ++ b).cps.toList = a.cps.toList ++ b.cps.toList := by
  show (a.cps ++ b.cps).toList = _
  simp
theorem tieS_a (c : Nat) (x y : Int) : tieS [.inr ⟨#[c]⟩, .inl x, .inl y] = (toString x : Str) ++ ⟨#[c]⟩ ++ (toString y : Str) := by
  show Str.empty ++ (toString x : Str) ++ ⟨#[c]⟩ ++ (toString y : Str) = _
  rw [Str.empty_append]
theorem tieS_m (c : Nat) (x : Int) : tieS [.inr ⟨#[c]⟩, .inl x] = (⟨#[c]⟩ : Str) ++ (toString x : Str) := by
  show Str.empty ++ ⟨#[c]⟩ ++ (toString x : Str) = _
  rw [Str.empty_append]
theorem tieL_a (c : Nat) (x y : Int) : (tieS [.inr ⟨#[c]⟩, .inl x, .inl y]).cps.toList = (toString x : Str).cps.toList ++ c :: (toString y : Str).cps.toList := by
  rw [tieS_a, app_l, app_l]
  simp
theorem tieL_m (c : Nat) (x : Int) : (tieS [.inr ⟨#[c]⟩, .inl x]).cps.toList = c :: (toString x : Str).cps.toList := by
  rw [tieS_m, app_l]
  rfl
theorem ts_ne : ∀ n : _root_.Fin 100, ((toString (n.1 : Int) : Str)).cps.toList ≠ [] := by decide +kernel
theorem ts_nil {i : Int} (h0 : 0 ≤ i) (h1 : i < 100) : (toString i : Str).cps.toList ≠ [] := by
  have := ts_ne ⟨i.toNat, by omega⟩
  rwa [show ((i.toNat : Nat) : Int) = i by omega] at this
theorem low_inj : ∀ {a a' b b' : List Nat} {c c' : Nat}, (∀ e ∈ a, e < 97) → (∀ e ∈ a', e < 97) → 97 ≤ c → 97 ≤ c' → a ++ c :: b = a' ++ c' :: b' → a = a' ∧ c = c' ∧ b = b'
  | [], [], b, b', c, c', _, _, _, _, h => by injection h with h1 h2; exact ⟨rfl, h1, h2⟩
  | [], x :: a', b, b', c, c', _, h2, hc, _, h => by
    injection h with h1 _
    have := h2 x (List.mem_cons_self ..)
    omega
  | x :: a, [], b, b', c, c', h1, _, _, hc, h => by
    injection h with h2 _
    have := h1 x (List.mem_cons_self ..)
    omega
  | x :: a, y :: a', b, b', c, c', h1, h2, hc, hc', h => by
    injection h with e1 e2
    obtain ⟨p, q, r⟩ := low_inj (fun e he => h1 e (List.mem_cons_of_mem _ he)) (fun e he => h2 e (List.mem_cons_of_mem _ he)) hc hc' e2
    exact ⟨by rw [e1, p], q, r⟩
theorem dig_low {i : Int} (h0 : 0 ≤ i) (h1 : i < 100) : ∀ e ∈ (toString i : Str).cps.toList, e < 97 := fun e he => by
  have := ts_dig h0 h1 e he
  omega
theorem tieS_inj {n : Int} {k k' : Ks} (hn : n ≤ 100) (h : AK n k ∨ MK n k) (h' : AK n k' ∨ MK n k') (e : tieS k = tieS k') : k = k' := by
  have e2 := congrArg (fun z : Str => z.cps.toList) e
  rcases h with ⟨c, x, y, rfl, hc, x0, x1, y0, y1⟩ | ⟨c, x, rfl, hc, x0, x1⟩
  · rcases h' with ⟨c', x', y', rfl, hc', x0', x1', y0', y1'⟩ | ⟨c', x', rfl, hc', x0', x1'⟩
    · rw [tieL_a, tieL_a] at e2
      obtain ⟨p, rfl, q⟩ := low_inj (dig_low x0 (by omega)) (dig_low x0' (by omega)) (by omega) (by omega) e2
      rw [ts_inj x0 (by omega) x0' (by omega) (str_cps p), ts_inj y0 (by omega) y0' (by omega) (str_cps q)]
    · rw [tieL_a, tieL_m] at e2
      have := (low_inj (dig_low x0 (by omega)) (a' := []) (fun e h => nomatch h) (by omega) (by omega) e2).1
      exact absurd this (ts_nil x0 (by omega))
  · rcases h' with ⟨c', x', y', rfl, hc', x0', x1', y0', y1'⟩ | ⟨c', x', rfl, hc', x0', x1'⟩
    · rw [tieL_a, tieL_m] at e2
      have := (low_inj (dig_low x0' (by omega)) (a' := []) (fun e h => nomatch h) (by omega) (by omega) e2.symm).1
      exact absurd this (ts_nil x0' (by omega))
    · rw [tieL_m, tieL_m] at e2
      injection e2 with e3 e4
      rw [e3, ts_inj x0 (by omega) x0' (by omega) (str_cps e4)]
open Classical in
noncomputable def tieOf (n : Int) (z : Str) : Option Ks := if h : ∃ k, (AK n k ∨ MK n k) ∧ z = tieS k then some h.choose else none
theorem tieOf_some {n : Int} {z : Str} {k : Ks} (h : tieOf n z = some k) : (AK n k ∨ MK n k) ∧ z = tieS k := by
  unfold tieOf at h
  split at h
  · rename_i e
    rw [← Option.some.inj h]
    exact e.choose_spec
  · cases h
theorem tieOf_eq {n : Int} {k : Ks} (hn : n ≤ 100) (h : AK n k ∨ MK n k) : tieOf n (tieS k) = some k := by
  cases e : tieOf n (tieS k) with
  | none =>
    unfold tieOf at e
    rw [dif_pos ⟨k, h, rfl⟩] at e
    cases e
  | some j =>
    obtain ⟨h', ej⟩ := tieOf_some e
    rw [tieS_inj hn h h' ej]
theorem tieOf_no {n : Int} {z : Str} (h : ∀ k, AK n k ∨ MK n k → z ≠ tieS k) : tieOf n z = none := by
  unfold tieOf
  rw [dif_neg fun ⟨k, h1, h2⟩ => h k h1 h2]
def tieOD : Option Ks → D
  | some k => tieD k
  | none => .non
theorem cut_head {z : Str} {c : Nat} {r : List Nat} (h : z.cps.toList = c :: r) : cutS z none (some 1) = ⟨#[c]⟩ ∧ cutS z (some 1) none = ⟨r.toArray⟩ := by
  have hl : z.length = r.length + 1 := by
    show z.cps.size = _
    rw [← Array.length_toList, h]
    rfl
  refine ⟨?_, ?_⟩
  · unfold cutS
    rw [HT.sIx_none, show (some (1 : Int)) = some ((1 : Nat) : Int) from rfl, HT.sIx_nat, h, hl, Nat.min_eq_left (by omega)]
    rfl
  · unfold cutS
    rw [HT.sIx_none, show (some (1 : Int)) = some ((1 : Nat) : Int) from rfl, HT.sIx_nat, h, hl, Nat.min_eq_left (by omega), List.drop_succ_cons, List.drop_zero, List.take_of_length_le (by omega)]
theorem cut_nil {z : Str} (h : z.cps.toList = []) (lo hi : Option Int) : cutS z lo hi = Str.empty := by
  unfold cutS
  rw [h, List.drop_nil, List.take_nil]
  rfl
theorem sp_at {c : Nat} : ∀ l : List Nat, c ∉ l ∨ ∃ a b, l = a ++ c :: b ∧ c ∉ a
  | [] => .inl (fun h => nomatch h)
  | x :: l => by
    by_cases e : x = c
    · exact .inr ⟨[], l, by rw [e]; rfl, fun h => nomatch h⟩
    · rcases sp_at (c := c) l with h | ⟨a, b, h1, h2⟩
      · exact .inl fun m => (List.mem_cons.mp m).elim (fun h => e h.symm) h
      · exact .inr ⟨x :: a, b, by rw [h1]; rfl, fun m => (List.mem_cons.mp m).elim (fun h => e h.symm) h2⟩
theorem sp_str (z : Str) (c : Nat) : c ∉ z.cps.toList ∨ ∃ a b : Str, z = a ++ ⟨#[c]⟩ ++ b ∧ c ∉ a.cps.toList := by
  rcases sp_at (c := c) z.cps.toList with h | ⟨a, b, h1, h2⟩
  · exact .inl h
  · refine .inr ⟨⟨a.toArray⟩, ⟨b.toArray⟩, str_cps ?_, h2⟩
    rw [app_l, app_l, h1]
    simp
end Dv
namespace Dv
open PySem PySem.Spec PyProof.Rows L2 RZ Sg Tm Wb
local macro_rules | `(tactic| walk_at "r2") => `(tactic| first | with_reducible exact r_I0 | with_reducible exact r_I | with_reducible exact r_eq | with_reducible exact r_ne | with_reducible exact r_isN | with_reducible exact r_notN | with_reducible exact r_ixL | with_reducible exact r_ixT | with_reducible exact r_ixQ | with_reducible exact r_eqD | with_reducible exact r_neD | with_reducible exact r_inD | with_reducible exact r_notInD | with_reducible exact r_isB | with_reducible exact r_notB)
local macro_rules | `(tactic| walk_at "r2l") => `(tactic| first | with_reducible exact r_cat)
local macro_rules | `(tactic| walk_at "rc") => `(tactic| first | with_reducible exact r_len | with_reducible exact r_all)
local macro_rules | `(tactic| walk_at "rcl") => `(tactic| first | with_reducible exact r_list)
local macro_rules | `(tactic| walk_at "eo") => `(tactic| first | with_reducible exact eo_none | (with_reducible apply eo_some; walk_at "ed"))
local macro_rules | `(tactic| walk_at "ea") => `(tactic| first | with_reducible exact ea_nil | (with_reducible apply ea_star; walk_at "ed"; walk_at "ea") | (with_reducible apply ea_cons; walk_at "ed"; walk_at "ea"))
local macro_rules | `(tactic| walk_at "et") => `(tactic| first
  | with_reducible exact et_yes
  | (with_reducible apply et_test; walk_at "ed") | (with_reducible apply et_B; walk_at "ed") | (with_reducible apply et_not; walk_at "et")
  | (with_reducible apply et_and; walk_at "et"; walk_at "et") | (with_reducible apply et_or; walk_at "et"; walk_at "et"))
local macro_rules | `(tactic| walk_at "eg") => `(tactic| first | with_reducible exact eg_name | (with_reducible apply eg_tup; walk_at "egs"))
local macro_rules | `(tactic| walk_at "egs") => `(tactic| first | with_reducible exact eg_nil | (with_reducible apply eg_cons; walk_at "eg"; walk_at "egs"))
local macro_rules | `(tactic| walk_at "es") => `(tactic| first | with_reducible exact es_name | (with_reducible apply es_tup; walk_at "ess"))
local macro_rules | `(tactic| walk_at "ess") => `(tactic| first | with_reducible exact es_nil | (with_reducible apply es_cons; walk_at "es"; walk_at "ess"))
local macro_rules | `(tactic| walk_at "ei") => `(tactic| first | (with_reducible apply ei_list; walk_at "ed") | (with_reducible apply ei_tup; walk_at "ed") | (with_reducible apply ei_rng1; walk_at "ea") | (with_reducible apply ei_rng2; walk_at "ea") | (with_reducible apply ei_str; walk_at "ed"))
local macro_rules | `(tactic| walk_at "el") => `(tactic| first
  | (with_reducible apply el_lst; walk_at "ea")
  | (focus (with_reducible apply el_lc; rotate_left; walk_at "ei"; walk_at "eg"; walk_at "et"; walk_at "ed"; decide))
  | (with_reducible apply el_op; walk_at "r2l"; walk_at "ed"; walk_at "ed")
  | (with_reducible apply el_cb; walk_at "rcl"; walk_at "ea")
  | (with_reducible apply el_sl; walk_at "ed"; walk_at "eo"; walk_at "eo")
  | (with_reducible apply el_call; walk_at "ea")
  | walk_at "el+"
  | (with_reducible apply el_meth; decide; walk_at "ed"; walk_at "ea"))
local macro_rules | `(tactic| walk_at "ed") => `(tactic| first
  | with_reducible exact ed_var | with_reducible exact ed_c
  | (with_reducible apply ed_op; walk_at "r2"; walk_at "ed"; walk_at "ed")
  | (with_reducible apply ed_call; walk_at "ea")
  | (with_reducible apply ed_callX; walk_at "ea")
  | (with_reducible apply ed_tup; walk_at "ea")
  | (with_reducible apply ed_if; walk_at "et"; walk_at "ed"; walk_at "ed")
  | (with_reducible apply ed_cb; walk_at "rc"; walk_at "ea")
  | (with_reducible apply ed_un r_U; walk_at "ed")
  | (with_reducible apply ed_chain; walk_at "r2"; walk_at "r2"; walk_at "ed"; walk_at "ed"; walk_at "ed")
  | (with_reducible apply ed_andV; walk_at "ed"; walk_at "ed") | (with_reducible apply ed_orV; walk_at "ed"; walk_at "ed")
  | (with_reducible apply ed_meth; decide; walk_at "ed"; walk_at "ea")
  | walk_at "ed+"
  | (with_reducible apply EvL.d; walk_at "el"))
local macro_rules | `(tactic| walk_at "svF") => `(tactic| first
  | (with_reducible apply sv_seq; walk_at "svF"; walk_at "svF")
  | (with_reducible apply sv_asg; walk_at "ed")
  | (with_reducible apply sv_if; walk_at "et"; walk_at "svF"; walk_at "svF")
  | (with_reducible apply sv_for; walk_at "ei"; walk_at "es"; walk_at "svF")
  | walk_at "sv")
local macro_rules | `(tactic| walk_at "sv") => `(tactic| first
  | with_reducible exact sv_next | with_reducible exact sv_break | with_reducible exact sv_cont | with_reducible exact sv_never | with_reducible exact sv_retN
  | (with_reducible apply sv_seq; walk_at "sv"; walk_at "sv")
  | (with_reducible apply sv_asgL; walk_at "el")
  | (with_reducible apply sv_asg; walk_at "ed")
  | (with_reducible apply sv_if; walk_at "et"; walk_at "sv"; walk_at "sv")
  | (with_reducible apply sv_for; walk_at "ei"; walk_at "es"; walk_at "sv")
  | (with_reducible apply sv_par; walk_at "ea")
  | (with_reducible apply sv_app; walk_at "ed")
  | (with_reducible apply sv_ret; walk_at "ed")
  | (with_reducible apply sv_asgT; walk_at "ed"; walk_at "es")
  | (with_reducible apply sv_drop; walk_at "ed"))
local macro_rules | `(tactic| walk_at "rc") => `(tactic| first | with_reducible exact r_len | with_reducible exact r_all | with_reducible exact r_max | with_reducible exact r_min)
local macro_rules | `(tactic| walk_at "rcl") => `(tactic| first | with_reducible exact r_list | with_reducible exact r_sort)
local macro_rules | `(tactic| walk_at "el+") => `(tactic| (with_reducible apply el_listRg; walk_at "ed"))
local macro_rules | `(tactic| walk_at "edm") => `(tactic| first | (with_reducible apply ed_index; walk_at "ed"; walk_at "ed") | (with_reducible apply ed_dget2; walk_at "ed"; walk_at "ed"; walk_at "ed") | with_reducible exact ed_disp2 | (with_reducible apply ed_chain; walk_at "r2"; walk_at "r2"; walk_at "ed"; walk_at "ed"; walk_at "ed"))
local macro_rules | `(tactic| walk_at "ed+") => `(tactic| walk_at "edm")
local macro_rules | `(tactic| walk_at "ex") => `(tactic| first | (with_reducible apply ex_callI; walk_at "ea") | (with_reducible apply ex_call; walk_at "ea") | (with_reducible apply ex_opL; walk_at "r2"; walk_at "ex"; walk_at "ed"))
local macro_rules | `(tactic| walk_at "svM") => `(tactic| first
  | (with_reducible apply sv_seq; walk_at "svM"; walk_at "svM")
  | (with_reducible apply sv_ins; walk_at "ed")
  | (with_reducible apply sv_asg; walk_at "ed")
  | (with_reducible apply sv_asgX; walk_at "ex")
  | (with_reducible apply sv_retX; walk_at "ex")
  | (with_reducible apply sv_if; walk_at "et"; walk_at "svM"; walk_at "svM")
  | (with_reducible apply sv_for; walk_at "ei"; walk_at "es"; walk_at "svM")
  | walk_at "sv")
local macro_rules | `(tactic| walk_at "rc") => `(tactic| first | with_reducible exact r_len | with_reducible exact r_lenK | with_reducible exact r_all | with_reducible exact r_max | with_reducible exact r_min | with_reducible exact r_max1 | with_reducible exact r_min1 | with_reducible exact r_int | with_reducible exact r_tup)
local macro_rules | `(tactic| walk_at "ei") => `(tactic| first | (with_reducible apply ei_list; walk_at "ed") | (with_reducible apply ei_tup; walk_at "ed") | (with_reducible apply ei_rng1; walk_at "ea") | (with_reducible apply ei_rng2; walk_at "ea") | (with_reducible apply ei_str; walk_at "ed") | (with_reducible apply ei_en; walk_at "ea"))
local macro_rules | `(tactic| walk_at "edk") => `(tactic| first | (with_reducible apply ed_mk2; walk_at "ea"; walk_at "ea") | (with_reducible apply ed_dget; walk_at "ed"; walk_at "ed") | (with_reducible apply ed_din; walk_at "ed"; walk_at "ed") | (with_reducible apply ed_dnin; walk_at "ed"; walk_at "ed") | walk_at "edm")
local macro_rules | `(tactic| walk_at "ed+") => `(tactic| walk_at "edk")
local macro_rules | `(tactic| walk_at "ek") => `(tactic| first | with_reducible exact ek_new | (focus (with_reducible apply ek_dc; rotate_left; walk_at "ei"; walk_at "eg"; walk_at "et"; walk_at "ed"; walk_at "ed"; decide)))
local macro_rules | `(tactic| walk_at "svN") => `(tactic| first
  | (with_reducible apply sv_seq; walk_at "svN"; walk_at "svN")
  | (with_reducible apply sv_ins; walk_at "ed")
  | (with_reducible apply sv_asgK; walk_at "ek")
  | (with_reducible apply sv_asg; walk_at "ed")
  | (with_reducible apply sv_asgX; walk_at "ex")
  | (with_reducible apply sv_dropX; walk_at "ex")
  | (with_reducible apply sv_retX; walk_at "ex")
  | (with_reducible apply sv_dput; walk_at "ed"; walk_at "ed")
  | (with_reducible apply sv_raise rfl; decide; walk_at "ed")
  | (with_reducible apply sv_if; walk_at "et"; walk_at "svN"; walk_at "svN")
  | (with_reducible apply sv_for; walk_at "ei"; walk_at "es"; walk_at "svN")
  | walk_at "sv")
section
open PySem PySem.Spec PyProof.Rows L2 RZ Sg Tm Wb
local macro_rules | `(tactic| walk_at "r2") => `(tactic| first | with_reducible exact r_I0 | with_reducible exact r_I | with_reducible exact r_eq | with_reducible exact r_ne | with_reducible exact r_isN | with_reducible exact r_notN | with_reducible exact r_ixL | with_reducible exact r_ixT | with_reducible exact r_ixQ | with_reducible exact r_eqD | with_reducible exact r_neD | with_reducible exact r_inD | with_reducible exact r_notInD | with_reducible exact r_mulS | with_reducible exact r_addS)
local macro_rules | `(tactic| walk_at "rcl") => `(tactic| first | with_reducible exact r_list | with_reducible exact r_sort | with_reducible exact r_listS)
local macro_rules | `(tactic| walk_at "el+") => `(tactic| first | (with_reducible apply el_split; walk_at "ed"; walk_at "ed") | (with_reducible apply el_listRg; walk_at "ed"))
local macro_rules | `(tactic| walk_at "ed+") => `(tactic| first | (with_reducible apply ed_slS; walk_at "ed"; walk_at "eo"; walk_at "eo") | walk_at "edk")
local macro_rules | `(tactic| walk_at "svP") => `(tactic| first
  | (with_reducible apply sv_seq; walk_at "svP"; walk_at "svP")
  | (with_reducible apply sv_augI; walk_at "ed")
  | (with_reducible apply sv_asgL; with_reducible apply el_lst; with_reducible exact ea_nil)
  | (with_reducible apply sv_asg; walk_at "ed")
  | (with_reducible apply sv_if; walk_at "et"; walk_at "svP"; walk_at "svP")
  | (with_reducible apply sv_for; walk_at "ei"; walk_at "es"; walk_at "svP")
  | walk_at "sv")
theorem part_at {a b : Str} {c : Nat} (h : c ∉ a.cps.toList) : Txt.partition (a ++ ⟨#[c]⟩ ++ b) ⟨#[c]⟩ = (a, ⟨#[c]⟩, b) := TL.partition_app (s := c) (S := []) rfl h
theorem part_no {a : Str} {c : Nat} (h : c ∉ a.cps.toList) : Txt.partition a ⟨#[c]⟩ = (a, Str.empty, Str.empty) := TL.partition_none (s := c) (S := []) rfl h
theorem strD_abc : strD (.str "abc") = M.ret (([97, 98, 99] : List Nat).map fun c => D.str ⟨#[c]⟩) := rfl
theorem strD_pqr : strD (.str "pqr") = M.ret (([112, 113, 114] : List Nat).map fun c => D.str ⟨#[c]⟩) := rfl
theorem dinM_go (es : List (Key × D)) (z : Str) : dinM false (.str z) (.dk es) = M.ret (.bl (valD es (.inr z)).isSome) := rfl
theorem dgM_go (es : List (Key × D)) (z : Str) : dgM (.dk es) (.str z) = M.opt (valD es (.inr z)) := rfl
theorem eq_sign (a b : Nat) : ((⟨#[a]⟩ : Str) = ⟨#[b]⟩) ↔ a = b := ⟨fun h => by injection h with h; injection h with h; injection h, fun h => by rw [h]⟩
noncomputable def rtX : List D → M D
  | [.str z, .dk es] => M.bnd (M.choose fun n : Nat => es = numD n ∧ n ≤ 100 ∧ z.length ≤ 100000) fun n => M.ret (tieOD (tieOf n z))
  | _ => M.fail
section
variable {P : Program} {w : World} {K : PySem.W.Frag} {mg : Str → Option Value} {base : Heap} {C : Addr} {T : List (Addr × Str)} {cls : Str → Addr}
local macro_rules | `(tactic| walk_at "ed+") => `(tactic| first
  | (with_reducible apply ed_part; walk_at "ed"; walk_at "ed")
  | (with_reducible apply ed_slS; walk_at "ed"; walk_at "eo"; walk_at "eo")
  | walk_at "edk")
local macro_rules | `(tactic| walk_at "svW") => `(tactic| first
  | (with_reducible apply sv_seq; walk_at "svW"; walk_at "svW")
  | (with_reducible apply sv_asg; walk_at "ed")
  | (with_reducible apply sv_asgT; walk_at "ed"; walk_at "es")
  | (with_reducible apply sv_if; walk_at "et"; walk_at "svW"; walk_at "svW")
  | (with_reducible apply sv_for; walk_at "ei"; walk_at "es"; walk_at "svW")
  | walk_at "sv")
abbrev sReadT : Stmt := topS 21
theorem len_rt {ds : List D} {Q : _ → Prop} (h : (rtX ds).run Q) : ds.length = 2 := by
  unfold rtX at h
  split at h
  · rfl
  · exact h.elim
abbrev N_rt : List Str := ["word", "numbers", "colour", "start", "found", "end", "mark"]
theorem sc_rt : FnScope N_rt ["word", "numbers"] (defScope sReadT) := ⟨rfl, rfl, rfl, by decide +kernel, rfl, by decide +kernel, by decide +kernel⟩
theorem ok_rt {f : Addr} {fd : FuncData} {t1 t2 : Tok} (F : Fun K "read_tie" "read_tie" sReadT f fd) (gC : mg "COLOURS" = some (.str "abc" t1)) (gM : mg "MARKS" = some (.str "pqr" t2)) : FnOk P w K mg base CX0 1 f fd ["word", "numbers"] (spD (mkS K C T cls) rtX) := by
  refine F.ok sc_rt (fun vs H Q E h => ?_) (fun cdv A outer s H vs Q E hr h => ?_)
  · obtain ⟨B, G, ds, _, r, h⟩ := h
    rw [r.length]
    exact len_rt h
  · have hu5 : (A.deeper (envOfC "read_tie" (defScope sReadT) s.heap.objs.size f cdv)).units + 65 < cLine := by
      have := hr.un
      omega
    have hu : (A.deeper (envOfC "read_tie" (defScope sReadT) s.heap.objs.size f cdv)).units + 64 < cLine := by omega
    have hu1 : (A.deeper (envOfC "read_tie" (defScope sReadT) s.heap.objs.size f cdv)).units + 1 < cLine := by omega
    refine ⟨_, (pss_cons (ps_for PassesOwn.never rfl (pi_str (pe_glob (v := .str "abc") (by rfl) gC ⟨_, rfl⟩)) (pg_name (i := 2) sc_rt.nd rfl (.inl rfl))
      (pss_cons (ps_asg (pe_partition (pv 0) (pv 2)) (dg_tup (K := K) (n := 3) rfl rfl (pgs_cons (pg_name (i := 3) sc_rt.nd rfl (.inl rfl)) (pgs_cons (pg_name (i := 4) sc_rt.nd rfl (.inl rfl)) (pgs_cons (pg_name (i := 5) sc_rt.nd rfl (.inl rfl)) pgs_nil)))))
      (pss_one (ps_if (PW.pt (pw_and (pt_cmpR op_eq (pv 4) (pv 2) (nomark _)) (pw_and (pt_cmp (pc_din hu1 (pv 3) (pv 1)) (by rfl)) (pw_and1 (pt_cmp (pc_din hu1 (pv 5) (pv 1)) (by rfl)))))) (pss_one (ps_ret (pe_tup (pa_cons (pv 2) (pa_cons (pe_dget hu1 (pv 1) (pv 3) (fun _ _ => rfl)) (pa_cons (pe_dget hu1 (pv 1) (pv 5) (fun _ _ => rfl)) pa_nil)))))) pss_nil))))
      (pss_cons (ps_for PassesOwn.never rfl (pi_str (pe_glob (v := .str "pqr") (by rfl) gM ⟨_, rfl⟩)) (pg_name (i := 6) sc_rt.nd rfl (.inl rfl))
      (pss_one (ps_if (PW.pt (pw_and (pt_cmpR op_eq (pe_slice sl_str (pv 0) po_none (po_some pe_int)) (pv 6) (nomark _)) (pw_and1 (pt_cmp (pc_din hu1 (pe_slice sl_str (pv 0) (po_some pe_int) po_none) (pv 1)) (by rfl))))) (pss_one (ps_ret (pe_tup (pa_cons (pv 6) (pa_cons (pe_dget hu1 (pv 1) (pe_slice sl_str (pv 0) (po_some pe_int) po_none) (fun _ _ => rfl)) pa_nil))))) pss_nil)))
      (pss_one (ps_ret pe_non)))), ?_⟩
    refine run_D (X := E) (S := mkS K C T cls) (N := N_rt) (by walk_at "svW") ?_ h
    intro ds Q hq
    unfold rtX at hq
    split at hq
    · rename_i z es
      obtain ⟨n, ⟨rfl, hn, zl⟩, hq⟩ := hq
      dsimp only at hq ⊢
      have hq : Q (tieOD (tieOf n z)) := hq
      have e : startE N_rt.length [.str z, .dk (numD n)] = [some (.f (.str z)), some (.f (.dk (numD n))), none, none, none, none, none] := rfl
      rw [e]
      simp only [strD_abc, run_bnd, run_ret, run_opt, run_req, run_all, run_choose, run_ite, then_nx, then_rt, then_rl, then_er, then_ct, then_bk, outD_rt, outD_rl, outD_nx, outL_rl, outX_rt, outX_rl, outX_nx, outX_er, mask_nil, mask_cons, mk0_f, mk0_o, mk0_od, mk0_ot, mk0_n, peek_nil, peek_cons, pk_f, pk_o, pk_od, pk_ot, pk_n, dOf_int, dOf_bl, dOf_str, dOf_non, opI0_int, opI_int, unI_int, asB_bl, asI_int, asL_lst, asT_tup, asW_web, eqS_int, eqS_str, ixL_lst, ixT_tup, ixQ_lst, ixQ_tup, lenD_lst, lenD_tup, listD_lst, listD_tup, catD_lst, rng1_int, rng2_int, sName_go, sTup_go, sCons_go, sNil_go, bTup_go, bCons_go, bNil_go, two_go, List.set_cons_zero, List.set_cons_succ, List.getElem?_cons_zero, List.getElem?_cons_succ, Option.join_some, atI_0, atI_1, atI_2, decide_eq_true_eq, wipeE, List.map_cons, List.map_nil, step_nx, step_ct, step_bk, step_rt, step_rl, step_er, vOf_int, vOf_str]
      refine loop_run (fun i ρ => ∃ y2 y3 y4 y5 y6, (∀ j c, j < i → ([97, 98, 99] : List Nat)[j]? = some c → ∀ x y : Int, 0 ≤ x → x < n → 0 ≤ y → y < n → z ≠ tieS [.inr ⟨#[c]⟩, .inl x, .inl y]) ∧ ρ = [some (.f (.str z)), some (.f (.dk (numD n))), y2, y3, y4, y5, y6]) ⟨_, _, _, _, _, (fun j c h => absurd h (Nat.not_lt_zero _)), rfl⟩ ?_ ?_
      · rintro i hi ρ ⟨y2, y3, y4, y5, y6, no, rfl⟩
        have hi3 : i < 3 := hi
        obtain ⟨d, hd, hd2, hd3, eg⟩ : ∃ d, ([97, 98, 99] : List Nat)[i]? = some d ∧ 97 ≤ d ∧ d ≤ 99 ∧ ([.str ⟨#[97]⟩, .str ⟨#[98]⟩, .str ⟨#[99]⟩] : List D)[i]'hi = .str ⟨#[d]⟩ := by
          match i, hi3 with
          | 0, _ => exact ⟨97, rfl, by decide, by decide, rfl⟩
          | 1, _ => exact ⟨98, rfl, by decide, by decide, rfl⟩
          | 2, _ => exact ⟨99, rfl, by decide, by decide, rfl⟩
        rw [eg]
        have step : ∀ (h : ∀ x y : Int, 0 ≤ x → x < n → 0 ≤ y → y < n → z ≠ tieS [.inr ⟨#[d]⟩, .inl x, .inl y]), ∀ j c, j < i + 1 → ([97, 98, 99] : List Nat)[j]? = some c → ∀ x y : Int, 0 ≤ x → x < n → 0 ≤ y → y < n → z ≠ tieS [.inr ⟨#[c]⟩, .inl x, .inl y] := fun h j c hj hc => by
          by_cases ji : j = i
          · rw [ji, hd] at hc
            rw [← Option.some.inj hc]
            exact h
          · exact no j c (by omega) hc
        rcases sp_str z d with nd | ⟨a, b, ez, na⟩
        · have pa : Txt.partition z ⟨#[d]⟩ = (z, Str.empty, Str.empty) := part_no nd
          simp only [asS_str, partM_go, pa, dinM_go, dgM_go, run_bnd, run_ret, run_opt, run_req, run_all, run_choose, run_ite, then_nx, then_rt, then_rl, then_er, then_ct, then_bk, outD_rt, outD_rl, outD_nx, outL_rl, outX_rt, outX_rl, outX_nx, outX_er, mask_nil, mask_cons, mk0_f, mk0_o, mk0_od, mk0_ot, mk0_n, peek_nil, peek_cons, pk_f, pk_o, pk_od, pk_ot, pk_n, dOf_int, dOf_bl, dOf_str, dOf_non, opI0_int, opI_int, unI_int, asB_bl, asI_int, asL_lst, asT_tup, asW_web, eqS_int, eqS_str, ixL_lst, ixT_tup, ixQ_lst, ixQ_tup, lenD_lst, lenD_tup, listD_lst, listD_tup, catD_lst, rng1_int, rng2_int, sName_go, sTup_go, sCons_go, sNil_go, bTup_go, bCons_go, bNil_go, two_go, List.set_cons_zero, List.set_cons_succ, List.getElem?_cons_zero, List.getElem?_cons_succ, Option.join_some, atI_0, atI_1, atI_2, decide_eq_true_eq, wipeE, List.map_cons, List.map_nil, step_nx, step_ct, step_bk, step_rt, step_rl, step_er, vOf_int, vOf_str]
          refine ⟨⟨rfl, zl⟩, rfl, ?_⟩
          have ne : ¬ (Str.empty = (⟨#[d]⟩ : Str)) := fun h => absurd (congrArg (fun z : Str => z.length) h) (show (0 : Nat) ≠ 1 by decide)
          simp only [ne, if_false, Bool.false_eq_true]
          refine ⟨_, _, _, _, _, step fun x y _ _ _ _ e => nd ?_, rfl⟩
          rw [e, tieL_a]
          exact List.mem_append_right _ (List.mem_cons_self ..)
        · have pa : Txt.partition z ⟨#[d]⟩ = (a, ⟨#[d]⟩, b) := by
            rw [ez]
            exact part_at na
          have uni : ∀ x y : Int, 0 ≤ x → x < n → 0 ≤ y → y < n → z = tieS [.inr ⟨#[d]⟩, .inl x, .inl y] → a = (toString x : Str) ∧ b = (toString y : Str) := fun x y x0 x1 y0 y1 e => by
            have e2 := congrArg (fun z : Str => z.cps.toList) (ez.symm.trans e)
            rw [tieL_a] at e2
            rw [app_l, app_l, List.append_assoc] at e2
            obtain ⟨p, q⟩ := app_free (c := d) na (fun h => by have := dig_low x0 (by omega) d h; omega) e2
            exact ⟨str_cps p, str_cps q⟩
          simp only [asS_str, partM_go, pa, dinM_go, dgM_go, val_num hn, run_bnd, run_ret, run_opt, run_req, run_all, run_choose, run_ite, then_nx, then_rt, then_rl, then_er, then_ct, then_bk, outD_rt, outD_rl, outD_nx, outL_rl, outX_rt, outX_rl, outX_nx, outX_er, mask_nil, mask_cons, mk0_f, mk0_o, mk0_od, mk0_ot, mk0_n, peek_nil, peek_cons, pk_f, pk_o, pk_od, pk_ot, pk_n, dOf_int, dOf_bl, dOf_str, dOf_non, opI0_int, opI_int, unI_int, asB_bl, asI_int, asL_lst, asT_tup, asW_web, eqS_int, eqS_str, ixL_lst, ixT_tup, ixQ_lst, ixQ_tup, lenD_lst, lenD_tup, listD_lst, listD_tup, catD_lst, rng1_int, rng2_int, sName_go, sTup_go, sCons_go, sNil_go, bTup_go, bCons_go, bNil_go, two_go, List.set_cons_zero, List.set_cons_succ, List.getElem?_cons_zero, List.getElem?_cons_succ, Option.join_some, atI_0, atI_1, atI_2, decide_eq_true_eq, wipeE, List.map_cons, List.map_nil, step_nx, step_ct, step_bk, step_rt, step_rl, step_er, vOf_int, vOf_str]
          refine ⟨⟨rfl, zl⟩, rfl, ?_⟩
          rw [if_pos trivial]
          cases ea : numOf n a with
          | none =>
            simp only [Option.map_none, Option.isSome_none, Bool.false_eq_true, if_false]
            exact ⟨_, _, _, _, _, step fun x y x0 x1 y0 y1 e => numOf_none ea x0 x1 (uni x y x0 x1 y0 y1 e).1, rfl⟩
          | some x => cases eb : numOf n b with
            | none =>
              simp only [Option.map_none, Option.map_some, Option.isSome_none, Option.isSome_some, Bool.false_eq_true, if_false, if_true]
              exact ⟨_, _, _, _, _, step fun x y x0 x1 y0 y1 e => numOf_none eb y0 y1 (uni x y x0 x1 y0 y1 e).2, rfl⟩
            | some y =>
              obtain ⟨x0, x1, ha⟩ := numOf_some ea
              obtain ⟨y0, y1, hb⟩ := numOf_some eb
              simp only [Option.map_some, Option.isSome_some, if_true, run_opt]
              refine ⟨by show 3 ≤ 100000; decide, ?_⟩
              have t := tieOf_eq (n := n) (k := [.inr ⟨#[d]⟩, .inl x, .inl y]) (by omega) (.inl ⟨d, x, y, rfl, by omega, x0, x1, y0, y1⟩)
              rw [tieS_a, ← ha, ← hb, ← ez] at t
              rw [t] at hq
              exact hq
      · rintro ρ ⟨y2, y3, y4, y5, y6, no1, rfl⟩
        show M.run _ _
        simp only [strD_pqr, run_bnd, run_ret, run_opt, run_req, run_all, run_choose, run_ite, then_nx, then_rt, then_rl, then_er, then_ct, then_bk, outD_rt, outD_rl, outD_nx, outL_rl, outX_rt, outX_rl, outX_nx, outX_er, mask_nil, mask_cons, mk0_f, mk0_o, mk0_od, mk0_ot, mk0_n, peek_nil, peek_cons, pk_f, pk_o, pk_od, pk_ot, pk_n, dOf_int, dOf_bl, dOf_str, dOf_non, opI0_int, opI_int, unI_int, asB_bl, asI_int, asL_lst, asT_tup, asW_web, eqS_int, eqS_str, ixL_lst, ixT_tup, ixQ_lst, ixQ_tup, lenD_lst, lenD_tup, listD_lst, listD_tup, catD_lst, rng1_int, rng2_int, sName_go, sTup_go, sCons_go, sNil_go, bTup_go, bCons_go, bNil_go, two_go, List.set_cons_zero, List.set_cons_succ, List.getElem?_cons_zero, List.getElem?_cons_succ, Option.join_some, atI_0, atI_1, atI_2, decide_eq_true_eq, wipeE, List.map_cons, List.map_nil, step_nx, step_ct, step_bk, step_rt, step_rl, step_er, vOf_int, vOf_str]
        refine loop_run (fun i ρ => ∃ y6, (∀ j c, j < i → ([112, 113, 114] : List Nat)[j]? = some c → ∀ x : Int, 0 ≤ x → x < n → z ≠ tieS [.inr ⟨#[c]⟩, .inl x]) ∧ ρ = [some (.f (.str z)), some (.f (.dk (numD n))), y2, y3, y4, y5, y6]) ⟨_, (fun j c h => absurd h (Nat.not_lt_zero _)), rfl⟩ ?_ ?_
        · rintro i hi ρ ⟨y6, no, rfl⟩
          have hi3 : i < 3 := hi
          obtain ⟨d, hd, hd2, hd3, eg⟩ : ∃ d, ([112, 113, 114] : List Nat)[i]? = some d ∧ 112 ≤ d ∧ d ≤ 114 ∧ ([.str ⟨#[112]⟩, .str ⟨#[113]⟩, .str ⟨#[114]⟩] : List D)[i]'hi = .str ⟨#[d]⟩ := by
            match i, hi3 with
            | 0, _ => exact ⟨112, rfl, by decide, by decide, rfl⟩
            | 1, _ => exact ⟨113, rfl, by decide, by decide, rfl⟩
            | 2, _ => exact ⟨114, rfl, by decide, by decide, rfl⟩
          rw [eg]
          have step : ∀ (h : ∀ x : Int, 0 ≤ x → x < n → z ≠ tieS [.inr ⟨#[d]⟩, .inl x]), ∀ j c, j < i + 1 → ([112, 113, 114] : List Nat)[j]? = some c → ∀ x : Int, 0 ≤ x → x < n → z ≠ tieS [.inr ⟨#[c]⟩, .inl x] := fun h j c hj hc => by
            by_cases ji : j = i
            · rw [ji, hd] at hc
              rw [← Option.some.inj hc]
              exact h
            · exact no j c (by omega) hc
          cases el : z.cps.toList with
          | nil =>
            have ne : ¬ (Str.empty = (⟨#[d]⟩ : Str)) := fun h => absurd (congrArg (fun z : Str => z.length) h) (show (0 : Nat) ≠ 1 by decide)
            simp only [asS_str, cut_nil el, dinM_go, dgM_go, ne, if_false, Bool.false_eq_true, run_bnd, run_ret, run_opt, run_req, run_all, run_choose, run_ite, then_nx, then_rt, then_rl, then_er, then_ct, then_bk, outD_rt, outD_rl, outD_nx, outL_rl, outX_rt, outX_rl, outX_nx, outX_er, mask_nil, mask_cons, mk0_f, mk0_o, mk0_od, mk0_ot, mk0_n, peek_nil, peek_cons, pk_f, pk_o, pk_od, pk_ot, pk_n, dOf_int, dOf_bl, dOf_str, dOf_non, opI0_int, opI_int, unI_int, asB_bl, asI_int, asL_lst, asT_tup, asW_web, eqS_int, eqS_str, ixL_lst, ixT_tup, ixQ_lst, ixQ_tup, lenD_lst, lenD_tup, listD_lst, listD_tup, catD_lst, rng1_int, rng2_int, sName_go, sTup_go, sCons_go, sNil_go, bTup_go, bCons_go, bNil_go, two_go, List.set_cons_zero, List.set_cons_succ, List.getElem?_cons_zero, List.getElem?_cons_succ, Option.join_some, atI_0, atI_1, atI_2, decide_eq_true_eq, wipeE, List.map_cons, List.map_nil, step_nx, step_ct, step_bk, step_rt, step_rl, step_er, vOf_int, vOf_str]
            refine ⟨zl, _, step fun x _ _ e => ?_, rfl⟩
            rw [e, tieL_m] at el
            cases el
          | cons c r =>
            obtain ⟨c1, c2⟩ := cut_head el
            by_cases dc : c = d
            · subst dc
              simp only [asS_str, c1, c2, dinM_go, dgM_go, val_num hn, if_true, run_bnd, run_ret, run_opt, run_req, run_all, run_choose, run_ite, then_nx, then_rt, then_rl, then_er, then_ct, then_bk, outD_rt, outD_rl, outD_nx, outL_rl, outX_rt, outX_rl, outX_nx, outX_er, mask_nil, mask_cons, mk0_f, mk0_o, mk0_od, mk0_ot, mk0_n, peek_nil, peek_cons, pk_f, pk_o, pk_od, pk_ot, pk_n, dOf_int, dOf_bl, dOf_str, dOf_non, opI0_int, opI_int, unI_int, asB_bl, asI_int, asL_lst, asT_tup, asW_web, eqS_int, eqS_str, ixL_lst, ixT_tup, ixQ_lst, ixQ_tup, lenD_lst, lenD_tup, listD_lst, listD_tup, catD_lst, rng1_int, rng2_int, sName_go, sTup_go, sCons_go, sNil_go, bTup_go, bCons_go, bNil_go, two_go, List.set_cons_zero, List.set_cons_succ, List.getElem?_cons_zero, List.getElem?_cons_succ, Option.join_some, atI_0, atI_1, atI_2, decide_eq_true_eq, wipeE, List.map_cons, List.map_nil, step_nx, step_ct, step_bk, step_rt, step_rl, step_er, vOf_int, vOf_str]
              refine ⟨zl, zl, ?_⟩
              cases ea : numOf n (⟨r.toArray⟩ : Str) with
              | none =>
                simp only [Option.map_none, Option.isSome_none, Bool.false_eq_true, if_false]
                refine ⟨_, step fun x x0 x1 e => numOf_none ea x0 x1 (str_cps ?_), rfl⟩
                rw [e, tieL_m] at el
                injection el with _ el
                exact el.symm
              | some x =>
                obtain ⟨x0, x1, ha⟩ := numOf_some ea
                simp only [Option.map_some, Option.isSome_some, if_true, run_opt]
                refine ⟨zl, by show 2 ≤ 100000; decide, ?_⟩
                have t := tieOf_eq (n := n) (k := [.inr ⟨#[c]⟩, .inl x]) (by omega) (.inr ⟨c, x, rfl, by omega, x0, x1⟩)
                have ez : tieS [.inr ⟨#[c]⟩, .inl x] = z := str_cps (by rw [tieL_m, el, ← ha])
                rw [ez] at t
                rw [t] at hq
                exact hq
            · have ne : ¬ ((⟨#[c]⟩ : Str) = ⟨#[d]⟩) := fun h => dc ((eq_sign c d).mp h)
              simp only [asS_str, c1, c2, dinM_go, dgM_go, ne, if_false, Bool.false_eq_true, run_bnd, run_ret, run_opt, run_req, run_all, run_choose, run_ite, then_nx, then_rt, then_rl, then_er, then_ct, then_bk, outD_rt, outD_rl, outD_nx, outL_rl, outX_rt, outX_rl, outX_nx, outX_er, mask_nil, mask_cons, mk0_f, mk0_o, mk0_od, mk0_ot, mk0_n, peek_nil, peek_cons, pk_f, pk_o, pk_od, pk_ot, pk_n, dOf_int, dOf_bl, dOf_str, dOf_non, opI0_int, opI_int, unI_int, asB_bl, asI_int, asL_lst, asT_tup, asW_web, eqS_int, eqS_str, ixL_lst, ixT_tup, ixQ_lst, ixQ_tup, lenD_lst, lenD_tup, listD_lst, listD_tup, catD_lst, rng1_int, rng2_int, sName_go, sTup_go, sCons_go, sNil_go, bTup_go, bCons_go, bNil_go, two_go, List.set_cons_zero, List.set_cons_succ, List.getElem?_cons_zero, List.getElem?_cons_succ, Option.join_some, atI_0, atI_1, atI_2, decide_eq_true_eq, wipeE, List.map_cons, List.map_nil, step_nx, step_ct, step_bk, step_rt, step_rl, step_er, vOf_int, vOf_str]
              refine ⟨zl, _, step fun x _ _ e => dc ?_, rfl⟩
              rw [e, tieL_m] at el
              injection el with el _
              exact el.symm
        · rintro ρ ⟨y6, no2, rfl⟩
          simp only [run_bnd, run_ret, run_opt, run_req, run_all, run_choose, run_ite, then_nx, then_rt, then_rl, then_er, then_ct, then_bk, outD_rt, outD_rl, outD_nx, outL_rl, outX_rt, outX_rl, outX_nx, outX_er, mask_nil, mask_cons, mk0_f, mk0_o, mk0_od, mk0_ot, mk0_n, peek_nil, peek_cons, pk_f, pk_o, pk_od, pk_ot, pk_n, dOf_int, dOf_bl, dOf_str, dOf_non, opI0_int, opI_int, unI_int, asB_bl, asI_int, asL_lst, asT_tup, asW_web, eqS_int, eqS_str, ixL_lst, ixT_tup, ixQ_lst, ixQ_tup, lenD_lst, lenD_tup, listD_lst, listD_tup, catD_lst, rng1_int, rng2_int, sName_go, sTup_go, sCons_go, sNil_go, bTup_go, bCons_go, bNil_go, two_go, List.set_cons_zero, List.set_cons_succ, List.getElem?_cons_zero, List.getElem?_cons_succ, Option.join_some, atI_0, atI_1, atI_2, decide_eq_true_eq, wipeE, List.map_cons, List.map_nil, step_nx, step_ct, step_bk, step_rt, step_rl, step_er, vOf_int, vOf_str]
          have t : tieOf n z = none := tieOf_no fun k hk e => by
            rcases hk with ⟨c, x, y, rfl, hc, x0, x1, y0, y1⟩ | ⟨c, x, rfl, hc, x0, x1⟩
            · rcases hc with rfl | rfl | rfl
              · exact no1 0 97 (by show 0 < 3; decide) rfl x y x0 x1 y0 y1 e
              · exact no1 1 98 (by show 1 < 3; decide) rfl x y x0 x1 y0 y1 e
              · exact no1 2 99 (by show 2 < 3; decide) rfl x y x0 x1 y0 y1 e
            · rcases hc with rfl | rfl | rfl
              · exact no2 0 112 (by show 0 < 3; decide) rfl x x0 x1 e
              · exact no2 1 113 (by show 1 < 3; decide) rfl x x0 x1 e
              · exact no2 2 114 (by show 2 < 3; decide) rfl x x0 x1 e
          rw [t] at hq
          exact hq
    · exact hq.elim
end
end
section
open PySem PySem.Spec PyProof.Rows L2 RZ Sg Tm Wb
local macro_rules | `(tactic| walk_at "r2") => `(tactic| first | with_reducible exact r_I0 | with_reducible exact r_I | with_reducible exact r_eq | with_reducible exact r_ne | with_reducible exact r_isN | with_reducible exact r_notN | with_reducible exact r_ixL | with_reducible exact r_ixT | with_reducible exact r_ixQ | with_reducible exact r_eqD | with_reducible exact r_neD | with_reducible exact r_inD | with_reducible exact r_notInD | with_reducible exact r_mulS | with_reducible exact r_addS)
local macro_rules | `(tactic| walk_at "rcl") => `(tactic| first | with_reducible exact r_list | with_reducible exact r_sort | with_reducible exact r_listS)
local macro_rules | `(tactic| walk_at "el+") => `(tactic| first | (with_reducible apply el_split; walk_at "ed"; walk_at "ed") | (with_reducible apply el_listRg; walk_at "ed"))
local macro_rules | `(tactic| walk_at "ed+") => `(tactic| first | (with_reducible apply ed_slS; walk_at "ed"; walk_at "eo"; walk_at "eo") | walk_at "edk")
local macro_rules | `(tactic| walk_at "svP") => `(tactic| first
  | (with_reducible apply sv_seq; walk_at "svP"; walk_at "svP")
  | (with_reducible apply sv_augI; walk_at "ed")
  | (with_reducible apply sv_asgL; with_reducible apply el_lst; with_reducible exact ea_nil)
  | (with_reducible apply sv_asg; walk_at "ed")
  | (with_reducible apply sv_if; walk_at "et"; walk_at "svP"; walk_at "svP")
  | (with_reducible apply sv_for; walk_at "ei"; walk_at "es"; walk_at "svP")
  | walk_at "sv")
theorem ak_ck {n : Int} {k : Ks} (h : AK n k) (hn : n ≤ 128) : CK k := by
  obtain ⟨c, x, y, rfl, hc, h1, h2, h3, h4⟩ := h
  exact .inl ⟨c, x, y, rfl, by omega, by omega, h1, by omega, h3, by omega⟩
theorem mk_ck {n : Int} {k : Ks} (h : MK n k) (hn : n ≤ 128) : CK k := by
  obtain ⟨c, x, rfl, hc, h1, h2⟩ := h
  exact .inr ⟨c, x, rfl, by omega, by omega, h1, by omega⟩
theorem rcut1 (d : D) (l : List D) : cutD (d :: l) (some 1) none = l := by
  unfold cutD
  rw [HT.sIx_none, show (some (1 : Int)) = some ((1 : Nat) : Int) from rfl, HT.sIx_nat, List.length_cons, Nat.min_eq_left (by omega), List.drop_succ_cons, List.drop_zero, List.take_of_length_le (by omega)]
theorem isN_tie (k : Ks) : isN (tieD k) .non = M.ret (.bl false) := rfl
theorem isN_non : isN .non .non = M.ret (.bl true) := rfl
noncomputable def rdTs (n : Int) : List Str → Ks → Int → Int ⊕ List Ks
  | [], _, _ => .inr []
  | z :: r, ah, i => match tieOf n z with
    | none => .inl i
    | some k => if leKs k ah = true then .inl i else match rdTs n r k (i + 1) with
      | .inl j => .inl j
      | .inr l => .inr (k :: l)
noncomputable def rdO : Int ⊕ List Ks → M Ry
  | .inl i => M.ret (.er ⟨"BadText", "at", .int i⟩)
  | .inr l => M.ret (.ok (l.map tieD))
def glT (p : List Ks) : Int ⊕ List Ks → Int ⊕ List Ks
  | .inl i => .inl i
  | .inr l => .inr (p ++ l)
theorem rdTs_step {n : Int} {z : Str} {r : List Str} {ah k : Ks} {i : Int} (p : List Ks) (h : tieOf n z = some k) (le : leKs k ah = false) : glT p (rdTs n (z :: r) ah i) = glT (p ++ [k]) (rdTs n r k (i + 1)) := by
  simp only [rdTs, h, le, Bool.false_eq_true, if_false]
  cases rdTs n r k (i + 1) with
  | inl j => rfl
  | inr l => show (Sum.inr (p ++ k :: l) : Int ⊕ List Ks) = .inr (p ++ [k] ++ l); rw [List.append_assoc]; rfl
theorem rdTs_bad {n : Int} {z : Str} {r : List Str} {ah : Ks} {i : Int} (p : List Ks) (h : tieOf n z = none ∨ ∃ k, tieOf n z = some k ∧ leKs k ah = true) : glT p (rdTs n (z :: r) ah i) = .inl i := by
  rcases h with h | ⟨k, h, le⟩
  · simp only [rdTs, h]
    rfl
  · simp only [rdTs, h, le, if_true]
    rfl
noncomputable def rtsX : List D → M Ry
  | [.lst ds, .int n] => M.bnd (M.choose fun p : Str × List Str => ds = D.str p.1 :: p.2.map D.str ∧ 0 ≤ n ∧ n ≤ 100 ∧ p.2.length ≤ 10000 ∧ ∀ z ∈ p.2, z.length ≤ 100000) fun p => rdO (rdTs n p.2 [] 1)
  | _ => M.fail
section
variable {P : Program} {w : World} {K : PySem.W.Frag} {mg : Str → Option Value} {base : Heap} {C : Addr} {T : List (Addr × Str)} {cls : Str → Addr}
local macro_rules | `(tactic| walk_at "r2") => `(tactic| first | with_reducible exact r_I0 | with_reducible exact r_I | with_reducible exact r_eq | with_reducible exact r_ne | with_reducible exact r_isN | with_reducible exact r_leC)
local macro_rules | `(tactic| walk_at "ei") => `(tactic| first | (with_reducible apply ei_enS; walk_at "ea"; walk_at "ea") | (with_reducible apply ei_list; walk_at "ed"))
local macro_rules | `(tactic| walk_at "svW") => `(tactic| first
  | (with_reducible apply sv_seq; walk_at "svW"; walk_at "svW")
  | with_reducible exact sv_retV
  | (with_reducible apply sv_raise rfl; decide; walk_at "ed")
  | (with_reducible apply sv_asgL; with_reducible apply el_lst; with_reducible exact ea_nil)
  | (with_reducible apply sv_app; walk_at "ed")
  | (with_reducible apply sv_asg; walk_at "ed")
  | (with_reducible apply sv_if; walk_at "et"; walk_at "svW"; walk_at "svW")
  | (with_reducible apply sv_for; walk_at "ei"; walk_at "es"; walk_at "svW")
  | walk_at "sv")
abbrev sReadTs : Stmt := topS 20
theorem len_rts {ds : List D} {Q : _ → Prop} (h : (rtsX ds).run Q) : ds.length = 2 := by
  unfold rtsX at h
  split at h
  · rfl
  · exact h.elim
abbrev N_rts : List Str := ["words", "points", "numbers", "ties", "ahead", "at", "word", "tie"]
theorem sc_rts : FnScope N_rts ["words", "points"] (defScope sReadTs) := ⟨rfl, rfl, rfl, by decide +kernel, rfl, by decide +kernel, by decide +kernel⟩
theorem ok_rts {f fN fT fE : Addr} {fd dN dT dE : FuncData} (F : Fun K "read_ties" "read_ties" sReadTs f fd) (b : Bq mg) (be : mg "enumerate" = none) (oN : Df P w K mg base 1 "numbers_below" ["bound"] (spD (mkS K C T cls) nubM) fN dN) (oT : Df P w K mg base 1 "read_tie" ["word", "numbers"] (spD (mkS K C T cls) rtX) fT dT) (eB : EDf P w K mg base "BadText" "at" (cls "BadText") fE dE) : FnOk P w K mg base (L2.CX P w) 3 f fd ["words", "points"] (spY (mkS K C T cls) rtsX) := by
  refine F.okX sc_rts (fun vs H Q E h => ?_) (fun cdv A outer s H vs Q E hr h => ?_)
  · obtain ⟨B, G, ds, _, r, h⟩ := h
    rw [r.length]
    exact len_rts h
  · have hu5 : (A.deeper (envOfC "read_ties" (defScope sReadTs) s.heap.objs.size f cdv)).units + 65 < cLine := by
      have := hr.un
      omega
    have hu : (A.deeper (envOfC "read_ties" (defScope sReadTs) s.heap.objs.size f cdv)).units + 64 < cLine := by omega
    have hu1 : (A.deeper (envOfC "read_ties" (defScope sReadTs) s.heap.objs.size f cdv)).units + 1 < cLine := by omega
    refine ⟨_, (pss_cons (ps_set (i := 2) sc_rts.nd rfl (.inl rfl) (pe_call oN.ok (hr.mono (by decide)) (by rfl) oN.gl oN.kp oN.bd .nil pass0 (pa_cons (pv 1) pa_nil)))
      (pss_cons (ps_set (i := 3) sc_rts.nd rfl (.inl rfl) (pe_lst pa_nil))
      (pss_cons (ps_set (i := 4) sc_rts.nd rfl (.inl rfl) (pe_tup pa_nil))
      (pss_cons (ps_for (passes_of rfl) rfl (pi_enS (K := K) rfl (by rfl) be (pa_cons (pe_slice (dv_slL (K := K) rfl) (pv 0) (po_some pe_int) po_none) pa_nil) (pk_cons pe_int pk_nil)) (dg_tup (K := K) (n := 2) rfl rfl (pgs_cons (pg_name (i := 5) sc_rts.nd rfl (.inl rfl)) (pgs_cons (pg_name (i := 6) sc_rts.nd rfl (.inl rfl)) pgs_nil)))
      (pss_cons (ps_set (i := 7) sc_rts.nd rfl (.inl rfl) (pe_call oT.ok (hr.mono (by decide)) (by rfl) oT.gl oT.kp oT.bd .nil pass0 (pa_cons (pv 6) (pa_cons (pv 2) pa_nil))))
      (pss_cons (ps_if (PW.pt (pw_or (pt_cmpR op_isN (pv 7) pe_non (nomark _)) (pw_or1 (pt_cmpR (op_leC (K := K) rfl (Nat.lt_of_le_of_lt (Nat.le_add_right _ 64) hu)) (pv 7) (pv 4) (nomark _))))) (pss_one (ps_raise rfl (takes_of rfl rfl rfl rfl) (pmk_oex eB.er.oe eB.er.iC eB.er.tI eB.ok (hr.mono (by decide)) eB.bd .nil pass0 (by rfl) eB.gl (pa_cons (pv 5) pa_nil)))) pss_nil)
      (pss_cons (ps_expr (pe_bmK (K := K) rfl PySem.F.plainAttrs_list PySem.F.slot_list_append PySem.F.type_list_append mt_append (pv 3) (pa_cons (pv 7) pa_nil)))
      (pss_one (ps_set (i := 4) sc_rts.nd rfl (.inl rfl) (pv 7)))))))
      (pss_one (ps_ret (pv 3))))))), ?_⟩
    refine run_Y (X := E) (S := mkS K C T cls) (N := N_rts) (by walk_at "svW") ?_ h
    intro ds Q hq
    unfold rtsX at hq
    split at hq
    · rename_i ds n
      obtain ⟨⟨z, zs⟩, ⟨rfl, n0, n1, ll, lz⟩, hq⟩ := hq
      dsimp only at ll lz hq ⊢
      have e : startE N_rts.length [.lst (.str z :: zs.map D.str), .int n] = [some (.f (.lst (.str z :: zs.map D.str))), some (.f (.int n)), none, none, none, none, none, none] := rfl
      rw [e]
      simp only [nubM_go, enSM_go, run_bnd, run_ret, run_opt, run_req, run_all, run_choose, run_ite, then_nx, then_rt, then_rl, then_er, then_ct, then_bk, outD_rt, outD_rl, outD_nx, outL_rl, outX_rt, outX_rl, outX_nx, outX_er, mask_nil, mask_cons, mk0_f, mk0_o, mk0_od, mk0_ot, mk0_n, peek_nil, peek_cons, pk_f, pk_o, pk_od, pk_ot, pk_n, dOf_int, dOf_bl, dOf_str, dOf_non, opI0_int, opI_int, unI_int, asB_bl, asI_int, asL_lst, asT_tup, asW_web, eqS_int, eqS_str, ixL_lst, ixT_tup, ixQ_lst, ixQ_tup, lenD_lst, lenD_tup, listD_lst, listD_tup, catD_lst, rng1_int, rng2_int, sName_go, sTup_go, sCons_go, sNil_go, bTup_go, bCons_go, bNil_go, two_go, List.set_cons_zero, List.set_cons_succ, List.getElem?_cons_zero, List.getElem?_cons_succ, Option.join_some, atI_0, atI_1, atI_2, decide_eq_true_eq, wipeE, List.map_cons, List.map_nil, step_nx, step_ct, step_bk, step_rt, step_rl, step_er, vOf_int, vOf_str]
      refine ⟨⟨n0, n1⟩, Nat.zero_le _, Nat.zero_le _, trivial, ?_⟩
      rw [rcut1]
      have hq0 : glT [] (rdTs n zs [] 1) = rdTs n zs [] 1 := by
        cases rdTs n zs [] 1 <;> rfl
      refine loop_run (fun i ρ => ∃ y5 y6 y7, ∃ (ah : Ks) (p : List Ks), (ah = [] ∨ CK ah) ∧ p.length ≤ i ∧ glT p (rdTs n (zs.drop i) ah ((1 + i : Nat) : Int)) = rdTs n zs [] 1 ∧ ρ = [some (.f (.lst (.str z :: zs.map D.str))), some (.f (.int n)), some (.f (.dk (numD n.toNat))), some (.o (p.map tieD)), some (.f (tieD ah)), y5, y6, y7]) ⟨_, _, _, [], [], .inl rfl, Nat.zero_le _, hq0, rfl⟩ ?_ ?_
      · rintro i hi ρ ⟨y5, y6, y7, ah, p, hah, pl, hr, rfl⟩
        have hi2 : i < zs.length := by rw [enD_len, List.length_map] at hi; exact hi
        obtain ⟨u, eu⟩ : ∃ u, zs[i]'hi2 = u := ⟨_, rfl⟩
        have ek2 : zs[i]? = some u := by rw [List.getElem?_eq_getElem hi2, eu]
        have eg : (enD 1 (zs.map D.str))[i]'hi = .tup [.int ((1 + i : Nat) : Int), .str u] := by
          have h := enD_get (zs.map D.str) 1 i
          have h2 : (zs.map D.str)[i]? = some (.str u) := by
            rw [List.getElem?_map, ek2]
            rfl
          rw [List.getElem?_eq_getElem hi, h2] at h
          exact Option.some.inj h
        have nn : ((n.toNat : Nat) : Int) = n := by omega
        have lu := lz u (List.mem_of_getElem? ek2)
        rw [List.drop_eq_getElem_cons hi2, eu] at hr
        rw [eg]
        simp only [run_bnd, run_ret, run_opt, run_req, run_all, run_choose, run_ite, then_nx, then_rt, then_rl, then_er, then_ct, then_bk, outD_rt, outD_rl, outD_nx, outL_rl, outX_rt, outX_rl, outX_nx, outX_er, mask_nil, mask_cons, mk0_f, mk0_o, mk0_od, mk0_ot, mk0_n, peek_nil, peek_cons, pk_f, pk_o, pk_od, pk_ot, pk_n, dOf_int, dOf_bl, dOf_str, dOf_non, opI0_int, opI_int, unI_int, asB_bl, asI_int, asL_lst, asT_tup, asW_web, eqS_int, eqS_str, ixL_lst, ixT_tup, ixQ_lst, ixQ_tup, lenD_lst, lenD_tup, listD_lst, listD_tup, catD_lst, rng1_int, rng2_int, sName_go, sTup_go, sCons_go, sNil_go, bTup_go, bCons_go, bNil_go, two_go, List.set_cons_zero, List.set_cons_succ, List.getElem?_cons_zero, List.getElem?_cons_succ, Option.join_some, atI_0, atI_1, atI_2, decide_eq_true_eq, wipeE, List.map_cons, List.map_nil, step_nx, step_ct, step_bk, step_rt, step_rl, step_er, vOf_int, vOf_str]
        refine ⟨rfl, n.toNat, ⟨rfl, by omega, lu⟩, ?_⟩
        simp only [nn]
        cases et : tieOf n u with
        | none =>
          simp only [tieOD, isN_non, if_true, run_bnd, run_ret, run_opt, run_req, run_all, run_choose, run_ite, then_nx, then_rt, then_rl, then_er, then_ct, then_bk, outD_rt, outD_rl, outD_nx, outL_rl, outX_rt, outX_rl, outX_nx, outX_er, mask_nil, mask_cons, mk0_f, mk0_o, mk0_od, mk0_ot, mk0_n, peek_nil, peek_cons, pk_f, pk_o, pk_od, pk_ot, pk_n, dOf_int, dOf_bl, dOf_str, dOf_non, opI0_int, opI_int, unI_int, asB_bl, asI_int, asL_lst, asT_tup, asW_web, eqS_int, eqS_str, ixL_lst, ixT_tup, ixQ_lst, ixQ_tup, lenD_lst, lenD_tup, listD_lst, listD_tup, catD_lst, rng1_int, rng2_int, sName_go, sTup_go, sCons_go, sNil_go, bTup_go, bCons_go, bNil_go, two_go, List.set_cons_zero, List.set_cons_succ, List.getElem?_cons_zero, List.getElem?_cons_succ, Option.join_some, atI_0, atI_1, atI_2, decide_eq_true_eq, wipeE, List.map_cons, List.map_nil, step_nx, step_ct, step_bk, step_rt, step_rl, step_er, vOf_int, vOf_str]
          rw [← hr, rdTs_bad p (.inl et)] at hq
          exact hq
        | some k =>
          obtain ⟨hk, ez⟩ := tieOf_some et
          have ck : CK k := hk.elim (fun h => ak_ck h (by omega)) (fun h => mk_ck h (by omega))
          simp only [tieOD, isN_tie, run_bnd, run_ret, run_opt, run_req, run_all, run_choose, run_ite, then_nx, then_rt, then_rl, then_er, then_ct, then_bk, outD_rt, outD_rl, outD_nx, outL_rl, outX_rt, outX_rl, outX_nx, outX_er, mask_nil, mask_cons, mk0_f, mk0_o, mk0_od, mk0_ot, mk0_n, peek_nil, peek_cons, pk_f, pk_o, pk_od, pk_ot, pk_n, dOf_int, dOf_bl, dOf_str, dOf_non, opI0_int, opI_int, unI_int, asB_bl, asI_int, asL_lst, asT_tup, asW_web, eqS_int, eqS_str, ixL_lst, ixT_tup, ixQ_lst, ixQ_tup, lenD_lst, lenD_tup, listD_lst, listD_tup, catD_lst, rng1_int, rng2_int, sName_go, sTup_go, sCons_go, sNil_go, bTup_go, bCons_go, bNil_go, two_go, List.set_cons_zero, List.set_cons_succ, List.getElem?_cons_zero, List.getElem?_cons_succ, Option.join_some, atI_0, atI_1, atI_2, decide_eq_true_eq, wipeE, List.map_cons, List.map_nil, step_nx, step_ct, step_bk, step_rt, step_rl, step_er, vOf_int, vOf_str]
          refine leM_run ck hah ?_
          cases le : leKs k ah with
          | true =>
            rw [← hr, rdTs_bad p (.inr ⟨k, et, le⟩)] at hq
            simp only [if_true, run_bnd, run_ret, run_opt, run_req, run_all, run_choose, run_ite, then_nx, then_rt, then_rl, then_er, then_ct, then_bk, outD_rt, outD_rl, outD_nx, outL_rl, outX_rt, outX_rl, outX_nx, outX_er, mask_nil, mask_cons, mk0_f, mk0_o, mk0_od, mk0_ot, mk0_n, peek_nil, peek_cons, pk_f, pk_o, pk_od, pk_ot, pk_n, dOf_int, dOf_bl, dOf_str, dOf_non, opI0_int, opI_int, unI_int, asB_bl, asI_int, asL_lst, asT_tup, asW_web, eqS_int, eqS_str, ixL_lst, ixT_tup, ixQ_lst, ixQ_tup, lenD_lst, lenD_tup, listD_lst, listD_tup, catD_lst, rng1_int, rng2_int, sName_go, sTup_go, sCons_go, sNil_go, bTup_go, bCons_go, bNil_go, two_go, List.set_cons_zero, List.set_cons_succ, List.getElem?_cons_zero, List.getElem?_cons_succ, Option.join_some, atI_0, atI_1, atI_2, decide_eq_true_eq, wipeE, List.map_cons, List.map_nil, step_nx, step_ct, step_bk, step_rt, step_rl, step_er, vOf_int, vOf_str]
            exact hq
          | false =>
            simp only [Bool.false_eq_true, if_false, own_0, own_S, List.length_map, run_bnd, run_ret, run_opt, run_req, run_all, run_choose, run_ite, then_nx, then_rt, then_rl, then_er, then_ct, then_bk, outD_rt, outD_rl, outD_nx, outL_rl, outX_rt, outX_rl, outX_nx, outX_er, mask_nil, mask_cons, mk0_f, mk0_o, mk0_od, mk0_ot, mk0_n, peek_nil, peek_cons, pk_f, pk_o, pk_od, pk_ot, pk_n, dOf_int, dOf_bl, dOf_str, dOf_non, opI0_int, opI_int, unI_int, asB_bl, asI_int, asL_lst, asT_tup, asW_web, eqS_int, eqS_str, ixL_lst, ixT_tup, ixQ_lst, ixQ_tup, lenD_lst, lenD_tup, listD_lst, listD_tup, catD_lst, rng1_int, rng2_int, sName_go, sTup_go, sCons_go, sNil_go, bTup_go, bCons_go, bNil_go, two_go, List.set_cons_zero, List.set_cons_succ, List.getElem?_cons_zero, List.getElem?_cons_succ, Option.join_some, atI_0, atI_1, atI_2, decide_eq_true_eq, wipeE, List.map_cons, List.map_nil, step_nx, step_ct, step_bk, step_rt, step_rl, step_er, vOf_int, vOf_str]
            rw [rdTs_step p et le] at hr
            refine ⟨by omega, some (.f (.int ((1 + i : Nat) : Int))), some (.f (.str u)), some (.f (tieD k)), k, p ++ [k], .inr ck, by rw [List.length_append]; show p.length + 1 ≤ i + 1; omega, ?_, ?_⟩
            · rw [← hr]
              congr 2
            · rw [List.map_append]
              rfl
      · rintro ρ ⟨y5, y6, y7, ah, p, hah, pl, hr, rfl⟩
        rw [enD_len, List.length_map, List.drop_of_length_le (Nat.le_refl _)] at hr
        rw [← hr] at hq
        have e2 : glT p (rdTs n [] ah ((1 + zs.length : Nat) : Int)) = .inr p := by
          show (Sum.inr (p ++ []) : Int ⊕ List Ks) = _
          rw [List.append_nil]
        rw [e2] at hq
        exact hq
    · exact hq.elim
end
end
section
open PySem PySem.Spec PyProof.Rows L2 RZ Sg Tm Wb
local macro_rules | `(tactic| walk_at "r2") => `(tactic| first | with_reducible exact r_I0 | with_reducible exact r_I | with_reducible exact r_eq | with_reducible exact r_ne | with_reducible exact r_isN | with_reducible exact r_notN | with_reducible exact r_ixL | with_reducible exact r_ixT | with_reducible exact r_ixQ | with_reducible exact r_eqD | with_reducible exact r_neD | with_reducible exact r_inD | with_reducible exact r_notInD | with_reducible exact r_mulS | with_reducible exact r_addS)
local macro_rules | `(tactic| walk_at "rcl") => `(tactic| first | with_reducible exact r_list | with_reducible exact r_sort | with_reducible exact r_listS)
local macro_rules | `(tactic| walk_at "el+") => `(tactic| first | (with_reducible apply el_split; walk_at "ed"; walk_at "ed") | (with_reducible apply el_listRg; walk_at "ed"))
local macro_rules | `(tactic| walk_at "ed+") => `(tactic| first | (with_reducible apply ed_slS; walk_at "ed"; walk_at "eo"; walk_at "eo") | walk_at "edk")
local macro_rules | `(tactic| walk_at "svP") => `(tactic| first
  | (with_reducible apply sv_seq; walk_at "svP"; walk_at "svP")
  | (with_reducible apply sv_augI; walk_at "ed")
  | (with_reducible apply sv_asgL; with_reducible apply el_lst; with_reducible exact ea_nil)
  | (with_reducible apply sv_asg; walk_at "ed")
  | (with_reducible apply sv_if; walk_at "et"; walk_at "svP"; walk_at "svP")
  | (with_reducible apply sv_for; walk_at "ei"; walk_at "es"; walk_at "svP")
  | walk_at "sv")
theorem code_a (c : Nat) (x y : Int) : TS.code 128 (([.inr ⟨#[c]⟩, .inl x, .inl y] : Ks).map numK) = ((c : Int) * 128 + x) * 128 + y := by
  show (c : Int) * 128 ^ 2 + (x * 128 ^ 1 + (y * 128 ^ 0 + 0)) = _
  omega
theorem code_m (c : Nat) (x : Int) : TS.code 128 (([.inr ⟨#[c]⟩, .inl x] : Ks).map numK) = (c : Int) * 128 + x := by
  show (c : Int) * 128 ^ 1 + (x * 128 ^ 0 + 0) = _
  omega
def fa (l : List Ks) : List Ks := l.filter fun k => decide (k.length = 3)
def fm (l : List Ks) : List Ks := l.filter fun k => decide (k.length = 2)
theorem tk_ne {n : Int} {k : Ks} (h : AK n k ∨ MK n k) : k ≠ [] := by
  rcases h with ⟨c, x, y, rfl, _⟩ | ⟨c, x, rfl, _⟩ <;> exact fun z => nomatch z
theorem rdTs_ok {n : Int} : ∀ {ws : List Str} {ah : Ks} {i : Int} {l : List Ks}, rdTs n ws ah i = .inr l → ws = l.map tieS ∧ (∀ k ∈ l, AK n k ∨ MK n k) ∧ (∀ k ∈ l, ah ≠ [] → tc ah < tc k) ∧ l.Pairwise fun p q => tc p < tc q
  | [], ah, i, l, h => by
    simp only [rdTs] at h
    rw [← Sum.inr.inj h]
    exact ⟨rfl, (fun k hk => nomatch hk), (fun k hk => nomatch hk), .nil⟩
  | z :: r, ah, i, l, h => by
    cases et : tieOf n z with
    | none =>
      simp only [rdTs, et] at h
      cases h
    | some k =>
      cases le : leKs k ah with
      | true =>
        simp only [rdTs, et, le, if_true] at h
        cases h
      | false =>
        simp only [rdTs, et, le, Bool.false_eq_true, if_false] at h
        cases er : rdTs n r k (i + 1) with
        | inl j =>
          rw [er] at h
          cases h
        | inr l' =>
          rw [er] at h
          obtain ⟨e1, e2, e3, e4⟩ := rdTs_ok er
          obtain ⟨hk, ez⟩ := tieOf_some et
          rw [← Sum.inr.inj h]
          have kn := tk_ne hk
          have low : ah ≠ [] → tc ah < tc k := fun hn => by
            unfold leKs at le
            rw [if_neg hn, decide_eq_false_iff_not] at le
            omega
          refine ⟨by rw [List.map_cons, ← ez, ← e1], fun q hq => (List.mem_cons.mp hq).elim (fun e => e ▸ hk) (e2 q), fun q hq hn => (List.mem_cons.mp hq).elim (fun e => e ▸ low hn) (fun m => Int.lt_trans (low hn) (e3 q m kn)), List.pairwise_cons.mpr ⟨fun q hq => e3 q hq kn, e4⟩⟩
theorem fa_fm {n : Int} : ∀ {l : List Ks}, (∀ k ∈ l, AK n k ∨ MK n k) → n ≤ 128 → l.Pairwise (fun p q => tc p < tc q) → l = fa l ++ fm l
  | [], _, _, _ => rfl
  | k :: l, tk, hn, ris => by
    obtain ⟨r1, r2⟩ := List.pairwise_cons.mp ris
    have ih := fa_fm (fun q hq => tk q (List.mem_cons_of_mem _ hq)) hn r2
    rcases tk k (List.mem_cons_self ..) with ⟨c, x, y, rfl, hc, x0, x1, y0, y1⟩ | ⟨c, x, rfl, hc, x0, x1⟩
    · show _ = (_ :: fa l) ++ fm l
      rw [List.cons_append, ← ih]
    · have fl : fa l = [] := List.filter_eq_nil_iff.mpr fun q hq => by
        have lt := r1 q hq
        rcases tk q (List.mem_cons_of_mem _ hq) with ⟨c', x', y', rfl, hc', x0', x1', y0', y1'⟩ | ⟨c', x', rfl, hc', x0', x1'⟩
        · rw [tc_a, tc_m] at lt
          omega
        · simp
      rw [fl, List.nil_append] at ih
      show _ = fa l ++ (_ :: fm l)
      rw [fl, List.nil_append, ← ih]
theorem web_fa {n : Int} {l : List Ks} (n0 : 0 ≤ n) (hn : n ≤ 100) (tk : ∀ k ∈ l, AK n k ∨ MK n k) (ris : l.Pairwise fun p q => tc p < tc q) (len : l.length ≤ 19500) : WebK n (fa l) (fm l) := by
  have ka : ∀ k ∈ fa l, AK n k := fun k hk => by
    obtain ⟨h1, h2⟩ := List.mem_filter.mp hk
    rcases tk k h1 with h | ⟨c, x, rfl, _⟩
    · exact h
    · simp at h2
  have km : ∀ k ∈ fm l, MK n k := fun k hk => by
    obtain ⟨h1, h2⟩ := List.mem_filter.mp hk
    rcases tk k h1 with ⟨c, x, y, rfl, _⟩ | h
    · simp at h2
    · exact h
  have pa : (fa l).Pairwise fun p q => tc p < tc q := ris.sublist List.filter_sublist
  have pm : (fm l).Pairwise fun p q => tc p < tc q := ris.sublist List.filter_sublist
  have nd : ∀ {m : List Ks}, m.Pairwise (fun p q => tc p < tc q) → m.Nodup := fun h => h.imp fun h e => by rw [e] at h; omega
  have la : (fa l).length ≤ l.length := List.length_filter_le _ _
  have lm : (fm l).length ≤ l.length := List.length_filter_le _ _
  refine ⟨n0, ka, km, ⟨fun _ h => h, fun _ h => h, nd pa, ?_⟩, ⟨fun _ h => h, fun _ h => h, nd pm, ?_⟩, by omega, by omega⟩
  · refine pa.imp_of_mem fun {p q} hp hq h => ?_
    obtain ⟨c, x, y, rfl, _, x0, x1, y0, y1⟩ := ka p hp
    obtain ⟨c', x', y', rfl, _, x0', x1', y0', y1'⟩ := ka q hq
    rw [tc_a, tc_a] at h
    rw [code_a, code_a]
    omega
  · refine pm.imp_of_mem fun {p q} hp hq h => ?_
    obtain ⟨c, x, rfl, _, x0, x1⟩ := km p hp
    obtain ⟨c', x', rfl, _, x0', x1'⟩ := km q hq
    rw [tc_m, tc_m] at h
    rw [code_m, code_m]
    omega
theorem jn_sum (c : Nat) : ∀ {l : List (List Nat)}, l ≠ [] → (jnL c l).length + 1 = (l.map (·.length)).sum + l.length
  | [], h => absurd rfl h
  | [x], _ => by simp [jnL]
  | x :: y :: r, _ => by
    rw [jn_cons]
    have := jn_sum c (l := y :: r) (fun z => nomatch z)
    simp only [List.map_cons, List.sum_cons, List.length_cons, List.length_append] at this ⊢
    omega
theorem mem_sum {x : Nat} : ∀ {l : List Nat}, x ∈ l → x ≤ l.sum
  | [], h => nomatch h
  | y :: l, h => by
    rw [List.sum_cons]
    rcases List.mem_cons.mp h with rfl | h
    · omega
    · have := mem_sum h; omega
theorem join_sum {l : List Str} (h : l ≠ []) : (Str.join " " l).length + 1 = (l.map (·.length)).sum + l.length := by
  have e : (Str.join " " l).length = (jnL 32 (l.map fun w => w.cps.toList)).length := by
    rw [← join_l 32 l, Array.length_toList]
    rfl
  rw [e, jn_sum 32 (fun z => h (List.map_eq_nil_iff.mp z)), List.map_map, List.length_map]
  congr 2
noncomputable def rdW (w0 : Str) (ws : List Str) : M Rx := match numOf 82 w0 with
  | none => M.ret (.er ⟨"BadText", "at", .int 0⟩)
  | some n => match rdTs n ws [] 1 with
    | .inl i => M.ret (.er ⟨"BadText", "at", .int i⟩)
    | .inr l => M.ret (.ok (.web n (fa l) (fm l)))
noncomputable def rwX : List D → M Rx
  | [.str t] => M.bnd (M.choose fun p : Str × List Str => t = Str.join " " (p.1 :: p.2) ∧ (∀ w ∈ p.1 :: p.2, 32 ∉ w.cps.toList) ∧ t.length ≤ 9000) fun p => rdW p.1 p.2
  | _ => M.fail
section
variable {P : Program} {w : World} {K : PySem.W.Frag} {mg : Str → Option Value} {base : Heap} {C : Addr} {T : List (Addr × Str)} {cls : Str → Addr}
local macro_rules | `(tactic| walk_at "ed+") => `(tactic| first | (with_reducible apply ed_dget1; walk_at "ed"; walk_at "ed") | walk_at "edk")
local macro_rules | `(tactic| walk_at "el+") => `(tactic| first | (with_reducible apply el_split; walk_at "ed"; walk_at "ed") | (with_reducible apply el_listRg; walk_at "ed"))
local macro_rules | `(tactic| walk_at "ex") => `(tactic| first | (with_reducible apply ex_callY; walk_at "ea") | (with_reducible apply ex_call; walk_at "ea"))
local macro_rules | `(tactic| walk_at "svW") => `(tactic| first
  | (with_reducible apply sv_seq; walk_at "svW"; walk_at "svW")
  | (with_reducible apply sv_raise rfl; decide; walk_at "ed")
  | (with_reducible apply sv_asg; walk_at "ed")
  | (with_reducible apply sv_asgX; walk_at "ex")
  | (with_reducible apply sv_if; walk_at "et"; walk_at "svW"; walk_at "svW")
  | walk_at "sv")
abbrev sReadW : Stmt := topS 19
theorem len_rw {ds : List D} {Q : _ → Prop} (h : (rwX ds).run Q) : ds.length = 1 := by
  unfold rwX at h
  split at h
  · rfl
  · exact h.elim
abbrev N_rw : List Str := ["text", "words", "points", "ties", "arrows", "tie", "marks"]
theorem sc_rw : FnScope N_rw ["text"] (defScope sReadW) := ⟨rfl, rfl, rfl, by decide +kernel, rfl, by decide +kernel, by decide +kernel⟩
theorem ok_rw {f fN fTs fE : Addr} {fd dN dTs dE : FuncData} {t1 : Tok} (F : Fun K "read_web" "read_web" sReadW f fd) (b : Bq mg) (gP : mg "MOST_POINTS" = some (.int 81 t1)) (oN : Df P w K mg base 1 "numbers_below" ["bound"] (spD (mkS K C T cls) nubM) fN dN) (oTs : DfX P w K mg base 3 "read_ties" ["words", "points"] (spY (mkS K C T cls) rtsX) fTs dTs) (eB : EDf P w K mg base "BadText" "at" (cls "BadText") fE dE) {fI ta tm : Addr} {dI : FuncData} (gW : mg "Web" = some (.ref C)) (Mq : Mk K C fI) (FI : FunD K "__init__" "Web.__init__" (defArgs sInit) (defBody sInit) (defScope sInit) [] [("arrows", .ref ta), ("marks", .ref tm)] fI dI) (oI : FnOk P w K mg base CX0 2 fI dI psI (spInit K C)) : FnOk P w K mg base (L2.CX P w) 5 f fd ["text"] (spX (mkS K C T cls) rwX) := by
  obtain ⟨mv2, k2⟩ := kb2 FI (fun z => nomatch z)
  refine F.okX sc_rw (fun vs H Q E h => ?_) (fun cdv A outer s H vs Q E hr h => ?_)
  · obtain ⟨B, G, ds, _, r, h⟩ := h
    rw [r.length]
    exact len_rw h
  · have hu5 : (A.deeper (envOfC "read_web" (defScope sReadW) s.heap.objs.size f cdv)).units + 65 < cLine := by
      have := hr.un
      omega
    have hu : (A.deeper (envOfC "read_web" (defScope sReadW) s.heap.objs.size f cdv)).units + 64 < cLine := by omega
    have hu1 : (A.deeper (envOfC "read_web" (defScope sReadW) s.heap.objs.size f cdv)).units + 1 < cLine := by omega
    refine ⟨_, (pss_cons (ps_set (i := 1) sc_rw.nd rfl (.inl rfl) (pe_splitAny (pv 0) pe_str))
      (pss_cons (ps_set (i := 2) sc_rw.nd rfl (.inl rfl) (pe_dget1 hu1 (pe_call oN.ok (hr.mono (by decide)) (by rfl) oN.gl oN.kp oN.bd .nil pass0 (pa_cons (pe_op op_add (pe_glob (v := .int 81) (by rfl) gP ⟨_, rfl⟩) pe_int) pa_nil)) (pe_ix (dx_list (K := K) rfl) (pv 1) pe_int (fun _ _ => rfl)) ⟨rfl, rfl, rfl, rfl⟩))
      (pss_cons (ps_if (pt_cmpR op_isN (pv 2) pe_non (nomark _)) (pss_one (ps_raise rfl (takes_of rfl rfl rfl rfl) (pmk_oex eB.er.oe eB.er.iC eB.er.tI eB.ok (hr.mono (by decide)) eB.bd .nil pass0 (by rfl) eB.gl (pa_cons pe_int pa_nil)))) pss_nil)
      (pss_cons (ps_set (i := 3) sc_rw.nd rfl (.inl rfl) (pe_call oTs.ok (hr.mono (by decide)) (by rfl) oTs.gl oTs.kp oTs.bd .nil (passE rfl rfl rfl rfl) (pa_cons (pv 1) (pa_cons (pv 2) pa_nil))))
      (pss_cons (ps_setLc (i := 4) (own := [("tie", 5)]) (g := gName 5) (tt := _) rfl sc_rw.nd rfl rfl (sw_true rfl rfl rfl (by decide +kernel)) (di_list (K := K) rfl (pv 3)) (blkOk_by (N := N_rw) (sc := defScope sReadW) (by decide +kernel)) (fun _ _ _ _ _ => (pg_name (i := 5) sc_rw.nd rfl (.inl rfl))) (fun _ _ _ _ _ => pts_one (pt_cmpR op_eq (pe_callB (dv_len (K := K) rfl) (by rfl) b.len PySem.boot_len (pa_cons (pv 5) pa_nil)) pe_int (nomark _))) (fun _ _ _ _ _ => (pv 5)))
      (pss_cons (ps_setLc (i := 6) (own := [("tie", 5)]) (g := gName 5) (tt := _) rfl sc_rw.nd rfl rfl (sw_true rfl rfl rfl (by decide +kernel)) (di_list (K := K) rfl (pv 3)) (blkOk_by (N := N_rw) (sc := defScope sReadW) (by decide +kernel)) (fun _ _ _ _ _ => (pg_name (i := 5) sc_rw.nd rfl (.inl rfl))) (fun _ _ _ _ _ => pts_one (pt_cmpR op_eq (pe_callB (dv_len (K := K) rfl) (by rfl) b.len PySem.boot_len (pa_cons (pv 5) pa_nil)) pe_int (nomark _))) (fun _ _ _ _ _ => (pv 5)))
      (pss_one (ps_ret (pe_makeK Mq oI (hr.mono (by decide)) (by rfl) gW k2 pass0 (pa_cons (pv 2) pa_nil) (pk_cons (pv 4) (pk_cons (pv 6) pk_nil))))))))))), ?_⟩
    refine run_X (X := E) (S := mkS K C T cls) (N := N_rw) (by walk_at "svW") ?_ h
    intro ds Q hq
    unfold rwX at hq
    split at hq
    · rename_i t
      obtain ⟨⟨w0, ws⟩, ⟨rfl, hf, hl⟩, hq⟩ := hq
      dsimp only at hf hl hq ⊢
      have hq : (rdW w0 ws).run Q := hq
      have e : startE N_rw.length [.str (Str.join " " (w0 :: ws))] = [some (.f (.str (Str.join " " (w0 :: ws)))), none, none, none, none, none, none] := rfl
      rw [e]
      have sp : Txt.split (Str.join " " (w0 :: ws)) " " = w0 :: ws := split_join (c := 32) (fun z => nomatch z) hf
      have js := join_sum (l := w0 :: ws) (fun z => nomatch z)
      rw [List.map_cons, List.sum_cons, List.length_cons] at js
      simp only [asS_str, splitM_go, sp, nubM_go, asK_go, run_bnd, run_ret, run_opt, run_req, run_all, run_choose, run_ite, then_nx, then_rt, then_rl, then_er, then_ct, then_bk, outD_rt, outD_rl, outD_nx, outL_rl, outX_rt, outX_rl, outX_nx, outX_er, mask_nil, mask_cons, mk0_f, mk0_o, mk0_od, mk0_ot, mk0_n, peek_nil, peek_cons, pk_f, pk_o, pk_od, pk_ot, pk_n, dOf_int, dOf_bl, dOf_str, dOf_non, opI0_int, opI_int, unI_int, asB_bl, asI_int, asL_lst, asT_tup, asW_web, eqS_int, eqS_str, ixL_lst, ixT_tup, ixQ_lst, ixQ_tup, lenD_lst, lenD_tup, listD_lst, listD_tup, catD_lst, rng1_int, rng2_int, sName_go, sTup_go, sCons_go, sNil_go, bTup_go, bCons_go, bNil_go, two_go, List.set_cons_zero, List.set_cons_succ, List.getElem?_cons_zero, List.getElem?_cons_succ, Option.join_some, atI_0, atI_1, atI_2, decide_eq_true_eq, wipeE, List.map_cons, List.map_nil, step_nx, step_ct, step_bk, step_rt, step_rl, step_er, vOf_int, vOf_str]
      have g1 : ∀ {Q : D → Prop}, Q (((numOf 82 w0).map D.int).getD .non) → (getM (.dk (numD (81 + 1 : Int).toNat)) (.str w0) .non).run Q := fun {Q} q => by
        rw [getM_go]
        show Q ((valD (numD 82) (.inr w0)).getD .non)
        rw [val_num (by decide)]
        exact q
      refine ⟨⟨by decide, by omega⟩, ⟨by decide, by decide⟩, g1 ?_⟩
      cases en : numOf 82 w0 with
      | none =>
        simp only [rdW, en] at hq
        simp only [Option.map_none, Option.getD_none, isN_non, if_true, run_bnd, run_ret, run_opt, run_req, run_all, run_choose, run_ite, then_nx, then_rt, then_rl, then_er, then_ct, then_bk, outD_rt, outD_rl, outD_nx, outL_rl, outX_rt, outX_rl, outX_nx, outX_er, mask_nil, mask_cons, mk0_f, mk0_o, mk0_od, mk0_ot, mk0_n, peek_nil, peek_cons, pk_f, pk_o, pk_od, pk_ot, pk_n, dOf_int, dOf_bl, dOf_str, dOf_non, opI0_int, opI_int, unI_int, asB_bl, asI_int, asL_lst, asT_tup, asW_web, eqS_int, eqS_str, ixL_lst, ixT_tup, ixQ_lst, ixQ_tup, lenD_lst, lenD_tup, listD_lst, listD_tup, catD_lst, rng1_int, rng2_int, sName_go, sTup_go, sCons_go, sNil_go, bTup_go, bCons_go, bNil_go, two_go, List.set_cons_zero, List.set_cons_succ, List.getElem?_cons_zero, List.getElem?_cons_succ, Option.join_some, atI_0, atI_1, atI_2, decide_eq_true_eq, wipeE, List.map_cons, List.map_nil, step_nx, step_ct, step_bk, step_rt, step_rl, step_er, vOf_int, vOf_str]
        exact hq
      | some n =>
        obtain ⟨n0, n1, ew⟩ := numOf_some en
        simp only [Option.map_some, Option.getD_some]
        rw [show isN (.int n) .non = M.ret (.bl false) from rfl, run_ret, asB_bl, run_ret, if_neg (by decide)]
        refine ⟨(w0, ws), ⟨rfl, n0, by omega, by show ws.length ≤ 10000; omega, fun z hz => ?_⟩, ?_⟩
        · have := mem_sum (List.mem_map.mpr ⟨z, hz, rfl⟩ : z.length ∈ ws.map (·.length))
          omega
        cases er : rdTs n ws [] 1 with
        | inl i =>
          simp only [rdW, en, er] at hq
          simp only [rdO, toX, ouS, er, run_bnd, run_ret, run_opt, run_req, run_all, run_choose, run_ite, then_nx, then_rt, then_rl, then_er, then_ct, then_bk, outD_rt, outD_rl, outD_nx, outL_rl, outX_rt, outX_rl, outX_nx, outX_er, mask_nil, mask_cons, mk0_f, mk0_o, mk0_od, mk0_ot, mk0_n, peek_nil, peek_cons, pk_f, pk_o, pk_od, pk_ot, pk_n, dOf_int, dOf_bl, dOf_str, dOf_non, opI0_int, opI_int, unI_int, asB_bl, asI_int, asL_lst, asT_tup, asW_web, eqS_int, eqS_str, ixL_lst, ixT_tup, ixQ_lst, ixQ_tup, lenD_lst, lenD_tup, listD_lst, listD_tup, catD_lst, rng1_int, rng2_int, sName_go, sTup_go, sCons_go, sNil_go, bTup_go, bCons_go, bNil_go, two_go, List.set_cons_zero, List.set_cons_succ, List.getElem?_cons_zero, List.getElem?_cons_succ, Option.join_some, atI_0, atI_1, atI_2, decide_eq_true_eq, wipeE, List.map_cons, List.map_nil, step_nx, step_ct, step_bk, step_rt, step_rl, step_er, vOf_int, vOf_str]
          exact hq
        | inr l =>
          simp only [rdW, en, er] at hq
          obtain ⟨el, tk, _, ris⟩ := rdTs_ok er
          have ll : l.length ≤ 9000 := by
            have := congrArg List.length el
            rw [List.length_map] at this
            omega
          simp only [rdO, toX, ouS, er, run_bnd, run_ret, run_opt, run_req, run_all, run_choose, run_ite, then_nx, then_rt, then_rl, then_er, then_ct, then_bk, outD_rt, outD_rl, outD_nx, outL_rl, outX_rt, outX_rl, outX_nx, outX_er, mask_nil, mask_cons, mk0_f, mk0_o, mk0_od, mk0_ot, mk0_n, peek_nil, peek_cons, pk_f, pk_o, pk_od, pk_ot, pk_n, dOf_int, dOf_bl, dOf_str, dOf_non, opI0_int, opI_int, unI_int, asB_bl, asI_int, asL_lst, asT_tup, asW_web, eqS_int, eqS_str, ixL_lst, ixT_tup, ixQ_lst, ixQ_tup, lenD_lst, lenD_tup, listD_lst, listD_tup, catD_lst, rng1_int, rng2_int, sName_go, sTup_go, sCons_go, sNil_go, bTup_go, bCons_go, bNil_go, two_go, List.set_cons_zero, List.set_cons_succ, List.getElem?_cons_zero, List.getElem?_cons_succ, Option.join_some, atI_0, atI_1, atI_2, decide_eq_true_eq, wipeE, List.map_cons, List.map_nil, step_nx, step_ct, step_bk, step_rt, step_rl, step_er, vOf_int, vOf_str]
          refine ⟨by rw [List.length_map]; omega, ex_ret (M.sel_fltM (p := fun k : Ks => decide (k.length = 3)) (h := tieD) fun k hk => ?_) fun bs hbs => ?_⟩
          · show (lcF _ _ _ _ (.tup (k.map kDd))).run _
            simp only [lcF_go, List.length_map, run_bnd, run_ret, run_opt, run_req, run_all, run_choose, run_ite, then_nx, then_rt, then_rl, then_er, then_ct, then_bk, outD_rt, outD_rl, outD_nx, outL_rl, outX_rt, outX_rl, outX_nx, outX_er, mask_nil, mask_cons, mk0_f, mk0_o, mk0_od, mk0_ot, mk0_n, peek_nil, peek_cons, pk_f, pk_o, pk_od, pk_ot, pk_n, dOf_int, dOf_bl, dOf_str, dOf_non, opI0_int, opI_int, unI_int, asB_bl, asI_int, asL_lst, asT_tup, asW_web, eqS_int, eqS_str, ixL_lst, ixT_tup, ixQ_lst, ixQ_tup, lenD_lst, lenD_tup, listD_lst, listD_tup, catD_lst, rng1_int, rng2_int, sName_go, sTup_go, sCons_go, sNil_go, bTup_go, bCons_go, bNil_go, two_go, List.set_cons_zero, List.set_cons_succ, List.getElem?_cons_zero, List.getElem?_cons_succ, Option.join_some, atI_0, atI_1, atI_2, decide_eq_true_eq, wipeE, List.map_cons, List.map_nil, step_nx, step_ct, step_bk, step_rt, step_rl, step_er, vOf_int, vOf_str]
            by_cases h : k.length = 3
            · rw [if_pos (by omega), if_pos h]
              rfl
            · rw [if_neg (by omega), if_neg h]
          subst hbs
          refine ⟨by rw [List.length_map]; omega, ex_ret (M.sel_fltM (p := fun k : Ks => decide (k.length = 2)) (h := tieD) fun k hk => ?_) fun bs hbs => ?_⟩
          · show (lcF _ _ _ _ (.tup (k.map kDd))).run _
            simp only [lcF_go, List.length_map, run_bnd, run_ret, run_opt, run_req, run_all, run_choose, run_ite, then_nx, then_rt, then_rl, then_er, then_ct, then_bk, outD_rt, outD_rl, outD_nx, outL_rl, outX_rt, outX_rl, outX_nx, outX_er, mask_nil, mask_cons, mk0_f, mk0_o, mk0_od, mk0_ot, mk0_n, peek_nil, peek_cons, pk_f, pk_o, pk_od, pk_ot, pk_n, dOf_int, dOf_bl, dOf_str, dOf_non, opI0_int, opI_int, unI_int, asB_bl, asI_int, asL_lst, asT_tup, asW_web, eqS_int, eqS_str, ixL_lst, ixT_tup, ixQ_lst, ixQ_tup, lenD_lst, lenD_tup, listD_lst, listD_tup, catD_lst, rng1_int, rng2_int, sName_go, sTup_go, sCons_go, sNil_go, bTup_go, bCons_go, bNil_go, two_go, List.set_cons_zero, List.set_cons_succ, List.getElem?_cons_zero, List.getElem?_cons_succ, Option.join_some, atI_0, atI_1, atI_2, decide_eq_true_eq, wipeE, List.map_cons, List.map_nil, step_nx, step_ct, step_bk, step_rt, step_rl, step_er, vOf_int, vOf_str]
            by_cases h : k.length = 2
            · rw [if_pos (by omega), if_pos h]
              rfl
            · rw [if_neg (by omega), if_neg h]
          subst hbs
          rw [mk2_go]
          have wk := web_fa n0 (by omega) tk ris (by omega)
          have la := wk.la
          have lm := wk.lm
          refine ⟨(fa l, fm l), ⟨rfl, rfl, wk.n0, by omega, wk.ka, wk.km, by show (fa l).length < 19600; omega, by show (fm l).length < 19600; omega⟩, fun u hu => ?_⟩
          obtain ⟨e1, e2⟩ := wk.self (by omega) hu.1 hu.2
          show Q (.ok (.web n u.1 u.2))
          rw [e1, e2]
          exact hq
    · exact hq.elim
end
end
section
open PySem PySem.Spec PyProof.Rows L2 RZ Sg Tm Wb
local macro_rules | `(tactic| walk_at "r2") => `(tactic| first | with_reducible exact r_I0 | with_reducible exact r_I | with_reducible exact r_eq | with_reducible exact r_ne | with_reducible exact r_isN | with_reducible exact r_notN | with_reducible exact r_ixL | with_reducible exact r_ixT | with_reducible exact r_ixQ | with_reducible exact r_eqD | with_reducible exact r_neD | with_reducible exact r_inD | with_reducible exact r_notInD | with_reducible exact r_mulS | with_reducible exact r_addS)
local macro_rules | `(tactic| walk_at "rcl") => `(tactic| first | with_reducible exact r_list | with_reducible exact r_sort | with_reducible exact r_listS)
local macro_rules | `(tactic| walk_at "el+") => `(tactic| first | (with_reducible apply el_split; walk_at "ed"; walk_at "ed") | (with_reducible apply el_listRg; walk_at "ed"))
local macro_rules | `(tactic| walk_at "ed+") => `(tactic| first | (with_reducible apply ed_slS; walk_at "ed"; walk_at "eo"; walk_at "eo") | walk_at "edk")
local macro_rules | `(tactic| walk_at "svP") => `(tactic| first
  | (with_reducible apply sv_seq; walk_at "svP"; walk_at "svP")
  | (with_reducible apply sv_augI; walk_at "ed")
  | (with_reducible apply sv_asgL; with_reducible apply el_lst; with_reducible exact ea_nil)
  | (with_reducible apply sv_asg; walk_at "ed")
  | (with_reducible apply sv_if; walk_at "et"; walk_at "svP"; walk_at "svP")
  | (with_reducible apply sv_for; walk_at "ei"; walk_at "es"; walk_at "svP")
  | walk_at "sv")
def bwM : List D → M D
  | [.box, .str t] => M.bnd (M.req (t.length ≤ 1500)) fun _ => M.bnd (M.all fun u : Str => u.length ≤ 3 * t.length + 20) fun u => M.ret (.str u)
  | _ => M.fail
theorem words_l : ∀ (n : Nat) (l : List Nat), l.length ≤ n → ∃ ws : List (List Nat), ws ≠ [] ∧ l = jnL 32 ws ∧ ∀ w ∈ ws, 32 ∉ w
  | n, l, h => by
    rcases sp_at (c := 32) l with h1 | ⟨a, b, rfl, ha⟩
    · exact ⟨[l], (fun z => nomatch z), rfl, fun w hw => by rw [List.mem_singleton.mp hw]; exact h1⟩
    · match n with
      | 0 => simp at h
      | n + 1 =>
        obtain ⟨ws, ne, e, hw⟩ := words_l n b (by simp at h; omega)
        obtain ⟨x, r, rfl⟩ : ∃ x r, ws = x :: r := by
          cases ws with
          | nil => exact absurd rfl ne
          | cons x r => exact ⟨x, r, rfl⟩
        refine ⟨a :: x :: r, (fun z => nomatch z), by rw [jn_cons, ← e], fun w m => ?_⟩
        rcases List.mem_cons.mp m with rfl | m
        · exact ha
        · exact hw w m
theorem words_of (t : Str) : ∃ w0 ws, t = Str.join " " (w0 :: ws) ∧ ∀ w ∈ w0 :: ws, 32 ∉ w.cps.toList := by
  obtain ⟨ws, ne, e, hw⟩ := words_l _ t.cps.toList (Nat.le_refl _)
  have ec : (ws.map fun w => (⟨w.toArray⟩ : Str)).map (fun w : Str => w.cps.toList) = ws := by
    rw [List.map_map]
    exact (List.map_congr_left (g := id) fun x _ => by show x.toArray.toList = x; simp).trans (List.map_id _)
  have ej : t = Str.join " " (ws.map fun w => (⟨w.toArray⟩ : Str)) := str_cps (by
    rw [e]
    have := join_l 32 (ws.map fun w => (⟨w.toArray⟩ : Str))
    rw [ec] at this
    exact this.symm)
  obtain ⟨x, r, rfl⟩ : ∃ x r, ws = x :: r := by
    cases ws with
    | nil => exact absurd rfl ne
    | cons x r => exact ⟨x, r, rfl⟩
  refine ⟨⟨x.toArray⟩, r.map fun w => (⟨w.toArray⟩ : Str), (show t = Str.join " " ((⟨x.toArray⟩ : Str) :: r.map fun w => (⟨w.toArray⟩ : Str)) from ej), fun w m => ?_⟩
  obtain ⟨y, hy, rfl⟩ := List.mem_map.mp (show w ∈ (x :: r).map fun w => (⟨w.toArray⟩ : Str) from m)
  show 32 ∉ y.toArray.toList
  have := hw y hy
  simpa using this
def lnS (ws : List Str) : Nat := (ws.map (·.length)).sum
theorem ln_app (a b : List Str) : lnS (a ++ b) = lnS a + lnS b := by
  unfold lnS
  rw [List.map_append, List.sum_append]
theorem ln_take (ws : List Str) (k : Nat) : lnS (ws.take k) ≤ lnS ws := by
  have := ln_app (ws.take k) (ws.drop k)
  rw [List.take_append_drop] at this
  omega
theorem ln_drop (ws : List Str) (k : Nat) : lnS (ws.drop k) ≤ lnS ws := by
  have := ln_app (ws.take k) (ws.drop k)
  rw [List.take_append_drop] at this
  omega
theorem ln_rev : ∀ ws : List Str, lnS ws.reverse = lnS ws
  | [] => rfl
  | w :: ws => by
    rw [List.reverse_cons, ln_app, ln_rev ws]
    unfold lnS
    rw [List.map_cons, List.sum_cons, List.map_cons, List.sum_cons]
    simp
    omega
theorem cut_str (ws : List Str) (lo hi : Option Int) : ∃ us : List Str, cutD (ws.map D.str) lo hi = us.map D.str ∧ us.length ≤ ws.length ∧ lnS us ≤ lnS ws := by
  refine ⟨(ws.drop (HT.sIx (ws.map D.str).length 0 lo)).take (HT.sIx (ws.map D.str).length (ws.map D.str).length hi - HT.sIx (ws.map D.str).length 0 lo), ?_, ?_, ?_⟩
  · unfold cutD
    rw [List.map_take, List.map_drop]
  · rw [List.length_take, List.length_drop]
    omega
  · exact Nat.le_trans (ln_take ..) (ln_drop ..)
theorem cutS_len (z : Str) (lo hi : Option Int) : (cutS z lo hi).length ≤ z.length := by
  unfold cutS
  show (List.toArray _).size ≤ z.cps.size
  rw [List.size_toArray, List.length_take, List.length_drop, Array.length_toList]
  omega
theorem join_le (l : List Str) : (Str.join " " l).length ≤ lnS l + l.length := by
  cases l with
  | nil => exact Nat.zero_le _
  | cons w l =>
    have := join_sum (l := w :: l) (fun z => nomatch z)
    unfold lnS
    omega
theorem join_run {us : List Str} {Q : D → Prop} {b : Nat} (h : lnS us + us.length ≤ b) (hb : b ≤ 16777216) (q : ∀ u : Str, u.length ≤ b → Q (.str u)) : (joinM (Str.ofString " ") (.lst (us.map D.str))).run Q := by
  rw [joinM_go]
  refine ⟨us, ⟨rfl, ?_⟩, q _ (Nat.le_trans (join_le us) h)⟩
  have l1 : (Str.ofString " ").length = 1 := rfl
  rw [l1]
  unfold lnS at h
  omega
theorem once_len (z : Str) (k : Int) : (onceS z k).length ≤ z.length := by
  unfold onceS
  split
  · exact Nat.le_refl _
  · exact Nat.zero_le _
section
variable {P : Program} {w : World} {K : PySem.W.Frag} {mg : Str → Option Value} {base : Heap} {C : Addr} {T : List (Addr × Str)} {cls : Str → Addr}
local macro_rules | `(tactic| walk_at "r2l") => `(tactic| first | with_reducible exact r_cat)
local macro_rules | `(tactic| walk_at "r2") => `(tactic| first | with_reducible exact r_I0 | with_reducible exact r_I | with_reducible exact r_addS | with_reducible exact r_onceS)
local macro_rules | `(tactic| walk_at "rc") => `(tactic| first | with_reducible exact r_lenS | with_reducible exact r_len | with_reducible exact r_int)
local macro_rules | `(tactic| walk_at "el+") => `(tactic| first | (with_reducible apply el_split; walk_at "ed"; walk_at "ed") | (with_reducible apply el_rev; walk_at "ed"))
local macro_rules | `(tactic| walk_at "ed+") => `(tactic| first | (with_reducible apply ed_slS; walk_at "ed"; walk_at "eo"; walk_at "eo") | (with_reducible apply ed_join; walk_at "ed"; walk_at "ed") | walk_at "edk")
local macro_rules | `(tactic| walk_at "svW") => `(tactic| first
  | (with_reducible apply sv_seq; walk_at "svW"; walk_at "svW")
  | (with_reducible apply sv_asg; walk_at "ed")
  | (with_reducible apply sv_if; walk_at "et"; walk_at "svW"; walk_at "svW")
  | (with_reducible apply sv_ret; walk_at "ed")
  | walk_at "sv")
abbrev s_law_bent : Stmt := topS 38
theorem len_bw {ds : List D} {Q : _ → Prop} (h : (bwM ds).run Q) : ds.length = 2 := by
  unfold bwM at h
  split at h
  · rfl
  · exact h.elim
abbrev N_bw : List Str := ["_law_box_here", "_law_text", "_law_at_here", "_law_sign_here", "_law_shelf", "_law_spot", "_law_fork", "_law_tail", "_law_two", "_law_odds", "_law_odd"]
theorem sc_bw : FnScope N_bw ["_law_box_here", "_law_text"] (defScope s_law_bent) := ⟨rfl, rfl, rfl, by decide +kernel, rfl, by decide +kernel, by decide +kernel⟩
theorem ok_bw {f fT fO : Addr} {fd dT dO : FuncData} (F : Fun K "_law_bent_words" "_law_bent_words" s_law_bent f fd) (b : Bq mg) (bi : mg "int" = none) (oT : Df P w K mg base 1 "_law_take" ["_law_box_here", "_law_many"] (spD (mkS K C T cls) takeM) fT dT) (oO : Df P w K mg base 2 "_law_one" ["_law_box_here", "_law_some"] (spD (mkS K C T cls) oneM) fO dO) : FnOk P w K mg base CX0 3 f fd ["_law_box_here", "_law_text"] (spD (mkS K C T cls) bwM) := by
  refine F.ok sc_bw (fun vs H Q E h => ?_) (fun cdv A outer s H vs Q E hr h => ?_)
  · obtain ⟨B, G, ds, _, r, h⟩ := h
    rw [r.length]
    exact len_bw h
  · have hu5 : (A.deeper (envOfC "_law_bent_words" (defScope s_law_bent) s.heap.objs.size f cdv)).units + 65 < cLine := by
      have := hr.un
      omega
    have hu : (A.deeper (envOfC "_law_bent_words" (defScope s_law_bent) s.heap.objs.size f cdv)).units + 64 < cLine := by omega
    have hu1 : (A.deeper (envOfC "_law_bent_words" (defScope s_law_bent) s.heap.objs.size f cdv)).units + 1 < cLine := by omega
    refine ⟨_, (pss_cons (ps_set (i := 2) sc_bw.nd rfl (.inl rfl) (pe_call oT.ok (hr.mono (by decide)) (by rfl) oT.gl oT.kp oT.bd .nil pass0 (pa_cons (pv 0) (pa_cons (pe_op op_add (pe_callB call_len_str (by rfl) b.len PySem.boot_len (pa_cons (pv 1) pa_nil)) pe_int) pa_nil))))
      (pss_cons (ps_set (i := 3) sc_bw.nd rfl (.inl rfl) (pe_call oO.ok (hr.mono (by decide)) (by rfl) oO.gl oO.kp oO.bd .nil pass0 (pa_cons (pv 0) (pa_cons (pe_lst (pa_cons pe_str (pa_cons pe_str (pa_cons pe_str (pa_cons pe_str (pa_cons pe_str (pa_cons pe_str (pa_cons pe_str (pa_cons pe_str (pa_cons pe_str (pa_cons pe_str pa_nil))))))))))) pa_nil))))
      (pss_cons (ps_set (i := 4) sc_bw.nd rfl (.inl rfl) (pe_splitAny (pv 1) pe_str))
      (pss_cons (ps_set (i := 5) sc_bw.nd rfl (.inl rfl) (pe_call oT.ok (hr.mono (by decide)) (by rfl) oT.gl oT.kp oT.bd .nil pass0 (pa_cons (pv 0) (pa_cons (pe_callB (dv_len (K := K) rfl) (by rfl) b.len PySem.boot_len (pa_cons (pv 4) pa_nil)) pa_nil))))
      (pss_cons (ps_set (i := 6) sc_bw.nd rfl (.inl rfl) (pe_call oT.ok (hr.mono (by decide)) (by rfl) oT.gl oT.kp oT.bd .nil pass0 (pa_cons (pv 0) (pa_cons pe_int pa_nil))))
      (pss_cons (ps_if (pt_cmpR op_lt (pv 6) pe_int (nomark _)) (pss_cons (ps_set (i := 7) sc_bw.nd rfl (.inl rfl) (pe_slice sl_str (pv 1) (po_some (pe_op op_add (pv 2) (pe_callTy call_int1 (by rfl) bi (by decide +kernel) (pa_cons (pe_cmpR op_gt (pv 6) pe_int (nomark _)) pa_nil)))) po_none))
      (pss_one (ps_ret (pe_op op_addS (pe_op op_addS (pe_slice sl_str (pv 1) po_none (po_some (pv 2))) (pe_op op_onceS (pv 3) (pe_callTy call_int1 (by rfl) bi (by decide +kernel) (pa_cons (pe_cmpR op_lt (pv 6) pe_int (nomark _)) pa_nil)))) (pv 7))))) pss_nil)
      (pss_cons (ps_if (pt_cmpR op_eq (pv 6) pe_int (nomark _)) (pss_one (ps_ret (pe_joinK (K := K) rfl pe_str (pe_op op_cat (pe_slice (dv_slL (K := K) rfl) (pv 4) po_none (po_some (pe_op op_add (pv 5) pe_int))) (pe_slice (dv_slL (K := K) rfl) (pv 4) (po_some (pv 5)) po_none))))) pss_nil)
      (pss_cons (ps_if (pt_cmpR op_eq (pv 6) pe_int (nomark _)) (pss_one (ps_ret (pe_joinK (K := K) rfl pe_str (pe_op op_cat (pe_slice (dv_slL (K := K) rfl) (pv 4) po_none (po_some (pv 5))) (pe_slice (dv_slL (K := K) rfl) (pv 4) (po_some (pe_op op_add (pv 5) pe_int)) po_none))))) pss_nil)
      (pss_cons (ps_if (pt_cmpR op_eq (pv 6) pe_int (nomark _)) (pss_cons (ps_set (i := 8) sc_bw.nd rfl (.inl rfl) (pe_revK (K := K) rfl (pe_slice (dv_slL (K := K) rfl) (pv 4) (po_some (pv 5)) (po_some (pe_op op_add (pv 5) pe_int)))))
      (pss_one (ps_ret (pe_joinK (K := K) rfl pe_str (pe_op op_cat (pe_op op_cat (pe_slice (dv_slL (K := K) rfl) (pv 4) po_none (po_some (pv 5))) (pv 8)) (pe_slice (dv_slL (K := K) rfl) (pv 4) (po_some (pe_op op_add (pv 5) pe_int)) po_none)))))) pss_nil)
      (pss_cons (ps_set (i := 9) sc_bw.nd rfl (.inl rfl) (pe_lst (pa_cons pe_str (pa_cons pe_str (pa_cons pe_str (pa_cons pe_str (pa_cons pe_str (pa_cons pe_str (pa_cons pe_str (pa_cons pe_str pa_nil))))))))))
      (pss_cons (ps_set (i := 10) sc_bw.nd rfl (.inl rfl) (pe_call oO.ok (hr.mono (by decide)) (by rfl) oO.gl oO.kp oO.bd .nil pass0 (pa_cons (pv 0) (pa_cons (pe_op op_cat (pv 9) (pe_lst (pa_cons pe_str (pa_cons pe_str (pa_cons pe_str (pa_cons pe_str (pa_cons pe_str pa_nil))))))) pa_nil))))
      (pss_one (ps_ret (pe_joinK (K := K) rfl pe_str (pe_op op_cat (pe_op op_cat (pe_slice (dv_slL (K := K) rfl) (pv 4) po_none (po_some (pv 5))) (pe_lst (pa_cons (pv 10) pa_nil))) (pe_slice (dv_slL (K := K) rfl) (pv 4) (po_some (pv 5)) po_none)))))))))))))))), ?_⟩
    refine run_D (X := E) (S := mkS K C T cls) (N := N_bw) (by walk_at "svW") ?_ h
    intro ds Q hq
    unfold bwM at hq
    split at hq
    · rename_i t
      obtain ⟨tl, hq⟩ := hq
      have hq : ∀ u : Str, u.length ≤ 3 * t.length + 20 → Q (.str u) := fun u h => hq u h
      obtain ⟨w0, ws, et, hf⟩ := words_of t
      have sp : Txt.split t " " = w0 :: ws := by rw [et]; exact split_join (c := 32) (fun z => nomatch z) hf
      have js := join_sum (l := w0 :: ws) (fun z => nomatch z)
      rw [← et] at js
      have js : t.length + 1 = lnS (w0 :: ws) + (w0 :: ws).length := js
      have wne : w0 :: ws ≠ [] := fun z => nomatch z
      generalize w0 :: ws = W at sp js wne
      have e : startE N_bw.length [.box, .str t] = [some (.f (.box)), some (.f (.str t)), none, none, none, none, none, none, none, none, none] := rfl
      rw [e]
      simp only [lenS_go, takeM_go, oneM_go, asS_str, splitM_go, sp, addS_go, onceM_go, run_bnd, run_ret, run_opt, run_req, run_all, run_choose, run_ite, then_nx, then_rt, then_rl, then_er, then_ct, then_bk, outD_rt, outD_rl, outD_nx, outL_rl, outX_rt, outX_rl, outX_nx, outX_er, mask_nil, mask_cons, mk0_f, mk0_o, mk0_od, mk0_ot, mk0_n, peek_nil, peek_cons, pk_f, pk_o, pk_od, pk_ot, pk_n, dOf_int, dOf_bl, dOf_str, dOf_non, opI0_int, opI_int, unI_int, asB_bl, asI_int, asL_lst, asT_tup, asW_web, eqS_int, eqS_str, ixL_lst, ixT_tup, ixQ_lst, ixQ_tup, lenD_lst, lenD_tup, listD_lst, listD_tup, catD_lst, rng1_int, rng2_int, sName_go, sTup_go, sCons_go, sNil_go, bTup_go, bCons_go, bNil_go, two_go, List.set_cons_zero, List.set_cons_succ, List.getElem?_cons_zero, List.getElem?_cons_succ, Option.join_some, atI_0, atI_1, atI_2, decide_eq_true_eq, wipeE, List.map_cons, List.map_nil, step_nx, step_ct, step_bk, step_rt, step_rl, step_er, vOf_int, vOf_str]
      refine ⟨by omega, ⟨by omega, by omega⟩, fun a ha => ?_⟩
      refine ⟨by show 10 ≤ 100000; decide, ⟨(fun z => nomatch z), by show 10 ≤ 1000; decide⟩, fun d hd => ?_⟩
      obtain ⟨sg, hsg, rfl⟩ : ∃ sg ∈ (["0", "1", "9", "a", "c", "p", "r", " ", "d", "-"] : List Str), d = D.str sg := by
        obtain ⟨o, ho, e⟩ := List.mem_map.mp (show d ∈ (["0", "1", "9", "a", "c", "p", "r", " ", "d", "-"] : List Str).map D.str from hd)
        exact ⟨o, ho, e.symm⟩
      have sl : sg.length = 1 := by
        simp only [List.mem_cons, List.not_mem_nil, or_false] at hsg
        rcases hsg with rfl | rfl | rfl | rfl | rfl | rfl | rfl | rfl | rfl | rfl <;> rfl
      have wn : W.length ≤ 1501 := by omega
      have wp : 0 < W.length := by
        cases W with
        | nil => exact absurd rfl wne
        | cons _ _ => exact Nat.succ_pos _
      refine ⟨⟨rfl, by omega⟩, ⟨by rw [List.length_map]; omega, by rw [List.length_map]; omega⟩, fun s hs => ⟨⟨by decide, by decide⟩, fun k hk => ?_⟩⟩
      by_cases k3 : k < 3
      · rw [if_pos k3]
        have i1 : ∀ b : Bool, ∀ {Q : D → Prop}, (∀ j : Int, 0 ≤ j ∧ j ≤ 1 → Q (.int j)) → (intM [D.bl b]).run Q := fun b {Q} q => by
          cases b
          · exact q 0 (by decide)
          · exact q 1 (by decide)
        refine i1 _ fun j hj => ?_
        simp only [run_bnd, run_ret, run_opt, run_req, run_all, run_choose, run_ite, then_nx, then_rt, then_rl, then_er, then_ct, then_bk, outD_rt, outD_rl, outD_nx, outL_rl, outX_rt, outX_rl, outX_nx, outX_er, mask_nil, mask_cons, mk0_f, mk0_o, mk0_od, mk0_ot, mk0_n, peek_nil, peek_cons, pk_f, pk_o, pk_od, pk_ot, pk_n, dOf_int, dOf_bl, dOf_str, dOf_non, opI0_int, opI_int, unI_int, asB_bl, asI_int, asL_lst, asT_tup, asW_web, eqS_int, eqS_str, ixL_lst, ixT_tup, ixQ_lst, ixQ_tup, lenD_lst, lenD_tup, listD_lst, listD_tup, catD_lst, rng1_int, rng2_int, sName_go, sTup_go, sCons_go, sNil_go, bTup_go, bCons_go, bNil_go, two_go, List.set_cons_zero, List.set_cons_succ, List.getElem?_cons_zero, List.getElem?_cons_succ, Option.join_some, atI_0, atI_1, atI_2, decide_eq_true_eq, wipeE, List.map_cons, List.map_nil, step_nx, step_ct, step_bk, step_rt, step_rl, step_er, vOf_int, vOf_str]
        refine ⟨by omega, by omega, i1 _ fun j2 hj2 => ?_⟩
        simp only [onceM_go, addS_go, run_bnd, run_ret, run_opt, run_req, run_all, run_choose, run_ite, then_nx, then_rt, then_rl, then_er, then_ct, then_bk, outD_rt, outD_rl, outD_nx, outL_rl, outX_rt, outX_rl, outX_nx, outX_er, mask_nil, mask_cons, mk0_f, mk0_o, mk0_od, mk0_ot, mk0_n, peek_nil, peek_cons, pk_f, pk_o, pk_od, pk_ot, pk_n, dOf_int, dOf_bl, dOf_str, dOf_non, opI0_int, opI_int, unI_int, asB_bl, asI_int, asL_lst, asT_tup, asW_web, eqS_int, eqS_str, ixL_lst, ixT_tup, ixQ_lst, ixQ_tup, lenD_lst, lenD_tup, listD_lst, listD_tup, catD_lst, rng1_int, rng2_int, sName_go, sTup_go, sCons_go, sNil_go, bTup_go, bCons_go, bNil_go, two_go, List.set_cons_zero, List.set_cons_succ, List.getElem?_cons_zero, List.getElem?_cons_succ, Option.join_some, atI_0, atI_1, atI_2, decide_eq_true_eq, wipeE, List.map_cons, List.map_nil, step_nx, step_ct, step_bk, step_rt, step_rl, step_er, vOf_int, vOf_str]
        have c1 := cutS_len t none (some a)
        have c2 := cutS_len t (some (a + j)) none
        have c3 := once_len sg j2
        refine ⟨⟨hj2.1, hj2.2, by omega, by omega⟩, by omega, by rw [PySem.Str.length_append]; omega, hq _ ?_⟩
        rw [PySem.Str.length_append, PySem.Str.length_append]
        omega
      rw [if_neg k3]
      by_cases k4 : k = 3
      · rw [if_pos k4]
        obtain ⟨u1, e1, l1, s1⟩ := cut_str W none (some (s + 1))
        obtain ⟨u2, e2, l2, s2⟩ := cut_str W (some s) none
        rw [e1, e2, ← List.map_append]
        refine ⟨by rw [List.length_map, List.length_map]; omega, join_run (b := 2 * t.length + 2) (by rw [ln_app, List.length_append]; omega) (by omega) fun u hu => hq u (by omega)⟩
      rw [if_neg k4]
      by_cases k5 : k = 4
      · rw [if_pos k5]
        obtain ⟨u1, e1, l1, s1⟩ := cut_str W none (some s)
        obtain ⟨u2, e2, l2, s2⟩ := cut_str W (some (s + 1)) none
        rw [e1, e2, ← List.map_append]
        refine ⟨by rw [List.length_map, List.length_map]; omega, join_run (b := 2 * t.length + 2) (by rw [ln_app, List.length_append]; omega) (by omega) fun u hu => hq u (by omega)⟩
      rw [if_neg k5]
      by_cases k6 : k = 5
      · rw [if_pos k6]
        obtain ⟨u1, e1, l1, s1⟩ := cut_str W none (some s)
        obtain ⟨u2, e2, l2, s2⟩ := cut_str W (some s) (some (s + 2))
        obtain ⟨u3, e3, l3, s3⟩ := cut_str W (some (s + 2)) none
        rw [e1, e2, e3, ← List.map_reverse, ← List.map_append, ← List.map_append]
        refine ⟨by rw [List.length_map, List.length_map, List.length_reverse]; omega, by rw [List.length_map, List.length_map, List.length_append, List.length_reverse]; omega, join_run (b := 3 * t.length + 3) (by rw [ln_app, ln_app, ln_rev, List.length_append, List.length_append, List.length_reverse]; omega) (by omega) fun u hu => hq u (by omega)⟩
      rw [if_neg k6]
      refine ⟨by show 8 ≤ 100000; decide, by show 5 ≤ 100000; decide, by show 8 + 5 ≤ 100000; decide, ⟨(fun z => nomatch z), by show 13 ≤ 1000; decide⟩, fun d hd => ?_⟩
      obtain ⟨o, ho, rfl⟩ : ∃ o ∈ (["", "0a0", "p0", "0b00", "00a0", "0a", "a0", "0a0a0", "82", "81", "p", "0p", "100a1"] : List Str), d = D.str o := by
        obtain ⟨o, ho, e⟩ := List.mem_map.mp (show d ∈ (["", "0a0", "p0", "0b00", "00a0", "0a", "a0", "0a0a0", "82", "81", "p", "0p", "100a1"] : List Str).map D.str from hd)
        exact ⟨o, ho, e.symm⟩
      have ol : o.length ≤ 5 := by
        simp only [List.mem_cons, List.not_mem_nil, or_false] at ho
        rcases ho with rfl | rfl | rfl | rfl | rfl | rfl | rfl | rfl | rfl | rfl | rfl | rfl | rfl <;> decide
      obtain ⟨u1, e1, l1, s1⟩ := cut_str W none (some s)
      obtain ⟨u2, e2, l2, s2⟩ := cut_str W (some s) none
      rw [e1, e2, show [D.str o] = [o].map D.str from rfl, ← List.map_append, ← List.map_append]
      have lo : lnS [o] ≤ 5 := by show o.length + 0 ≤ 5; omega
      have o1 : [o].length = 1 := rfl
      refine ⟨by show 1 ≤ 100000; decide, by rw [List.length_map, List.length_map]; omega, by rw [List.length_map, List.length_map, List.length_append]; omega, join_run (b := 2 * t.length + 10) (by rw [ln_app, ln_app, List.length_append, List.length_append]; omega) (by omega) fun u hu => hq u (by omega)⟩
    · exact hq.elim
end
end
section
open PySem PySem.Spec PyProof.Rows L2 RZ Sg Tm Wb
local macro_rules | `(tactic| walk_at "r2") => `(tactic| first | with_reducible exact r_I0 | with_reducible exact r_I | with_reducible exact r_eq | with_reducible exact r_ne | with_reducible exact r_isN | with_reducible exact r_notN | with_reducible exact r_ixL | with_reducible exact r_ixT | with_reducible exact r_ixQ | with_reducible exact r_eqD | with_reducible exact r_neD | with_reducible exact r_inD | with_reducible exact r_notInD | with_reducible exact r_mulS | with_reducible exact r_addS)
local macro_rules | `(tactic| walk_at "rcl") => `(tactic| first | with_reducible exact r_list | with_reducible exact r_sort | with_reducible exact r_listS)
local macro_rules | `(tactic| walk_at "el+") => `(tactic| first | (with_reducible apply el_split; walk_at "ed"; walk_at "ed") | (with_reducible apply el_listRg; walk_at "ed"))
local macro_rules | `(tactic| walk_at "ed+") => `(tactic| first | (with_reducible apply ed_slS; walk_at "ed"; walk_at "eo"; walk_at "eo") | walk_at "edk")
local macro_rules | `(tactic| walk_at "svP") => `(tactic| first
  | (with_reducible apply sv_seq; walk_at "svP"; walk_at "svP")
  | (with_reducible apply sv_augI; walk_at "ed")
  | (with_reducible apply sv_asgL; with_reducible apply el_lst; with_reducible exact ea_nil)
  | (with_reducible apply sv_asg; walk_at "ed")
  | (with_reducible apply sv_if; walk_at "et"; walk_at "svP"; walk_at "svP")
  | (with_reducible apply sv_for; walk_at "ei"; walk_at "es"; walk_at "svP")
  | walk_at "sv")
def lwsM : List D → M D
  | [.tup [.int n, .lst a, .lst m]] => M.bnd (M.choose fun p : List Ks × List Ks => a = p.1.map tieD ∧ m = p.2.map tieD ∧ WebK n p.1 p.2 ∧ n ≤ 81 ∧ p.1.length + p.2.length ≤ 1000) fun p => M.ret (.str (webS n p.1 p.2))
  | _ => M.fail
section
variable {P : Program} {w : World} {K : PySem.W.Frag} {mg : Str → Option Value} {base : Heap} {C : Addr} {T : List (Addr × Str)} {cls : Str → Addr}
local macro_rules | `(tactic| walk_at "r2l") => `(tactic| first | with_reducible exact r_cat)
local macro_rules | `(tactic| walk_at "rc") => `(tactic| first | with_reducible exact r_strI | with_reducible exact r_len)
local macro_rules | `(tactic| walk_at "ed+") => `(tactic| first | (with_reducible apply ed_join; walk_at "ed"; walk_at "ed") | walk_at "edk")
local macro_rules | `(tactic| walk_at "svW") => `(tactic| first
  | (with_reducible apply sv_seq; walk_at "svW"; walk_at "svW")
  | (with_reducible apply sv_asg; walk_at "ed")
  | (with_reducible apply sv_ret; walk_at "ed")
  | walk_at "sv")
abbrev s_law_words : Stmt := topS 34
theorem len_lws {ds : List D} {Q : _ → Prop} (h : (lwsM ds).run Q) : ds.length = 1 := by
  unfold lwsM at h
  split at h
  · rfl
  · exact h.elim
abbrev N_lws : List Str := ["_law_m", "_law_words_here", "_law_hue_here", "_law_one_here", "_law_other", "_law_sign_here", "_law_point"]
theorem sc_lws : FnScope N_lws ["_law_m"] (defScope s_law_words) := ⟨rfl, rfl, rfl, by decide +kernel, rfl, by decide +kernel, by decide +kernel⟩
theorem ok_lws {f : Addr} {fd : FuncData} (F : Fun K "_law_words" "_law_words" s_law_words f fd) (b : Bq mg) (bs : mg "str" = none) : FnOk P w K mg base CX0 1 f fd ["_law_m"] (spD (mkS K C T cls) lwsM) := by
  refine F.ok sc_lws (fun vs H Q E h => ?_) (fun cdv A outer s H vs Q E hr h => ?_)
  · obtain ⟨B, G, ds, _, r, h⟩ := h
    rw [r.length]
    exact len_lws h
  · have hu5 : (A.deeper (envOfC "_law_words" (defScope s_law_words) s.heap.objs.size f cdv)).units + 65 < cLine := by
      have := hr.un
      omega
    have hu : (A.deeper (envOfC "_law_words" (defScope s_law_words) s.heap.objs.size f cdv)).units + 64 < cLine := by omega
    have hu1 : (A.deeper (envOfC "_law_words" (defScope s_law_words) s.heap.objs.size f cdv)).units + 1 < cLine := by omega
    refine ⟨_, (pss_cons (ps_set (i := 1) sc_lws.nd rfl (.inl rfl) (pe_op op_cat (pe_lst (pa_cons (pe_callTy call_str_int (by rfl) bs PySem.Pv.boot_str (pa_cons (pe_ix (dx_tup (K := K) rfl) (pv 0) pe_int (fun _ _ => rfl)) pa_nil)) pa_nil)) (pe_lc (own := [("_law_hue_here", 2), ("_law_one_here", 3), ("_law_other", 4)]) (g := gTup K 3 (gCons (gName 2) (gCons (gName 3) (gCons (gName 4) gNil)))) (tt := tYes) rfl sc_lws.nd (di_list (K := K) rfl (pe_ix (dx_tup (K := K) rfl) (pv 0) pe_int (fun _ _ => rfl))) (blkOk_by (N := N_lws) (sc := defScope s_law_words) (by decide +kernel)) (fun _ _ _ _ _ => (dg_tup (K := K) (n := 3) rfl rfl (pgs_cons (pg_name (i := 2) sc_lws.nd rfl (.inl rfl)) (pgs_cons (pg_name (i := 3) sc_lws.nd rfl (.inl rfl)) (pgs_cons (pg_name (i := 4) sc_lws.nd rfl (.inl rfl)) pgs_nil))))) (fun _ _ _ _ _ => pts_nil) (fun _ _ _ _ _ => (pe_op op_addS (pe_op op_addS (pe_callTy call_str_int (by rfl) bs PySem.Pv.boot_str (pa_cons (pv 3) pa_nil)) (pv 2)) (pe_callTy call_str_int (by rfl) bs PySem.Pv.boot_str (pa_cons (pv 4) pa_nil)))))))
      (pss_one (ps_ret (pe_joinK (K := K) rfl pe_str (pe_op op_cat (pv 1) (pe_lc (own := [("_law_sign_here", 5), ("_law_point", 6)]) (g := gTup K 2 (gCons (gName 5) (gCons (gName 6) gNil))) (tt := tYes) rfl sc_lws.nd (di_list (K := K) rfl (pe_ix (dx_tup (K := K) rfl) (pv 0) pe_int (fun _ _ => rfl))) (blkOk_by (N := N_lws) (sc := defScope s_law_words) (by decide +kernel)) (fun _ _ _ _ _ => (dg_tup (K := K) (n := 2) rfl rfl (pgs_cons (pg_name (i := 5) sc_lws.nd rfl (.inl rfl)) (pgs_cons (pg_name (i := 6) sc_lws.nd rfl (.inl rfl)) pgs_nil)))) (fun _ _ _ _ _ => pts_nil) (fun _ _ _ _ _ => (pe_op op_addS (pv 5) (pe_callTy call_str_int (by rfl) bs PySem.Pv.boot_str (pa_cons (pv 6) pa_nil)))))))))), ?_⟩
    refine run_D (X := E) (S := mkS K C T cls) (N := N_lws) (by walk_at "svW") ?_ h
    intro ds Q hq
    unfold lwsM at hq
    split at hq
    · rename_i n a m
      obtain ⟨⟨A, Ms⟩, ⟨rfl, rfl, wk, hn, hl⟩, hq⟩ := hq
      dsimp only at wk hn hl hq ⊢
      have n0 := wk.n0
      have e : startE N_lws.length [.tup [.int n, .lst (A.map tieD), .lst (Ms.map tieD)]] = [some (.f (.tup [.int n, .lst (A.map tieD), .lst (Ms.map tieD)])), none, none, none, none, none, none] := rfl
      rw [e]
      simp only [strIM_go, asS_str, joinM_go, run_bnd, run_ret, run_opt, run_req, run_all, run_choose, run_ite, then_nx, then_rt, then_rl, then_er, then_ct, then_bk, outD_rt, outD_rl, outD_nx, outL_rl, outX_rt, outX_rl, outX_nx, outX_er, mask_nil, mask_cons, mk0_f, mk0_o, mk0_od, mk0_ot, mk0_n, peek_nil, peek_cons, pk_f, pk_o, pk_od, pk_ot, pk_n, dOf_int, dOf_bl, dOf_str, dOf_non, opI0_int, opI_int, unI_int, asB_bl, asI_int, asL_lst, asT_tup, asW_web, eqS_int, eqS_str, ixL_lst, ixT_tup, ixQ_lst, ixQ_tup, lenD_lst, lenD_tup, listD_lst, listD_tup, catD_lst, rng1_int, rng2_int, sName_go, sTup_go, sCons_go, sNil_go, bTup_go, bCons_go, bNil_go, two_go, List.set_cons_zero, List.set_cons_succ, List.getElem?_cons_zero, List.getElem?_cons_succ, Option.join_some, atI_0, atI_1, atI_2, decide_eq_true_eq, wipeE, List.map_cons, List.map_nil, step_nx, step_ct, step_bk, step_rt, step_rl, step_er, vOf_int, vOf_str]
      refine ⟨⟨by omega, by omega⟩, by show 1 ≤ 100000; decide, by rw [List.length_map]; omega, ex_ret (M.sel_fltM (p := fun _ => true) (h := fun k => D.str (tieS k)) fun k hk => ?_) fun bs hbs => ?_⟩
      · obtain ⟨c, x, y, rfl, _, x0, x1, y0, y1⟩ := wk.ka k hk
        have lx := ts_len x0 (by omega : x < 100)
        have ly := ts_len y0 (by omega : y < 100)
        have l1 : ((⟨#[c]⟩ : Str)).length = 1 := rfl
        show (lcF _ _ _ _ (.tup [.str ⟨#[c]⟩, .int x, .int y])).run _
        simp only [lcF_go, strIM_go, addS_go, if_true, run_bnd, run_ret, run_opt, run_req, run_all, run_choose, run_ite, then_nx, then_rt, then_rl, then_er, then_ct, then_bk, outD_rt, outD_rl, outD_nx, outL_rl, outX_rt, outX_rl, outX_nx, outX_er, mask_nil, mask_cons, mk0_f, mk0_o, mk0_od, mk0_ot, mk0_n, peek_nil, peek_cons, pk_f, pk_o, pk_od, pk_ot, pk_n, dOf_int, dOf_bl, dOf_str, dOf_non, opI0_int, opI_int, unI_int, asB_bl, asI_int, asL_lst, asT_tup, asW_web, eqS_int, eqS_str, ixL_lst, ixT_tup, ixQ_lst, ixQ_tup, lenD_lst, lenD_tup, listD_lst, listD_tup, catD_lst, rng1_int, rng2_int, sName_go, sTup_go, sCons_go, sNil_go, bTup_go, bCons_go, bNil_go, two_go, List.set_cons_zero, List.set_cons_succ, List.getElem?_cons_zero, List.getElem?_cons_succ, Option.join_some, atI_0, atI_1, atI_2, decide_eq_true_eq, wipeE, List.map_cons, List.map_nil, step_nx, step_ct, step_bk, step_rt, step_rl, step_er, vOf_int, vOf_str]
        refine ⟨rfl, ⟨by omega, by omega⟩, by omega, ⟨by omega, by omega⟩, by rw [PySem.Str.length_append]; omega, ?_⟩
        show some (D.str _) = some (D.str (Str.empty ++ (toString x : Str) ++ ⟨#[c]⟩ ++ (toString y : Str)))
        rw [Str.empty_append]
      have hbs : bs = A.map fun k => D.str (tieS k) := by rw [hbs, List.filter_eq_self.mpr (fun _ _ => rfl)]
      subst hbs
      refine ⟨?_, by rw [List.length_map]; omega, ex_ret (M.sel_fltM (p := fun _ => true) (h := fun k => D.str (tieS k)) fun k hk => ?_) fun bs hbs => ?_⟩
      · rw [List.length_map]
        show 1 + A.length ≤ 100000
        omega
      · obtain ⟨c, x, rfl, _, x0, x1⟩ := wk.km k hk
        have lx := ts_len x0 (by omega : x < 100)
        have l1 : ((⟨#[c]⟩ : Str)).length = 1 := rfl
        show (lcF _ _ _ _ (.tup [.str ⟨#[c]⟩, .int x])).run _
        simp only [lcF_go, strIM_go, addS_go, if_true, run_bnd, run_ret, run_opt, run_req, run_all, run_choose, run_ite, then_nx, then_rt, then_rl, then_er, then_ct, then_bk, outD_rt, outD_rl, outD_nx, outL_rl, outX_rt, outX_rl, outX_nx, outX_er, mask_nil, mask_cons, mk0_f, mk0_o, mk0_od, mk0_ot, mk0_n, peek_nil, peek_cons, pk_f, pk_o, pk_od, pk_ot, pk_n, dOf_int, dOf_bl, dOf_str, dOf_non, opI0_int, opI_int, unI_int, asB_bl, asI_int, asL_lst, asT_tup, asW_web, eqS_int, eqS_str, ixL_lst, ixT_tup, ixQ_lst, ixQ_tup, lenD_lst, lenD_tup, listD_lst, listD_tup, catD_lst, rng1_int, rng2_int, sName_go, sTup_go, sCons_go, sNil_go, bTup_go, bCons_go, bNil_go, two_go, List.set_cons_zero, List.set_cons_succ, List.getElem?_cons_zero, List.getElem?_cons_succ, Option.join_some, atI_0, atI_1, atI_2, decide_eq_true_eq, wipeE, List.map_cons, List.map_nil, step_nx, step_ct, step_bk, step_rt, step_rl, step_er, vOf_int, vOf_str]
        refine ⟨rfl, ⟨by omega, by omega⟩, by omega, ?_⟩
        show some (D.str _) = some (D.str (Str.empty ++ ⟨#[c]⟩ ++ (toString x : Str)))
        rw [Str.empty_append]
      have hbs : bs = Ms.map fun k => D.str (tieS k) := by rw [hbs, List.filter_eq_self.mpr (fun _ _ => rfl)]
      subst hbs
      refine ⟨?_, (toString n : Str) :: (A.map tieS ++ Ms.map tieS), ⟨by simp [List.map_map, Function.comp_def], ?_⟩, hq⟩
      · rw [List.length_append, List.length_map, List.length_map]
        show 1 + A.length + Ms.length ≤ 100000
        omega
      · have h1 := ties_sum (n := n) (by omega) (l := A ++ Ms) fun k hk => (List.mem_append.mp hk).elim (fun h => .inl (wk.ka k h)) (fun h => .inr (wk.km k h))
        have h2 := ts_len n0 (by omega : n < 100)
        rw [List.map_append, List.length_append] at h1
        rw [List.map_cons, List.sum_cons, List.length_cons, List.length_append, List.length_map, List.length_map]
        have l1 : (Str.ofString " ").length = 1 := rfl
        rw [l1]
        omega
    · exact hq.elim
end
end
end Dv
namespace Dv
open PySem PySem.Spec PyProof.Rows L2 RZ Sg Tm Wb
theorem M.sel_mapG {α β : Type} {f : α → M (Option β)} {g : α → β} : ∀ {l : List α}, (∀ a ∈ l, (f a).run fun o => o = some (g a)) → (M.sel f l).run fun bs => bs = l.map g
  | [], _ => rfl
  | a :: l, h => (f a).mono (fun o ho => (M.sel f l).mono (fun bs hb => by subst ho; subst hb; rfl) (M.sel_mapG fun b hb => h b (List.mem_cons_of_mem _ hb))) (h a (List.mem_cons_self ..))
theorem M.sel_filG {α β : Type} {f : α → M (Option β)} {p : α → Bool} {g : α → β} : ∀ {l : List α}, (∀ a ∈ l, (f a).run fun o => o = if p a = true then some (g a) else none) → (M.sel f l).run fun bs => bs = (l.filter p).map g
  | [], _ => rfl
  | a :: l, h => (f a).mono (fun o ho => (M.sel f l).mono (fun bs hb => by
      subst ho; subst hb
      cases e : p a with
      | true => rw [if_pos rfl, List.filter_cons_of_pos e]; rfl
      | false => rw [if_neg (by decide), List.filter_cons_of_neg (by rw [e]; decide)]; rfl) (M.sel_filG fun b hb => h b (List.mem_cons_of_mem _ hb))) (h a (List.mem_cons_self ..))
noncomputable def numV (z : Str) : Int := (numOf 100 z).getD 99
theorem d1 : ∀ a : _root_.Fin 10, (⟨#[48 + a.1]⟩ : Str) = (toString (a.1 : Int) : Str) := by decide +kernel
theorem d2 : ∀ a b : _root_.Fin 10, a.1 ≠ 0 → (⟨#[48 + a.1, 48 + b.1]⟩ : Str) = (toString ((10 * a.1 + b.1 : Nat) : Int) : Str) := by decide +kernel
theorem d0 : ∀ b : _root_.Fin 10, ∀ i : _root_.Fin 100, (⟨#[48, 48 + b.1]⟩ : Str) ≠ (toString (i.1 : Int) : Str) := by decide +kernel
theorem numOf_len {n : Int} {z : Str} (hn : n ≤ 100) (h : z.cps.toList = [] ∨ 3 ≤ z.length ∨ ∃ c ∈ z.cps.toList, ¬ (48 ≤ c ∧ c ≤ 57)) : numOf n z = none := by
  cases e : numOf n z with
  | none => rfl
  | some i =>
    obtain ⟨i0, i1, rfl⟩ := numOf_some e
    rcases h with h | h | ⟨c, hc, h⟩
    · exact absurd h (ts_nil i0 (by omega))
    · have := ts_len i0 (by omega : i < 100)
      omega
    · exact absurd (ts_dig i0 (by omega) c hc) h
theorem numV_none {z : Str} (h : numOf 100 z = none) : numV z = 99 := by
  unfold numV
  rw [h]
  rfl
theorem numV_one {c : Nat} (h0 : 48 ≤ c) (h1 : c ≤ 57) : numV ⟨#[c]⟩ = ((c - 48 : Nat) : Int) ∧ (⟨#[c]⟩ : Str) = (toString ((c - 48 : Nat) : Int) : Str) := by
  have e := d1 ⟨c - 48, by omega⟩
  dsimp only at e
  rw [show 48 + (c - 48) = c by omega] at e
  refine ⟨?_, e⟩
  unfold numV
  rw [e, numOf_eq (by omega) (by omega) (by decide)]
  rfl
theorem numV_two {c d : Nat} (h0 : 49 ≤ c) (h1 : c ≤ 57) (g0 : 48 ≤ d) (g1 : d ≤ 57) : numV ⟨#[c, d]⟩ = ((10 * (c - 48) + (d - 48) : Nat) : Int) ∧ (⟨#[c, d]⟩ : Str) = (toString ((10 * (c - 48) + (d - 48) : Nat) : Int) : Str) := by
  have e := d2 ⟨c - 48, by omega⟩ ⟨d - 48, by omega⟩ (by show c - 48 ≠ 0; omega)
  dsimp only at e
  rw [show 48 + (c - 48) = c by omega, show 48 + (d - 48) = d by omega] at e
  refine ⟨?_, e⟩
  unfold numV
  rw [e, numOf_eq (by omega) (by omega) (by decide)]
  rfl
theorem numV_lead {d : Nat} (g0 : 48 ≤ d) (g1 : d ≤ 57) : numV ⟨#[48, d]⟩ = 99 := by
  refine numV_none ?_
  cases e : numOf 100 (⟨#[48, d]⟩ : Str) with
  | none => rfl
  | some i =>
    obtain ⟨i0, i1, ei⟩ := numOf_some e
    have h := d0 ⟨d - 48, by omega⟩ ⟨i.toNat, by omega⟩
    dsimp only at h
    rw [show 48 + (d - 48) = d by omega, show ((i.toNat : Nat) : Int) = i by omega] at h
    exact absurd ei h
theorem numV_ge (z : Str) : 0 ≤ numV z ∧ numV z ≤ 99 := by
  cases e : numOf 100 z with
  | none => rw [numV_none e]; decide
  | some i =>
    obtain ⟨i0, i1, _⟩ := numOf_some e
    unfold numV
    rw [e]
    show 0 ≤ i ∧ i ≤ 99
    omega
theorem numV_lt {n : Int} {z : Str} (hn : n ≤ 99) : (numV z < n → numOf n z = some (numV z)) ∧ (¬ numV z < n → numOf n z = none) := by
  cases e : numOf 100 z with
  | none =>
    rw [numV_none e]
    refine ⟨fun h => by omega, fun _ => ?_⟩
    cases e2 : numOf n z with
    | none => rfl
    | some i =>
      obtain ⟨i0, i1, ei⟩ := numOf_some e2
      exact absurd ei (numOf_none e i0 (by omega))
  | some i =>
    obtain ⟨i0, i1, ei⟩ := numOf_some e
    have ev : numV z = i := by
      unfold numV
      rw [e]
      rfl
    rw [ev]
    refine ⟨fun h => by rw [ei]; exact numOf_eq i0 h (by omega), fun h => ?_⟩
    cases e2 : numOf n z with
    | none => rfl
    | some j =>
      obtain ⟨j0, j1, ej⟩ := numOf_some e2
      have := ts_inj i0 i1 j0 (by omega) (ei.symm.trans ej)
      omega
def abc (c : Nat) : Bool := decide (c ∈ ("abc" : Str).cps.toList)
theorem abc_iff (c : Nat) : abc c = true ↔ c = 97 ∨ c = 98 ∨ c = 99 := by
  unfold abc
  rw [decide_eq_true_eq]
  show c ∈ ([97, 98, 99] : List Nat) ↔ _
  simp
def seatsF : List Nat → Nat → List Nat
  | [], _ => []
  | c :: r, s => if abc c = true then s :: seatsF r (s + 1) else seatsF r (s + 1)
theorem seats_range : ∀ (l : List Nat) (s : Nat), ((List.range' s l.length).filter fun i => abc (l.getD (i - s) 0)) = seatsF l s
  | [], s => rfl
  | c :: r, s => by
    rw [List.length_cons, List.range'_succ]
    have ih := seats_range r (s + 1)
    have e : ((List.range' (s + 1) r.length).filter fun i => abc ((c :: r).getD (i - s) 0)) = seatsF r (s + 1) := by
      rw [← ih]
      refine List.filter_congr fun i hi => ?_
      have := (List.mem_range'_1.mp hi).1
      rw [show i - s = (i - (s + 1)) + 1 by omega]
      rfl
    have e0 : abc ((c :: r).getD (s - s) 0) = abc c := by rw [Nat.sub_self]; rfl
    unfold seatsF
    cases h : abc c with
    | true => rw [List.filter_cons_of_pos (by rw [e0]; exact h), e, if_pos rfl]
    | false => rw [List.filter_cons_of_neg (by rw [e0, h]; decide), e, if_neg (by decide)]
theorem seats_none : ∀ {l : List Nat} {s : Nat}, (∀ c ∈ l, abc c = false) → seatsF l s = []
  | [], _, _ => rfl
  | c :: r, s, h => by
    unfold seatsF
    rw [h c (List.mem_cons_self ..), if_neg (by decide)]
    exact seats_none fun d hd => h d (List.mem_cons_of_mem _ hd)
theorem none_seats : ∀ {l : List Nat} {s : Nat}, seatsF l s = [] → ∀ c ∈ l, abc c = false
  | [], _, _, c, h => nomatch h
  | d :: r, s, h, c, hc => by
    unfold seatsF at h
    cases e : abc d with
    | true => rw [e, if_pos rfl] at h; cases h
    | false =>
      rw [e, if_neg (by decide)] at h
      rcases List.mem_cons.mp hc with rfl | hc
      · exact e
      · exact none_seats h c hc
theorem seats_at : ∀ {a b : List Nat} {d s : Nat}, (∀ c ∈ a, abc c = false) → (∀ c ∈ b, abc c = false) → abc d = true → seatsF (a ++ d :: b) s = [s + a.length]
  | [], b, d, s, _, hb, hd => by
    show (if abc d = true then s :: seatsF b (s + 1) else seatsF b (s + 1)) = _
    rw [if_pos hd, seats_none hb]
    rfl
  | x :: a, b, d, s, ha, hb, hd => by
    show (if abc x = true then s :: seatsF (a ++ d :: b) (s + 1) else seatsF (a ++ d :: b) (s + 1)) = _
    rw [ha x (List.mem_cons_self ..), if_neg (by decide), seats_at (fun c hc => ha c (List.mem_cons_of_mem _ hc)) hb hd, List.length_cons, show s + 1 + a.length = s + (a.length + 1) by omega]
theorem seats_one : ∀ {l : List Nat} {s j : Nat}, seatsF l s = [j] → ∃ a d b, l = a ++ d :: b ∧ j = s + a.length ∧ (∀ c ∈ a, abc c = false) ∧ (∀ c ∈ b, abc c = false) ∧ abc d = true
  | [], _, _, h => nomatch h
  | c :: r, s, j, h => by
    unfold seatsF at h
    cases e : abc c with
    | true =>
      rw [e, if_pos rfl] at h
      injection h with h1 h2
      exact ⟨[], c, r, rfl, by rw [← h1]; rfl, (fun _ h => nomatch h), none_seats h2, e⟩
    | false =>
      rw [e, if_neg (by decide)] at h
      obtain ⟨a, d, b, e1, e2, e3, e4, e5⟩ := seats_one h
      refine ⟨c :: a, d, b, by rw [e1]; rfl, by rw [e2, List.length_cons]; omega, fun x hx => (List.mem_cons.mp hx).elim (fun h => by rw [h]; exact e) (e3 x), e4, e5⟩
def tagK (k : Ks) : Ks := .inl (if k.length = 3 then 0 else 1) :: k
def tagOD : Option Ks → D
  | some k => tieD (tagK k)
  | none => .non
def lastK (ah : Ks) : Ks := if ah = [] then [.inl 0, .inr ""] else tagK ah
theorem str_one_lt (c : Nat) : decide ((("" : Str)).cps.toList < (⟨#[c]⟩ : Str).cps.toList) = true := decide_eq_true (List.nil_lt_cons _ _)
theorem inr_eq (c c' : Nat) : ((.inr ⟨#[c]⟩ : Key) = .inr ⟨#[c']⟩) ↔ c = c' := ⟨fun h => by injection h with h; injection h with h; injection h with h; injection h, fun h => by rw [h]⟩
theorem inl_eq (x y : Int) : ((.inl x : Key) = .inl y) ↔ x = y := ⟨fun h => by injection h, fun h => by rw [h]⟩
theorem le_sign (c c' : Nat) : leKy (.inr ⟨#[c]⟩) (.inr ⟨#[c']⟩) = decide (c ≤ c') := by
  show (!decide (([c'] : List Nat) < [c])) = _
  rw [lt_one]
  by_cases h : c' < c
  · rw [decide_eq_true (Int.ofNat_lt.mpr h), decide_eq_false (by omega)]
    rfl
  · rw [decide_eq_false (fun z => h (Int.ofNat_lt.mp z)), decide_eq_true (by omega)]
    rfl
theorem lex_a {c c' : Nat} {x y x' y' : Int} (hx : 0 ≤ x ∧ x < 128) (hy : 0 ≤ y ∧ y < 128) (hx' : 0 ≤ x' ∧ x' < 128) (hy' : 0 ≤ y' ∧ y' < 128) : lexK [.inr ⟨#[c]⟩, .inl x, .inl y] [.inr ⟨#[c']⟩, .inl x', .inl y'] = decide (tc [.inr ⟨#[c]⟩, .inl x, .inl y] ≤ tc [.inr ⟨#[c']⟩, .inl x', .inl y']) := by
  rw [tc_a, tc_a]
  simp only [lexK, inr_eq, inl_eq, le_sign]
  by_cases h0 : c = c'
  · rw [if_pos h0]
    by_cases h1 : x = x'
    · rw [if_pos h1]
      by_cases h2 : y = y'
      · rw [if_pos h2, decide_eq_true (by omega)]
      · rw [if_neg h2]
        show decide (y ≤ y') = _
        rw [Bool.eq_iff_iff, decide_eq_true_eq, decide_eq_true_eq]
        omega
    · rw [if_neg h1]
      show decide (x ≤ x') = _
      rw [Bool.eq_iff_iff, decide_eq_true_eq, decide_eq_true_eq]
      omega
  · rw [if_neg h0, Bool.eq_iff_iff, decide_eq_true_eq, decide_eq_true_eq]
    omega
theorem lex_m {c c' : Nat} {x x' : Int} (hx : 0 ≤ x ∧ x < 128) (hx' : 0 ≤ x' ∧ x' < 128) : lexK [.inr ⟨#[c]⟩, .inl x] [.inr ⟨#[c']⟩, .inl x'] = decide (tc [.inr ⟨#[c]⟩, .inl x] ≤ tc [.inr ⟨#[c']⟩, .inl x']) := by
  rw [tc_m, tc_m]
  simp only [lexK, inr_eq, inl_eq, le_sign]
  by_cases h0 : c = c'
  · rw [if_pos h0]
    by_cases h1 : x = x'
    · rw [if_pos h1, decide_eq_true (by omega)]
    · rw [if_neg h1]
      show decide (x ≤ x') = _
      rw [Bool.eq_iff_iff, decide_eq_true_eq, decide_eq_true_eq]
      omega
  · rw [if_neg h0, Bool.eq_iff_iff, decide_eq_true_eq, decide_eq_true_eq]
    omega
theorem tag_le {k ah : Ks} (ck : CK k) (ca : ah = [] ∨ CK ah) : AllK (tagK k) (lastK ah) ∧ lexK (tagK k) (lastK ah) = leKs k ah := by
  rcases ck with ⟨c, x, y, rfl, c1, c2, x0, x1, y0, y1⟩ | ⟨c, x, rfl, c1, c2, x0, x1⟩
  · rcases ca with rfl | ⟨c', x', y', rfl, c1', c2', x0', x1', y0', y1'⟩ | ⟨c', x', rfl, c1', c2', x0', x1'⟩
    · refine ⟨⟨trivial, trivial, trivial⟩, ?_⟩
      show (if (.inl 0 : Key) = .inl 0 then lexK [.inr ⟨#[c]⟩, .inl x, .inl y] [.inr ""] else _) = false
      rw [if_pos rfl]
      show (if (.inr ⟨#[c]⟩ : Key) = .inr "" then _ else leKy (.inr ⟨#[c]⟩) (.inr "")) = false
      rw [if_neg (fun h => by injection h with h; exact absurd (congrArg (fun z : Str => z.length) h) (show (1 : Nat) ≠ 0 by decide))]
      show (!decide ((("" : Str)).cps.toList < (⟨#[c]⟩ : Str).cps.toList)) = false
      rw [str_one_lt]
      rfl
    · refine ⟨⟨trivial, trivial, trivial, trivial, trivial⟩, ?_⟩
      show (if (.inl 0 : Key) = .inl 0 then lexK [.inr ⟨#[c]⟩, .inl x, .inl y] [.inr ⟨#[c']⟩, .inl x', .inl y'] else _) = _
      rw [if_pos rfl, lex_a ⟨x0, x1⟩ ⟨y0, y1⟩ ⟨x0', x1'⟩ ⟨y0', y1'⟩]
      unfold leKs
      rw [if_neg (fun z => nomatch z)]
    · refine ⟨⟨trivial, trivial, trivial, trivial⟩, ?_⟩
      show (if (.inl 0 : Key) = .inl 1 then _ else decide ((0 : Int) ≤ 1)) = _
      rw [if_neg (fun h => by injection h with h; cases h)]
      unfold leKs
      rw [if_neg (fun z => nomatch z), tc_a, tc_m, decide_eq_true (by decide), decide_eq_true (by omega)]
  · rcases ca with rfl | ⟨c', x', y', rfl, c1', c2', x0', x1', y0', y1'⟩ | ⟨c', x', rfl, c1', c2', x0', x1'⟩
    · refine ⟨⟨trivial, trivial, trivial⟩, ?_⟩
      show (if (.inl 1 : Key) = .inl 0 then _ else decide ((1 : Int) ≤ 0)) = false
      rw [if_neg (fun h => by injection h with h; cases h)]
      rfl
    · refine ⟨⟨trivial, trivial, trivial, trivial⟩, ?_⟩
      show (if (.inl 1 : Key) = .inl 0 then _ else decide ((1 : Int) ≤ 0)) = _
      rw [if_neg (fun h => by injection h with h; cases h)]
      unfold leKs
      rw [if_neg (fun z => nomatch z), tc_a, tc_m, decide_eq_false (by decide), decide_eq_false (by omega)]
    · refine ⟨⟨trivial, trivial, trivial, trivial⟩, ?_⟩
      show (if (.inl 1 : Key) = .inl 1 then lexK [.inr ⟨#[c]⟩, .inl x] [.inr ⟨#[c']⟩, .inl x'] else _) = _
      rw [if_pos rfl, lex_m ⟨x0, x1⟩ ⟨x0', x1'⟩]
      unfold leKs
      rw [if_neg (fun z => nomatch z)]
end Dv
namespace Dv
open PySem PySem.Spec PyProof.Rows L2 RZ Sg Tm Wb
local macro_rules | `(tactic| walk_at "r2") => `(tactic| first | with_reducible exact r_I0 | with_reducible exact r_I | with_reducible exact r_eq | with_reducible exact r_ne | with_reducible exact r_isN | with_reducible exact r_notN | with_reducible exact r_ixL | with_reducible exact r_ixT | with_reducible exact r_ixQ | with_reducible exact r_eqD | with_reducible exact r_neD | with_reducible exact r_inD | with_reducible exact r_notInD | with_reducible exact r_isB | with_reducible exact r_notB)
local macro_rules | `(tactic| walk_at "r2l") => `(tactic| first | with_reducible exact r_cat)
local macro_rules | `(tactic| walk_at "rc") => `(tactic| first | with_reducible exact r_len | with_reducible exact r_all)
local macro_rules | `(tactic| walk_at "rcl") => `(tactic| first | with_reducible exact r_list)
local macro_rules | `(tactic| walk_at "eo") => `(tactic| first | with_reducible exact eo_none | (with_reducible apply eo_some; walk_at "ed"))
local macro_rules | `(tactic| walk_at "ea") => `(tactic| first | with_reducible exact ea_nil | (with_reducible apply ea_star; walk_at "ed"; walk_at "ea") | (with_reducible apply ea_cons; walk_at "ed"; walk_at "ea"))
local macro_rules | `(tactic| walk_at "et") => `(tactic| first
  | with_reducible exact et_yes
  | (with_reducible apply et_test; walk_at "ed") | (with_reducible apply et_B; walk_at "ed") | (with_reducible apply et_not; walk_at "et")
  | (with_reducible apply et_and; walk_at "et"; walk_at "et") | (with_reducible apply et_or; walk_at "et"; walk_at "et"))
local macro_rules | `(tactic| walk_at "eg") => `(tactic| first | with_reducible exact eg_name | (with_reducible apply eg_tup; walk_at "egs"))
local macro_rules | `(tactic| walk_at "egs") => `(tactic| first | with_reducible exact eg_nil | (with_reducible apply eg_cons; walk_at "eg"; walk_at "egs"))
local macro_rules | `(tactic| walk_at "es") => `(tactic| first | with_reducible exact es_name | (with_reducible apply es_tup; walk_at "ess"))
local macro_rules | `(tactic| walk_at "ess") => `(tactic| first | with_reducible exact es_nil | (with_reducible apply es_cons; walk_at "es"; walk_at "ess"))
local macro_rules | `(tactic| walk_at "ei") => `(tactic| first | (with_reducible apply ei_list; walk_at "ed") | (with_reducible apply ei_tup; walk_at "ed") | (with_reducible apply ei_rng1; walk_at "ea") | (with_reducible apply ei_rng2; walk_at "ea") | (with_reducible apply ei_str; walk_at "ed"))
local macro_rules | `(tactic| walk_at "el") => `(tactic| first
  | (with_reducible apply el_lst; walk_at "ea")
  | (focus (with_reducible apply el_lc; rotate_left; walk_at "ei"; walk_at "eg"; walk_at "et"; walk_at "ed"; decide))
  | (with_reducible apply el_op; walk_at "r2l"; walk_at "ed"; walk_at "ed")
  | (with_reducible apply el_cb; walk_at "rcl"; walk_at "ea")
  | (with_reducible apply el_sl; walk_at "ed"; walk_at "eo"; walk_at "eo")
  | (with_reducible apply el_call; walk_at "ea")
  | walk_at "el+"
  | (with_reducible apply el_meth; decide; walk_at "ed"; walk_at "ea"))
local macro_rules | `(tactic| walk_at "ed") => `(tactic| first
  | with_reducible exact ed_var | with_reducible exact ed_c
  | (with_reducible apply ed_op; walk_at "r2"; walk_at "ed"; walk_at "ed")
  | (with_reducible apply ed_call; walk_at "ea")
  | (with_reducible apply ed_callX; walk_at "ea")
  | (with_reducible apply ed_tup; walk_at "ea")
  | (with_reducible apply ed_if; walk_at "et"; walk_at "ed"; walk_at "ed")
  | (with_reducible apply ed_cb; walk_at "rc"; walk_at "ea")
  | (with_reducible apply ed_un r_U; walk_at "ed")
  | (with_reducible apply ed_chain; walk_at "r2"; walk_at "r2"; walk_at "ed"; walk_at "ed"; walk_at "ed")
  | (with_reducible apply ed_andV; walk_at "ed"; walk_at "ed") | (with_reducible apply ed_orV; walk_at "ed"; walk_at "ed")
  | (with_reducible apply ed_meth; decide; walk_at "ed"; walk_at "ea")
  | walk_at "ed+"
  | (with_reducible apply EvL.d; walk_at "el"))
local macro_rules | `(tactic| walk_at "svF") => `(tactic| first
  | (with_reducible apply sv_seq; walk_at "svF"; walk_at "svF")
  | (with_reducible apply sv_asg; walk_at "ed")
  | (with_reducible apply sv_if; walk_at "et"; walk_at "svF"; walk_at "svF")
  | (with_reducible apply sv_for; walk_at "ei"; walk_at "es"; walk_at "svF")
  | walk_at "sv")
local macro_rules | `(tactic| walk_at "sv") => `(tactic| first
  | with_reducible exact sv_next | with_reducible exact sv_break | with_reducible exact sv_cont | with_reducible exact sv_never | with_reducible exact sv_retN
  | (with_reducible apply sv_seq; walk_at "sv"; walk_at "sv")
  | (with_reducible apply sv_asgL; walk_at "el")
  | (with_reducible apply sv_asg; walk_at "ed")
  | (with_reducible apply sv_if; walk_at "et"; walk_at "sv"; walk_at "sv")
  | (with_reducible apply sv_for; walk_at "ei"; walk_at "es"; walk_at "sv")
  | (with_reducible apply sv_par; walk_at "ea")
  | (with_reducible apply sv_app; walk_at "ed")
  | (with_reducible apply sv_ret; walk_at "ed")
  | (with_reducible apply sv_asgT; walk_at "ed"; walk_at "es")
  | (with_reducible apply sv_drop; walk_at "ed"))
local macro_rules | `(tactic| walk_at "rc") => `(tactic| first | with_reducible exact r_len | with_reducible exact r_all | with_reducible exact r_max | with_reducible exact r_min)
local macro_rules | `(tactic| walk_at "rcl") => `(tactic| first | with_reducible exact r_list | with_reducible exact r_sort)
local macro_rules | `(tactic| walk_at "el+") => `(tactic| (with_reducible apply el_listRg; walk_at "ed"))
local macro_rules | `(tactic| walk_at "edm") => `(tactic| first | (with_reducible apply ed_index; walk_at "ed"; walk_at "ed") | (with_reducible apply ed_dget2; walk_at "ed"; walk_at "ed"; walk_at "ed") | with_reducible exact ed_disp2 | (with_reducible apply ed_chain; walk_at "r2"; walk_at "r2"; walk_at "ed"; walk_at "ed"; walk_at "ed"))
local macro_rules | `(tactic| walk_at "ed+") => `(tactic| walk_at "edm")
local macro_rules | `(tactic| walk_at "ex") => `(tactic| first | (with_reducible apply ex_callI; walk_at "ea") | (with_reducible apply ex_call; walk_at "ea") | (with_reducible apply ex_opL; walk_at "r2"; walk_at "ex"; walk_at "ed"))
local macro_rules | `(tactic| walk_at "svM") => `(tactic| first
  | (with_reducible apply sv_seq; walk_at "svM"; walk_at "svM")
  | (with_reducible apply sv_ins; walk_at "ed")
  | (with_reducible apply sv_asg; walk_at "ed")
  | (with_reducible apply sv_asgX; walk_at "ex")
  | (with_reducible apply sv_retX; walk_at "ex")
  | (with_reducible apply sv_if; walk_at "et"; walk_at "svM"; walk_at "svM")
  | (with_reducible apply sv_for; walk_at "ei"; walk_at "es"; walk_at "svM")
  | walk_at "sv")
local macro_rules | `(tactic| walk_at "rc") => `(tactic| first | with_reducible exact r_len | with_reducible exact r_lenK | with_reducible exact r_all | with_reducible exact r_max | with_reducible exact r_min | with_reducible exact r_max1 | with_reducible exact r_min1 | with_reducible exact r_int | with_reducible exact r_tup)
local macro_rules | `(tactic| walk_at "ei") => `(tactic| first | (with_reducible apply ei_list; walk_at "ed") | (with_reducible apply ei_tup; walk_at "ed") | (with_reducible apply ei_rng1; walk_at "ea") | (with_reducible apply ei_rng2; walk_at "ea") | (with_reducible apply ei_str; walk_at "ed") | (with_reducible apply ei_en; walk_at "ea"))
local macro_rules | `(tactic| walk_at "edk") => `(tactic| first | (with_reducible apply ed_mk2; walk_at "ea"; walk_at "ea") | (with_reducible apply ed_dget; walk_at "ed"; walk_at "ed") | (with_reducible apply ed_din; walk_at "ed"; walk_at "ed") | (with_reducible apply ed_dnin; walk_at "ed"; walk_at "ed") | walk_at "edm")
local macro_rules | `(tactic| walk_at "ed+") => `(tactic| walk_at "edk")
local macro_rules | `(tactic| walk_at "ek") => `(tactic| first | with_reducible exact ek_new | (focus (with_reducible apply ek_dc; rotate_left; walk_at "ei"; walk_at "eg"; walk_at "et"; walk_at "ed"; walk_at "ed"; decide)))
local macro_rules | `(tactic| walk_at "svN") => `(tactic| first
  | (with_reducible apply sv_seq; walk_at "svN"; walk_at "svN")
  | (with_reducible apply sv_ins; walk_at "ed")
  | (with_reducible apply sv_asgK; walk_at "ek")
  | (with_reducible apply sv_asg; walk_at "ed")
  | (with_reducible apply sv_asgX; walk_at "ex")
  | (with_reducible apply sv_dropX; walk_at "ex")
  | (with_reducible apply sv_retX; walk_at "ex")
  | (with_reducible apply sv_dput; walk_at "ed"; walk_at "ed")
  | (with_reducible apply sv_raise rfl; decide; walk_at "ed")
  | (with_reducible apply sv_if; walk_at "et"; walk_at "svN"; walk_at "svN")
  | (with_reducible apply sv_for; walk_at "ei"; walk_at "es"; walk_at "svN")
  | walk_at "sv")
section
open PySem PySem.Spec PyProof.Rows L2 RZ Sg Tm Wb
local macro_rules | `(tactic| walk_at "r2") => `(tactic| first | with_reducible exact r_I0 | with_reducible exact r_I | with_reducible exact r_eq | with_reducible exact r_ne | with_reducible exact r_isN | with_reducible exact r_notN | with_reducible exact r_ixL | with_reducible exact r_ixT | with_reducible exact r_ixQ | with_reducible exact r_eqD | with_reducible exact r_neD | with_reducible exact r_inD | with_reducible exact r_notInD | with_reducible exact r_mulS | with_reducible exact r_addS)
local macro_rules | `(tactic| walk_at "rcl") => `(tactic| first | with_reducible exact r_list | with_reducible exact r_sort | with_reducible exact r_listS)
local macro_rules | `(tactic| walk_at "el+") => `(tactic| first | (with_reducible apply el_split; walk_at "ed"; walk_at "ed") | (with_reducible apply el_listRg; walk_at "ed"))
local macro_rules | `(tactic| walk_at "ed+") => `(tactic| first | (with_reducible apply ed_slS; walk_at "ed"; walk_at "eo"; walk_at "eo") | walk_at "edk")
local macro_rules | `(tactic| walk_at "svP") => `(tactic| first
  | (with_reducible apply sv_seq; walk_at "svP"; walk_at "svP")
  | (with_reducible apply sv_augI; walk_at "ed")
  | (with_reducible apply sv_asgL; with_reducible apply el_lst; with_reducible exact ea_nil)
  | (with_reducible apply sv_asg; walk_at "ed")
  | (with_reducible apply sv_if; walk_at "et"; walk_at "svP"; walk_at "svP")
  | (with_reducible apply sv_for; walk_at "ei"; walk_at "es"; walk_at "svP")
  | walk_at "sv")
noncomputable def niM : List D → M D
  | [.str z] => M.bnd (M.req (z.length ≤ 100000)) fun _ => M.ret (.int (numV z))
  | _ => M.fail
def digB (c : Nat) : Bool := decide (c ∈ ("0123456789" : Str).cps.toList)
theorem digB_iff (c : Nat) : digB c = true ↔ 48 ≤ c ∧ c ≤ 57 := by
  unfold digB
  rw [decide_eq_true_eq]
  show c ∈ ([48, 49, 50, 51, 52, 53, 54, 55, 56, 57] : List Nat) ↔ _
  simp only [List.mem_cons, List.mem_nil_iff, or_false]
  omega
theorem allM_run {α : Type} {p : α → Bool} {l : List α} {Q : D → Prop} (q : Q (.bl (l.all p))) : (allM [.lst (l.map fun a => D.bl (p a))]).run Q := by
  refine ⟨l.map p, ?_, ?_⟩
  · show l.map (fun a => D.bl (p a)) = (l.map p).map D.bl
    rw [List.map_map]
    rfl
  · show Q (.bl ((l.map p).all id))
    rw [List.all_map]
    exact q
theorem strD_any (z : Str) : strD (.str z) = M.ret (z.cps.toList.map fun c => D.str ⟨#[c]⟩) := rfl
def sgnB : D → Bool
  | .str y => digB (y.cps.toList.headD 0)
  | _ => false
theorem sgn_all (l : List Nat) : (l.map fun c => D.str ⟨#[c]⟩).all sgnB = l.all digB := by
  rw [List.all_map]
  rfl
theorem str_list {z : Str} {l : List Nat} (h : z.cps.toList = l) : z = ⟨l.toArray⟩ := str_cps (by rw [h])
theorem int_text (n : Nat) (h : n < 100) : PySem.intText? (toString (n : Int) : Str) = some (n : Int) := intS_all ⟨n, h⟩
theorem intS_run {z : Str} {n : Int} {Q : D → Prop} (h : PySem.intText? z = some n) (l : z.length ≤ 640) (q : Q (.int n)) : (intS [.str z]).run Q := ⟨n, ⟨h, l⟩, q⟩
section
variable {P : Program} {w : World} {K : PySem.W.Frag} {mg : Str → Option Value} {base : Heap} {C : Addr} {T : List (Addr × Str)} {cls : Str → Addr}
local macro_rules | `(tactic| walk_at "r2") => `(tactic| first | with_reducible exact r_ixS | with_reducible exact r_inSS | with_reducible exact r_I0 | with_reducible exact r_I | with_reducible exact r_eq | with_reducible exact r_ne)
local macro_rules | `(tactic| walk_at "rc") => `(tactic| first | with_reducible exact r_lenS | with_reducible exact r_intS | with_reducible exact r_all)
local macro_rules | `(tactic| walk_at "et") => `(tactic| first
  | with_reducible exact et_yes
  | (with_reducible apply et_test; walk_at "ed") | (with_reducible apply et_B; walk_at "ed") | (with_reducible apply et_not; walk_at "et")
  | (with_reducible apply et_and; walk_at "et"; walk_at "et") | (with_reducible apply et_or; walk_at "et"; walk_at "et"))
abbrev s_law_num_in : Stmt := topS 35
theorem len_ni {ds : List D} {Q : _ → Prop} (h : (niM ds).run Q) : ds.length = 1 := by
  unfold niM at h
  split at h
  · rfl
  · exact h.elim
abbrev N_ni : List Str := ["_law_word", "_law_sign_here"]
theorem sc_ni : FnScope N_ni ["_law_word"] (defScope s_law_num_in) := ⟨rfl, rfl, rfl, by decide +kernel, rfl, by decide +kernel, by decide +kernel⟩
theorem ok_ni {f : Addr} {fd : FuncData} (F : Fun K "_law_number_in" "_law_number_in" s_law_num_in f fd) (b : Bq mg) (bi : mg "int" = none) (ba : mg "all" = none) : FnOk P w K mg base CX0 1 f fd ["_law_word"] (spD (mkS K C T cls) niM) := by
  refine F.ok sc_ni (fun vs H Q E h => ?_) (fun cdv A outer s H vs Q E hr h => ?_)
  · obtain ⟨B, G, ds, _, r, h⟩ := h
    rw [r.length]
    exact len_ni h
  · have hu5 : (A.deeper (envOfC "_law_number_in" (defScope s_law_num_in) s.heap.objs.size f cdv)).units + 65 < cLine := by
      have := hr.un
      omega
    have hu : (A.deeper (envOfC "_law_number_in" (defScope s_law_num_in) s.heap.objs.size f cdv)).units + 64 < cLine := by omega
    have hu1 : (A.deeper (envOfC "_law_number_in" (defScope s_law_num_in) s.heap.objs.size f cdv)).units + 1 < cLine := by omega
    refine ⟨_, (pss_cons (ps_if (PW.pt (pw_or (pt_not (pt_chain op_le op_le pe_int (pe_callB call_len_str (by rfl) b.len PySem.boot_len (pa_cons (pv 0) pa_nil)) pe_int)) (pw_or1 (pt_not (pt_val (pe_callB (dv_all (K := K) rfl rfl) (by rfl) ba (by decide +kernel) (pa_cons (pe_lc (own := [("_law_sign_here", 1)]) (g := gName 1) (tt := tYes) rfl sc_ni.nd (pi_str (pv 0)) (blkOk_by (N := N_ni) (sc := defScope s_law_num_in) (by decide +kernel)) (fun _ _ _ _ _ => (pg_name (i := 1) sc_ni.nd rfl (.inl rfl))) (fun _ _ _ _ _ => pts_nil) (fun _ _ _ _ _ => (pe_cmpR op_inSS (pv 1) pe_str (by rfl)))) pa_nil))))))) (pss_one (ps_ret pe_int)) pss_nil)
      (pss_one (ps_ret (pe_ifExp (PW.pt (pw_and (pt_cmpR op_eq (pe_callB call_len_str (by rfl) b.len PySem.boot_len (pa_cons (pv 0) pa_nil)) pe_int (nomark _)) (pw_and1 (pt_cmpR op_eq (pe_ix ix_str (pv 0) pe_int (fun _ _ => rfl)) pe_str (nomark _))))) pe_int (pe_callTy call_int_str (by rfl) bi (by decide +kernel) (pa_cons (pv 0) pa_nil)))))), ?_⟩
    refine run_D (X := E) (S := mkS K C T cls) (N := N_ni) (by walk_at "sv") ?_ h
    intro ds Q hq
    unfold niM at hq
    split at hq
    · rename_i z
      obtain ⟨zl, hq⟩ := hq
      have hq : Q (.int (numV z)) := hq
      have lz : z.length = z.cps.toList.length := by show z.cps.size = _; simp
      have e : startE N_ni.length [.str z] = [some (.f (.str z)), none] := rfl
      rw [e]
      simp only [lenS_go, run_bnd, run_ret, run_opt, run_req, run_all, run_choose, run_ite, then_nx, then_rt, then_rl, then_er, then_ct, then_bk, outD_rt, outD_rl, outD_nx, outL_rl, outX_rt, outX_rl, outX_nx, outX_er, mask_nil, mask_cons, mk0_f, mk0_o, mk0_od, mk0_ot, mk0_n, peek_nil, peek_cons, pk_f, pk_o, pk_od, pk_ot, pk_n, dOf_int, dOf_bl, dOf_str, dOf_non, opI0_int, opI_int, unI_int, asB_bl, asI_int, asL_lst, asT_tup, asW_web, eqS_int, eqS_str, ixL_lst, ixT_tup, ixQ_lst, ixQ_tup, lenD_lst, lenD_tup, listD_lst, listD_tup, catD_lst, rng1_int, rng2_int, sName_go, sTup_go, sCons_go, sNil_go, bTup_go, bCons_go, bNil_go, two_go, List.set_cons_zero, List.set_cons_succ, List.getElem?_cons_zero, List.getElem?_cons_succ, Option.join_some, atI_0, atI_1, atI_2, decide_eq_true_eq, wipeE, List.map_cons, List.map_nil, step_nx, step_ct, step_bk, step_rt, step_rl, step_er, vOf_int, vOf_str]
      refine ⟨zl, ?_⟩
      have lst : ∀ {Q : D → Prop}, Q (.bl (z.cps.toList.all digB)) → (strD (D.str z)).run fun a => a.length ≤ 100000 ∧ (M.sel (lcF (fun d ρ => M.ret (List.set ρ 1 (some d))) (fun x => M.ret true) (fun ρ => (M.opt ρ[1]?.join).bnd fun x => (M.opt (some (D.str (Str.ofString "0123456789")))).bnd fun y => inSS x y) [some (D.str z), none]) a).run fun a => (allM [D.lst a]).run Q := fun {Q} q => by
        rw [strD_any, run_ret]
        refine ⟨by rw [List.length_map]; omega, (M.sel _ _).mono (fun bs hbs => ?_) (M.sel_mapG (g := fun d => D.bl (sgnB d)) fun d hd => ?_)⟩
        · subst hbs
          refine allM_run ?_
          rw [sgn_all]
          exact q
        · obtain ⟨c, _, rfl⟩ := List.mem_map.mp hd
          simp only [lcF_go, if_true, run_bnd, run_ret, run_opt, run_req, run_all, run_choose, run_ite, then_nx, then_rt, then_rl, then_er, then_ct, then_bk, outD_rt, outD_rl, outD_nx, outL_rl, outX_rt, outX_rl, outX_nx, outX_er, mask_nil, mask_cons, mk0_f, mk0_o, mk0_od, mk0_ot, mk0_n, peek_nil, peek_cons, pk_f, pk_o, pk_od, pk_ot, pk_n, dOf_int, dOf_bl, dOf_str, dOf_non, opI0_int, opI_int, unI_int, asB_bl, asI_int, asL_lst, asT_tup, asW_web, eqS_int, eqS_str, ixL_lst, ixT_tup, ixQ_lst, ixQ_tup, lenD_lst, lenD_tup, listD_lst, listD_tup, catD_lst, rng1_int, rng2_int, sName_go, sTup_go, sCons_go, sNil_go, bTup_go, bCons_go, bNil_go, two_go, List.set_cons_zero, List.set_cons_succ, List.getElem?_cons_zero, List.getElem?_cons_succ, Option.join_some, atI_0, atI_1, atI_2, decide_eq_true_eq, wipeE, List.map_cons, List.map_nil, step_nx, step_ct, step_bk, step_rt, step_rl, step_er, vOf_int, vOf_str]
          exact inSS_run rfl
      rcases Nat.lt_or_ge z.length 1 with h0 | h0
      · rw [numV_none (numOf_len (by decide) (.inl (List.eq_nil_of_length_eq_zero (by omega))))] at hq
        rw [if_neg (by omega), if_pos (by decide), if_pos trivial]
        exact hq
      rw [if_pos (by omega)]
      rcases Nat.lt_or_ge 2 z.length with h2 | h2
      · rw [numV_none (numOf_len (by decide) (.inr (.inl (by omega))))] at hq
        rw [decide_eq_false (by omega), if_pos (by decide), if_pos trivial]
        exact hq
      rw [decide_eq_true (by omega), if_neg (by decide)]
      refine lst ?_
      rw [asB_bl, run_ret]
      cases ea : z.cps.toList.all digB with
      | false =>
        rw [if_pos (by decide)]
        obtain ⟨c, hc, nd⟩ : ∃ c ∈ z.cps.toList, ¬ (48 ≤ c ∧ c ≤ 57) := by
          by_cases h : ∃ c ∈ z.cps.toList, ¬ (48 ≤ c ∧ c ≤ 57)
          · exact h
          · exfalso
            have : z.cps.toList.all digB = true := List.all_eq_true.mpr fun c hc => (digB_iff c).mpr (Classical.byContradiction fun n => h ⟨c, hc, n⟩)
            rw [this] at ea
            cases ea
        rw [numV_none (numOf_len (by decide) (.inr (.inr ⟨c, hc, nd⟩)))] at hq
        exact hq
      | true =>
        have ad : ∀ c ∈ z.cps.toList, 48 ≤ c ∧ c ≤ 57 := fun c hc => (digB_iff c).mp (List.all_eq_true.mp ea c hc)
        rw [if_neg (by decide)]
        refine ⟨zl, ?_⟩
        match el : z.cps.toList with
        | [] => rw [el] at lz; exact absurd lz (by show z.length ≠ 0; omega)
        | [c] =>
          obtain rfl := str_list el
          obtain ⟨h3, h4⟩ := ad c (by rw [el]; exact List.mem_singleton_self _)
          obtain ⟨n1, n2⟩ := numV_one h3 h4
          have l1 : ((⟨[c].toArray⟩ : Str)).length = 1 := rfl
          rw [show numV (⟨[c].toArray⟩ : Str) = ((c - 48 : Nat) : Int) from n1] at hq
          rw [if_neg (by rw [l1]; decide), if_neg (by decide)]
          refine intS_run ?_ (by rw [l1]; decide) hq
          rw [show (⟨[c].toArray⟩ : Str) = (toString ((c - 48 : Nat) : Int) : Str) from n2]
          exact int_text _ (by omega)
        | [c, d] =>
          obtain rfl := str_list el
          obtain ⟨h3, h4⟩ := ad c (by rw [el]; exact List.mem_cons_self ..)
          obtain ⟨h5, h6⟩ := ad d (by rw [el]; exact List.mem_cons_of_mem _ (List.mem_singleton_self _))
          have l1 : ((⟨[c, d].toArray⟩ : Str)).length = 2 := rfl
          have ix0 : ∀ {Q : D → Prop}, Q (.str ⟨#[c]⟩) → (ixS (.str (⟨[c, d].toArray⟩ : Str)) (.int 0)).run Q := fun q => ⟨by show 2 ≤ 100000; decide, q⟩
          rw [if_pos (by rw [l1]; rfl)]
          refine ix0 ?_
          rw [eqS_str, run_ret]
          by_cases hc : c = 48
          · subst hc
            rw [if_pos (by decide)]
            rw [show numV (⟨[48, d].toArray⟩ : Str) = 99 from numV_lead h5 h6] at hq
            exact hq
          · obtain ⟨n1, n2⟩ := numV_two (c := c) (d := d) (by omega) h4 h5 h6
            rw [if_neg (by
              rw [decide_eq_true_eq]
              exact fun h => hc ((eq_sign c 48).mp h))]
            rw [show numV (⟨[c, d].toArray⟩ : Str) = _ from n1] at hq
            refine intS_run ?_ (by rw [l1]; decide) hq
            rw [show (⟨[c, d].toArray⟩ : Str) = _ from n2]
            exact int_text _ (by omega)
        | c :: d :: f :: r => rw [el] at lz; exact absurd lz (by simp only [List.length_cons]; omega)
    · exact hq.elim
end
end
section
open PySem PySem.Spec PyProof.Rows L2 RZ Sg Tm Wb
local macro_rules | `(tactic| walk_at "r2") => `(tactic| first | with_reducible exact r_I0 | with_reducible exact r_I | with_reducible exact r_eq | with_reducible exact r_ne | with_reducible exact r_isN | with_reducible exact r_notN | with_reducible exact r_ixL | with_reducible exact r_ixT | with_reducible exact r_ixQ | with_reducible exact r_eqD | with_reducible exact r_neD | with_reducible exact r_inD | with_reducible exact r_notInD | with_reducible exact r_mulS | with_reducible exact r_addS)
local macro_rules | `(tactic| walk_at "rcl") => `(tactic| first | with_reducible exact r_list | with_reducible exact r_sort | with_reducible exact r_listS)
local macro_rules | `(tactic| walk_at "el+") => `(tactic| first | (with_reducible apply el_split; walk_at "ed"; walk_at "ed") | (with_reducible apply el_listRg; walk_at "ed"))
local macro_rules | `(tactic| walk_at "ed+") => `(tactic| first | (with_reducible apply ed_slS; walk_at "ed"; walk_at "eo"; walk_at "eo") | walk_at "edk")
local macro_rules | `(tactic| walk_at "svP") => `(tactic| first
  | (with_reducible apply sv_seq; walk_at "svP"; walk_at "svP")
  | (with_reducible apply sv_augI; walk_at "ed")
  | (with_reducible apply sv_asgL; with_reducible apply el_lst; with_reducible exact ea_nil)
  | (with_reducible apply sv_asg; walk_at "ed")
  | (with_reducible apply sv_if; walk_at "et"; walk_at "svP"; walk_at "svP")
  | (with_reducible apply sv_for; walk_at "ei"; walk_at "es"; walk_at "svP")
  | walk_at "sv")
noncomputable def tiM : List D → M D
  | [.str z, .int n] => M.bnd (M.req (z.length ≤ 100000 ∧ 0 ≤ n ∧ n ≤ 81)) fun _ => M.ret (tagOD (tieOf n z))
  | _ => M.fail
abbrev pqrY : List Str := ["p", "q", "r"]
theorem inTS_y {z : Str} {Q : D → Prop} (q : Q (.bl (decide (z ∈ pqrY)))) : (inTS (.str z) (.tup [.str "p", .str "q", .str "r"])).run Q := ⟨pqrY, rfl, q⟩
theorem ixS_at {z : Str} {i : Int} {c : Nat} {Q : D → Prop} (hl : z.length ≤ 100000) (h0 : 0 ≤ i) (h : z.cps.toList[i.toNat]? = some c) (q : Q (.str ⟨#[c]⟩)) : (ixS (.str z) (.int i)).run Q := by
  obtain ⟨hi, e⟩ := List.getElem?_eq_some_iff.mp h
  rw [ixS_go]
  refine ⟨hl, ?_⟩
  show ((M.opt (L2.atI z.cps.toList i)).bnd fun c => M.ret (.str ⟨#[c]⟩)).run Q
  rw [atI_get h0 hi, e]
  exact q
theorem cut_at {z : Str} {a b : List Nat} {d : Nat} (h : z.cps.toList = a ++ d :: b) : cutS z none (some (a.length : Int)) = ⟨a.toArray⟩ ∧ cutS z (some ((a.length : Int) + 1)) none = ⟨b.toArray⟩ := by
  have hl : z.length = a.length + (b.length + 1) := by
    show z.cps.size = _
    rw [← Array.length_toList, h, List.length_append, List.length_cons]
  refine ⟨?_, ?_⟩
  · unfold cutS
    rw [HT.sIx_none, HT.sIx_nat, h, hl, Nat.min_eq_left (by omega), List.drop_zero, Nat.sub_zero, List.take_left]
  · unfold cutS
    rw [HT.sIx_none, show ((a.length : Int) + 1) = ((a.length + 1 : Nat) : Int) by omega, HT.sIx_nat, h, hl, Nat.min_eq_left (by omega), show a ++ d :: b = (a ++ [d]) ++ b by simp, List.drop_append_of_le_length (by simp), List.drop_of_length_le (by simp), List.nil_append, List.take_of_length_le (by omega)]
theorem niM_go (z : Str) : niM [.str z] = M.bnd (M.req (z.length ≤ 100000)) fun _ => M.ret (.int (numV z)) := rfl
section
variable {P : Program} {w : World} {K : PySem.W.Frag} {mg : Str → Option Value} {base : Heap} {C : Addr} {T : List (Addr × Str)} {cls : Str → Addr}
local macro_rules | `(tactic| walk_at "r2") => `(tactic| first | with_reducible exact r_inTS | with_reducible exact r_inSS | with_reducible exact r_ixS | with_reducible exact r_ixL | with_reducible exact r_I0 | with_reducible exact r_I | with_reducible exact r_eq | with_reducible exact r_ne)
local macro_rules | `(tactic| walk_at "rc") => `(tactic| first | with_reducible exact r_lenS | with_reducible exact r_len | with_reducible exact r_max)
local macro_rules | `(tactic| walk_at "ed+") => `(tactic| first | (with_reducible apply ed_slS; walk_at "ed"; walk_at "eo"; walk_at "eo") | walk_at "edk")
local macro_rules | `(tactic| walk_at "svW") => `(tactic| first
  | (with_reducible apply sv_seq; walk_at "svW"; walk_at "svW")
  | (with_reducible apply sv_asg; walk_at "ed")
  | (with_reducible apply sv_if; walk_at "et"; walk_at "svW"; walk_at "svW")
  | (with_reducible apply sv_ret; walk_at "ed")
  | walk_at "sv")
abbrev s_law_tie_in : Stmt := topS 36
theorem len_ti {ds : List D} {Q : _ → Prop} (h : (tiM ds).run Q) : ds.length = 2 := by
  unfold tiM at h
  split at h
  · rfl
  · exact h.elim
abbrev N_ti : List Str := ["_law_word", "_law_many", "_law_point", "_law_good", "_law_seats", "_law_at_here", "_law_one_here", "_law_other"]
theorem sc_ti : FnScope N_ti ["_law_word", "_law_many"] (defScope s_law_tie_in) := ⟨rfl, rfl, rfl, by decide +kernel, rfl, by decide +kernel, by decide +kernel⟩
theorem ok_ti {f fN : Addr} {fd dN : FuncData} (F : Fun K "_law_tie_in" "_law_tie_in" s_law_tie_in f fd) (b : Bq mg) (bx : mg "max" = none) (oN : Df P w K mg base 1 "_law_number_in" ["_law_word"] (spD (mkS K C T cls) niM) fN dN) : FnOk P w K mg base CX0 2 f fd ["_law_word", "_law_many"] (spD (mkS K C T cls) tiM) := by
  refine F.ok sc_ti (fun vs H Q E h => ?_) (fun cdv A outer s H vs Q E hr h => ?_)
  · obtain ⟨B, G, ds, _, r, h⟩ := h
    rw [r.length]
    exact len_ti h
  · have hu5 : (A.deeper (envOfC "_law_tie_in" (defScope s_law_tie_in) s.heap.objs.size f cdv)).units + 65 < cLine := by
      have := hr.un
      omega
    have hu : (A.deeper (envOfC "_law_tie_in" (defScope s_law_tie_in) s.heap.objs.size f cdv)).units + 64 < cLine := by omega
    have hu1 : (A.deeper (envOfC "_law_tie_in" (defScope s_law_tie_in) s.heap.objs.size f cdv)).units + 1 < cLine := by omega
    refine ⟨_, (pss_cons (ps_if (pt_cmpR (op_inK (K := K) rfl) (pe_slice sl_str (pv 0) po_none (po_some pe_int)) (pe_tup (pa_cons pe_str (pa_cons pe_str (pa_cons pe_str pa_nil)))) (by rfl)) (pss_cons (ps_set (i := 2) sc_ti.nd rfl (.inl rfl) (pe_call oN.ok (hr.mono (by decide)) (by rfl) oN.gl oN.kp oN.bd .nil pass0 (pa_cons (pe_slice sl_str (pv 0) (po_some pe_int) po_none) pa_nil)))
      (pss_cons (ps_set (i := 3) sc_ti.nd rfl (.inl rfl) (pe_cmpR op_lt (pv 2) (pv 1) (nomark _)))
      (pss_one (ps_ret (pe_ifExp (pt_val (pv 3)) (pe_tup (pa_cons pe_int (pa_cons (pe_ix ix_str (pv 0) pe_int (fun _ _ => rfl)) (pa_cons (pv 2) pa_nil)))) pe_non))))) pss_nil)
      (pss_cons (ps_setLc (i := 4) (own := [("_law_at_here", 5)]) (g := gName 5) (tt := _) rfl sc_ti.nd rfl rfl (sw_true rfl rfl rfl (by decide +kernel)) (pi_range1 (by rfl) b.range (pa_cons (pe_callB call_len_str (by rfl) b.len PySem.boot_len (pa_cons (pv 0) pa_nil)) pa_nil)) (blkOk_by (N := N_ti) (sc := defScope s_law_tie_in) (by decide +kernel)) (fun _ _ _ _ _ => (pg_name (i := 5) sc_ti.nd rfl (.inl rfl))) (fun _ _ _ _ _ => pts_one (pt_cmpR op_inSS (pe_ix ix_str (pv 0) (pv 5) (fun _ _ => rfl)) pe_str (by rfl))) (fun _ _ _ _ _ => (pv 5)))
      (pss_cons (ps_if (pt_cmpR op_ne (pe_callB (dv_len (K := K) rfl) (by rfl) b.len PySem.boot_len (pa_cons (pv 4) pa_nil)) pe_int (nomark _)) (pss_one (ps_ret pe_non)) pss_nil)
      (pss_cons (ps_set (i := 5) sc_ti.nd rfl (.inl rfl) (pe_ix (dx_list (K := K) rfl) (pv 4) pe_int (fun _ _ => rfl)))
      (pss_cons (ps_set (i := 6) sc_ti.nd rfl (.inl rfl) (pe_call oN.ok (hr.mono (by decide)) (by rfl) oN.gl oN.kp oN.bd .nil pass0 (pa_cons (pe_slice sl_str (pv 0) po_none (po_some (pv 5))) pa_nil)))
      (pss_cons (ps_set (i := 7) sc_ti.nd rfl (.inl rfl) (pe_call oN.ok (hr.mono (by decide)) (by rfl) oN.gl oN.kp oN.bd .nil pass0 (pa_cons (pe_slice sl_str (pv 0) (po_some (pe_op op_add (pv 5) pe_int)) po_none) pa_nil)))
      (pss_one (ps_ret (pe_ifExp (pt_cmpR op_lt (pe_callB (dv_max rfl) (by rfl) bx (by decide +kernel) (pa_cons (pv 6) (pa_cons (pv 7) pa_nil))) (pv 1) (nomark _)) (pe_tup (pa_cons pe_int (pa_cons (pe_ix ix_str (pv 0) (pv 5) (fun _ _ => rfl)) (pa_cons (pv 6) (pa_cons (pv 7) pa_nil))))) pe_non))))))))), ?_⟩
    refine run_D (X := E) (S := mkS K C T cls) (N := N_ti) (by walk_at "svW") ?_ h
    intro ds Q hq
    unfold tiM at hq
    split at hq
    · rename_i z n
      obtain ⟨⟨zl, n0, n1⟩, hq⟩ := hq
      have hq : Q (tagOD (tieOf n z)) := hq
      have lz : z.length = z.cps.toList.length := by show z.cps.size = _; simp
      have e : startE N_ti.length [.str z, .int n] = [some (.f (.str z)), some (.f (.int n)), none, none, none, none, none, none] := rfl
      rw [e]
      simp only [lenS_go, asS_str, niM_go, run_bnd, run_ret, run_opt, run_req, run_all, run_choose, run_ite, then_nx, then_rt, then_rl, then_er, then_ct, then_bk, outD_rt, outD_rl, outD_nx, outL_rl, outX_rt, outX_rl, outX_nx, outX_er, mask_nil, mask_cons, mk0_f, mk0_o, mk0_od, mk0_ot, mk0_n, peek_nil, peek_cons, pk_f, pk_o, pk_od, pk_ot, pk_n, dOf_int, dOf_bl, dOf_str, dOf_non, opI0_int, opI_int, unI_int, asB_bl, asI_int, asL_lst, asT_tup, asW_web, eqS_int, eqS_str, ixL_lst, ixT_tup, ixQ_lst, ixQ_tup, lenD_lst, lenD_tup, listD_lst, listD_tup, catD_lst, rng1_int, rng2_int, sName_go, sTup_go, sCons_go, sNil_go, bTup_go, bCons_go, bNil_go, two_go, List.set_cons_zero, List.set_cons_succ, List.getElem?_cons_zero, List.getElem?_cons_succ, Option.join_some, atI_0, atI_1, atI_2, decide_eq_true_eq, wipeE, List.map_cons, List.map_nil, step_nx, step_ct, step_bk, step_rt, step_rl, step_er, vOf_int, vOf_str]
      refine ⟨zl, by show 3 ≤ 100000; decide, inTS_y ?_⟩
      rw [asB_bl, run_ret]
      have tno : ∀ {k : Ks}, AK n k ∨ MK n k → z = tieS k → (∃ (c : Nat) (x y : Int), k = [.inr ⟨#[c]⟩, .inl x, .inl y] ∧ (c = 97 ∨ c = 98 ∨ c = 99) ∧ 0 ≤ x ∧ x < n ∧ 0 ≤ y ∧ y < n ∧ z.cps.toList = (toString x : Str).cps.toList ++ c :: (toString y : Str).cps.toList) ∨ (∃ (c : Nat) (x : Int), k = [.inr ⟨#[c]⟩, .inl x] ∧ (c = 112 ∨ c = 113 ∨ c = 114) ∧ 0 ≤ x ∧ x < n ∧ z.cps.toList = c :: (toString x : Str).cps.toList) := fun {k} hk ez => by
        rcases hk with ⟨c, x, y, rfl, hc, x0, x1, y0, y1⟩ | ⟨c, x, rfl, hc, x0, x1⟩
        · exact .inl ⟨c, x, y, rfl, hc, x0, x1, y0, y1, by rw [ez, tieL_a]⟩
        · exact .inr ⟨c, x, rfl, hc, x0, x1, by rw [ez, tieL_m]⟩
      have low : ∀ {x : Int}, 0 ≤ x → x < n → ∀ e ∈ (toString x : Str).cps.toList, 48 ≤ e ∧ e ≤ 57 := fun x0 x1 e he => ts_dig x0 (by omega) e he
      have nabc : ∀ {x : Int}, 0 ≤ x → x < n → ∀ e ∈ (toString x : Str).cps.toList, abc e = false := fun x0 x1 e he => by
        have := low x0 x1 e he
        cases h : abc e with
        | false => rfl
        | true => have := (abc_iff e).mp h; omega
      by_cases hd : ∃ c r, z.cps.toList = c :: r ∧ (c = 112 ∨ c = 113 ∨ c = 114)
      · obtain ⟨c, r, el, hc⟩ := hd
        obtain ⟨c1, c2⟩ := cut_head el
        rw [c1, c2]
        have hm : decide ((⟨#[c]⟩ : Str) ∈ pqrY) = true := decide_eq_true (by rcases hc with rfl | rfl | rfl <;> decide)
        rw [hm, if_pos rfl]
        have ix0 : ∀ {Q : D → Prop}, Q (.str ⟨#[c]⟩) → (ixS (.str z) (.int 0)).run Q := fun {Q} q => ixS_at zl (by decide) (by rw [el]; rfl) q
        have rl : ((⟨r.toArray⟩ : Str)).length ≤ 100000 := by
          show r.toArray.size ≤ 100000
          rw [List.size_toArray]
          rw [el, List.length_cons] at lz
          omega
        refine ⟨zl, rl, ?_⟩
        obtain ⟨v1, v2⟩ := numV_lt (n := n) (z := ⟨r.toArray⟩) (by omega)
        by_cases lt : numV (⟨r.toArray⟩ : Str) < n
        · rw [if_pos lt]
          obtain ⟨i0, i1, ei⟩ := numOf_some (v1 lt)
          refine ix0 ⟨by show 3 ≤ 100000; decide, ?_⟩
          have t := tieOf_eq (n := n) (k := [.inr ⟨#[c]⟩, .inl (numV ⟨r.toArray⟩)]) (by omega) (.inr ⟨c, _, rfl, hc, i0, i1⟩)
          have ez : tieS [.inr ⟨#[c]⟩, .inl (numV ⟨r.toArray⟩)] = z := str_cps (by rw [tieL_m, el, ← ei])
          rw [ez] at t
          rw [t] at hq
          exact hq
        · rw [if_neg lt]
          have t : tieOf n z = none := tieOf_no fun k hk ez => by
            rcases tno hk ez with ⟨c', x, y, rfl, hc', x0, x1, y0, y1, e2⟩ | ⟨c', x, rfl, hc', x0, x1, e2⟩
            · rw [el] at e2
              cases ex : (toString x : Str).cps.toList with
              | nil => exact ts_nil x0 (by omega) ex
              | cons a b =>
                rw [ex] at e2
                injection e2 with e3 _
                have := low x0 x1 a (by rw [ex]; exact List.mem_cons_self ..)
                omega
            · rw [el] at e2
              injection e2 with e3 e4
              exact numOf_none (v2 lt) x0 x1 (str_cps e4)
          rw [t] at hq
          exact hq
      · have hm : decide (cutS z none (some 1) ∈ pqrY) = false := decide_eq_false fun hm => by
          cases el : z.cps.toList with
          | nil =>
            rw [cut_nil el] at hm
            exact absurd hm (by decide)
          | cons c r =>
            rw [(cut_head el).1] at hm
            refine hd ⟨c, r, el, ?_⟩
            simp only [List.mem_cons, List.not_mem_nil, or_false] at hm
            rcases hm with h | h | h
            · exact .inl ((eq_sign c 112).mp h)
            · exact .inr (.inl ((eq_sign c 113).mp h))
            · exact .inr (.inr ((eq_sign c 114).mp h))
        rw [hm, if_neg (by decide)]
        have tno1 : ∀ {k : Ks}, AK n k ∨ MK n k → z = tieS k → ∃ (c : Nat) (x y : Int), k = [.inr ⟨#[c]⟩, .inl x, .inl y] ∧ (c = 97 ∨ c = 98 ∨ c = 99) ∧ 0 ≤ x ∧ x < n ∧ 0 ≤ y ∧ y < n ∧ z.cps.toList = (toString x : Str).cps.toList ++ c :: (toString y : Str).cps.toList := fun hk ez => (tno hk ez).elim id fun ⟨c, x, _, hc, _, _, e2⟩ => absurd ⟨c, _, e2, hc⟩ hd
        refine ⟨zl, ⟨by omega, by omega⟩, by rw [rngD_len]; omega, ?_⟩
        have sel : ∀ {P : List D → Prop}, P ((seatsF z.cps.toList 0).map fun j : Nat => D.int j) → (M.sel (lcF (fun d ρ => M.ret (List.set ρ 5 (some d))) (fun ρ => (((M.opt ρ[0]?.join).bnd fun x => (M.opt ρ[5]?.join).bnd fun y => ixS x y).bnd fun x => (M.opt (some (D.str (Str.ofString "abc")))).bnd fun y => inSS x y).bnd asB) (fun ρ => M.opt ρ[5]?.join) [some (D.str z), some (D.int n), none, none, none, none, none, none]) (rngD 0 (z.length : Int).toNat)).run P := fun {P} q => by
          refine (M.sel _ _).mono (fun bs hbs => ?_) (M.sel_filG (p := fun d => match d with | .int i => abc (z.cps.toList.getD i.toNat 0) | _ => false) (g := id) fun d hd => ?_)
          · subst hbs
            rw [List.map_id, rngD, List.filter_map]
            rw [← seats_range z.cps.toList 0, ← List.range_eq_range', ← lz] at q
            rw [show (z.length : Int).toNat = z.length from rfl]
            have ef : ((List.range z.length).filter ((fun d : D => match d with | .int i => abc (z.cps.toList.getD i.toNat 0) | _ => false) ∘ fun i : Nat => D.int (0 + (i : Int)))) = (List.range z.length).filter fun i => abc (z.cps.toList.getD (i - 0) 0) := List.filter_congr fun i _ => by
              show abc (z.cps.toList.getD (0 + (i : Int)).toNat 0) = _
              rw [show (0 + (i : Int)).toNat = i - 0 by omega]
            rw [ef]
            have em : (fun i : Nat => D.int (0 + (i : Int))) = fun i : Nat => D.int i := funext fun i => by rw [Int.zero_add]
            rw [em]
            exact q
          · obtain ⟨i, hi, rfl⟩ := List.mem_map.mp hd
            have hi := List.mem_range.mp hi
            have hi2 : i < z.cps.toList.length := by rw [← lz]; exact hi
            simp only [lcF_go, run_bnd, run_ret, run_opt, run_req, run_all, run_choose, run_ite, then_nx, then_rt, then_rl, then_er, then_ct, then_bk, outD_rt, outD_rl, outD_nx, outL_rl, outX_rt, outX_rl, outX_nx, outX_er, mask_nil, mask_cons, mk0_f, mk0_o, mk0_od, mk0_ot, mk0_n, peek_nil, peek_cons, pk_f, pk_o, pk_od, pk_ot, pk_n, dOf_int, dOf_bl, dOf_str, dOf_non, opI0_int, opI_int, unI_int, asB_bl, asI_int, asL_lst, asT_tup, asW_web, eqS_int, eqS_str, ixL_lst, ixT_tup, ixQ_lst, ixQ_tup, lenD_lst, lenD_tup, listD_lst, listD_tup, catD_lst, rng1_int, rng2_int, sName_go, sTup_go, sCons_go, sNil_go, bTup_go, bCons_go, bNil_go, two_go, List.set_cons_zero, List.set_cons_succ, List.getElem?_cons_zero, List.getElem?_cons_succ, Option.join_some, atI_0, atI_1, atI_2, decide_eq_true_eq, wipeE, List.map_cons, List.map_nil, step_nx, step_ct, step_bk, step_rt, step_rl, step_er, vOf_int, vOf_str]
            refine ixS_at zl (by omega) (by rw [show (0 + (i : Int)).toNat = i by omega]; exact List.getElem?_eq_getElem hi2) ?_
            refine inSS_run ?_
            rw [asB_bl, run_ret]
            have eg : z.cps.toList.getD (0 + (i : Int)).toNat 0 = z.cps.toList[i]'hi2 := by
              rw [show (0 + (i : Int)).toNat = i by omega, List.getD_eq_getElem?_getD, List.getElem?_eq_getElem hi2]
              rfl
            cases ea : abc (z.cps.toList[i]'hi2) with
            | true =>
              rw [show decide (z.cps.toList[i]'hi2 ∈ ("abc" : Str).cps.toList) = true from ea, if_pos rfl]
              exact (if_pos (show abc (z.cps.toList.getD (0 + (i : Int)).toNat 0) = true from (congrArg abc eg).trans ea)).symm
            | false =>
              rw [show decide (z.cps.toList[i]'hi2 ∈ ("abc" : Str).cps.toList) = false from ea, if_neg (by decide)]
              exact (if_neg (fun h => absurd ((show abc (z.cps.toList.getD (0 + (i : Int)).toNat 0) = true from h).symm.trans ((congrArg abc eg).trans ea)) (by decide))).symm
        refine sel ?_
        have sone : ∀ {k : Ks}, AK n k ∨ MK n k → z = tieS k → ∃ j, seatsF z.cps.toList 0 = [j] := fun hk ez => by
          obtain ⟨c, x, y, rfl, hc, x0, x1, y0, y1, e2⟩ := tno1 hk ez
          exact ⟨_, by rw [e2]; exact seats_at (nabc x0 x1) (nabc y0 y1) ((abc_iff c).mpr hc)⟩
        cases es : seatsF z.cps.toList 0 with
        | nil =>
          rw [if_pos (by decide)]
          rw [tieOf_no fun k hk ez => by obtain ⟨j, hj⟩ := sone hk ez; rw [es] at hj; cases hj] at hq
          exact hq
        | cons j r => cases r with
          | cons j2 r =>
            rw [if_pos (by
              rw [decide_eq_false (by simp only [List.map_cons, List.length_cons]; omega)]
              rfl)]
            rw [tieOf_no fun k hk ez => by obtain ⟨j, hj⟩ := sone hk ez; rw [es] at hj; cases hj] at hq
            exact hq
          | nil =>
            rw [show (!decide ((((([j] : List Nat).map fun j : Nat => D.int j).length : Nat) : Int) = 1)) = false from rfl, if_neg (by decide)]
            obtain ⟨a, d, b, el, ej, na, nb, hdd⟩ := seats_one es
            obtain rfl : j = a.length := by omega
            obtain ⟨c1, c2⟩ := cut_at el
            have al : ((⟨a.toArray⟩ : Str)).length ≤ 100000 := by
              show a.toArray.size ≤ 100000
              rw [List.size_toArray]
              rw [el, List.length_append] at lz
              omega
            have bl : ((⟨b.toArray⟩ : Str)).length ≤ 100000 := by
              show b.toArray.size ≤ 100000
              rw [List.size_toArray]
              rw [el, List.length_append, List.length_cons] at lz
              omega
            simp only [c1, c2, maxM_go, run_bnd, run_ret, run_opt, run_req, run_all, run_choose, run_ite, then_nx, then_rt, then_rl, then_er, then_ct, then_bk, outD_rt, outD_rl, outD_nx, outL_rl, outX_rt, outX_rl, outX_nx, outX_er, mask_nil, mask_cons, mk0_f, mk0_o, mk0_od, mk0_ot, mk0_n, peek_nil, peek_cons, pk_f, pk_o, pk_od, pk_ot, pk_n, dOf_int, dOf_bl, dOf_str, dOf_non, opI0_int, opI_int, unI_int, asB_bl, asI_int, asL_lst, asT_tup, asW_web, eqS_int, eqS_str, ixL_lst, ixT_tup, ixQ_lst, ixQ_tup, lenD_lst, lenD_tup, listD_lst, listD_tup, catD_lst, rng1_int, rng2_int, sName_go, sTup_go, sCons_go, sNil_go, bTup_go, bCons_go, bNil_go, two_go, List.set_cons_zero, List.set_cons_succ, List.getElem?_cons_zero, List.getElem?_cons_succ, Option.join_some, atI_0, atI_1, atI_2, decide_eq_true_eq, wipeE, List.map_cons, List.map_nil, step_nx, step_ct, step_bk, step_rt, step_rl, step_er, vOf_int, vOf_str]
            refine ⟨zl, al, zl, bl, ?_⟩
            obtain ⟨v1, v2⟩ := numV_lt (n := n) (z := ⟨a.toArray⟩) (by omega)
            obtain ⟨w1, w2⟩ := numV_lt (n := n) (z := ⟨b.toArray⟩) (by omega)
            have ab : ∀ {k : Ks}, AK n k ∨ MK n k → z = tieS k → numV (⟨a.toArray⟩ : Str) < n ∧ numV (⟨b.toArray⟩ : Str) < n := fun hk ez => by
              obtain ⟨c, x, y, rfl, hc, x0, x1, y0, y1, e2⟩ := tno1 hk ez
              rw [el] at e2
              have dn : d ∉ (toString x : Str).cps.toList := fun h => by rw [nabc x0 x1 d h] at hdd; cases hdd
              have s1 : seatsF (a ++ d :: b) 0 = [0 + a.length] := seats_at na nb hdd
              have s2 : seatsF ((toString x : Str).cps.toList ++ c :: (toString y : Str).cps.toList) 0 = [0 + (toString x : Str).cps.toList.length] := seats_at (nabc x0 x1) (nabc y0 y1) ((abc_iff c).mpr hc)
              rw [e2, s2] at s1
              injection s1 with s1 _
              obtain ⟨ea, e3⟩ := List.append_inj e2 (by omega)
              injection e3 with _ eb
              refine ⟨Classical.byContradiction fun h => ?_, Classical.byContradiction fun h => ?_⟩
              · exact numOf_none (v2 h) x0 x1 (str_cps (by rw [← ea]))
              · exact numOf_none (w2 h) y0 y1 (str_cps (by rw [← eb]))
            by_cases lt : numV (⟨a.toArray⟩ : Str) < n ∧ numV (⟨b.toArray⟩ : Str) < n
            · rw [if_pos (by omega)]
              obtain ⟨i0, i1, ei⟩ := numOf_some (v1 lt.1)
              obtain ⟨j0, j1, ej⟩ := numOf_some (w1 lt.2)
              refine ixS_at (c := d) zl (by omega) (by
                rw [el, show ((a.length : Int)).toNat = a.length by omega, List.getElem?_append_right (Nat.le_refl _), Nat.sub_self]
                rfl) ⟨by show 4 ≤ 100000; decide, ?_⟩
              have t := tieOf_eq (n := n) (k := [.inr ⟨#[d]⟩, .inl (numV ⟨a.toArray⟩), .inl (numV ⟨b.toArray⟩)]) (by omega) (.inl ⟨d, _, _, rfl, (abc_iff d).mp hdd, i0, i1, j0, j1⟩)
              have ez : tieS [.inr ⟨#[d]⟩, .inl (numV ⟨a.toArray⟩), .inl (numV ⟨b.toArray⟩)] = z := str_cps (by rw [tieL_a, el, ← ei, ← ej])
              rw [ez] at t
              rw [t] at hq
              exact hq
            · rw [if_neg (by omega)]
              rw [tieOf_no fun k hk ez => lt (ab hk ez)] at hq
              exact hq
    · exact hq.elim
end
end
section
open PySem PySem.Spec PyProof.Rows L2 RZ Sg Tm Wb
local macro_rules | `(tactic| walk_at "r2") => `(tactic| first | with_reducible exact r_I0 | with_reducible exact r_I | with_reducible exact r_eq | with_reducible exact r_ne | with_reducible exact r_isN | with_reducible exact r_notN | with_reducible exact r_ixL | with_reducible exact r_ixT | with_reducible exact r_ixQ | with_reducible exact r_eqD | with_reducible exact r_neD | with_reducible exact r_inD | with_reducible exact r_notInD | with_reducible exact r_mulS | with_reducible exact r_addS)
local macro_rules | `(tactic| walk_at "rcl") => `(tactic| first | with_reducible exact r_list | with_reducible exact r_sort | with_reducible exact r_listS)
local macro_rules | `(tactic| walk_at "el+") => `(tactic| first | (with_reducible apply el_split; walk_at "ed"; walk_at "ed") | (with_reducible apply el_listRg; walk_at "ed"))
local macro_rules | `(tactic| walk_at "ed+") => `(tactic| first | (with_reducible apply ed_slS; walk_at "ed"; walk_at "eo"; walk_at "eo") | walk_at "edk")
local macro_rules | `(tactic| walk_at "svP") => `(tactic| first
  | (with_reducible apply sv_seq; walk_at "svP"; walk_at "svP")
  | (with_reducible apply sv_augI; walk_at "ed")
  | (with_reducible apply sv_asgL; with_reducible apply el_lst; with_reducible exact ea_nil)
  | (with_reducible apply sv_asg; walk_at "ed")
  | (with_reducible apply sv_if; walk_at "et"; walk_at "svP"; walk_at "svP")
  | (with_reducible apply sv_for; walk_at "ei"; walk_at "es"; walk_at "svP")
  | walk_at "sv")
noncomputable def wwD (w0 : Str) (ws : List Str) : D := match numOf 82 w0 with
  | none => .int 0
  | some n => match rdTs n ws [] 1 with
    | .inl i => .int i
    | .inr _ => .non
noncomputable def wwM : List D → M D
  | [.str t] => M.bnd (M.choose fun p : Str × List Str => t = Str.join " " (p.1 :: p.2) ∧ (∀ w ∈ p.1 :: p.2, 32 ∉ w.cps.toList) ∧ t.length ≤ 9000) fun p => M.ret (wwD p.1 p.2)
  | _ => M.fail
def rdD : Int ⊕ List Ks → D
  | .inl i => .int i
  | .inr _ => .non
theorem wwD_some {w0 : Str} {n : Int} (ws : List Str) (h : numOf 82 w0 = some n) : wwD w0 ws = rdD (rdTs n ws [] 1) := by
  simp only [wwD, h]
  cases rdTs n ws [] 1 <;> rfl
theorem rdD_step {n : Int} {z : Str} {r : List Str} {ah k : Ks} {i : Int} (h : tieOf n z = some k) (le : leKs k ah = false) : rdD (rdTs n (z :: r) ah i) = rdD (rdTs n r k (i + 1)) := by
  simp only [rdTs, h, le, Bool.false_eq_true, if_false]
  cases rdTs n r k (i + 1) <;> rfl
theorem rdD_bad {n : Int} {z : Str} {r : List Str} {ah : Ks} {i : Int} (h : tieOf n z = none ∨ ∃ k, tieOf n z = some k ∧ leKs k ah = true) : rdD (rdTs n (z :: r) ah i) = .int i := by
  rcases h with h | ⟨k, h, le⟩
  · simp only [rdTs, h]
    rfl
  · simp only [rdTs, h, le, if_true]
    rfl
theorem isN_tag (k : Ks) : isN (tieD k) .non = M.ret (.bl false) := rfl
theorem tiM_go (z : Str) (n : Int) : tiM [.str z, .int n] = M.bnd (M.req (z.length ≤ 100000 ∧ 0 ≤ n ∧ n ≤ 81)) fun _ => M.ret (tagOD (tieOf n z)) := rfl
section
variable {P : Program} {w : World} {K : PySem.W.Frag} {mg : Str → Option Value} {base : Heap} {C : Addr} {T : List (Addr × Str)} {cls : Str → Addr}
local macro_rules | `(tactic| walk_at "r2") => `(tactic| first | with_reducible exact r_isN | with_reducible exact r_leG | with_reducible exact r_ixL | with_reducible exact r_I0 | with_reducible exact r_I | with_reducible exact r_eq | with_reducible exact r_ne)
local macro_rules | `(tactic| walk_at "el+") => `(tactic| first | (with_reducible apply el_split; walk_at "ed"; walk_at "ed") | (with_reducible apply el_listRg; walk_at "ed"))
local macro_rules | `(tactic| walk_at "svW") => `(tactic| first
  | (with_reducible apply sv_seq; walk_at "svW"; walk_at "svW")
  | (with_reducible apply sv_asg; walk_at "ed")
  | (with_reducible apply sv_if; walk_at "et"; walk_at "svW"; walk_at "svW")
  | (with_reducible apply sv_for; walk_at "ei"; walk_at "es"; walk_at "svW")
  | (with_reducible apply sv_ret; walk_at "ed")
  | walk_at "sv")
abbrev s_law_wrong : Stmt := topS 37
theorem len_ww {ds : List D} {Q : _ → Prop} (h : (wwM ds).run Q) : ds.length = 1 := by
  unfold wwM at h
  split at h
  · rfl
  · exact h.elim
abbrev N_ww : List Str := ["_law_text", "_law_shelf", "_law_many", "_law_last", "_law_at_here", "_law_word", "_law_tie"]
theorem sc_ww : FnScope N_ww ["_law_text"] (defScope s_law_wrong) := ⟨rfl, rfl, rfl, by decide +kernel, rfl, by decide +kernel, by decide +kernel⟩
theorem ok_ww {f fN fT : Addr} {fd dN dT : FuncData} (F : Fun K "_law_wrong_word" "_law_wrong_word" s_law_wrong f fd) (b : Bq mg) (be : mg "enumerate" = none) (oN : Df P w K mg base 1 "_law_number_in" ["_law_word"] (spD (mkS K C T cls) niM) fN dN) (oT : Df P w K mg base 2 "_law_tie_in" ["_law_word", "_law_many"] (spD (mkS K C T cls) tiM) fT dT) : FnOk P w K mg base CX0 3 f fd ["_law_text"] (spD (mkS K C T cls) wwM) := by
  refine F.ok sc_ww (fun vs H Q E h => ?_) (fun cdv A outer s H vs Q E hr h => ?_)
  · obtain ⟨B, G, ds, _, r, h⟩ := h
    rw [r.length]
    exact len_ww h
  · have hu5 : (A.deeper (envOfC "_law_wrong_word" (defScope s_law_wrong) s.heap.objs.size f cdv)).units + 65 < cLine := by
      have := hr.un
      omega
    have hu : (A.deeper (envOfC "_law_wrong_word" (defScope s_law_wrong) s.heap.objs.size f cdv)).units + 64 < cLine := by omega
    have hu1 : (A.deeper (envOfC "_law_wrong_word" (defScope s_law_wrong) s.heap.objs.size f cdv)).units + 1 < cLine := by omega
    refine ⟨_, (pss_cons (ps_set (i := 1) sc_ww.nd rfl (.inl rfl) (pe_splitAny (pv 0) pe_str))
      (pss_cons (ps_set (i := 2) sc_ww.nd rfl (.inl rfl) (pe_call oN.ok (hr.mono (by decide)) (by rfl) oN.gl oN.kp oN.bd .nil pass0 (pa_cons (pe_ix (dx_list (K := K) rfl) (pv 1) pe_int (fun _ _ => rfl)) pa_nil)))
      (pss_cons (ps_if (pt_cmpR op_gt (pv 2) pe_int (nomark _)) (pss_one (ps_ret pe_int)) pss_nil)
      (pss_cons (ps_set (i := 3) sc_ww.nd rfl (.inl rfl) (pe_tup (pa_cons pe_int (pa_cons pe_str pa_nil))))
      (pss_cons (ps_for PassesOwn.never rfl (pi_enK (K := K) rfl (by rfl) be (pa_cons (pe_slice (dv_slL (K := K) rfl) (pv 1) (po_some pe_int) po_none) pa_nil)) (dg_tup (K := K) (n := 2) rfl rfl (pgs_cons (pg_name (i := 4) sc_ww.nd rfl (.inl rfl)) (pgs_cons (pg_name (i := 5) sc_ww.nd rfl (.inl rfl)) pgs_nil)))
      (pss_cons (ps_set (i := 6) sc_ww.nd rfl (.inl rfl) (pe_call oT.ok (hr.mono (by decide)) (by rfl) oT.gl oT.kp oT.bd .nil pass0 (pa_cons (pv 5) (pa_cons (pv 2) pa_nil))))
      (pss_cons (ps_if (PW.pt (pw_or (pt_cmpR op_isN (pv 6) pe_non (nomark _)) (pw_or1 (pt_cmpR (op_leG (K := K) rfl (Nat.lt_of_succ_lt hu1)) (pv 6) (pv 3) (nomark _))))) (pss_one (ps_ret (pe_op op_add (pv 4) pe_int))) pss_nil)
      (pss_one (ps_set (i := 3) sc_ww.nd rfl (.inl rfl) (pv 6))))))
      (pss_one (ps_ret pe_non))))))), ?_⟩
    refine run_D (X := E) (S := mkS K C T cls) (N := N_ww) (by walk_at "svW") ?_ h
    intro ds Q hq
    unfold wwM at hq
    split at hq
    · rename_i t
      obtain ⟨⟨w0, ws⟩, ⟨rfl, hf, hl⟩, hq⟩ := hq
      dsimp only at hf hl hq ⊢
      have hq : Q (wwD w0 ws) := hq
      have e : startE N_ww.length [.str (Str.join " " (w0 :: ws))] = [some (.f (.str (Str.join " " (w0 :: ws)))), none, none, none, none, none, none] := rfl
      rw [e]
      have sp : Txt.split (Str.join " " (w0 :: ws)) " " = w0 :: ws := split_join (c := 32) (fun z => nomatch z) hf
      have js := join_sum (l := w0 :: ws) (fun z => nomatch z)
      rw [List.map_cons, List.sum_cons, List.length_cons] at js
      simp only [asS_str, splitM_go, sp, niM_go, tiM_go, run_bnd, run_ret, run_opt, run_req, run_all, run_choose, run_ite, then_nx, then_rt, then_rl, then_er, then_ct, then_bk, outD_rt, outD_rl, outD_nx, outL_rl, outX_rt, outX_rl, outX_nx, outX_er, mask_nil, mask_cons, mk0_f, mk0_o, mk0_od, mk0_ot, mk0_n, peek_nil, peek_cons, pk_f, pk_o, pk_od, pk_ot, pk_n, dOf_int, dOf_bl, dOf_str, dOf_non, opI0_int, opI_int, unI_int, asB_bl, asI_int, asL_lst, asT_tup, asW_web, eqS_int, eqS_str, ixL_lst, ixT_tup, ixQ_lst, ixQ_tup, lenD_lst, lenD_tup, listD_lst, listD_tup, catD_lst, rng1_int, rng2_int, sName_go, sTup_go, sCons_go, sNil_go, bTup_go, bCons_go, bNil_go, two_go, List.set_cons_zero, List.set_cons_succ, List.getElem?_cons_zero, List.getElem?_cons_succ, Option.join_some, atI_0, atI_1, atI_2, decide_eq_true_eq, wipeE, List.map_cons, List.map_nil, step_nx, step_ct, step_bk, step_rt, step_rl, step_er, vOf_int, vOf_str]
      refine ⟨⟨by decide, by omega⟩, by omega, ?_⟩
      obtain ⟨v1, v2⟩ := numV_lt (n := 82) (z := w0) (by decide)
      by_cases h81 : 81 < numV w0
      · rw [if_pos h81]
        have : wwD w0 ws = .int 0 := by
          unfold wwD
          rw [v2 (by omega)]
        rw [this] at hq
        exact hq
      rw [if_neg h81]
      rw [wwD_some ws (v1 (by omega))] at hq
      have nv := (numV_ge w0).1
      generalize numV w0 = n at h81 hq nv
      refine ⟨by show 2 ≤ 100000; decide, ?_⟩
      rw [rcut1]
      simp only [enM_go, run_bnd, run_ret, run_opt, run_req, run_all, run_choose, run_ite, then_nx, then_rt, then_rl, then_er, then_ct, then_bk, outD_rt, outD_rl, outD_nx, outL_rl, outX_rt, outX_rl, outX_nx, outX_er, mask_nil, mask_cons, mk0_f, mk0_o, mk0_od, mk0_ot, mk0_n, peek_nil, peek_cons, pk_f, pk_o, pk_od, pk_ot, pk_n, dOf_int, dOf_bl, dOf_str, dOf_non, opI0_int, opI_int, unI_int, asB_bl, asI_int, asL_lst, asT_tup, asW_web, eqS_int, eqS_str, ixL_lst, ixT_tup, ixQ_lst, ixQ_tup, lenD_lst, lenD_tup, listD_lst, listD_tup, catD_lst, rng1_int, rng2_int, sName_go, sTup_go, sCons_go, sNil_go, bTup_go, bCons_go, bNil_go, two_go, List.set_cons_zero, List.set_cons_succ, List.getElem?_cons_zero, List.getElem?_cons_succ, Option.join_some, atI_0, atI_1, atI_2, decide_eq_true_eq, wipeE, List.map_cons, List.map_nil, step_nx, step_ct, step_bk, step_rt, step_rl, step_er, vOf_int, vOf_str]
      refine loop_run (fun i ρ => ∃ y4 y5 y6, ∃ ah : Ks, (ah = [] ∨ CK ah) ∧ rdD (rdTs n (ws.drop i) ah ((1 + i : Nat) : Int)) = rdD (rdTs n ws [] 1) ∧ ρ = [some (.f (.str (Str.join " " (w0 :: ws)))), some (.f (.lst (.str w0 :: ws.map D.str))), some (.f (.int n)), some (.f (tieD (lastK ah))), y4, y5, y6]) ⟨_, _, _, [], .inl rfl, rfl, rfl⟩ ?_ ?_
      · rintro i hi ρ ⟨y4, y5, y6, ah, hah, hr, rfl⟩
        have hi2 : i < ws.length := by rw [enD_len, List.length_map] at hi; exact hi
        obtain ⟨u, eu⟩ : ∃ u, ws[i]'hi2 = u := ⟨_, rfl⟩
        have ek2 : ws[i]? = some u := by rw [List.getElem?_eq_getElem hi2, eu]
        have eg : (enD 0 (ws.map D.str))[i]'hi = .tup [.int ((0 + i : Nat) : Int), .str u] := by
          have h := enD_get (ws.map D.str) 0 i
          have h2 : (ws.map D.str)[i]? = some (.str u) := by
            rw [List.getElem?_map, ek2]
            rfl
          rw [List.getElem?_eq_getElem hi, h2] at h
          exact Option.some.inj h
        have lu := mem_sum (List.mem_map.mpr ⟨u, List.mem_of_getElem? ek2, rfl⟩ : u.length ∈ ws.map (·.length))
        rw [List.drop_eq_getElem_cons hi2, eu] at hr
        have i1 : (((0 + i : Nat) : Int) + 1) = ((1 + i : Nat) : Int) := by omega
        rw [eg]
        simp only [tiM_go, run_bnd, run_ret, run_opt, run_req, run_all, run_choose, run_ite, then_nx, then_rt, then_rl, then_er, then_ct, then_bk, outD_rt, outD_rl, outD_nx, outL_rl, outX_rt, outX_rl, outX_nx, outX_er, mask_nil, mask_cons, mk0_f, mk0_o, mk0_od, mk0_ot, mk0_n, peek_nil, peek_cons, pk_f, pk_o, pk_od, pk_ot, pk_n, dOf_int, dOf_bl, dOf_str, dOf_non, opI0_int, opI_int, unI_int, asB_bl, asI_int, asL_lst, asT_tup, asW_web, eqS_int, eqS_str, ixL_lst, ixT_tup, ixQ_lst, ixQ_tup, lenD_lst, lenD_tup, listD_lst, listD_tup, catD_lst, rng1_int, rng2_int, sName_go, sTup_go, sCons_go, sNil_go, bTup_go, bCons_go, bNil_go, two_go, List.set_cons_zero, List.set_cons_succ, List.getElem?_cons_zero, List.getElem?_cons_succ, Option.join_some, atI_0, atI_1, atI_2, decide_eq_true_eq, wipeE, List.map_cons, List.map_nil, step_nx, step_ct, step_bk, step_rt, step_rl, step_er, vOf_int, vOf_str]
        refine ⟨rfl, ⟨by omega, nv, by omega⟩, ?_⟩
        cases et : tieOf n u with
        | none =>
          simp only [tagOD, isN_non, if_true, i1, run_bnd, run_ret, run_opt, run_req, run_all, run_choose, run_ite, then_nx, then_rt, then_rl, then_er, then_ct, then_bk, outD_rt, outD_rl, outD_nx, outL_rl, outX_rt, outX_rl, outX_nx, outX_er, mask_nil, mask_cons, mk0_f, mk0_o, mk0_od, mk0_ot, mk0_n, peek_nil, peek_cons, pk_f, pk_o, pk_od, pk_ot, pk_n, dOf_int, dOf_bl, dOf_str, dOf_non, opI0_int, opI_int, unI_int, asB_bl, asI_int, asL_lst, asT_tup, asW_web, eqS_int, eqS_str, ixL_lst, ixT_tup, ixQ_lst, ixQ_tup, lenD_lst, lenD_tup, listD_lst, listD_tup, catD_lst, rng1_int, rng2_int, sName_go, sTup_go, sCons_go, sNil_go, bTup_go, bCons_go, bNil_go, two_go, List.set_cons_zero, List.set_cons_succ, List.getElem?_cons_zero, List.getElem?_cons_succ, Option.join_some, atI_0, atI_1, atI_2, decide_eq_true_eq, wipeE, List.map_cons, List.map_nil, step_nx, step_ct, step_bk, step_rt, step_rl, step_er, vOf_int, vOf_str]
          rw [← hr, rdD_bad (.inl et)] at hq
          exact hq
        | some k =>
          obtain ⟨hk, ez⟩ := tieOf_some et
          have ck : CK k := hk.elim (fun h => ak_ck h (by omega)) (fun h => mk_ck h (by omega))
          obtain ⟨al, le⟩ := tag_le ck hah
          simp only [tagOD, isN_tag, Bool.false_eq_true, if_false, run_bnd, run_ret, run_opt, run_req, run_all, run_choose, run_ite, then_nx, then_rt, then_rl, then_er, then_ct, then_bk, outD_rt, outD_rl, outD_nx, outL_rl, outX_rt, outX_rl, outX_nx, outX_er, mask_nil, mask_cons, mk0_f, mk0_o, mk0_od, mk0_ot, mk0_n, peek_nil, peek_cons, pk_f, pk_o, pk_od, pk_ot, pk_n, dOf_int, dOf_bl, dOf_str, dOf_non, opI0_int, opI_int, unI_int, asB_bl, asI_int, asL_lst, asT_tup, asW_web, eqS_int, eqS_str, ixL_lst, ixT_tup, ixQ_lst, ixQ_tup, lenD_lst, lenD_tup, listD_lst, listD_tup, catD_lst, rng1_int, rng2_int, sName_go, sTup_go, sCons_go, sNil_go, bTup_go, bCons_go, bNil_go, two_go, List.set_cons_zero, List.set_cons_succ, List.getElem?_cons_zero, List.getElem?_cons_succ, Option.join_some, atI_0, atI_1, atI_2, decide_eq_true_eq, wipeE, List.map_cons, List.map_nil, step_nx, step_ct, step_bk, step_rt, step_rl, step_er, vOf_int, vOf_str]
          refine leGM_run al ?_
          rw [le, asB_bl, run_ret]
          cases el : leKs k ah with
          | true =>
            rw [← hr, rdD_bad (.inr ⟨k, et, el⟩)] at hq
            simp only [if_true, i1, run_bnd, run_ret, run_opt, run_req, run_all, run_choose, run_ite, then_nx, then_rt, then_rl, then_er, then_ct, then_bk, outD_rt, outD_rl, outD_nx, outL_rl, outX_rt, outX_rl, outX_nx, outX_er, mask_nil, mask_cons, mk0_f, mk0_o, mk0_od, mk0_ot, mk0_n, peek_nil, peek_cons, pk_f, pk_o, pk_od, pk_ot, pk_n, dOf_int, dOf_bl, dOf_str, dOf_non, opI0_int, opI_int, unI_int, asB_bl, asI_int, asL_lst, asT_tup, asW_web, eqS_int, eqS_str, ixL_lst, ixT_tup, ixQ_lst, ixQ_tup, lenD_lst, lenD_tup, listD_lst, listD_tup, catD_lst, rng1_int, rng2_int, sName_go, sTup_go, sCons_go, sNil_go, bTup_go, bCons_go, bNil_go, two_go, List.set_cons_zero, List.set_cons_succ, List.getElem?_cons_zero, List.getElem?_cons_succ, Option.join_some, atI_0, atI_1, atI_2, decide_eq_true_eq, wipeE, List.map_cons, List.map_nil, step_nx, step_ct, step_bk, step_rt, step_rl, step_er, vOf_int, vOf_str]
            exact hq
          | false =>
            simp only [Bool.false_eq_true, if_false, run_bnd, run_ret, run_opt, run_req, run_all, run_choose, run_ite, then_nx, then_rt, then_rl, then_er, then_ct, then_bk, outD_rt, outD_rl, outD_nx, outL_rl, outX_rt, outX_rl, outX_nx, outX_er, mask_nil, mask_cons, mk0_f, mk0_o, mk0_od, mk0_ot, mk0_n, peek_nil, peek_cons, pk_f, pk_o, pk_od, pk_ot, pk_n, dOf_int, dOf_bl, dOf_str, dOf_non, opI0_int, opI_int, unI_int, asB_bl, asI_int, asL_lst, asT_tup, asW_web, eqS_int, eqS_str, ixL_lst, ixT_tup, ixQ_lst, ixQ_tup, lenD_lst, lenD_tup, listD_lst, listD_tup, catD_lst, rng1_int, rng2_int, sName_go, sTup_go, sCons_go, sNil_go, bTup_go, bCons_go, bNil_go, two_go, List.set_cons_zero, List.set_cons_succ, List.getElem?_cons_zero, List.getElem?_cons_succ, Option.join_some, atI_0, atI_1, atI_2, decide_eq_true_eq, wipeE, List.map_cons, List.map_nil, step_nx, step_ct, step_bk, step_rt, step_rl, step_er, vOf_int, vOf_str]
            rw [rdD_step et el] at hr
            have kn : k ≠ [] := tk_ne hk
            have lk : lastK k = tagK k := by
              unfold lastK
              rw [if_neg kn]
            refine ⟨some (.f (.int ((0 + i : Nat) : Int))), some (.f (.str u)), some (.f (tieD (tagK k))), k, .inr ck, ?_, by rw [lk]⟩
            rw [← hr]
            congr 2
      · rintro ρ ⟨y4, y5, y6, ah, hah, hr, rfl⟩
        rw [enD_len, List.length_map, List.drop_of_length_le (Nat.le_refl _)] at hr
        rw [← hr] at hq
        exact hq
    · exact hq.elim
end
end
section
open PySem PySem.Spec PyProof.Rows L2 RZ Sg Tm Wb
local macro_rules | `(tactic| walk_at "r2") => `(tactic| first | with_reducible exact r_I0 | with_reducible exact r_I | with_reducible exact r_eq | with_reducible exact r_ne | with_reducible exact r_isN | with_reducible exact r_notN | with_reducible exact r_ixL | with_reducible exact r_ixT | with_reducible exact r_ixQ | with_reducible exact r_eqD | with_reducible exact r_neD | with_reducible exact r_inD | with_reducible exact r_notInD | with_reducible exact r_mulS | with_reducible exact r_addS)
local macro_rules | `(tactic| walk_at "rcl") => `(tactic| first | with_reducible exact r_list | with_reducible exact r_sort | with_reducible exact r_listS)
local macro_rules | `(tactic| walk_at "el+") => `(tactic| first | (with_reducible apply el_split; walk_at "ed"; walk_at "ed") | (with_reducible apply el_listRg; walk_at "ed"))
local macro_rules | `(tactic| walk_at "ed+") => `(tactic| first | (with_reducible apply ed_slS; walk_at "ed"; walk_at "eo"; walk_at "eo") | walk_at "edk")
local macro_rules | `(tactic| walk_at "svP") => `(tactic| first
  | (with_reducible apply sv_seq; walk_at "svP"; walk_at "svP")
  | (with_reducible apply sv_augI; walk_at "ed")
  | (with_reducible apply sv_asgL; with_reducible apply el_lst; with_reducible exact ea_nil)
  | (with_reducible apply sv_asg; walk_at "ed")
  | (with_reducible apply sv_if; walk_at "et"; walk_at "svP"; walk_at "svP")
  | (with_reducible apply sv_for; walk_at "ei"; walk_at "es"; walk_at "svP")
  | walk_at "sv")
abbrev sLaw : Stmt := topS 39
abbrev N_law : List Str := ["_law_script", "_law_box_here", "_law_k", "_law_text", "_law_step", "_law_due", "_law_found", "e", "_law_ends"]
theorem sc_law : FnScope N_law ["_law_script"] (defScope sLaw) := ⟨rfl, rfl, rfl, by decide +kernel, rfl, by decide +kernel, by decide +kernel⟩
abbrev qLam : Str := (envOfC "law" (defScope sLaw) 0 0 .none).qual ++ "<lambda>"
abbrev TB1 (PT : Addr) : List (Addr × Str) := [(PT, qLam)]
theorem tie_ge2 {n : Int} {k : Ks} (hn : n ≤ 100) (h : AK n k ∨ MK n k) : 2 ≤ (tieS k).length := by
  have e : (tieS k).length = (tieS k).cps.toList.length := by show (tieS k).cps.size = _; simp
  have p : ∀ {x : Int}, 0 ≤ x → x < n → 1 ≤ (toString x : Str).cps.toList.length := fun {x} x0 x1 => by
    have := ts_nil x0 (by omega : x < 100)
    cases h : (toString x : Str).cps.toList with
    | nil => exact absurd h this
    | cons _ _ => exact Nat.succ_le_succ (Nat.zero_le _)
  rw [e]
  rcases h with ⟨c, x, y, rfl, _, x0, x1, y0, y1⟩ | ⟨c, x, rfl, _, x0, x1⟩
  · rw [tieL_a, List.length_append, List.length_cons]
    have := p x0 x1
    have := p y0 y1
    omega
  · rw [tieL_m, List.length_cons]
    have := p x0 x1
    omega
theorem ties_ge {n : Int} (hn : n ≤ 100) : ∀ {l : List Ks}, (∀ k ∈ l, AK n k ∨ MK n k) → 2 * l.length ≤ lnS (l.map tieS)
  | [], _ => Nat.zero_le _
  | k :: l, h => by
    have h1 := tie_ge2 hn (h k (List.mem_cons_self ..))
    have h2 := ties_ge hn (l := l) fun q hq => h q (List.mem_cons_of_mem _ hq)
    show 2 * (l.length + 1) ≤ (tieS k).length + lnS (l.map tieS)
    omega
theorem webS_len {n : Int} {A Ms : List Ks} (wk : WebK n A Ms) (hn : n ≤ 100) (hl : n < 100) : (webS n A Ms).length ≤ 3 + 6 * (A.length + Ms.length) := by
  have h1 := ties_sum (n := n) (by omega) (l := A ++ Ms) fun k hk => (List.mem_append.mp hk).elim (fun h => .inl (wk.ka k h)) (fun h => .inr (wk.km k h))
  have h2 := ts_len wk.n0 hl
  have h3 := join_le ((toString n : Str) :: (A.map tieS ++ Ms.map tieS))
  rw [List.map_append] at h1
  have h1 : lnS (A.map tieS ++ Ms.map tieS) ≤ 5 * (A ++ Ms).length := h1
  rw [List.length_append] at h1
  have h4 : lnS ((toString n : Str) :: (A.map tieS ++ Ms.map tieS)) = (toString n : Str).length + lnS (A.map tieS ++ Ms.map tieS) := rfl
  rw [h4, List.length_cons, List.length_append, List.length_map, List.length_map] at h3
  show (Str.join " " ((toString n : Str) :: (A.map tieS ++ Ms.map tieS))).length ≤ _
  omega
theorem rd_text {w0 : Str} {ws : List Str} {n : Int} {l : List Ks} (h0 : numOf 82 w0 = some n) (h : rdTs n ws [] 1 = .inr l) (hl : (Str.join " " (w0 :: ws)).length ≤ 2900) : WebK n (fa l) (fm l) ∧ n ≤ 81 ∧ (fa l).length + (fm l).length ≤ 1000 ∧ webS n (fa l) (fm l) = Str.join " " (w0 :: ws) := by
  obtain ⟨n0, n1, rfl⟩ := numOf_some h0
  obtain ⟨rfl, tk, _, ris⟩ := rdTs_ok h
  have js := join_sum (l := (toString n : Str) :: l.map tieS) (fun z => nomatch z)
  have js : (Str.join " " ((toString n : Str) :: l.map tieS)).length + 1 = (toString n : Str).length + lnS (l.map tieS) + ((l.map tieS).length + 1) := js
  have g := ties_ge (n := n) (by omega) tk
  rw [List.length_map] at js
  have ff := fa_fm tk (by omega) ris
  have lf : l.length = (fa l).length + (fm l).length := by
    have := congrArg List.length ff
    rw [List.length_append] at this
    exact this
  refine ⟨web_fa n0 (by omega) tk ris (by omega), by omega, by omega, ?_⟩
  show Str.join " " ((toString n : Str) :: ((fa l).map tieS ++ (fm l).map tieS)) = _
  rw [← List.map_append, ← ff]
theorem ww_run {t w0 : Str} {ws : List Str} {Q : D → Prop} (e : t = Str.join " " (w0 :: ws)) (hf : ∀ w ∈ w0 :: ws, 32 ∉ w.cps.toList) (hl : t.length ≤ 9000) (q : Q (wwD w0 ws)) : (wwM [.str t]).run Q := ⟨(w0, ws), ⟨e, hf, hl⟩, q⟩
theorem rx_run {t w0 : Str} {ws : List Str} {Q : Rx → Prop} (e : t = Str.join " " (w0 :: ws)) (hf : ∀ w ∈ w0 :: ws, 32 ∉ w.cps.toList) (hl : t.length ≤ 9000) (q : (rdW w0 ws).run Q) : (rwX [.str t]).run Q := ⟨(w0, ws), ⟨e, hf, hl⟩, q⟩
theorem str_run {n : Int} {A Ms : List Ks} {Q : D → Prop} (wk : WebK n A Ms) (hn : n ≤ 100) (hl : A.length + Ms.length ≤ 1000) (q : Q (.str (webS n A Ms))) : (strO strM [.web n A Ms]).run Q := ⟨⟨n, A, Ms, rfl⟩, ⟨wk, hn, hl⟩, q⟩
theorem lws_run {n : Int} {A Ms : List Ks} {Q : D → Prop} (wk : WebK n A Ms) (hn : n ≤ 81) (hl : A.length + Ms.length ≤ 1000) (q : Q (.str (webS n A Ms))) : (lwsM [mwD n A Ms]).run Q := ⟨(A, Ms), ⟨rfl, rfl, wk, hn, hl⟩, q⟩
theorem bw_run {t : Str} {Q : D → Prop} (h : t.length ≤ 1500) (q : ∀ u : Str, u.length ≤ 3 * t.length + 20 → Q (.str u)) : (bwM [.box, .str t]).run Q := ⟨h, q⟩
theorem same_due {x : D} {Q : D → Prop} (h : x.deep ≤ 3 ∧ x.plain = true ∧ x.thin = true) (q : Q (.bl true)) : (sameM 3 [x, x]).run Q := ⟨⟨rfl, h⟩, q⟩
theorem isN_int (i : Int) : isN (.int i) .non = M.ret (.bl false) := rfl
theorem at_bt {K : PySem.W.Frag} {cls : Str → Addr} {e : Ecs} {fE : Addr} {Q : D → Prop} (aT : AtC K e (cls "BadText") "at") (eT : ErrC K (cls "BadText") fE "at") (q : Q (.tup [.str "BadText", .int 0])) : (atM K cls e (.er ⟨"BadText", "at", .int 0⟩)).run Q := ⟨⟨fE, aT, eT, by decide⟩, q⟩
theorem nd_empty : numOf 82 "" = none := numOf_len (by decide) (.inl rfl)
theorem nd_82 : numOf 82 "82" = none := by
  cases e : numOf 82 "82" with
  | none => rfl
  | some i =>
    obtain ⟨i0, i1, ei⟩ := numOf_some e
    have := ts_inj i0 (by omega) (show (0 : Int) ≤ 82 by decide) (by decide) (ei.symm.trans (show ("82" : Str) = (toString (82 : Int) : Str) by decide +kernel))
    omega
abbrev endsD : D := .lst [.tup [.str "BadText", .int 0], .tup [.str "BadText", .int 0]]
theorem ends_good : endsD.good := ⟨by decide +kernel, by decide +kernel, by simp [D.deep, deepL]⟩
theorem ends_std : endsD.std := ⟨ends_good, by decide +kernel⟩
section
variable {P : Program} {w : World} {K : PySem.W.Frag} {mg : Str → Option Value} {base : Heap} {C : Addr} {T : List (Addr × Str)} {cls : Str → Addr}
local macro_rules | `(tactic| walk_at "ex") => `(tactic| first | (with_reducible apply ex_call; walk_at "ea"))
local macro_rules | `(tactic| walk_at "ed+") => `(tactic| first | (with_reducible apply ed_at; walk_at "ex") | walk_at "edk")
local macro_rules | `(tactic| walk_at "svK") => `(tactic| first
  | (with_reducible apply sv_seq; walk_at "svK"; walk_at "svK")
  | (with_reducible apply sv_app; walk_at "ed")
  | (with_reducible apply sv_asg; walk_at "ed")
  | (with_reducible apply sv_if; walk_at "et"; walk_at "svK"; walk_at "svK")
  | (with_reducible apply sv_for; walk_at "ei"; walk_at "es"; walk_at "svK")
  | walk_at "sv")
def spLaw (K : PySem.W.Frag) (PT : Addr) : Sp := fun vs H Q _ => ∃ (a : Addr) (ns : List Int), vs = [.ref a] ∧ SqL K H a (ns.map V.int) ∧ ns.length ≤ 63 ∧ LamX.Tabs (TB1 PT) H ∧ ∀ H', Q (.bl true) H'
set_option maxHeartbeats 8000000 in
theorem ok_law {f cL PT fB fO fW fLw fBw fWw fS fR fE fX fAt : Addr} {fd dB dO dW dLw dBw dWw dS dR dE dX dAt : FuncData} {e : Ecs} (F : FunC K "law" "law" sLaw f fd cL) (b : Bq mg) (mstr : mg "str" = none) (TB : LamX.TabB base mg cL PT)
    (Fat : Fun K "_law_at" "_law_at" sAt fAt dAt) (gAt : mg "_law_at" = some (.ref fAt)) (bAt : Binds K dAt ["_law_ask"] []) (G : AtG mg e) (aT : AtC K e (cls "BadText") "at") (eT : ErrC K (cls "BadText") fE "at")
    (oB : Df P w K mg base 1 "_law_box" ["_law_script"] (spBox K) fB dB) (oO : Df P w K mg base 2 "_law_one" ["_law_box_here", "_law_some"] (spD (mkS K C (TB1 PT) cls) oneM) fO dO) (oW : Df P w K mg base 5 "_law_web" ["_law_box_here", "_law_low", "_law_high"] (spD (mkS K C (TB1 PT) cls) webM) fW dW)
    (oLw : Df P w K mg base 1 "_law_words" ["_law_m"] (spD (mkS K C (TB1 PT) cls) lwsM) fLw dLw) (oBw : Df P w K mg base 3 "_law_bent_words" ["_law_box_here", "_law_text"] (spD (mkS K C (TB1 PT) cls) bwM) fBw dBw) (oWw : Df P w K mg base 3 "_law_wrong_word" ["_law_text"] (spD (mkS K C (TB1 PT) cls) wwM) fWw dWw) (oS : Df P w K mg base 4 "_law_same" ["_law_found", "_law_due"] (spD (mkS K C (TB1 PT) cls) (sameM 3)) fS dS)
    (oR : DfX P w K mg base 5 "read_web" ["text"] (spX (mkS K C (TB1 PT) cls) rwX) fR dR) (eB : EDf P w K mg base "BadText" "at" (cls "BadText") fE dE) (xm : PySem.W.exmAny K (.ref (cls "BadText")) [.ref (cls "BadText")] = some true)
    (oX : FnOk P w K mg base CX0 1 fX dX ["self"] (spD (mkS K C (TB1 PT) cls) strM)) (fX' : PySem.W.findIn K (.ref C) "__str__" = some (some (.ref fX))) (iX : PySem.W.isFn K (.ref fX) = true) (bX : Binds K dX ["self"] []) : FnOk P w K mg base CX0 9 f fd ["_law_script"] (spLaw K PT) := by
  refine F.ok sc_law (fun vs H Q E h => ?_) (fun A outer s H vs Q E hr h => ?_)
  · obtain ⟨a, ns, rfl, _⟩ := h
    rfl
  · obtain ⟨a, ns, rfl, hS, hlen, hTb, KQ⟩ := h
    have hu5 : (A.deeper (envOfC "law" (defScope sLaw) s.heap.objs.size f (.ref cL))).units + 65 < cLine := by
      have := hr.un
      omega
    have hu : (A.deeper (envOfC "law" (defScope sLaw) s.heap.objs.size f (.ref cL))).units + 64 < cLine := by omega
    have hu1 : (A.deeper (envOfC "law" (defScope sLaw) s.heap.objs.size f (.ref cL))).units + 1 < cLine := by omega
    have tC : TryC K (cls "BadText") [.ref (cls "BadText")] "at" := ⟨xm, eB.er.xf, eB.er.nf, by decide⟩
    refine ⟨_, (pss_cons (ps_set (i := 1) sc_law.nd rfl (.inl rfl) (pe_call oB.ok (hr.mono (by decide)) (by rfl) oB.gl oB.kp oB.bd .nil pass0 (pa_cons (pv 0) pa_nil)))
      (pss_cons (ps_for PassesOwn.never rfl (pi_range1 (by rfl) b.range (pa_cons pe_int pa_nil)) (pg_name (i := 2) sc_law.nd rfl (.inl rfl))
      (pss_cons (ps_set (i := 3) sc_law.nd rfl (.inl rfl) (pe_call oLw.ok (hr.mono (by decide)) (by rfl) oLw.gl oLw.kp oLw.bd .nil pass0 (pa_cons (pe_call oW.ok (hr.mono (by decide)) (by rfl) oW.gl oW.kp oW.bd .nil pass0 (pa_cons (pv 1) (pa_cons pe_int (pa_cons pe_int pa_nil)))) pa_nil)))
      (pss_cons (ps_for PassesOwn.never rfl (pi_range1 (by rfl) b.range (pa_cons (pe_call oO.ok (hr.mono (by decide)) (by rfl) oO.gl oO.kp oO.bd .nil pass0 (pa_cons (pv 1) (pa_cons (pe_lst (pa_cons pe_int (pa_cons pe_int (pa_cons pe_int (pa_cons pe_int (pa_cons pe_int pa_nil)))))) pa_nil))) pa_nil)) (pg_name (i := 4) sc_law.nd rfl (.inl rfl))
      (pss_one (ps_set (i := 3) sc_law.nd rfl (.inl rfl) (pe_call oBw.ok (hr.mono (by decide)) (by rfl) oBw.gl oBw.kp oBw.bd .nil pass0 (pa_cons (pv 1) (pa_cons (pv 3) pa_nil))))))
      (pss_cons (ps_set (i := 5) sc_law.nd rfl (.inl rfl) (pe_call oWw.ok (hr.mono (by decide)) (by rfl) oWw.gl oWw.kp oWw.bd .nil pass0 (pa_cons (pv 3) pa_nil)))
      (pss_cons (ps_set (i := 6) sc_law.nd rfl (.inl rfl) pe_non)
      (pss_cons (ps_tryK (K := K) (te := (fun E => tCB (Nq.rStrI C (spD (mkS K C (TB1 PT) cls) strM) (fun _ _ _ => False)) (tCons (tCallS (spX (mkS K C (TB1 PT) cls) rwX) E (tCons (tVar 3) tNil)) tNil))) rfl rfl rfl sc_law.nd (i := 6) (j := 7) (fun W pn xe tk => pss_one (ps_set (i := 6) sc_law.nd rfl (.inl rfl) (pe_callTy (Nq.call_strI (K := K) rfl oX fX' iX bX pass0 (hr.mono (by decide))) (by rfl) mstr PySem.Pv.boot_str (pa_cons (pe_callS oR.ok (hr.mono (by decide)) (by rfl) oR.gl oR.kp oR.bd (fun τ => passAt tk τ) (pa_cons (pv 3) pa_nil)) pa_nil)))) ⟨rfl, by decide, .inl eB.gl⟩ rfl rfl (fun a oe cls d pn hz hf => pss_one (ps_set (i := 6) sc_law.nd rfl (.inl rfl) (pe_xfA hz hf (pv 7)))))
      (pss_one (ps_if (pt_not (pt_val (pe_call oS.ok (hr.mono (by decide)) (by rfl) oS.gl oS.kp oS.bd .nil pass0 (pa_cons (pv 6) (pa_cons (pe_ifExp (pt_cmpR op_isN (pv 5) pe_non (nomark _)) (pv 3) (pv 5)) pa_nil))))) (pss_one ps_never) pss_nil))))))))
      (pss_cons (ps_set (i := 8) sc_law.nd rfl (.inl rfl) (pe_lst (pa_cons (pe_atK (K := K) (T := TB1 PT) (k := 5) rfl Fat gAt bAt G (by rfl) TB rfl (List.mem_singleton.mpr rfl) (fun p hp _ => congrArg Prod.snd (List.mem_singleton.mp hp)) (hr.mono (by decide)) (LamX.lamS_by (sc := defScope sLaw) (by decide +kernel)) rfl (fun _ _ _ _ _ => rfl) (fun _ _ _ _ E _ _ hr => (pe_call oR.ok (hr.mono (by decide)) (by rfl) oR.gl oR.kp oR.bd .nil (passE rfl rfl rfl rfl) (pa_cons pe_str pa_nil)))) pa_nil)))
      (pss_cons (ps_expr (pe_bmK (K := K) rfl PySem.F.plainAttrs_list PySem.F.slot_list_append PySem.F.type_list_append mt_append (pv 8) (pa_cons (pe_atK (K := K) (T := TB1 PT) (k := 5) rfl Fat gAt bAt G (by rfl) TB rfl (List.mem_singleton.mpr rfl) (fun p hp _ => congrArg Prod.snd (List.mem_singleton.mp hp)) (hr.mono (by decide)) (LamX.lamS_by (sc := defScope sLaw) (by decide +kernel)) rfl (fun _ _ _ _ _ => rfl) (fun _ _ _ _ E _ _ hr => (pe_call oR.ok (hr.mono (by decide)) (by rfl) oR.gl oR.kp oR.bd .nil (passE rfl rfl rfl rfl) (pa_cons pe_str pa_nil)))) pa_nil)))
      (pss_one (ps_ret (pe_cmpR (dv_eq (K := K) rfl hu) (pv 8) (pe_lst (pa_cons (pe_tup (pa_cons pe_str (pa_cons pe_int pa_nil))) (pa_cons (pe_tup (pa_cons pe_str (pa_cons pe_int pa_nil))) pa_nil))) (nomark _)))))))), ?_⟩
    refine seq_set ⟨_, rfl, a, ns, rfl, hS, hlen, fun bx q H1 nb B1 s1 => ?_⟩
    refine law_go (n := 7) (S := mkS K C (TB1 PT) cls) (X := E) (by
      with_reducible apply sv_seq
      with_reducible apply sv_for
      walk_at "ei"
      walk_at "es"
      with_reducible apply sv_seq
      walk_at "svK"
      with_reducible apply sv_seq
      walk_at "svK"
      with_reducible apply sv_seq
      walk_at "svK"
      with_reducible apply sv_seq
      walk_at "svK"
      with_reducible apply sv_seq
      exact sv_try (w := "BadText") tC (exs_str (exs_call (ea_cons ed_var ea_nil)))
      walk_at "svK"
      with_reducible apply sv_seq
      with_reducible apply sv_asgL
      walk_at "el"
      walk_at "svK") B1 (hTb.ext s1) ?_ KQ
    have e0 : (none :: some (.f .box) :: List.replicate 7 none : Ev) = [none, some (.f .box), none, none, none, none, none, none, none] := rfl
    rw [e0]
    simp only [run_bnd, run_ret, run_opt, run_req, run_all, run_choose, run_ite, then_nx, then_rt, then_rl, then_er, then_ct, then_bk, outD_rt, outD_rl, outD_nx, outL_rl, outX_rt, outX_rl, outX_nx, outX_er, mask_nil, mask_cons, mk0_f, mk0_o, mk0_od, mk0_ot, mk0_n, peek_nil, peek_cons, pk_f, pk_o, pk_od, pk_ot, pk_n, dOf_int, dOf_bl, dOf_str, dOf_non, opI0_int, opI_int, unI_int, asB_bl, asI_int, asL_lst, asT_tup, asW_web, eqS_int, eqS_str, ixL_lst, ixT_tup, ixQ_lst, ixQ_tup, lenD_lst, lenD_tup, listD_lst, listD_tup, catD_lst, rng1_int, rng2_int, sName_go, sTup_go, sCons_go, sNil_go, bTup_go, bCons_go, bNil_go, two_go, List.set_cons_zero, List.set_cons_succ, List.getElem?_cons_zero, List.getElem?_cons_succ, Option.join_some, atI_0, atI_1, atI_2, decide_eq_true_eq, wipeE, List.map_cons, List.map_nil, step_nx, step_ct, step_bk, step_rt, step_rl, step_er, vOf_int, vOf_str]
    refine ⟨by decide, ?_⟩
    refine loop_run (fun i ρ => ∃ y2 y3 y4 y5 y6, ρ = [none, some (.f .box), y2, y3, y4, y5, y6, none, none]) ⟨_, _, _, _, _, rfl⟩ ?_ ?_
    · rintro i h ρ ⟨y2, y3, y4, y5, y6, rfl⟩
      obtain ⟨z2, eg⟩ : ∃ z2, (rngD 0 (Int.toNat 8))[i]'h = z2 := ⟨_, rfl⟩
      simp only [eg, sName_go, run_ret, List.set_cons_zero, List.set_cons_succ]
      refine seq_cut (fun ρ => ∃ t : Str, t.length ≤ 310 ∧ ρ = [none, some (.f .box), some (.f z2), some (.f (.str t)), y4, y5, y6, none, none]) ?_ ?_
      · simp only [run_bnd, run_ret, run_opt, run_req, run_all, run_choose, run_ite, then_nx, then_rt, then_rl, then_er, then_ct, then_bk, outD_rt, outD_rl, outD_nx, outL_rl, outX_rt, outX_rl, outX_nx, outX_er, mask_nil, mask_cons, mk0_f, mk0_o, mk0_od, mk0_ot, mk0_n, peek_nil, peek_cons, pk_f, pk_o, pk_od, pk_ot, pk_n, dOf_int, dOf_bl, dOf_str, dOf_non, opI0_int, opI_int, unI_int, asB_bl, asI_int, asL_lst, asT_tup, asW_web, eqS_int, eqS_str, ixL_lst, ixT_tup, ixQ_lst, ixQ_tup, lenD_lst, lenD_tup, listD_lst, listD_tup, catD_lst, rng1_int, rng2_int, sName_go, sTup_go, sCons_go, sNil_go, bTup_go, bCons_go, bNil_go, two_go, List.set_cons_zero, List.set_cons_succ, List.getElem?_cons_zero, List.getElem?_cons_succ, Option.join_some, atI_0, atI_1, atI_2, decide_eq_true_eq, wipeE, List.map_cons, List.map_nil, step_nx, step_ct, step_bk, step_rt, step_rl, step_er, vOf_int, vOf_str]
        refine ⟨⟨by decide, by decide, by decide⟩, fun ⟨n1, A1, M1⟩ ⟨a1, b1, w1, c1, d1⟩ => ?_⟩
        dsimp only at a1 b1 w1 c1 d1
        have := webS_len w1 (by omega) (by omega)
        exact lws_run w1 (by omega) (by omega) ⟨_, rfl, webS n1 A1 M1, by omega, rfl⟩
      rintro ρ ⟨t0, l0, rfl⟩
      refine seq_cut (fun ρ => ∃ (t : Str) (y4 : Option Sl), t.length ≤ 2900 ∧ ρ = [none, some (.f .box), some (.f z2), some (.f (.str t)), y4, y5, y6, none, none]) ?_ ?_
      · simp only [oneM_go, run_bnd, run_ret, run_opt, run_req, run_all, run_choose, run_ite, then_nx, then_rt, then_rl, then_er, then_ct, then_bk, outD_rt, outD_rl, outD_nx, outL_rl, outX_rt, outX_rl, outX_nx, outX_er, mask_nil, mask_cons, mk0_f, mk0_o, mk0_od, mk0_ot, mk0_n, peek_nil, peek_cons, pk_f, pk_o, pk_od, pk_ot, pk_n, dOf_int, dOf_bl, dOf_str, dOf_non, opI0_int, opI_int, unI_int, asB_bl, asI_int, asL_lst, asT_tup, asW_web, eqS_int, eqS_str, ixL_lst, ixT_tup, ixQ_lst, ixQ_tup, lenD_lst, lenD_tup, listD_lst, listD_tup, catD_lst, rng1_int, rng2_int, sName_go, sTup_go, sCons_go, sNil_go, bTup_go, bCons_go, bNil_go, two_go, List.set_cons_zero, List.set_cons_succ, List.getElem?_cons_zero, List.getElem?_cons_succ, Option.join_some, atI_0, atI_1, atI_2, decide_eq_true_eq, wipeE, List.map_cons, List.map_nil, step_nx, step_ct, step_bk, step_rt, step_rl, step_er, vOf_int, vOf_str]
        refine ⟨by show 5 ≤ 100000; decide, ⟨(fun z => nomatch z), by show 5 ≤ 1000; decide⟩, fun d hd => ?_⟩
        obtain ⟨m, m0, m1, rfl⟩ : ∃ m : Int, 0 ≤ m ∧ m ≤ 2 ∧ d = .int m := by
          simp only [List.mem_cons, List.not_mem_nil, or_false] at hd
          rcases hd with rfl | rfl | rfl | rfl | rfl
          · exact ⟨0, by decide, by decide, rfl⟩
          · exact ⟨1, by decide, by decide, rfl⟩
          · exact ⟨1, by decide, by decide, rfl⟩
          · exact ⟨1, by decide, by decide, rfl⟩
          · exact ⟨2, by decide, by decide, rfl⟩
        simp only [run_bnd, run_ret, run_opt, run_req, run_all, run_choose, run_ite, then_nx, then_rt, then_rl, then_er, then_ct, then_bk, outD_rt, outD_rl, outD_nx, outL_rl, outX_rt, outX_rl, outX_nx, outX_er, mask_nil, mask_cons, mk0_f, mk0_o, mk0_od, mk0_ot, mk0_n, peek_nil, peek_cons, pk_f, pk_o, pk_od, pk_ot, pk_n, dOf_int, dOf_bl, dOf_str, dOf_non, opI0_int, opI_int, unI_int, asB_bl, asI_int, asL_lst, asT_tup, asW_web, eqS_int, eqS_str, ixL_lst, ixT_tup, ixQ_lst, ixQ_tup, lenD_lst, lenD_tup, listD_lst, listD_tup, catD_lst, rng1_int, rng2_int, sName_go, sTup_go, sCons_go, sNil_go, bTup_go, bCons_go, bNil_go, two_go, List.set_cons_zero, List.set_cons_succ, List.getElem?_cons_zero, List.getElem?_cons_succ, Option.join_some, atI_0, atI_1, atI_2, decide_eq_true_eq, wipeE, List.map_cons, List.map_nil, step_nx, step_ct, step_bk, step_rt, step_rl, step_er, vOf_int, vOf_str]
        refine ⟨⟨by omega, by omega⟩, ?_⟩
        refine loop_run (fun j ρ => ∃ (t : Str) (y4 : Option Sl), ((j = 0 ∧ t.length ≤ 310) ∨ (j = 1 ∧ t.length ≤ 950) ∨ (2 ≤ j ∧ t.length ≤ 2900)) ∧ ρ = [none, some (.f .box), some (.f z2), some (.f (.str t)), y4, y5, y6, none, none]) ⟨t0, y4, .inl ⟨rfl, l0⟩, rfl⟩ ?_ ?_
        · rintro j hj ρ ⟨t, y4, ht, rfl⟩
          rw [rngD_len] at hj
          obtain ⟨z4, eg4⟩ : ∃ z4, (rngD 0 m.toNat)[j]'(by rw [rngD_len]; exact hj) = z4 := ⟨_, rfl⟩
          simp only [eg4, run_bnd, run_ret, run_opt, run_req, run_all, run_choose, run_ite, then_nx, then_rt, then_rl, then_er, then_ct, then_bk, outD_rt, outD_rl, outD_nx, outL_rl, outX_rt, outX_rl, outX_nx, outX_er, mask_nil, mask_cons, mk0_f, mk0_o, mk0_od, mk0_ot, mk0_n, peek_nil, peek_cons, pk_f, pk_o, pk_od, pk_ot, pk_n, dOf_int, dOf_bl, dOf_str, dOf_non, opI0_int, opI_int, unI_int, asB_bl, asI_int, asL_lst, asT_tup, asW_web, eqS_int, eqS_str, ixL_lst, ixT_tup, ixQ_lst, ixQ_tup, lenD_lst, lenD_tup, listD_lst, listD_tup, catD_lst, rng1_int, rng2_int, sName_go, sTup_go, sCons_go, sNil_go, bTup_go, bCons_go, bNil_go, two_go, List.set_cons_zero, List.set_cons_succ, List.getElem?_cons_zero, List.getElem?_cons_succ, Option.join_some, atI_0, atI_1, atI_2, decide_eq_true_eq, wipeE, List.map_cons, List.map_nil, step_nx, step_ct, step_bk, step_rt, step_rl, step_er, vOf_int, vOf_str]
          refine bw_run (by omega) fun u hu => ?_
          exact ⟨u, some (.f z4), by omega, rfl⟩
        · rintro ρ ⟨t, y4, ht, rfl⟩
          exact ⟨_, rfl, t, y4, by omega, rfl⟩
      rintro ρ ⟨t, y4', lt, rfl⟩
      obtain ⟨w0, ws, et, hf⟩ := words_of t
      refine seq_cut (fun ρ => ρ = [none, some (.f .box), some (.f z2), some (.f (.str t)), y4', some (.f (wwD w0 ws)), y6, none, none]) ?_ ?_
      · simp only [run_bnd, run_ret, run_opt, run_req, run_all, run_choose, run_ite, then_nx, then_rt, then_rl, then_er, then_ct, then_bk, outD_rt, outD_rl, outD_nx, outL_rl, outX_rt, outX_rl, outX_nx, outX_er, mask_nil, mask_cons, mk0_f, mk0_o, mk0_od, mk0_ot, mk0_n, peek_nil, peek_cons, pk_f, pk_o, pk_od, pk_ot, pk_n, dOf_int, dOf_bl, dOf_str, dOf_non, opI0_int, opI_int, unI_int, asB_bl, asI_int, asL_lst, asT_tup, asW_web, eqS_int, eqS_str, ixL_lst, ixT_tup, ixQ_lst, ixQ_tup, lenD_lst, lenD_tup, listD_lst, listD_tup, catD_lst, rng1_int, rng2_int, sName_go, sTup_go, sCons_go, sNil_go, bTup_go, bCons_go, bNil_go, two_go, List.set_cons_zero, List.set_cons_succ, List.getElem?_cons_zero, List.getElem?_cons_succ, Option.join_some, atI_0, atI_1, atI_2, decide_eq_true_eq, wipeE, List.map_cons, List.map_nil, step_nx, step_ct, step_bk, step_rt, step_rl, step_er, vOf_int, vOf_str]
        refine ww_run et hf (by omega) ⟨_, rfl, rfl⟩
      rintro ρ rfl
      refine seq_cut (fun ρ => ρ = [none, some (.f .box), some (.f z2), some (.f (.str t)), y4', some (.f (wwD w0 ws)), some (.f .non), none, none]) ?_ ?_
      · simp only [run_bnd, run_ret, run_opt, run_req, run_all, run_choose, run_ite, then_nx, then_rt, then_rl, then_er, then_ct, then_bk, outD_rt, outD_rl, outD_nx, outL_rl, outX_rt, outX_rl, outX_nx, outX_er, mask_nil, mask_cons, mk0_f, mk0_o, mk0_od, mk0_ot, mk0_n, peek_nil, peek_cons, pk_f, pk_o, pk_od, pk_ot, pk_n, dOf_int, dOf_bl, dOf_str, dOf_non, opI0_int, opI_int, unI_int, asB_bl, asI_int, asL_lst, asT_tup, asW_web, eqS_int, eqS_str, ixL_lst, ixT_tup, ixQ_lst, ixQ_tup, lenD_lst, lenD_tup, listD_lst, listD_tup, catD_lst, rng1_int, rng2_int, sName_go, sTup_go, sCons_go, sNil_go, bTup_go, bCons_go, bNil_go, two_go, List.set_cons_zero, List.set_cons_succ, List.getElem?_cons_zero, List.getElem?_cons_succ, Option.join_some, atI_0, atI_1, atI_2, decide_eq_true_eq, wipeE, List.map_cons, List.map_nil, step_nx, step_ct, step_bk, step_rt, step_rl, step_er, vOf_int, vOf_str]
        exact ⟨_, rfl, rfl⟩
      rintro ρ rfl
      cases h0 : numOf 82 w0 with
      | none =>
        have ew : wwD w0 ws = .int 0 := by simp only [wwD, h0]
        have er : rdW w0 ws = M.ret (.er ⟨"BadText", "at", .int 0⟩) := by simp only [rdW, h0]
        rw [ew]
        refine seq_cut (fun ρ => ρ = [none, some (.f .box), some (.f z2), some (.f (.str t)), y4', some (.f (.int 0)), some (.f (.int 0)), none, none]) ?_ ?_
        · simp only [run_bnd, run_ret, run_opt, run_req, run_all, run_choose, run_ite, then_nx, then_rt, then_rl, then_er, then_ct, then_bk, outD_rt, outD_rl, outD_nx, outL_rl, outX_rt, outX_rl, outX_nx, outX_er, mask_nil, mask_cons, mk0_f, mk0_o, mk0_od, mk0_ot, mk0_n, peek_nil, peek_cons, pk_f, pk_o, pk_od, pk_ot, pk_n, dOf_int, dOf_bl, dOf_str, dOf_non, opI0_int, opI_int, unI_int, asB_bl, asI_int, asL_lst, asT_tup, asW_web, eqS_int, eqS_str, ixL_lst, ixT_tup, ixQ_lst, ixQ_tup, lenD_lst, lenD_tup, listD_lst, listD_tup, catD_lst, rng1_int, rng2_int, sName_go, sTup_go, sCons_go, sNil_go, bTup_go, bCons_go, bNil_go, two_go, List.set_cons_zero, List.set_cons_succ, List.getElem?_cons_zero, List.getElem?_cons_succ, Option.join_some, atI_0, atI_1, atI_2, decide_eq_true_eq, wipeE, List.map_cons, List.map_nil, step_nx, step_ct, step_bk, step_rt, step_rl, step_er, vOf_int, vOf_str]
          refine rx_run et hf (by omega) ?_
          rw [er]
          exact ⟨⟨rfl, rfl, by show 7 < 9; decide, by decide⟩, _, rfl, rfl⟩
        rintro ρ rfl
        simp only [isN_int, Bool.false_eq_true, if_false, run_bnd, run_ret, run_opt, run_req, run_all, run_choose, run_ite, then_nx, then_rt, then_rl, then_er, then_ct, then_bk, outD_rt, outD_rl, outD_nx, outL_rl, outX_rt, outX_rl, outX_nx, outX_er, mask_nil, mask_cons, mk0_f, mk0_o, mk0_od, mk0_ot, mk0_n, peek_nil, peek_cons, pk_f, pk_o, pk_od, pk_ot, pk_n, dOf_int, dOf_bl, dOf_str, dOf_non, opI0_int, opI_int, unI_int, asB_bl, asI_int, asL_lst, asT_tup, asW_web, eqS_int, eqS_str, ixL_lst, ixT_tup, ixQ_lst, ixQ_tup, lenD_lst, lenD_tup, listD_lst, listD_tup, catD_lst, rng1_int, rng2_int, sName_go, sTup_go, sCons_go, sNil_go, bTup_go, bCons_go, bNil_go, two_go, List.set_cons_zero, List.set_cons_succ, List.getElem?_cons_zero, List.getElem?_cons_succ, Option.join_some, atI_0, atI_1, atI_2, decide_eq_true_eq, wipeE, List.map_cons, List.map_nil, step_nx, step_ct, step_bk, step_rt, step_rl, step_er, vOf_int, vOf_str]
        refine same_due ⟨by simp [D.deep], rfl, by simp [D.thin]⟩ ?_
        show (asB (.bl true)).run _
        rw [asB_bl, run_ret, if_neg (by decide)]
        exact ⟨_, _, _, _, _, rfl⟩
      | some n => cases h1 : rdTs n ws [] 1 with
        | inl i =>
          have ew : wwD w0 ws = .int i := by simp only [wwD, h0, h1]
          have er : rdW w0 ws = M.ret (.er ⟨"BadText", "at", .int i⟩) := by simp only [rdW, h0, h1]
          rw [ew]
          refine seq_cut (fun ρ => ρ = [none, some (.f .box), some (.f z2), some (.f (.str t)), y4', some (.f (.int i)), some (.f (.int i)), none, none]) ?_ ?_
          · simp only [run_bnd, run_ret, run_opt, run_req, run_all, run_choose, run_ite, then_nx, then_rt, then_rl, then_er, then_ct, then_bk, outD_rt, outD_rl, outD_nx, outL_rl, outX_rt, outX_rl, outX_nx, outX_er, mask_nil, mask_cons, mk0_f, mk0_o, mk0_od, mk0_ot, mk0_n, peek_nil, peek_cons, pk_f, pk_o, pk_od, pk_ot, pk_n, dOf_int, dOf_bl, dOf_str, dOf_non, opI0_int, opI_int, unI_int, asB_bl, asI_int, asL_lst, asT_tup, asW_web, eqS_int, eqS_str, ixL_lst, ixT_tup, ixQ_lst, ixQ_tup, lenD_lst, lenD_tup, listD_lst, listD_tup, catD_lst, rng1_int, rng2_int, sName_go, sTup_go, sCons_go, sNil_go, bTup_go, bCons_go, bNil_go, two_go, List.set_cons_zero, List.set_cons_succ, List.getElem?_cons_zero, List.getElem?_cons_succ, Option.join_some, atI_0, atI_1, atI_2, decide_eq_true_eq, wipeE, List.map_cons, List.map_nil, step_nx, step_ct, step_bk, step_rt, step_rl, step_er, vOf_int, vOf_str]
            refine rx_run et hf (by omega) ?_
            rw [er]
            exact ⟨⟨rfl, rfl, by show 7 < 9; decide, by decide⟩, _, rfl, rfl⟩
          rintro ρ rfl
          simp only [isN_int, Bool.false_eq_true, if_false, run_bnd, run_ret, run_opt, run_req, run_all, run_choose, run_ite, then_nx, then_rt, then_rl, then_er, then_ct, then_bk, outD_rt, outD_rl, outD_nx, outL_rl, outX_rt, outX_rl, outX_nx, outX_er, mask_nil, mask_cons, mk0_f, mk0_o, mk0_od, mk0_ot, mk0_n, peek_nil, peek_cons, pk_f, pk_o, pk_od, pk_ot, pk_n, dOf_int, dOf_bl, dOf_str, dOf_non, opI0_int, opI_int, unI_int, asB_bl, asI_int, asL_lst, asT_tup, asW_web, eqS_int, eqS_str, ixL_lst, ixT_tup, ixQ_lst, ixQ_tup, lenD_lst, lenD_tup, listD_lst, listD_tup, catD_lst, rng1_int, rng2_int, sName_go, sTup_go, sCons_go, sNil_go, bTup_go, bCons_go, bNil_go, two_go, List.set_cons_zero, List.set_cons_succ, List.getElem?_cons_zero, List.getElem?_cons_succ, Option.join_some, atI_0, atI_1, atI_2, decide_eq_true_eq, wipeE, List.map_cons, List.map_nil, step_nx, step_ct, step_bk, step_rt, step_rl, step_er, vOf_int, vOf_str]
          refine same_due ⟨by simp [D.deep], rfl, by simp [D.thin]⟩ ?_
          show (asB (.bl true)).run _
          rw [asB_bl, run_ret, if_neg (by decide)]
          exact ⟨_, _, _, _, _, rfl⟩
        | inr l =>
          have ew : wwD w0 ws = .non := by simp only [wwD, h0, h1]
          have er : rdW w0 ws = M.ret (.ok (.web n (fa l) (fm l))) := by simp only [rdW, h0, h1]
          obtain ⟨wk, hn, hk, es⟩ := rd_text h0 h1 (by rw [← et]; omega)
          rw [ew]
          refine seq_cut (fun ρ => ρ = [none, some (.f .box), some (.f z2), some (.f (.str t)), y4', some (.f .non), some (.f (.str t)), none, none]) ?_ ?_
          · simp only [run_bnd, run_ret, run_opt, run_req, run_all, run_choose, run_ite, then_nx, then_rt, then_rl, then_er, then_ct, then_bk, outD_rt, outD_rl, outD_nx, outL_rl, outX_rt, outX_rl, outX_nx, outX_er, mask_nil, mask_cons, mk0_f, mk0_o, mk0_od, mk0_ot, mk0_n, peek_nil, peek_cons, pk_f, pk_o, pk_od, pk_ot, pk_n, dOf_int, dOf_bl, dOf_str, dOf_non, opI0_int, opI_int, unI_int, asB_bl, asI_int, asL_lst, asT_tup, asW_web, eqS_int, eqS_str, ixL_lst, ixT_tup, ixQ_lst, ixQ_tup, lenD_lst, lenD_tup, listD_lst, listD_tup, catD_lst, rng1_int, rng2_int, sName_go, sTup_go, sCons_go, sNil_go, bTup_go, bCons_go, bNil_go, two_go, List.set_cons_zero, List.set_cons_succ, List.getElem?_cons_zero, List.getElem?_cons_succ, Option.join_some, atI_0, atI_1, atI_2, decide_eq_true_eq, wipeE, List.map_cons, List.map_nil, step_nx, step_ct, step_bk, step_rt, step_rl, step_er, vOf_int, vOf_str]
            refine rx_run et hf (by omega) ?_
            rw [er]
            show ((strO strM [.web n (fa l) (fm l)]).bnd fun d => M.ret (Rx.ok d)).run _
            rw [run_bnd]
            refine str_run wk (by omega) hk ?_
            rw [es, ← et]
            exact ⟨_, rfl, rfl⟩
          rintro ρ rfl
          simp only [isN_non, if_true, run_bnd, run_ret, run_opt, run_req, run_all, run_choose, run_ite, then_nx, then_rt, then_rl, then_er, then_ct, then_bk, outD_rt, outD_rl, outD_nx, outL_rl, outX_rt, outX_rl, outX_nx, outX_er, mask_nil, mask_cons, mk0_f, mk0_o, mk0_od, mk0_ot, mk0_n, peek_nil, peek_cons, pk_f, pk_o, pk_od, pk_ot, pk_n, dOf_int, dOf_bl, dOf_str, dOf_non, opI0_int, opI_int, unI_int, asB_bl, asI_int, asL_lst, asT_tup, asW_web, eqS_int, eqS_str, ixL_lst, ixT_tup, ixQ_lst, ixQ_tup, lenD_lst, lenD_tup, listD_lst, listD_tup, catD_lst, rng1_int, rng2_int, sName_go, sTup_go, sCons_go, sNil_go, bTup_go, bCons_go, bNil_go, two_go, List.set_cons_zero, List.set_cons_succ, List.getElem?_cons_zero, List.getElem?_cons_succ, Option.join_some, atI_0, atI_1, atI_2, decide_eq_true_eq, wipeE, List.map_cons, List.map_nil, step_nx, step_ct, step_bk, step_rt, step_rl, step_er, vOf_int, vOf_str]
          refine same_due ⟨by simp [D.deep], rfl, by simp [D.thin]⟩ ?_
          show (asB (.bl true)).run _
          rw [asB_bl, run_ret, if_neg (by decide)]
          exact ⟨_, _, _, _, _, rfl⟩
    · rintro ρ ⟨y2, y3, y4, y5, y6, rfl⟩
      simp only [run_bnd, run_ret, run_opt, run_req, run_all, run_choose, run_ite, then_nx, then_rt, then_rl, then_er, then_ct, then_bk, outD_rt, outD_rl, outD_nx, outL_rl, outX_rt, outX_rl, outX_nx, outX_er, mask_nil, mask_cons, mk0_f, mk0_o, mk0_od, mk0_ot, mk0_n, peek_nil, peek_cons, pk_f, pk_o, pk_od, pk_ot, pk_n, dOf_int, dOf_bl, dOf_str, dOf_non, opI0_int, opI_int, unI_int, asB_bl, asI_int, asL_lst, asT_tup, asW_web, eqS_int, eqS_str, ixL_lst, ixT_tup, ixQ_lst, ixQ_tup, lenD_lst, lenD_tup, listD_lst, listD_tup, catD_lst, rng1_int, rng2_int, sName_go, sTup_go, sCons_go, sNil_go, bTup_go, bCons_go, bNil_go, two_go, List.set_cons_zero, List.set_cons_succ, List.getElem?_cons_zero, List.getElem?_cons_succ, Option.join_some, atI_0, atI_1, atI_2, decide_eq_true_eq, wipeE, List.map_cons, List.map_nil, step_nx, step_ct, step_bk, step_rt, step_rl, step_er, vOf_int, vOf_str]
      refine rx_run (w0 := "") (ws := []) rfl (fun w hw => by rw [List.mem_singleton.mp hw]; exact fun h => nomatch h) (by decide) ?_
      rw [show rdW "" [] = M.ret (.er ⟨"BadText", "at", .int 0⟩) by simp only [rdW, nd_empty], run_ret]
      refine at_bt aT eT ⟨by show 1 ≤ 100000; decide, ?_⟩
      show M.run (M.ret [D.tup [D.str "BadText", D.int 0]]) _
      rw [run_ret]
      refine ⟨by show 1 < 100000; decide, ?_⟩
      refine rx_run (w0 := "82") (ws := []) rfl (fun w hw => by rw [List.mem_singleton.mp hw]; decide +kernel) (by decide) ?_
      rw [show rdW "82" [] = M.ret (.er ⟨"BadText", "at", .int 0⟩) by simp only [rdW, nd_82], run_ret]
      refine at_bt aT eT ?_
      refine ⟨by show 2 ≤ 100000; decide, by show 2 ≤ 100000; decide, by show 2 ≤ 100000; decide, ⟨ends_good, ends_good⟩, ?_⟩
      show Ou.rt (D.bl (eqD endsD endsD)) = _
      rw [(eqD_iff ends_std ends_std).mpr rfl]
end
end
end Dv
namespace Wb
open PySem PySem.Spec PyProof.Rows L2 RZ Sg Tm
open Dv (sLaw spLaw sWStr sNB0 sReadT sReadTs sReadW s_law_words s_law_num_in s_law_tie_in s_law_wrong s_law_bent)
def clsF (a_bt : Addr) (x : Str) : Addr := a_bt
theorem clsF_bt {a_bt : Addr} : clsF a_bt "BadText" = a_bt := by
  unfold clsF
  rfl
def fI (K : PySem.W.Frag) (C : Addr) (x : Str) (v : Option Value) : Bool := decide (PySem.W.findIn K (.ref C) x = some v)
theorem nd {K : PySem.W.Frag} {C : Addr} {x : Str} (h : fI K C x none = true) : NoAttr K C x := (of_decide_eq_true h : PySem.W.findIn K (.ref C) x = some none)
theorem all_get {l : List Bool} (h : l.all id = true) (n : Nat) {b : Bool} (e : l[n]? = some b) : b = true := List.all_eq_true.mp h b (List.mem_of_getElem? e)
set_option maxHeartbeats 4000000 in
theorem all_mk {l : PySem.W.OpenLaw} {w : World} {K : PySem.W.Frag} {h : Heap} {mg : Str → Option Value} {fa : Addr} {f_sRA : Addr}
    {oc_sRA kV_sRA dc_sRA pm_sRA cd_sRA ct_sRA : Value} {od_sRA an_sRA : Option Addr} {sl_sRA : Array (Option Value)}
    {f_sRM : Addr}
    {oc_sRM kV_sRM dc_sRM pm_sRM cd_sRM ct_sRM : Value} {od_sRM an_sRM : Option Addr} {sl_sRM : Array (Option Value)}
    {f_sGat : Addr}
    {oc_sGat kV_sGat dc_sGat pm_sGat cd_sGat ct_sGat : Value} {od_sGat an_sGat : Option Addr} {sl_sGat : Array (Option Value)}
    {f_sBox : Addr}
    {oc_sBox kV_sBox dc_sBox pm_sBox cd_sBox ct_sBox : Value} {od_sBox an_sBox : Option Addr} {sl_sBox : Array (Option Value)}
    {f_sTake : Addr}
    {oc_sTake kV_sTake dc_sTake pm_sTake cd_sTake ct_sTake : Value} {od_sTake an_sTake : Option Addr} {sl_sTake : Array (Option Value)}
    {f_sOne : Addr}
    {oc_sOne kV_sOne dc_sOne pm_sOne cd_sOne ct_sOne : Value} {od_sOne an_sOne : Option Addr} {sl_sOne : Array (Option Value)}
    {f_sSame : Addr}
    {oc_sSame kV_sSame dc_sSame pm_sSame cd_sSame ct_sSame : Value} {od_sSame an_sSame : Option Addr} {sl_sSame : Array (Option Value)}
    {f_sUnlike : Addr}
    {oc_sUnlike kV_sUnlike dc_sUnlike pm_sUnlike cd_sUnlike ct_sUnlike : Value} {od_sUnlike an_sUnlike : Option Addr} {sl_sUnlike : Array (Option Value)}
    {f_sHue : Addr}
    {oc_sHue kV_sHue dc_sHue pm_sHue cd_sHue ct_sHue : Value} {od_sHue an_sHue : Option Addr} {sl_sHue : Array (Option Value)}
    {f_sSign : Addr}
    {oc_sSign kV_sSign dc_sSign pm_sSign cd_sSign ct_sSign : Value} {od_sSign an_sSign : Option Addr} {sl_sSign : Array (Option Value)}
    {f_sArrow : Addr}
    {oc_sArrow kV_sArrow dc_sArrow pm_sArrow cd_sArrow ct_sArrow : Value} {od_sArrow an_sArrow : Option Addr} {sl_sArrow : Array (Option Value)}
    {f_sWeb : Addr}
    {oc_sWeb kV_sWeb dc_sWeb pm_sWeb cd_sWeb ct_sWeb : Value} {od_sWeb an_sWeb : Option Addr} {sl_sWeb : Array (Option Value)}
    {f_sNB0 : Addr}
    {oc_sNB0 kV_sNB0 dc_sNB0 pm_sNB0 cd_sNB0 ct_sNB0 : Value} {od_sNB0 an_sNB0 : Option Addr} {sl_sNB0 : Array (Option Value)}
    {f_sReadT : Addr}
    {oc_sReadT kV_sReadT dc_sReadT pm_sReadT cd_sReadT ct_sReadT : Value} {od_sReadT an_sReadT : Option Addr} {sl_sReadT : Array (Option Value)}
    {f_sReadTs : Addr}
    {oc_sReadTs kV_sReadTs dc_sReadTs pm_sReadTs cd_sReadTs ct_sReadTs : Value} {od_sReadTs an_sReadTs : Option Addr} {sl_sReadTs : Array (Option Value)}
    {f_sReadW : Addr}
    {oc_sReadW kV_sReadW dc_sReadW pm_sReadW cd_sReadW ct_sReadW : Value} {od_sReadW an_sReadW : Option Addr} {sl_sReadW : Array (Option Value)}
    {f_s_law_words : Addr}
    {oc_s_law_words kV_s_law_words dc_s_law_words pm_s_law_words cd_s_law_words ct_s_law_words : Value} {od_s_law_words an_s_law_words : Option Addr} {sl_s_law_words : Array (Option Value)}
    {f_s_law_num_in : Addr}
    {oc_s_law_num_in kV_s_law_num_in dc_s_law_num_in pm_s_law_num_in cd_s_law_num_in ct_s_law_num_in : Value} {od_s_law_num_in an_s_law_num_in : Option Addr} {sl_s_law_num_in : Array (Option Value)}
    {f_s_law_tie_in : Addr}
    {oc_s_law_tie_in kV_s_law_tie_in dc_s_law_tie_in pm_s_law_tie_in cd_s_law_tie_in ct_s_law_tie_in : Value} {od_s_law_tie_in an_s_law_tie_in : Option Addr} {sl_s_law_tie_in : Array (Option Value)}
    {f_s_law_wrong : Addr}
    {oc_s_law_wrong kV_s_law_wrong dc_s_law_wrong pm_s_law_wrong cd_s_law_wrong ct_s_law_wrong : Value} {od_s_law_wrong an_s_law_wrong : Option Addr} {sl_s_law_wrong : Array (Option Value)}
    {f_s_law_bent : Addr}
    {oc_s_law_bent kV_s_law_bent dc_s_law_bent pm_s_law_bent cd_s_law_bent ct_s_law_bent : Value} {od_s_law_bent an_s_law_bent : Option Addr} {sl_s_law_bent : Array (Option Value)}
    {f_sAt : Addr}
    {oc_sAt kV_sAt dc_sAt pm_sAt cd_sAt ct_sAt : Value} {od_sAt an_sAt : Option Addr} {sl_sAt : Array (Option Value)}
    {f_sLaw : Addr}
    {cL PT : Addr}
    {oc_sLaw kV_sLaw dc_sLaw pm_sLaw ct_sLaw : Value} {od_sLaw an_sLaw : Option Addr} {sl_sLaw : Array (Option Value)}
    {ecL : Value} {dcL : Option Addr} {vsL : Array Value} {slL : Array (Option Value)}
    {C f_sInit D ta tm : Addr}
    {oc_sInit dc_sInit pm_sInit cd_sInit ct_sInit : Value} {od_sInit an_sInit : Option Addr} {sl_sInit : Array (Option Value)}
    {odta : Option Addr} {nta : Nat} {slta : Array (Option Value)}
    {odtm : Option Addr} {ntm : Nat} {sltm : Array (Option Value)}
    {t1 t2 t3 : Tok}
    {f_sPoints : Addr}
    {oc_sPoints kV_sPoints dc_sPoints pm_sPoints cd_sPoints ct_sPoints : Value} {od_sPoints an_sPoints : Option Addr} {sl_sPoints : Array (Option Value)}
    {f_sArrows : Addr}
    {oc_sArrows kV_sArrows dc_sArrows pm_sArrows cd_sArrows ct_sArrows : Value} {od_sArrows an_sArrows : Option Addr} {sl_sArrows : Array (Option Value)}
    {f_sMarks : Addr}
    {oc_sMarks kV_sMarks dc_sMarks pm_sMarks cd_sMarks ct_sMarks : Value} {od_sMarks an_sMarks : Option Addr} {sl_sMarks : Array (Option Value)}
    {f_sWStr : Addr}
    {oc_sWStr kV_sWStr dc_sWStr pm_sWStr cd_sWStr ct_sWStr : Value} {od_sWStr an_sWStr : Option Addr} {sl_sWStr : Array (Option Value)}
    {C_bt : Addr}
    {f_sEBadText : Addr}
    {oc_sEBadText kV_sEBadText dc_sEBadText pm_sEBadText cd_sEBadText ct_sEBadText : Value} {od_sEBadText an_sEBadText : Option Addr} {sl_sEBadText : Array (Option Value)}
    {C_ba : Addr}
    {C_bm : Addr}
    {C_bs : Addr}
    {C_sz : Addr}
    {C_pt : Addr}
    {C_nu : Addr}
    {C_tm : Addr}
    (X : K.In h) (G : h.Ns mainGlobals mg) (hfa : mg "law" = some (.ref fa)) (own : LamX.OwnTab K fa h) 
    (a_sRA : PySem.W.nsIn K mainGlobals "refuse_bad_arrows" = some (some (.ref f_sRA)))
    (l_sRA : K.lookup f_sRA = some ⟨oc_sRA, od_sRA, .func (PySem.W.fnOf "refuse_bad_arrows" "refuse_bad_arrows" (defArgs sRA) (defBody sRA) (defScope sRA) .none kV_sRA dc_sRA pm_sRA an_sRA cd_sRA ct_sRA), sl_sRA⟩)
    (c_sRA : PySem.W.codeIn K cd_sRA "refuse_bad_arrows" = true)
    (k_sRA : PySem.W.keepIn K (.ref f_sRA) = true)
    (a_sRM : PySem.W.nsIn K mainGlobals "refuse_bad_marks" = some (some (.ref f_sRM)))
    (l_sRM : K.lookup f_sRM = some ⟨oc_sRM, od_sRM, .func (PySem.W.fnOf "refuse_bad_marks" "refuse_bad_marks" (defArgs sRM) (defBody sRM) (defScope sRM) .none kV_sRM dc_sRM pm_sRM an_sRM cd_sRM ct_sRM), sl_sRM⟩)
    (c_sRM : PySem.W.codeIn K cd_sRM "refuse_bad_marks" = true)
    (k_sRM : PySem.W.keepIn K (.ref f_sRM) = true)
    (a_sGat : PySem.W.nsIn K mainGlobals "gathered" = some (some (.ref f_sGat)))
    (l_sGat : K.lookup f_sGat = some ⟨oc_sGat, od_sGat, .func (PySem.W.fnOf "gathered" "gathered" (defArgs sGat) (defBody sGat) (defScope sGat) .none kV_sGat dc_sGat pm_sGat an_sGat cd_sGat ct_sGat), sl_sGat⟩)
    (c_sGat : PySem.W.codeIn K cd_sGat "gathered" = true)
    (k_sGat : PySem.W.keepIn K (.ref f_sGat) = true)
    (a_sBox : PySem.W.nsIn K mainGlobals "_law_box" = some (some (.ref f_sBox)))
    (l_sBox : K.lookup f_sBox = some ⟨oc_sBox, od_sBox, .func (PySem.W.fnOf "_law_box" "_law_box" (defArgs sBox) (defBody sBox) (defScope sBox) .none kV_sBox dc_sBox pm_sBox an_sBox cd_sBox ct_sBox), sl_sBox⟩)
    (c_sBox : PySem.W.codeIn K cd_sBox "_law_box" = true)
    (k_sBox : PySem.W.keepIn K (.ref f_sBox) = true)
    (a_sTake : PySem.W.nsIn K mainGlobals "_law_take" = some (some (.ref f_sTake)))
    (l_sTake : K.lookup f_sTake = some ⟨oc_sTake, od_sTake, .func (PySem.W.fnOf "_law_take" "_law_take" (defArgs sTake) (defBody sTake) (defScope sTake) .none kV_sTake dc_sTake pm_sTake an_sTake cd_sTake ct_sTake), sl_sTake⟩)
    (c_sTake : PySem.W.codeIn K cd_sTake "_law_take" = true)
    (k_sTake : PySem.W.keepIn K (.ref f_sTake) = true)
    (a_sOne : PySem.W.nsIn K mainGlobals "_law_one" = some (some (.ref f_sOne)))
    (l_sOne : K.lookup f_sOne = some ⟨oc_sOne, od_sOne, .func (PySem.W.fnOf "_law_one" "_law_one" (defArgs sOne) (defBody sOne) (defScope sOne) .none kV_sOne dc_sOne pm_sOne an_sOne cd_sOne ct_sOne), sl_sOne⟩)
    (c_sOne : PySem.W.codeIn K cd_sOne "_law_one" = true)
    (k_sOne : PySem.W.keepIn K (.ref f_sOne) = true)
    (a_sSame : PySem.W.nsIn K mainGlobals "_law_same" = some (some (.ref f_sSame)))
    (l_sSame : K.lookup f_sSame = some ⟨oc_sSame, od_sSame, .func (PySem.W.fnOf "_law_same" "_law_same" (defArgs sSame) (defBody sSame) (defScope sSame) .none kV_sSame dc_sSame pm_sSame an_sSame cd_sSame ct_sSame), sl_sSame⟩)
    (c_sSame : PySem.W.codeIn K cd_sSame "_law_same" = true)
    (k_sSame : PySem.W.keepIn K (.ref f_sSame) = true)
    (a_sUnlike : PySem.W.nsIn K mainGlobals "_law_unlike" = some (some (.ref f_sUnlike)))
    (l_sUnlike : K.lookup f_sUnlike = some ⟨oc_sUnlike, od_sUnlike, .func (PySem.W.fnOf "_law_unlike" "_law_unlike" (defArgs sUnlike) (defBody sUnlike) (defScope sUnlike) .none kV_sUnlike dc_sUnlike pm_sUnlike an_sUnlike cd_sUnlike ct_sUnlike), sl_sUnlike⟩)
    (c_sUnlike : PySem.W.codeIn K cd_sUnlike "_law_unlike" = true)
    (k_sUnlike : PySem.W.keepIn K (.ref f_sUnlike) = true)
    (a_sHue : PySem.W.nsIn K mainGlobals "_law_hue" = some (some (.ref f_sHue)))
    (l_sHue : K.lookup f_sHue = some ⟨oc_sHue, od_sHue, .func (PySem.W.fnOf "_law_hue" "_law_hue" (defArgs sHue) (defBody sHue) (defScope sHue) .none kV_sHue dc_sHue pm_sHue an_sHue cd_sHue ct_sHue), sl_sHue⟩)
    (c_sHue : PySem.W.codeIn K cd_sHue "_law_hue" = true)
    (k_sHue : PySem.W.keepIn K (.ref f_sHue) = true)
    (a_sSign : PySem.W.nsIn K mainGlobals "_law_sign" = some (some (.ref f_sSign)))
    (l_sSign : K.lookup f_sSign = some ⟨oc_sSign, od_sSign, .func (PySem.W.fnOf "_law_sign" "_law_sign" (defArgs sSign) (defBody sSign) (defScope sSign) .none kV_sSign dc_sSign pm_sSign an_sSign cd_sSign ct_sSign), sl_sSign⟩)
    (c_sSign : PySem.W.codeIn K cd_sSign "_law_sign" = true)
    (k_sSign : PySem.W.keepIn K (.ref f_sSign) = true)
    (a_sArrow : PySem.W.nsIn K mainGlobals "_law_arrow" = some (some (.ref f_sArrow)))
    (l_sArrow : K.lookup f_sArrow = some ⟨oc_sArrow, od_sArrow, .func (PySem.W.fnOf "_law_arrow" "_law_arrow" (defArgs sArrow) (defBody sArrow) (defScope sArrow) .none kV_sArrow dc_sArrow pm_sArrow an_sArrow cd_sArrow ct_sArrow), sl_sArrow⟩)
    (c_sArrow : PySem.W.codeIn K cd_sArrow "_law_arrow" = true)
    (k_sArrow : PySem.W.keepIn K (.ref f_sArrow) = true)
    (a_sWeb : PySem.W.nsIn K mainGlobals "_law_web" = some (some (.ref f_sWeb)))
    (l_sWeb : K.lookup f_sWeb = some ⟨oc_sWeb, od_sWeb, .func (PySem.W.fnOf "_law_web" "_law_web" (defArgs sWeb) (defBody sWeb) (defScope sWeb) .none kV_sWeb dc_sWeb pm_sWeb an_sWeb cd_sWeb ct_sWeb), sl_sWeb⟩)
    (c_sWeb : PySem.W.codeIn K cd_sWeb "_law_web" = true)
    (k_sWeb : PySem.W.keepIn K (.ref f_sWeb) = true)
    (a_sNB0 : PySem.W.nsIn K mainGlobals "numbers_below" = some (some (.ref f_sNB0)))
    (l_sNB0 : K.lookup f_sNB0 = some ⟨oc_sNB0, od_sNB0, .func (PySem.W.fnOf "numbers_below" "numbers_below" (defArgs sNB0) (defBody sNB0) (defScope sNB0) .none kV_sNB0 dc_sNB0 pm_sNB0 an_sNB0 cd_sNB0 ct_sNB0), sl_sNB0⟩)
    (c_sNB0 : PySem.W.codeIn K cd_sNB0 "numbers_below" = true)
    (k_sNB0 : PySem.W.keepIn K (.ref f_sNB0) = true)
    (a_sReadT : PySem.W.nsIn K mainGlobals "read_tie" = some (some (.ref f_sReadT)))
    (l_sReadT : K.lookup f_sReadT = some ⟨oc_sReadT, od_sReadT, .func (PySem.W.fnOf "read_tie" "read_tie" (defArgs sReadT) (defBody sReadT) (defScope sReadT) .none kV_sReadT dc_sReadT pm_sReadT an_sReadT cd_sReadT ct_sReadT), sl_sReadT⟩)
    (c_sReadT : PySem.W.codeIn K cd_sReadT "read_tie" = true)
    (k_sReadT : PySem.W.keepIn K (.ref f_sReadT) = true)
    (a_sReadTs : PySem.W.nsIn K mainGlobals "read_ties" = some (some (.ref f_sReadTs)))
    (l_sReadTs : K.lookup f_sReadTs = some ⟨oc_sReadTs, od_sReadTs, .func (PySem.W.fnOf "read_ties" "read_ties" (defArgs sReadTs) (defBody sReadTs) (defScope sReadTs) .none kV_sReadTs dc_sReadTs pm_sReadTs an_sReadTs cd_sReadTs ct_sReadTs), sl_sReadTs⟩)
    (c_sReadTs : PySem.W.codeIn K cd_sReadTs "read_ties" = true)
    (k_sReadTs : PySem.W.keepIn K (.ref f_sReadTs) = true)
    (a_sReadW : PySem.W.nsIn K mainGlobals "read_web" = some (some (.ref f_sReadW)))
    (l_sReadW : K.lookup f_sReadW = some ⟨oc_sReadW, od_sReadW, .func (PySem.W.fnOf "read_web" "read_web" (defArgs sReadW) (defBody sReadW) (defScope sReadW) .none kV_sReadW dc_sReadW pm_sReadW an_sReadW cd_sReadW ct_sReadW), sl_sReadW⟩)
    (c_sReadW : PySem.W.codeIn K cd_sReadW "read_web" = true)
    (k_sReadW : PySem.W.keepIn K (.ref f_sReadW) = true)
    (a_s_law_words : PySem.W.nsIn K mainGlobals "_law_words" = some (some (.ref f_s_law_words)))
    (l_s_law_words : K.lookup f_s_law_words = some ⟨oc_s_law_words, od_s_law_words, .func (PySem.W.fnOf "_law_words" "_law_words" (defArgs s_law_words) (defBody s_law_words) (defScope s_law_words) .none kV_s_law_words dc_s_law_words pm_s_law_words an_s_law_words cd_s_law_words ct_s_law_words), sl_s_law_words⟩)
    (c_s_law_words : PySem.W.codeIn K cd_s_law_words "_law_words" = true)
    (k_s_law_words : PySem.W.keepIn K (.ref f_s_law_words) = true)
    (a_s_law_num_in : PySem.W.nsIn K mainGlobals "_law_number_in" = some (some (.ref f_s_law_num_in)))
    (l_s_law_num_in : K.lookup f_s_law_num_in = some ⟨oc_s_law_num_in, od_s_law_num_in, .func (PySem.W.fnOf "_law_number_in" "_law_number_in" (defArgs s_law_num_in) (defBody s_law_num_in) (defScope s_law_num_in) .none kV_s_law_num_in dc_s_law_num_in pm_s_law_num_in an_s_law_num_in cd_s_law_num_in ct_s_law_num_in), sl_s_law_num_in⟩)
    (c_s_law_num_in : PySem.W.codeIn K cd_s_law_num_in "_law_number_in" = true)
    (k_s_law_num_in : PySem.W.keepIn K (.ref f_s_law_num_in) = true)
    (a_s_law_tie_in : PySem.W.nsIn K mainGlobals "_law_tie_in" = some (some (.ref f_s_law_tie_in)))
    (l_s_law_tie_in : K.lookup f_s_law_tie_in = some ⟨oc_s_law_tie_in, od_s_law_tie_in, .func (PySem.W.fnOf "_law_tie_in" "_law_tie_in" (defArgs s_law_tie_in) (defBody s_law_tie_in) (defScope s_law_tie_in) .none kV_s_law_tie_in dc_s_law_tie_in pm_s_law_tie_in an_s_law_tie_in cd_s_law_tie_in ct_s_law_tie_in), sl_s_law_tie_in⟩)
    (c_s_law_tie_in : PySem.W.codeIn K cd_s_law_tie_in "_law_tie_in" = true)
    (k_s_law_tie_in : PySem.W.keepIn K (.ref f_s_law_tie_in) = true)
    (a_s_law_wrong : PySem.W.nsIn K mainGlobals "_law_wrong_word" = some (some (.ref f_s_law_wrong)))
    (l_s_law_wrong : K.lookup f_s_law_wrong = some ⟨oc_s_law_wrong, od_s_law_wrong, .func (PySem.W.fnOf "_law_wrong_word" "_law_wrong_word" (defArgs s_law_wrong) (defBody s_law_wrong) (defScope s_law_wrong) .none kV_s_law_wrong dc_s_law_wrong pm_s_law_wrong an_s_law_wrong cd_s_law_wrong ct_s_law_wrong), sl_s_law_wrong⟩)
    (c_s_law_wrong : PySem.W.codeIn K cd_s_law_wrong "_law_wrong_word" = true)
    (k_s_law_wrong : PySem.W.keepIn K (.ref f_s_law_wrong) = true)
    (a_s_law_bent : PySem.W.nsIn K mainGlobals "_law_bent_words" = some (some (.ref f_s_law_bent)))
    (l_s_law_bent : K.lookup f_s_law_bent = some ⟨oc_s_law_bent, od_s_law_bent, .func (PySem.W.fnOf "_law_bent_words" "_law_bent_words" (defArgs s_law_bent) (defBody s_law_bent) (defScope s_law_bent) .none kV_s_law_bent dc_s_law_bent pm_s_law_bent an_s_law_bent cd_s_law_bent ct_s_law_bent), sl_s_law_bent⟩)
    (c_s_law_bent : PySem.W.codeIn K cd_s_law_bent "_law_bent_words" = true)
    (k_s_law_bent : PySem.W.keepIn K (.ref f_s_law_bent) = true)
    (a_sAt : PySem.W.nsIn K mainGlobals "_law_at" = some (some (.ref f_sAt)))
    (l_sAt : K.lookup f_sAt = some ⟨oc_sAt, od_sAt, .func (PySem.W.fnOf "_law_at" "_law_at" (defArgs sAt) (defBody sAt) (defScope sAt) .none kV_sAt dc_sAt pm_sAt an_sAt cd_sAt ct_sAt), sl_sAt⟩)
    (c_sAt : PySem.W.codeIn K cd_sAt "_law_at" = true)
    (k_sAt : PySem.W.keepIn K (.ref f_sAt) = true)
    (a_sLaw : PySem.W.nsIn K mainGlobals "law" = some (some (.ref f_sLaw)))
    (l_sLaw : K.lookup f_sLaw = some ⟨oc_sLaw, od_sLaw, .func (PySem.W.fnOf "law" "law" (defArgs sLaw) (defBody sLaw) (defScope sLaw) .none kV_sLaw dc_sLaw pm_sLaw an_sLaw (.ref cL) ct_sLaw), sl_sLaw⟩)
    (c_sLaw : PySem.W.codeIn K (.ref cL) "law" = true)
    (k_sLaw : PySem.W.keepIn K (.ref f_sLaw) = true)
    (lcL : K.lookup cL = some ⟨ecL, dcL, .fields vsL, slL⟩)
    (v11 : vsL[11]? = some (.ref PT))
    (z_len : PySem.W.nsIn K mainGlobals "len" = some none)
    (z_list : PySem.W.nsIn K mainGlobals "list" = some none)
    (z_range : PySem.W.nsIn K mainGlobals "range" = some none)
    (z_isinstance : PySem.W.nsIn K mainGlobals "isinstance" = some none)
    (z_tuple : PySem.W.nsIn K mainGlobals "tuple" = some none)
    (z_bool : PySem.W.nsIn K mainGlobals "bool" = some none)
    (z_int : PySem.W.nsIn K mainGlobals "int" = some none)
    (z_str : PySem.W.nsIn K mainGlobals "str" = some none)
    (z_all : PySem.W.nsIn K mainGlobals "all" = some none)
    (z_zip : PySem.W.nsIn K mainGlobals "zip" = some none)
    (z_enumerate : PySem.W.nsIn K mainGlobals "enumerate" = some none)
    (z_set : PySem.W.nsIn K mainGlobals "set" = some none)
    (z_sorted : PySem.W.nsIn K mainGlobals "sorted" = some none)
    (z_sum : PySem.W.nsIn K mainGlobals "sum" = some none)
    (z_max : PySem.W.nsIn K mainGlobals "max" = some none)
    (aC : PySem.W.nsIn K mainGlobals "Web" = some (some (.ref C)))
    (jI : PySem.W.findIn K (.ref C) "__init__" = some (some (.ref f_sInit)))
    (l_sInit : K.lookup f_sInit = some ⟨oc_sInit, od_sInit, .func (PySem.W.fnOf "__init__" "Web.__init__" (defArgs sInit) (defBody sInit) (defScope sInit) .none (.ref D) dc_sInit pm_sInit an_sInit cd_sInit ct_sInit), sl_sInit⟩)
    (c_sInit : PySem.W.codeIn K cd_sInit "Web.__init__" = true)
    (k_sInit : PySem.W.keepIn K (.ref f_sInit) = true)
    (da : PySem.W.nsIn K D "arrows" = some (some (.ref ta)))
    (dm : PySem.W.nsIn K D "marks" = some (some (.ref tm)))
    (eta : K.lookup ta = some ⟨.type "tuple", odta, .seq #[] nta, slta⟩)
    (etm : K.lookup tm = some ⟨.type "tuple", odtm, .seq #[] ntm, sltm⟩)
    (g1 : PySem.W.nsIn K mainGlobals "MOST_POINTS" = some (some (.int 81 t1)))
    (g2 : PySem.W.nsIn K mainGlobals "COLOURS" = some (some (.str "abc" t2)))
    (g3 : PySem.W.nsIn K mainGlobals "MARKS" = some (some (.str "pqr" t3)))
    (j_sPoints : PySem.W.findIn K (.ref C) "points" = some (some (.ref f_sPoints)))
    (l_sPoints : K.lookup f_sPoints = some ⟨oc_sPoints, od_sPoints, .func (PySem.W.fnOf "points" "Web.points" (defArgs sPoints) (defBody sPoints) (defScope sPoints) .none kV_sPoints dc_sPoints pm_sPoints an_sPoints cd_sPoints ct_sPoints), sl_sPoints⟩)
    (c_sPoints : PySem.W.codeIn K cd_sPoints "Web.points" = true)
    (k_sPoints : PySem.W.keepIn K (.ref f_sPoints) = true)
    (j_sArrows : PySem.W.findIn K (.ref C) "arrows" = some (some (.ref f_sArrows)))
    (l_sArrows : K.lookup f_sArrows = some ⟨oc_sArrows, od_sArrows, .func (PySem.W.fnOf "arrows" "Web.arrows" (defArgs sArrows) (defBody sArrows) (defScope sArrows) .none kV_sArrows dc_sArrows pm_sArrows an_sArrows cd_sArrows ct_sArrows), sl_sArrows⟩)
    (c_sArrows : PySem.W.codeIn K cd_sArrows "Web.arrows" = true)
    (k_sArrows : PySem.W.keepIn K (.ref f_sArrows) = true)
    (j_sMarks : PySem.W.findIn K (.ref C) "marks" = some (some (.ref f_sMarks)))
    (l_sMarks : K.lookup f_sMarks = some ⟨oc_sMarks, od_sMarks, .func (PySem.W.fnOf "marks" "Web.marks" (defArgs sMarks) (defBody sMarks) (defScope sMarks) .none kV_sMarks dc_sMarks pm_sMarks an_sMarks cd_sMarks ct_sMarks), sl_sMarks⟩)
    (c_sMarks : PySem.W.codeIn K cd_sMarks "Web.marks" = true)
    (k_sMarks : PySem.W.keepIn K (.ref f_sMarks) = true)
    (j_sWStr : PySem.W.findIn K (.ref C) "__str__" = some (some (.ref f_sWStr)))
    (l_sWStr : K.lookup f_sWStr = some ⟨oc_sWStr, od_sWStr, .func (PySem.W.fnOf "__str__" "Web.__str__" (defArgs sWStr) (defBody sWStr) (defScope sWStr) .none kV_sWStr dc_sWStr pm_sWStr an_sWStr cd_sWStr ct_sWStr), sl_sWStr⟩)
    (c_sWStr : PySem.W.codeIn K cd_sWStr "Web.__str__" = true)
    (k_sWStr : PySem.W.keepIn K (.ref f_sWStr) = true)
    (a_bt : PySem.W.nsIn K mainGlobals "BadText" = some (some (.ref C_bt)))
    (j_bt : PySem.W.findIn K (.ref C_bt) "__init__" = some (some (.ref f_sEBadText)))
    (l_sEBadText : K.lookup f_sEBadText = some ⟨oc_sEBadText, od_sEBadText, .func (PySem.W.fnOf "__init__" "BadText.__init__" (defArgs sEBadText) (defBody sEBadText) (defScope sEBadText) .none kV_sEBadText dc_sEBadText pm_sEBadText an_sEBadText cd_sEBadText ct_sEBadText), sl_sEBadText⟩)
    (c_sEBadText : PySem.W.codeIn K cd_sEBadText "BadText.__init__" = true)
    (k_sEBadText : PySem.W.keepIn K (.ref f_sEBadText) = true)
    (a_ba : PySem.W.nsIn K mainGlobals "BadArrow" = some (some (.ref C_ba)))
    (a_bm : PySem.W.nsIn K mainGlobals "BadMark" = some (some (.ref C_bm)))
    (a_bs : PySem.W.nsIn K mainGlobals "BadStrike" = some (some (.ref C_bs)))
    (a_sz : PySem.W.nsIn K mainGlobals "BadSize" = some (some (.ref C_sz)))
    (a_pt : PySem.W.nsIn K mainGlobals "BadPoint" = some (some (.ref C_pt)))
    (a_nu : PySem.W.nsIn K mainGlobals "BadNumber" = some (some (.ref C_nu)))
    (a_tm : PySem.W.nsIn K mainGlobals "TooMany" = some (some (.ref C_tm)))
    (ck : ([PySem.W.plainGet K C Str.empty, PySem.W.hasDictIn K C, PySem.W.plainOver K C, fI K C "__setattr__" (some (.builtin "object.__setattr__")), fI K C "places" none, fI K C "arrow_rows" none, fI K C "mark_rows" none, fI K C "onward" none, fI K C "backward" none, PySem.W.makesIn K C, fI K C "__init__" (some (.ref f_sInit)), PySem.W.isFn K (.ref f_sInit), PySem.W.keepIn K (.ref C), fI K C "points" (some (.ref f_sPoints)), PySem.W.isFn K (.ref f_sPoints), fI K C "arrows" (some (.ref f_sArrows)), PySem.W.isFn K (.ref f_sArrows), fI K C "marks" (some (.ref f_sMarks)), PySem.W.isFn K (.ref f_sMarks), fI K C "__str__" (some (.ref f_sWStr)), PySem.W.isFn K (.ref f_sWStr), errB K C_bt f_sEBadText "at", atB K ⟨C_ba, C_bm, C_bt, C_bs, C_sz, C_pt, C_nu, C_tm⟩ C_bt 0, decide (PySem.W.exmAny K (.ref C_bt) [.ref C_bt] = some true), PySem.W.codeHdIn K cL PT, (K.lookup PT).isNone] : List Bool).all id = true) :
    LamX.LawAtS l w K CX0 9 63 "_law_script" mg fa h := by
  have e := hfa.symm.trans (PySem.W.mg_of X G a_sLaw)
  cases e
  have F_sRA := fun_mk (st := sRA) l_sRA c_sRA k_sRA
  have b_sRA := F_sRA.binds (ps := ["points", "arrows"]) fun _ _ _ _ _ _ us hl => match us, hl with | [_, _], _ => rfl
  have F_sRM := fun_mk (st := sRM) l_sRM c_sRM k_sRM
  have b_sRM := F_sRM.binds (ps := ["points", "marks"]) fun _ _ _ _ _ _ us hl => match us, hl with | [_, _], _ => rfl
  have F_sGat := fun_mk (st := sGat) l_sGat c_sGat k_sGat
  have b_sGat := F_sGat.binds (ps := ["rows"]) fun _ _ _ _ _ _ us hl => match us, hl with | [_], _ => rfl
  have F_sBox := fun_mk (st := sBox) l_sBox c_sBox k_sBox
  have b_sBox := F_sBox.binds (ps := ["_law_script"]) fun _ _ _ _ _ _ us hl => match us, hl with | [_], _ => rfl
  have F_sTake := fun_mk (st := sTake) l_sTake c_sTake k_sTake
  have b_sTake := F_sTake.binds (ps := ["_law_box_here", "_law_many"]) fun _ _ _ _ _ _ us hl => match us, hl with | [_, _], _ => rfl
  have F_sOne := fun_mk (st := sOne) l_sOne c_sOne k_sOne
  have b_sOne := F_sOne.binds (ps := ["_law_box_here", "_law_some"]) fun _ _ _ _ _ _ us hl => match us, hl with | [_, _], _ => rfl
  have F_sSame := fun_mk (st := sSame) l_sSame c_sSame k_sSame
  have b_sSame := F_sSame.binds (ps := ["_law_found", "_law_due"]) fun _ _ _ _ _ _ us hl => match us, hl with | [_, _], _ => rfl
  have F_sUnlike := fun_mk (st := sUnlike) l_sUnlike c_sUnlike k_sUnlike
  have b_sUnlike := F_sUnlike.binds (ps := ["_law_some"]) fun _ _ _ _ _ _ us hl => match us, hl with | [_], _ => rfl
  have F_sHue := fun_mk (st := sHue) l_sHue c_sHue k_sHue
  have b_sHue := F_sHue.binds (ps := ["_law_box_here"]) fun _ _ _ _ _ _ us hl => match us, hl with | [_], _ => rfl
  have F_sSign := fun_mk (st := sSign) l_sSign c_sSign k_sSign
  have b_sSign := F_sSign.binds (ps := ["_law_box_here"]) fun _ _ _ _ _ _ us hl => match us, hl with | [_], _ => rfl
  have F_sArrow := fun_mk (st := sArrow) l_sArrow c_sArrow k_sArrow
  have b_sArrow := F_sArrow.binds (ps := ["_law_box_here", "_law_many"]) fun _ _ _ _ _ _ us hl => match us, hl with | [_, _], _ => rfl
  have F_sWeb := fun_mk (st := sWeb) l_sWeb c_sWeb k_sWeb
  have b_sWeb := F_sWeb.binds (ps := ["_law_box_here", "_law_low", "_law_high"]) fun _ _ _ _ _ _ us hl => match us, hl with | [_, _, _], _ => rfl
  have F_sNB0 := fun_mk (st := sNB0) l_sNB0 c_sNB0 k_sNB0
  have b_sNB0 := F_sNB0.binds (ps := ["bound"]) fun _ _ _ _ _ _ us hl => match us, hl with | [_], _ => rfl
  have F_sReadT := fun_mk (st := sReadT) l_sReadT c_sReadT k_sReadT
  have b_sReadT := F_sReadT.binds (ps := ["word", "numbers"]) fun _ _ _ _ _ _ us hl => match us, hl with | [_, _], _ => rfl
  have F_sReadTs := fun_mk (st := sReadTs) l_sReadTs c_sReadTs k_sReadTs
  have b_sReadTs := F_sReadTs.binds (ps := ["words", "points"]) fun _ _ _ _ _ _ us hl => match us, hl with | [_, _], _ => rfl
  have F_sReadW := fun_mk (st := sReadW) l_sReadW c_sReadW k_sReadW
  have b_sReadW := F_sReadW.binds (ps := ["text"]) fun _ _ _ _ _ _ us hl => match us, hl with | [_], _ => rfl
  have F_s_law_words := fun_mk (st := s_law_words) l_s_law_words c_s_law_words k_s_law_words
  have b_s_law_words := F_s_law_words.binds (ps := ["_law_m"]) fun _ _ _ _ _ _ us hl => match us, hl with | [_], _ => rfl
  have F_s_law_num_in := fun_mk (st := s_law_num_in) l_s_law_num_in c_s_law_num_in k_s_law_num_in
  have b_s_law_num_in := F_s_law_num_in.binds (ps := ["_law_word"]) fun _ _ _ _ _ _ us hl => match us, hl with | [_], _ => rfl
  have F_s_law_tie_in := fun_mk (st := s_law_tie_in) l_s_law_tie_in c_s_law_tie_in k_s_law_tie_in
  have b_s_law_tie_in := F_s_law_tie_in.binds (ps := ["_law_word", "_law_many"]) fun _ _ _ _ _ _ us hl => match us, hl with | [_, _], _ => rfl
  have F_s_law_wrong := fun_mk (st := s_law_wrong) l_s_law_wrong c_s_law_wrong k_s_law_wrong
  have b_s_law_wrong := F_s_law_wrong.binds (ps := ["_law_text"]) fun _ _ _ _ _ _ us hl => match us, hl with | [_], _ => rfl
  have F_s_law_bent := fun_mk (st := s_law_bent) l_s_law_bent c_s_law_bent k_s_law_bent
  have b_s_law_bent := F_s_law_bent.binds (ps := ["_law_box_here", "_law_text"]) fun _ _ _ _ _ _ us hl => match us, hl with | [_, _], _ => rfl
  have F_sAt := fun_mk (st := sAt) l_sAt c_sAt k_sAt
  have b_sAt := F_sAt.binds (ps := ["_law_ask"]) fun _ _ _ _ _ _ us hl => match us, hl with | [_], _ => rfl
  have F_sLaw := funC_mk (st := sLaw) l_sLaw c_sLaw k_sLaw
  have cl : Cls K C := ⟨(all_get ck 0 rfl), (all_get ck 1 rfl), (all_get ck 2 rfl), (of_decide_eq_true (all_get ck 3 rfl))⟩
  have wt : WT K mg C := ⟨cl, nd (all_get ck 4 rfl), nd (all_get ck 5 rfl), nd (all_get ck 6 rfl), nd (all_get ck 7 rfl), nd (all_get ck 8 rfl), (PySem.W.mg_none_of X G z_list), (PySem.W.mg_none_of X G z_range), (PySem.W.mg_none_of X G z_set), (PySem.W.mg_none_of X G z_sorted), ⟨_, PySem.W.mg_of X G g1⟩⟩
  have mk : Mk K C f_sInit := ⟨(all_get ck 9 rfl), (of_decide_eq_true (all_get ck 10 rfl)), (all_get ck 11 rfl), (all_get ck 12 rfl)⟩
  have FI : FunD K "__init__" "Web.__init__" (defArgs sInit) (defBody sInit) (defScope sInit) [] [("arrows", .ref ta), ("marks", .ref tm)] f_sInit _ := ⟨⟨oc_sInit, od_sInit, .none, .ref D, dc_sInit, pm_sInit, an_sInit, cd_sInit, ct_sInit, sl_sInit, rfl, l_sInit, c_sInit, .inl ⟨rfl, rfl⟩, .inr ⟨D, rfl, fun q hq => by
    simp only [List.mem_cons, List.not_mem_nil, or_false] at hq
    rcases hq with rfl | rfl
    · exact ⟨_, da, rfl⟩
    · exact ⟨_, dm, rfl⟩⟩⟩, k_sInit⟩
  have ea : ∀ H, SqT K H ta [] := fun H => .inr ⟨_, _, _, eta, rfl, rfl, Nat.zero_le _, .nil⟩
  have em : ∀ H, SqT K H tm [] := fun H => .inr ⟨_, _, _, etm, rfl, rfl, Nat.zero_le _, .nil⟩
  have F_sPoints := fun_mk (st := sPoints) l_sPoints c_sPoints k_sPoints
  have b_sPoints := F_sPoints.binds (ps := ["self"]) fun _ _ _ _ _ _ us hl => match us, hl with | [_], _ => rfl
  have F_sArrows := fun_mk (st := sArrows) l_sArrows c_sArrows k_sArrows
  have b_sArrows := F_sArrows.binds (ps := ["self"]) fun _ _ _ _ _ _ us hl => match us, hl with | [_], _ => rfl
  have F_sMarks := fun_mk (st := sMarks) l_sMarks c_sMarks k_sMarks
  have b_sMarks := F_sMarks.binds (ps := ["self"]) fun _ _ _ _ _ _ us hl => match us, hl with | [_], _ => rfl
  have F_sWStr := fun_mk (st := sWStr) l_sWStr c_sWStr k_sWStr
  have b_sWStr := F_sWStr.binds (ps := ["self"]) fun _ _ _ _ _ _ us hl => match us, hl with | [_], _ => rfl
  have F_sEBadText := fun_mk (st := sEBadText) l_sEBadText c_sEBadText k_sEBadText
  have b_sEBadText := F_sEBadText.binds (ps := ["self", "at"]) fun _ _ _ _ _ _ us hl => match us, hl with | [_, _], _ => rfl
  have er_bt : ErrC K C_bt f_sEBadText "at" := errC_of (all_get ck 21 rfl)
  have AG : AtG mg ⟨C_ba, C_bm, C_bt, C_bs, C_sz, C_pt, C_nu, C_tm⟩ := ⟨PySem.W.mg_of X G a_ba, PySem.W.mg_of X G a_bm, PySem.W.mg_of X G a_bt, PySem.W.mg_of X G a_bs, PySem.W.mg_of X G a_sz, PySem.W.mg_of X G a_pt, PySem.W.mg_of X G a_nu, PySem.W.mg_of X G a_tm⟩
  have at_bt : AtC K ⟨C_ba, C_bm, C_bt, C_bs, C_sz, C_pt, C_nu, C_tm⟩ (clsF C_bt "BadText") "at" := by
    rw [clsF_bt]
    exact atC0 (all_get ck 22 rfl)
  have ec_bt : ErrC K (clsF C_bt "BadText") f_sEBadText "at" := by
    rw [clsF_bt]
    exact er_bt
  have ex_bt : PySem.W.exmAny K (.ref C_bt) [.ref C_bt] = some true := (of_decide_eq_true (all_get ck 23 rfl))
  have nP : K.lookup PT = none := Option.isNone_iff_eq_none.mp (all_get ck 25 rfl)
  have hP : h.get? PT = some { cls := .none, data := .fields #[] } := own cL PT _ _ _ _ _ _ l_sLaw rfl rfl lcL v11
  refine ⟨PySem.W.fnOf "law" "law" (defArgs sLaw) (defBody sLaw) (defScope sLaw) .none kV_sLaw dc_sLaw pm_sLaw an_sLaw (.ref cL) ct_sLaw, [(cL, PT)], spLaw K PT, fun p hp => ?_, fun p hp => ?_, fun p hp => ?_, fun s v => .of_eq rfl, fun H a ns hl _ hT hS => ⟨a, ns, rfl, hS, hl, fun p hp => ?_, fun _ => rfl⟩, fun base _ _ hTB => ?_⟩
  · rw [List.mem_singleton.mp hp]
    exact hP
  · rw [List.mem_singleton.mp hp]
    exact nP
  · rw [List.mem_singleton.mp hp]
    exact PySem.W.codeHd_of_K X (all_get ck 24 rfl)
  · rw [List.mem_singleton.mp hp]
    exact LamX.TabS.nil (hT (cL, PT) (List.mem_singleton.mpr rfl))
  have TB := hTB (cL, PT) (List.mem_singleton.mpr rfl)
  have o_sRA : Df l.prog w K mg base 1 "refuse_bad_arrows" ["points", "arrows"] (spRA K) f_sRA _ := ⟨ok_ra F_sRA (PySem.W.mg_none_of X G z_list) (PySem.W.mg_none_of X G z_enumerate) (PySem.W.mg_of X G g2), PySem.W.mg_of X G a_sRA, k_sRA, b_sRA⟩
  have o_sRM : Df l.prog w K mg base 1 "refuse_bad_marks" ["points", "marks"] (spRM K) f_sRM _ := ⟨ok_rm F_sRM (PySem.W.mg_none_of X G z_list) (PySem.W.mg_none_of X G z_enumerate) (PySem.W.mg_of X G g3), PySem.W.mg_of X G a_sRM, k_sRM, b_sRM⟩
  have o_sGat : Df l.prog w K mg base 1 "gathered" ["rows"] (spGat K) f_sGat _ := ⟨ok_gat F_sGat, PySem.W.mg_of X G a_sGat, k_sGat, b_sGat⟩
  have o_sBox : Df l.prog w K mg base 1 "_law_box" ["_law_script"] (spBox K) f_sBox _ := ⟨ok_box F_sBox (PySem.W.mg_none_of X G z_len) (PySem.W.mg_none_of X G z_list), PySem.W.mg_of X G a_sBox, k_sBox, b_sBox⟩
  have o_sTake : Df l.prog w K mg base 1 "_law_take" ["_law_box_here", "_law_many"] spTake f_sTake _ := ⟨ok_take F_sTake (PySem.W.mg_none_of X G z_len), PySem.W.mg_of X G a_sTake, k_sTake, b_sTake⟩
  have o_sOne : Df l.prog w K mg base 2 "_law_one" ["_law_box_here", "_law_some"] (spOne K) f_sOne _ := ⟨ok_one F_sOne (PySem.W.mg_none_of X G z_len) o_sTake, PySem.W.mg_of X G a_sOne, k_sOne, b_sOne⟩
  have sm : SmT mg := ⟨(PySem.W.mg_none_of X G z_isinstance), (PySem.W.mg_none_of X G z_list), (PySem.W.mg_none_of X G z_tuple), (PySem.W.mg_none_of X G z_bool), (PySem.W.mg_none_of X G z_int), (PySem.W.mg_none_of X G z_str), (PySem.W.mg_none_of X G z_len), (PySem.W.mg_none_of X G z_all), (PySem.W.mg_none_of X G z_zip)⟩
  have o_sSame : Df l.prog w K mg base 4 "_law_same" ["_law_found", "_law_due"] (spSame K 3) f_sSame _ := ⟨ok_same F_sSame (PySem.W.mg_of X G a_sSame) b_sSame sm 3, PySem.W.mg_of X G a_sSame, k_sSame, b_sSame⟩
  have o_sUnlike : Df l.prog w K mg base 1 "_law_unlike" ["_law_some"] (spUnl K) f_sUnlike _ := ⟨ok_unl F_sUnlike (PySem.W.mg_none_of X G z_sorted), PySem.W.mg_of X G a_sUnlike, k_sUnlike, b_sUnlike⟩
  have oI : FnOk l.prog w K mg base CX0 2 f_sInit _ psI (spInit K C) := ok_init FI wt o_sRA o_sRM o_sGat
  have e0_bt : EDf l.prog w K mg base "BadText" "at" C_bt f_sEBadText _ := ⟨ok_eBadText F_sEBadText er_bt, er_bt, (PySem.W.mg_of X G a_bt), b_sEBadText⟩
  have e_bt := e0_bt
  rw [← (clsF_bt : clsF C_bt "BadText" = C_bt)] at e_bt
  have d_take : Df l.prog w K mg base 1 "_law_take" ["_law_box_here", "_law_many"] (Dv.spD (Dv.mkS K C (Dv.TB1 PT) (clsF C_bt)) Dv.takeM) f_sTake _ := Dv.Df.to o_sTake (fun _ _ _ _ h => Dv.sp_take h)
  have d_one : Df l.prog w K mg base 2 "_law_one" ["_law_box_here", "_law_some"] (Dv.spD (Dv.mkS K C (Dv.TB1 PT) (clsF C_bt)) Dv.oneM) f_sOne _ := Dv.Df.to o_sOne (fun _ _ _ _ h => Dv.sp_one h)
  have d_same : Df l.prog w K mg base 4 "_law_same" ["_law_found", "_law_due"] (Dv.spD (Dv.mkS K C (Dv.TB1 PT) (clsF C_bt)) (Dv.sameM 3)) f_sSame _ := Dv.Df.to o_sSame (fun _ _ _ _ h => Dv.sp_same h)
  have bq : Dv.Bq mg := ⟨(PySem.W.mg_none_of X G z_range), (PySem.W.mg_none_of X G z_len), (PySem.W.mg_none_of X G z_list)⟩
  have d_unl : Df l.prog w K mg base 1 "_law_unlike" ["_law_some"] (Dv.spL (Dv.mkS K C (Dv.TB1 PT) (clsF C_bt)) Dv.unlM) f_sUnlike _ := Dv.Df.to o_sUnlike (fun _ _ _ _ h => Dv.sp_unl h)
  have d_hue : Df l.prog w K mg base 3 "_law_hue" ["_law_box_here"] (Dv.spD (Dv.mkS K C (Dv.TB1 PT) (clsF C_bt)) Dv.hueM) f_sHue _ := ⟨Dv.ok_hue F_sHue d_one, PySem.W.mg_of X G a_sHue, k_sHue, b_sHue⟩
  have d_sign : Df l.prog w K mg base 3 "_law_sign" ["_law_box_here"] (Dv.spD (Dv.mkS K C (Dv.TB1 PT) (clsF C_bt)) Dv.signM) f_sSign _ := ⟨Dv.ok_sign F_sSign d_one, PySem.W.mg_of X G a_sSign, k_sSign, b_sSign⟩
  have d_arrow : Df l.prog w K mg base 4 "_law_arrow" ["_law_box_here", "_law_many"] (Dv.spD (Dv.mkS K C (Dv.TB1 PT) (clsF C_bt)) Dv.arrowM) f_sArrow _ := ⟨Dv.ok_arrow F_sArrow d_hue d_take, PySem.W.mg_of X G a_sArrow, k_sArrow, b_sArrow⟩
  have d_web : Df l.prog w K mg base 5 "_law_web" ["_law_box_here", "_law_low", "_law_high"] (Dv.spD (Dv.mkS K C (Dv.TB1 PT) (clsF C_bt)) Dv.webM) f_sWeb _ := ⟨Dv.ok_web F_sWeb bq d_one d_take d_arrow d_sign d_unl, PySem.W.mg_of X G a_sWeb, k_sWeb, b_sWeb⟩
  have m_sPoints : Mf l.prog w K mg base 1 C "points" (spPts C) f_sPoints _ := ⟨ok_pts F_sPoints wt (PySem.W.mg_none_of X G z_len), ⟨(of_decide_eq_true (all_get ck 13 rfl)), (all_get ck 14 rfl), k_sPoints⟩, b_sPoints⟩
  have n_p : Mf l.prog w K mg base 1 C "points" (Dv.spD (Dv.mkS K C (Dv.TB1 PT) (clsF C_bt)) Dv.ptsM) f_sPoints _ := ⟨m_sPoints.ok.imp (fun _ _ _ _ h => Dv.sp_pts h), m_sPoints.mt, m_sPoints.bd⟩
  have m_s : PySem.W.findIn K (.ref C) "__str__" = some (some (.ref f_sWStr)) ∧ PySem.W.isFn K (.ref f_sWStr) = true ∧ PySem.W.keepIn K (.ref f_sWStr) = true := ⟨(of_decide_eq_true (all_get ck 19 rfl)), (all_get ck 20 rfl), k_sWStr⟩
  have m_sArrows : Mf l.prog w K mg base 1 C "arrows" (spArr C) f_sArrows _ := ⟨ok_arr F_sArrows wt, ⟨(of_decide_eq_true (all_get ck 15 rfl)), (all_get ck 16 rfl), k_sArrows⟩, b_sArrows⟩
  have n_a : Mf l.prog w K mg base 1 C "arrows" (Dv.spL (Dv.mkS K C (Dv.TB1 PT) (clsF C_bt)) Dv.arrM) f_sArrows _ := ⟨m_sArrows.ok.imp (fun _ _ _ _ h => Dv.sp_arr h), m_sArrows.mt, m_sArrows.bd⟩
  have m_sMarks : Mf l.prog w K mg base 1 C "marks" (spMrk C) f_sMarks _ := ⟨ok_mrk F_sMarks wt, ⟨(of_decide_eq_true (all_get ck 17 rfl)), (all_get ck 18 rfl), k_sMarks⟩, b_sMarks⟩
  have n_mr : Mf l.prog w K mg base 1 C "marks" (Dv.spL (Dv.mkS K C (Dv.TB1 PT) (clsF C_bt)) Dv.mrkM) f_sMarks _ := ⟨m_sMarks.ok.imp (fun _ _ _ _ h => Dv.sp_mrk h), m_sMarks.mt, m_sMarks.bd⟩
  have ex_btc : PySem.W.exmAny K (.ref ((clsF C_bt) "BadText")) [.ref ((clsF C_bt) "BadText")] = some true := by rw [clsF_bt]; exact ex_bt
  have d_nub : Df l.prog w K mg base 1 "numbers_below" ["bound"] (Dv.spD (Dv.mkS K C (Dv.TB1 PT) (clsF C_bt)) Dv.nubM) f_sNB0 _ := ⟨Dv.ok_nub F_sNB0 bq (PySem.W.mg_none_of X G z_str), PySem.W.mg_of X G a_sNB0, k_sNB0, b_sNB0⟩
  have d_rt : Df l.prog w K mg base 1 "read_tie" ["word", "numbers"] (Dv.spD (Dv.mkS K C (Dv.TB1 PT) (clsF C_bt)) Dv.rtX) f_sReadT _ := ⟨Dv.ok_rt F_sReadT (PySem.W.mg_of X G g2) (PySem.W.mg_of X G g3), PySem.W.mg_of X G a_sReadT, k_sReadT, b_sReadT⟩
  have d_rts : DfX l.prog w K mg base 3 "read_ties" ["words", "points"] (Dv.spY (Dv.mkS K C (Dv.TB1 PT) (clsF C_bt)) Dv.rtsX) f_sReadTs _ := ⟨Dv.ok_rts F_sReadTs bq (PySem.W.mg_none_of X G z_enumerate) d_nub d_rt e_bt, PySem.W.mg_of X G a_sReadTs, k_sReadTs, b_sReadTs⟩
  have d_rw : DfX l.prog w K mg base 5 "read_web" ["text"] (Dv.spX (Dv.mkS K C (Dv.TB1 PT) (clsF C_bt)) Dv.rwX) f_sReadW _ := ⟨Dv.ok_rw F_sReadW bq (PySem.W.mg_of X G g1) d_nub d_rts e_bt (PySem.W.mg_of X G aC) mk FI oI, PySem.W.mg_of X G a_sReadW, k_sReadW, b_sReadW⟩
  have d_lws : Df l.prog w K mg base 1 "_law_words" ["_law_m"] (Dv.spD (Dv.mkS K C (Dv.TB1 PT) (clsF C_bt)) Dv.lwsM) f_s_law_words _ := ⟨Dv.ok_lws F_s_law_words bq (PySem.W.mg_none_of X G z_str), PySem.W.mg_of X G a_s_law_words, k_s_law_words, b_s_law_words⟩
  have d_ni : Df l.prog w K mg base 1 "_law_number_in" ["_law_word"] (Dv.spD (Dv.mkS K C (Dv.TB1 PT) (clsF C_bt)) Dv.niM) f_s_law_num_in _ := ⟨Dv.ok_ni F_s_law_num_in bq (PySem.W.mg_none_of X G z_int) (PySem.W.mg_none_of X G z_all), PySem.W.mg_of X G a_s_law_num_in, k_s_law_num_in, b_s_law_num_in⟩
  have d_ti : Df l.prog w K mg base 2 "_law_tie_in" ["_law_word", "_law_many"] (Dv.spD (Dv.mkS K C (Dv.TB1 PT) (clsF C_bt)) Dv.tiM) f_s_law_tie_in _ := ⟨Dv.ok_ti F_s_law_tie_in bq (PySem.W.mg_none_of X G z_max) d_ni, PySem.W.mg_of X G a_s_law_tie_in, k_s_law_tie_in, b_s_law_tie_in⟩
  have d_ww : Df l.prog w K mg base 3 "_law_wrong_word" ["_law_text"] (Dv.spD (Dv.mkS K C (Dv.TB1 PT) (clsF C_bt)) Dv.wwM) f_s_law_wrong _ := ⟨Dv.ok_ww F_s_law_wrong bq (PySem.W.mg_none_of X G z_enumerate) d_ni d_ti, PySem.W.mg_of X G a_s_law_wrong, k_s_law_wrong, b_s_law_wrong⟩
  have d_bw : Df l.prog w K mg base 3 "_law_bent_words" ["_law_box_here", "_law_text"] (Dv.spD (Dv.mkS K C (Dv.TB1 PT) (clsF C_bt)) Dv.bwM) f_s_law_bent _ := ⟨Dv.ok_bw F_s_law_bent bq (PySem.W.mg_none_of X G z_int) d_take d_one, PySem.W.mg_of X G a_s_law_bent, k_s_law_bent, b_s_law_bent⟩
  exact Dv.ok_law (e := ⟨C_ba, C_bm, C_bt, C_bs, C_sz, C_pt, C_nu, C_tm⟩) (cls := (clsF C_bt)) F_sLaw bq (PySem.W.mg_none_of X G z_str) TB F_sAt (PySem.W.mg_of X G a_sAt) b_sAt AG at_bt ec_bt o_sBox d_one d_web d_lws d_bw d_ww d_same d_rw e_bt ex_btc (Dv.ok_str F_sWStr wt bq) m_s.1 m_s.2.1 b_sWStr
end Wb
open PySem PySem.W PyProof.Rows
set_option maxRecDepth 100000 in
set_option maxHeartbeats 0 in
theorem PySem.Challenge.cw_wardweb_k05_texts_of_no_web_holds : PySem.Challenge.rw_wardweb_k05_texts_of_no_web.Holds := by
  w_on; o_law; k_head; (case hw => w_witness2)
  k_fill
  refine LamX.walk_ofOwn (l := PySem.Challenge.rw_wardweb_k05_texts_of_no_web) (n := 63) (k := 9) (x := "_law_script") (CX := fun _ => L2.CX0) rfl (by decide) rfl ⟨rfl, by decide, by decide⟩ (by decide +kernel) (fun w h Y => PySem.W.km_in_of Y) ?F (fun _ _ _ _ _ h => h)
  case F =>
    intro w mg fa h YY KX G hmg own
    refine' Wb.all_mk KX G hmg own ?a_sRA ?l_sRA ?c_sRA ?k_sRA ?a_sRM ?l_sRM ?c_sRM ?k_sRM ?a_sGat ?l_sGat ?c_sGat ?k_sGat ?a_sBox ?l_sBox ?c_sBox ?k_sBox ?a_sTake ?l_sTake ?c_sTake ?k_sTake ?a_sOne ?l_sOne ?c_sOne ?k_sOne ?a_sSame ?l_sSame ?c_sSame ?k_sSame ?a_sUnlike ?l_sUnlike ?c_sUnlike ?k_sUnlike ?a_sHue ?l_sHue ?c_sHue ?k_sHue ?a_sSign ?l_sSign ?c_sSign ?k_sSign ?a_sArrow ?l_sArrow ?c_sArrow ?k_sArrow ?a_sWeb ?l_sWeb ?c_sWeb ?k_sWeb ?a_sNB0 ?l_sNB0 ?c_sNB0 ?k_sNB0 ?a_sReadT ?l_sReadT ?c_sReadT ?k_sReadT ?a_sReadTs ?l_sReadTs ?c_sReadTs ?k_sReadTs ?a_sReadW ?l_sReadW ?c_sReadW ?k_sReadW ?a_s_law_words ?l_s_law_words ?c_s_law_words ?k_s_law_words ?a_s_law_num_in ?l_s_law_num_in ?c_s_law_num_in ?k_s_law_num_in ?a_s_law_tie_in ?l_s_law_tie_in ?c_s_law_tie_in ?k_s_law_tie_in ?a_s_law_wrong ?l_s_law_wrong ?c_s_law_wrong ?k_s_law_wrong ?a_s_law_bent ?l_s_law_bent ?c_s_law_bent ?k_s_law_bent ?a_sAt ?l_sAt ?c_sAt ?k_sAt ?a_sLaw ?l_sLaw ?c_sLaw ?k_sLaw ?lcL ?v11 ?z_len ?z_list ?z_range ?z_isinstance ?z_tuple ?z_bool ?z_int ?z_str ?z_all ?z_zip ?z_enumerate ?z_set ?z_sorted ?z_sum ?z_max ?aC ?jI ?l_sInit ?c_sInit ?k_sInit ?da ?dm ?eta ?etm ?g1 ?g2 ?g3 ?j_sPoints ?l_sPoints ?c_sPoints ?k_sPoints ?j_sArrows ?l_sArrows ?c_sArrows ?k_sArrows ?j_sMarks ?l_sMarks ?c_sMarks ?k_sMarks ?j_sWStr ?l_sWStr ?c_sWStr ?k_sWStr ?a_bt ?j_bt ?l_sEBadText ?c_sEBadText ?k_sEBadText ?a_ba ?a_bm ?a_bs ?a_sz ?a_pt ?a_nu ?a_tm ?ck
    (case a_sRA => k_is)
    (case l_sRA => k_is)
    (case c_sRA => k_is)
    (case k_sRA => k_is)
    (case a_sRM => k_is)
    (case l_sRM => k_is)
    (case c_sRM => k_is)
    (case k_sRM => k_is)
    (case a_sGat => k_is)
    (case l_sGat => k_is)
    (case c_sGat => k_is)
    (case k_sGat => k_is)
    (case a_sBox => k_is)
    (case l_sBox => k_is)
    (case c_sBox => k_is)
    (case k_sBox => k_is)
    (case a_sTake => k_is)
    (case l_sTake => k_is)
    (case c_sTake => k_is)
    (case k_sTake => k_is)
    (case a_sOne => k_is)
    (case l_sOne => k_is)
    (case c_sOne => k_is)
    (case k_sOne => k_is)
    (case a_sSame => k_is)
    (case l_sSame => k_is)
    (case c_sSame => k_is)
    (case k_sSame => k_is)
    (case a_sUnlike => k_is)
    (case l_sUnlike => k_is)
    (case c_sUnlike => k_is)
    (case k_sUnlike => k_is)
    (case a_sHue => k_is)
    (case l_sHue => k_is)
    (case c_sHue => k_is)
    (case k_sHue => k_is)
    (case a_sSign => k_is)
    (case l_sSign => k_is)
    (case c_sSign => k_is)
    (case k_sSign => k_is)
    (case a_sArrow => k_is)
    (case l_sArrow => k_is)
    (case c_sArrow => k_is)
    (case k_sArrow => k_is)
    (case a_sWeb => k_is)
    (case l_sWeb => k_is)
    (case c_sWeb => k_is)
    (case k_sWeb => k_is)
    (case a_sNB0 => k_is)
    (case l_sNB0 => k_is)
    (case c_sNB0 => k_is)
    (case k_sNB0 => k_is)
    (case a_sReadT => k_is)
    (case l_sReadT => k_is)
    (case c_sReadT => k_is)
    (case k_sReadT => k_is)
    (case a_sReadTs => k_is)
    (case l_sReadTs => k_is)
    (case c_sReadTs => k_is)
    (case k_sReadTs => k_is)
    (case a_sReadW => k_is)
    (case l_sReadW => k_is)
    (case c_sReadW => k_is)
    (case k_sReadW => k_is)
    (case a_s_law_words => k_is)
    (case l_s_law_words => k_is)
    (case c_s_law_words => k_is)
    (case k_s_law_words => k_is)
    (case a_s_law_num_in => k_is)
    (case l_s_law_num_in => k_is)
    (case c_s_law_num_in => k_is)
    (case k_s_law_num_in => k_is)
    (case a_s_law_tie_in => k_is)
    (case l_s_law_tie_in => k_is)
    (case c_s_law_tie_in => k_is)
    (case k_s_law_tie_in => k_is)
    (case a_s_law_wrong => k_is)
    (case l_s_law_wrong => k_is)
    (case c_s_law_wrong => k_is)
    (case k_s_law_wrong => k_is)
    (case a_s_law_bent => k_is)
    (case l_s_law_bent => k_is)
    (case c_s_law_bent => k_is)
    (case k_s_law_bent => k_is)
    (case a_sAt => k_is)
    (case l_sAt => k_is)
    (case c_sAt => k_is)
    (case k_sAt => k_is)
    (case a_sLaw => k_is)
    (case l_sLaw => k_is)
    (case c_sLaw => k_is)
    (case k_sLaw => k_is)
    (case lcL => k_is)
    (case v11 => rfl)
    (case z_len => k_is)
    (case z_list => k_is)
    (case z_range => k_is)
    (case z_isinstance => k_is)
    (case z_tuple => k_is)
    (case z_bool => k_is)
    (case z_int => k_is)
    (case z_str => k_is)
    (case z_all => k_is)
    (case z_zip => k_is)
    (case z_enumerate => k_is)
    (case z_set => k_is)
    (case z_sorted => k_is)
    (case z_sum => k_is)
    (case z_max => k_is)
    (case aC => k_is)
    (case jI => k_is)
    (case l_sInit => k_is)
    (case c_sInit => k_is)
    (case k_sInit => k_is)
    (case da => k_is)
    (case dm => k_is)
    (case eta => k_is)
    (case etm => k_is)
    (case g1 => k_is)
    (case g2 => k_is)
    (case g3 => k_is)
    (case j_sPoints => k_is)
    (case l_sPoints => k_is)
    (case c_sPoints => k_is)
    (case k_sPoints => k_is)
    (case j_sArrows => k_is)
    (case l_sArrows => k_is)
    (case c_sArrows => k_is)
    (case k_sArrows => k_is)
    (case j_sMarks => k_is)
    (case l_sMarks => k_is)
    (case c_sMarks => k_is)
    (case k_sMarks => k_is)
    (case j_sWStr => k_is)
    (case l_sWStr => k_is)
    (case c_sWStr => k_is)
    (case k_sWStr => k_is)
    (case a_bt => k_is)
    (case j_bt => k_is)
    (case l_sEBadText => k_is)
    (case c_sEBadText => k_is)
    (case k_sEBadText => k_is)
    (case a_ba => k_is)
    (case a_bm => k_is)
    (case a_bs => k_is)
    (case a_sz => k_is)
    (case a_pt => k_is)
    (case a_nu => k_is)
    (case a_tm => k_is)
    (case ck => kernel_rfl)
